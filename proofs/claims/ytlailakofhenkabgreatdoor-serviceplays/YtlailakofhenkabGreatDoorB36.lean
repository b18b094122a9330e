import Derived.Test.YtlailakofhenkabGreatDoorB35
set_option maxRecDepth 100000
set_option maxHeartbeats 8000000
namespace Go.Proofs.YtlailakofhenkabGreatDoor
open Go Go.RowKit Tok Sc Ev
theorem refLooks_no (N:Nat) (w:World) (gx gr:Nat) (r:Rul) (p:Pub) (v:Value) (s:ByteArray) (kind:Int) (t:T) (n e:Nat) (h:RvIs N w gx gr r p v) (hs:s.size≤5000) (ho:Tok.Out (tag r.key) s.data.toList t n) (he:look0 r p.st kind t n=e) :
 Calls Tryz.prog 73 #[.pointer (some ⟨gx,0,none⟩),.string s,.int .i64 kind] w fun x w'=>(∃ tk tf tg te f1 f2 f3 f4 f5 f6 f7 f8 f9,x=.returned (.tuple #[.agg #[.int .i64 tk,.int .i64 tf,.int .i64 tg,.int .i64 te],.agg #[.int .i64 f1,.string f2,.string f3,.string f4,.int .i64 f5,.int .i64 f6,.int .i64 f7,.string f8,.bool f9],.int .i64 (e:Nat)]))∧Below w.heap.size w w':=by
 refine (refLooks_is N w gx gr r p v s kind t n h hs ho).mono ?_;rintro x w' ⟨⟨⟨tk,tf,tg,te⟩,⟨f1,f2,f3,f4,f5,f6,f7,f8,f9⟩,rfl,-⟩,hb⟩;rw [he];exact ⟨⟨tk,tf,tg,te,f1,f2,f3,f4,f5,f6,f7,f8,f9,rfl⟩,hb⟩
theorem refLooks_ok (N:Nat) (w:World) (gx gr:Nat) (r:Rul) (p:Pub) (v:Value) (s:ByteArray) (kind:Int) (t:T) (n:Nat) (h:RvIs N w gx gr r p v) (hs:s.size≤5000) (ho:Tok.Out (tag r.key) s.data.toList t n) (he:look0 r p.st kind t n=0) :
 Calls Tryz.prog 73 #[.pointer (some ⟨gx,0,none⟩),.string s,.int .i64 kind] w fun x w'=>x=.returned (.tuple #[tokV t,famV (famM p.st t),.int .i64 0])∧Below w.heap.size w w':=by
 refine (refLooks_is N w gx gr r p v s kind t n h hs ho).mono ?_;rintro x w' ⟨⟨t',f',rfl,hq⟩,hb⟩;obtain ⟨rfl,rfl⟩:=hq he;rw [he];exact ⟨rfl,hb⟩
theorem lookM_bad {r:Rul} {s:St} {kind:Int} {t:T} {n:Nat} (h:look0 r s kind t n≠0):lookM r s kind t n=look0 r s kind t n:=by unfold lookM; rw [if_pos h]
theorem lookM_new {r:Rul} {s:St} {kind:Int} {t:T} {n:Nat} (h:look0 r s kind t n=0) (hg:(famM s t).gen<t.g):lookM r s kind t n=2:=by unfold lookM; rw [if_neg (by simp [h]),if_pos hg]
theorem lookM_ok {r:Rul} {s:St} {kind:Int} {t:T} {n:Nat} (h:look0 r s kind t n=0) (hg:¬ (famM s t).gen<t.g):lookM r s kind t n=0:=by unfold lookM; rw [if_neg (by simp [h]),if_neg hg]
theorem refShow_is (N:Nat) (w:World) (gx gr:Nat) (r:Rul) (p:Pub) (v:Value) (text:ByteArray) (t:T) (n:Nat) (h:RvIs N w gx gr r p v) (ht:text.size≤5000) (hto:Tok.Out (tag r.key) text.data.toList t n) :
 Calls Tryz.prog 32 #[.pointer (some ⟨gx,0,none⟩),.string text] w fun x w'=>x=.returned (.tuple #[famV (showM r p t n).1,.int .i64 ((showM r p t n).2:Nat)])∧Below w.heap.size w w':=by
 have HB0:Hid (Below w.heap.size w (w.alloc (.cells #[.int .i64 0,.string ⟨#[]⟩,.string ⟨#[]⟩,.string ⟨#[]⟩,.int .i64 0,.int .i64 0,.int .i64 0,.string ⟨#[]⟩,.bool false] 40))):=(Below.refl _ _).alloc (Nat.le_refl _) _;have HF0:Hid (FB (w.alloc (.cells #[.int .i64 0,.string ⟨#[]⟩,.string ⟨#[]⟩,.string ⟨#[]⟩,.int .i64 0,.int .i64 0,.int .i64 0,.string ⟨#[]⟩,.bool false] 40)) w.heap.size zeroF):=FB.made w zeroF _;have HS:Hid (RvIs N (w.alloc (.cells #[.int .i64 0,.string ⟨#[]⟩,.string ⟨#[]⟩,.string ⟨#[]⟩,.int .i64 0,.int .i64 0,.int .i64 0,.string ⟨#[]⟩,.bool false] 40)) gx gr r p v):=h.on HB0.out
 have fin:∀ (w1:World) (tk tf tg te f1:Int) (f2 f3 f4:ByteArray) (f5 f6 f7:Int) (f8:ByteArray) (f9:Bool),Below (w.alloc (.cells #[.int .i64 0,.string ⟨#[]⟩,.string ⟨#[]⟩,.string ⟨#[]⟩,.int .i64 0,.int .i64 0,.int .i64 0,.string ⟨#[]⟩,.bool false] 40)).heap.size (w.alloc (.cells #[.int .i64 0,.string ⟨#[]⟩,.string ⟨#[]⟩,.string ⟨#[]⟩,.int .i64 0,.int .i64 0,.int .i64 0,.string ⟨#[]⟩,.bool false] 40)) w1→Below w.heap.size w ((w1.alloc (.cells #[.int .i64 tk,.int .i64 tf,.int .i64 tg,.int .i64 te] 137)).alloc (.cells #[.int .i64 f1,.string f2,.string f3,.string f4,.int .i64 f5,.int .i64 f6,.int .i64 f7,.string f8,.bool f9] 40))∧RvIs N ((w1.alloc (.cells #[.int .i64 tk,.int .i64 tf,.int .i64 tg,.int .i64 te] 137)).alloc (.cells #[.int .i64 f1,.string f2,.string f3,.string f4,.int .i64 f5,.int .i64 f6,.int .i64 f7,.string f8,.bool f9] 40)) gx gr r p v∧TB ((w1.alloc (.cells #[.int .i64 tk,.int .i64 tf,.int .i64 tg,.int .i64 te] 137)).alloc (.cells #[.int .i64 f1,.string f2,.string f3,.string f4,.int .i64 f5,.int .i64 f6,.int .i64 f7,.string f8,.bool f9] 40)) w1.heap.size ⟨tk,tf,tg,te⟩∧FB ((w1.alloc (.cells #[.int .i64 tk,.int .i64 tf,.int .i64 tg,.int .i64 te] 137)).alloc (.cells #[.int .i64 f1,.string f2,.string f3,.string f4,.int .i64 f5,.int .i64 f6,.int .i64 f7,.string f8,.bool f9] 40)) (w1.heap.size+1) ⟨f1,f2,f3,f4,f5,f6,f7,f8,f9⟩∧FB ((w1.alloc (.cells #[.int .i64 tk,.int .i64 tf,.int .i64 tg,.int .i64 te] 137)).alloc (.cells #[.int .i64 f1,.string f2,.string f3,.string f4,.int .i64 f5,.int .i64 f6,.int .i64 f7,.string f8,.bool f9] 40)) w.heap.size zeroF:=fun w1 tk tf tg te f1 f2 f3 f4 f5 f6 f7 f8 f9 hb2=>by
  have hb3:Below w1.heap.size w1 ((w1.alloc (.cells #[.int .i64 tk,.int .i64 tf,.int .i64 tg,.int .i64 te] 137)).alloc (.cells #[.int .i64 f1,.string f2,.string f3,.string f4,.int .i64 f5,.int .i64 f6,.int .i64 f7,.string f8,.bool f9] 40)):=((Below.refl _ _).alloc (Nat.le_refl _) _).alloc (by simp) _
  have hsz:(w1.alloc (.cells #[.int .i64 tk,.int .i64 tf,.int .i64 tg,.int .i64 te] 137)).heap.size=w1.heap.size+1:=by simp
  exact ⟨HB0.out.trans ((hb2.trans (hb3.mono hb2.size)).mono HB0.out.size),(HS.out.on hb2).on hb3,(TB.made w1 ⟨tk,tf,tg,te⟩ _).on ((Below.refl _ _).alloc (Nat.le_refl _) _),by rw [← hsz]; exact FB.made _ ⟨f1,f2,f3,f4,f5,f6,f7,f8,f9⟩ _,(HF0.out.on hb2).on hb3⟩
 by_cases he:look0 r p.st 2 t n=0
 ·have hlk:=refLooks_ok N _ gx gr r p v text 2 t n HS.out ht hto he
  have HW1:Hid ((famM p.st t).gen<t.g→showM r p t n=(zeroF,2)):=fun hg=>by show showM r p t n=_; unfold showM; rw [lookM_new he hg]; rfl
  have HW2:Hid (¬ (famM p.st t).gen<t.g→t.e<p.st.clock→showM r p t n=(zeroF,10)):=fun hg hc=>by show showM r p t n=_; unfold showM; rw [lookM_ok he hg,if_neg (by simp),if_pos hc]
  have HW3:Hid (¬ (famM p.st t).gen<t.g→¬ t.e<p.st.clock→showM r p t n=(famM p.st t,0)):=fun hg hc=>by show showM r p t n=_; unfold showM; rw [lookM_ok he hg,if_neg (by simp),if_neg hc]
  clear h hto ht he;generalize showM r p t n=K at *;generalize famM p.st t=f at *;obtain ⟨tk,tf,tg,te⟩:=t;obtain ⟨f1,f2,f3,f4,f5,f6,f7,f8,f9⟩:=f;unfold tokV famV famCs at hlk;simp only at hlk HW1 HW2 HW3;by_cases hg:f5<tg
  ·have HE:Hid _:=HW1.out hg
   clear HW1 HW2 HW3;go_enter Tryz.func32,Tryz.ntmps32
   go_wp2_with fail
   refine hlk.mono ?_;rintro e2 w1 ⟨rfl,hb2⟩;have HX:Hid _:=fin w1 tk tf tg te f1 f2 f3 f4 f5 f6 f7 f8 f9 hb2;clear hlk hb2 fin;go_upto_region 2 with fail
   generalize hWW:((w1.alloc (.cells #[.int .i64 tk,.int .i64 tf,.int .i64 tg,.int .i64 te] 137)).alloc (.cells #[.int .i64 f1,.string f2,.string f3,.string f4,.int .i64 f5,.int .i64 f6,.int .i64 f7,.string f8,.bool f9] 40))=W3 at *;clear hWW;generalize w1.heap.size=gq at *;have HX1:Hid _:=HX.out.1;have HX2:Hid _:=HX.out.2.1;have HX3:Hid _:=HX.out.2.2.1;have HX4:Hid _:=HX.out.2.2.2.1;have HX5:Hid _:=HX.out.2.2.2.2;clear HX;have x2:=HX3.out.c2;have d4:=HX4.out.c4;simp only at x2 d4;go_upto_region 4 with fail
   refine RegD.R_ (fun W=>TB W gq ⟨tk,tf,tg,te⟩∧RvIs N W gx gr r p v∧Below w.heap.size w W∧FB W w.heap.size zeroF∧FB W (gq+1) ⟨f1,f2,f3,f4,f5,f6,f7,f8,f9⟩) 14 (by kernel_rfl) (⟨HX3.out.on (Below.refl _ _).drew,HX2.out.on (Below.refl _ _).drew,HX1.out.drew,HX5.out.on (Below.refl _ _).drew,HX4.out.on (Below.refl _ _).drew⟩) (fun hH=>?_)
   clear x2 d4 HX1 HX2 HX3 HX4 HX5;refine RegD.T_ 0 (v:=.int .i64 2) rfl (by kernel_rfl) (fun _ _ _ h=>h) (.inl ⟨by rfl,fun W hW=>by go_simp⟩) hH ?_
   simp only [Act.put,pS1,pS2,pS3];refine RegD.T_ 1 (v:=.bool false) rfl (by kernel_rfl) (fun _ _ _ h=>h) (.inl ⟨by rfl,fun W hW=>by go_simp⟩) hH ?_
   simp only [Act.put,pS1,pS2,pS3];refine RegD.T_ 2 (v:=.bool false) rfl (by kernel_rfl) (fun _ _ _ h=>h) (.inl ⟨by rfl,fun W hW=>by go_simp⟩) hH ?_
   simp only [Act.put,pS1,pS2,pS3];refine RegD.T_ 3 (v:=undef) rfl (by kernel_rfl) (fun _ _ _ h=>h) (.inr ⟨by rfl,rfl⟩) hH ?_
   simp only [Act.put,pS1,pS2,pS3];refine RegD.T_ 4 (v:=undef) rfl (by kernel_rfl) (fun _ _ _ h=>h) (.inr ⟨by rfl,rfl⟩) hH ?_
   simp only [Act.put,pS1,pS2,pS3];refine RegD.T_ 5 (v:=undef) rfl (by kernel_rfl) (fun _ _ _ h=>h) (.inr ⟨by rfl,rfl⟩) hH ?_
   simp only [Act.put,pS1,pS2,pS3];refine RegD.T_ 6 (v:=undef) rfl (by kernel_rfl) (fun _ _ _ h=>h) (.inr ⟨by rfl,rfl⟩) hH ?_
   simp only [Act.put,pS1,pS2,pS3];refine RegD.T_ 7 (v:=undef) rfl (by kernel_rfl) (fun _ _ _ h=>h) (.inr ⟨by rfl,rfl⟩) hH ?_
   simp only [Act.put,pS1,pS2,pS3];refine RegD.T_ 8 (v:=undef) rfl (by kernel_rfl) (fun _ _ _ h=>h) (.inr ⟨by rfl,rfl⟩) hH ?_
   simp only [Act.put,pS1,pS2,pS3];refine RegD.T_ 9 (v:=undef) rfl (by kernel_rfl) (fun _ _ _ h=>h) (.inr ⟨by rfl,rfl⟩) hH ?_
   simp only [Act.put,pS1,pS2,pS3];refine RegD.T_ 10 (v:=undef) rfl (by kernel_rfl) (fun _ _ _ h=>h) (.inr ⟨by rfl,rfl⟩) hH ?_
   simp only [Act.put,pS1,pS2,pS3];refine RegD.T_ 11 (v:=undef) rfl (by kernel_rfl) (fun _ _ _ h=>h) (.inr ⟨by rfl,rfl⟩) hH ?_
   simp only [Act.put,pS1,pS2,pS3];refine RegD.T_ 12 (v:=undef) rfl (by kernel_rfl) (fun _ _ _ h=>h) (.inr ⟨by rfl,rfl⟩) hH ?_
   simp only [Act.put,pS1,pS2,pS3];refine RegD.T_ 13 (v:=undef) rfl (by kernel_rfl) (fun _ _ _ h=>h) (.inr ⟨by rfl,rfl⟩) hH ?_
   simp only [Act.put,pS1,pS2,pS3];have HHH:Hid _:=hH;clear hH;refine RegD.L_ 14 rfl (by kernel_rfl) (by kernel_rfl) ?_; intro K hK; go_simp
   refine hK.out _ _ ?_;clear hK K;refine RegD.D_ (by kernel_rfl) ?_ _
   generalize World.drew _=WD at *;have HFE:Hid _:=HHH.out.2.2.2.1;have HEN:Hid _:=show_end (f:=zeroF) HHH.out.2.2.1 HFE.out (Nat.le_refl _);have d0:=HHH.out.2.2.2.2.c0; have d1:=HHH.out.2.2.2.2.c1; have d2:=HHH.out.2.2.2.2.c2; have d3:=HHH.out.2.2.2.2.c3; have d4:=HHH.out.2.2.2.2.c4; have d5:=HHH.out.2.2.2.2.c5; have d6:=HHH.out.2.2.2.2.c6; have d7:=HHH.out.2.2.2.2.c7; have d8:=HHH.out.2.2.2.2.c8;have z0:=HFE.out.c0; have z1:=HFE.out.c1; have z2:=HFE.out.c2; have z3:=HFE.out.c3; have z4:=HFE.out.c4; have z5:=HFE.out.c5; have z6:=HFE.out.c6; have z7:=HFE.out.c7; have z8:=HFE.out.c8; have zf:=HFE.out.fz;simp only at d0 d1 d2 d3 d4 d5 d6 d7 d8;clear HHH;go_wp2_with fail
   generalize hWW:World.setCell _ ⟨w.heap.size,8,none⟩ _=WW;have hW2:WD.setCells w.heap.size 0 (famCs zeroF)=WW:=hWW;have hbe:=HEN.out.1;have hfe:=HEN.out.2;rw [hW2] at hbe hfe;have q0:=hfe.c0; have q1:=hfe.c1; have q2:=hfe.c2; have q3:=hfe.c3; have q4:=hfe.c4; have q5:=hfe.c5; have q6:=hfe.c6; have q7:=hfe.c7; have q8:=hfe.c8;clear hW2 hWW HEN z0 z1 z2 z3 z4 z5 z6 z7 z8 zf hfe d0 d1 d2 d3 d4 d5 d6 d7 d8;exact bodyPost_ret (v:=.tuple #[.agg #[.int .i64 0,.string ⟨#[]⟩,.string ⟨#[]⟩,.string ⟨#[]⟩,.int .i64 0,.int .i64 0,.int .i64 0,.string ⟨#[]⟩,.bool false],.int .i64 2]) (by simp [results,Tryz.results32,go_sem,q0,q1,q2,q3,q4,q5,q6,q7,q8,zeroF]) rfl ⟨by rw [HE.out]; simp [famV,famCs,zeroF],hbe⟩
  ·by_cases hc:te<p.st.clock
   ·have HE:Hid _:=HW2.out hg hc
    clear HW1 HW2 HW3;go_enter Tryz.func32,Tryz.ntmps32
    go_wp2_with fail
    refine hlk.mono ?_;rintro e2 w1 ⟨rfl,hb2⟩;have HX:Hid _:=fin w1 tk tf tg te f1 f2 f3 f4 f5 f6 f7 f8 f9 hb2;clear hlk hb2 fin;go_upto_region 2 with fail
    generalize hWW:((w1.alloc (.cells #[.int .i64 tk,.int .i64 tf,.int .i64 tg,.int .i64 te] 137)).alloc (.cells #[.int .i64 f1,.string f2,.string f3,.string f4,.int .i64 f5,.int .i64 f6,.int .i64 f7,.string f8,.bool f9] 40))=W3 at *;clear hWW;generalize w1.heap.size=gq at *;have HX1:Hid _:=HX.out.1;have HX2:Hid _:=HX.out.2.1;have HX3:Hid _:=HX.out.2.2.1;have HX4:Hid _:=HX.out.2.2.2.1;have HX5:Hid _:=HX.out.2.2.2.2;clear HX;have x2:=HX3.out.c2;have d4:=HX4.out.c4;simp only at x2 d4;go_upto_region 4 with fail
    refine RegD.R_ (fun W=>TB W gq ⟨tk,tf,tg,te⟩∧RvIs N W gx gr r p v∧Below w.heap.size w W∧FB W w.heap.size zeroF∧FB W (gq+1) ⟨f1,f2,f3,f4,f5,f6,f7,f8,f9⟩) 14 (by kernel_rfl) (⟨HX3.out.on (Below.refl _ _).drew,HX2.out.on (Below.refl _ _).drew,HX1.out.drew,HX5.out.on (Below.refl _ _).drew,HX4.out.on (Below.refl _ _).drew⟩) (fun hH=>?_)
    clear x2 d4 HX1 HX2 HX3 HX4 HX5;refine RegD.T_ 0 (v:=.int .i64 0) rfl (by kernel_rfl) (fun _ _ _ h=>h) (.inl ⟨by rfl,fun W hW=>by go_simp⟩) hH ?_
    simp only [Act.put,pS1,pS2,pS3];refine RegD.T_ 1 (v:=.bool true) rfl (by kernel_rfl) (fun _ _ _ h=>h) (.inl ⟨by rfl,fun W hW=>by go_simp⟩) hH ?_
    simp only [Act.put,pS1,pS2,pS3];refine RegD.T_ 2 (v:=.bool true) rfl (by kernel_rfl) (fun _ _ _ h=>h) (.inl ⟨by rfl,fun W hW=>by go_simp⟩) hH ?_
    simp only [Act.put,pS1,pS2,pS3];refine RegD.T_ 3 (v:=.pointer (some ⟨gx,0,none⟩)) rfl (by kernel_rfl) (fun _ _ _ h=>h) (.inl ⟨by rfl,fun W hW=>by go_simp⟩) hH ?_
    simp only [Act.put,pS1,pS2,pS3];refine RegD.T_ 4 (v:=.pointer (some ⟨gx,0,none⟩)) rfl (by kernel_rfl) (fun _ _ _ h=>h) (.inl ⟨by rfl,fun W hW=>by go_simp⟩) hH ?_
    simp only [Act.put,pS1,pS2,pS3];refine RegD.T_ 5 (v:=.pointer (some ⟨gx,0,none⟩)) rfl (by kernel_rfl) (fun _ _ _ h=>h) (.inl ⟨by rfl,fun W hW=>by go_simp⟩) hH ?_
    simp only [Act.put,pS1,pS2,pS3];refine RegD.T_ 6 (v:=.pointer (some ⟨gr,0,none⟩)) rfl (by kernel_rfl) (fun _ _ _ h=>h) (.inl ⟨by rfl,fun W hW=>by have a0:=hW.2.1.box.c0; go_simp⟩) hH ?_
    simp only [Act.put,pS1,pS2,pS3];refine RegD.T_ 7 (v:=.pointer (some ⟨gr,0,none⟩)) rfl (by kernel_rfl) (fun _ _ _ h=>h) (.inl ⟨by rfl,fun W hW=>by go_simp⟩) hH ?_
    simp only [Act.put,pS1,pS2,pS3];refine RegD.T_ 8 (v:=.pointer (some ⟨gr,0,none⟩)) rfl (by kernel_rfl) (fun _ _ _ h=>h) (.inl ⟨by rfl,fun W hW=>by go_simp⟩) hH ?_
    simp only [Act.put,pS1,pS2,pS3];refine RegD.T_ 9 (v:=.pointer (some ⟨gr,0,none⟩)) rfl (by kernel_rfl) (fun _ _ _ h=>h) (.inl ⟨by rfl,fun W hW=>by go_simp⟩) hH ?_
    simp only [Act.put,pS1,pS2,pS3];refine RegD.T_ 10 (v:=.int .i64 p.st.clock) rfl (by kernel_rfl) (fun _ _ _ h=>h) (.inl ⟨by rfl,fun W hW=>by have a0:=hW.2.1.doc.c0; go_simp⟩) hH ?_
    simp only [Act.put,pS1,pS2,pS3];refine RegD.T_ 11 (v:=.pointer (some ⟨gq,3,none⟩)) rfl (by kernel_rfl) (fun _ _ _ h=>h) (.inl ⟨by rfl,fun W hW=>by go_simp⟩) hH ?_
    simp only [Act.put,pS1,pS2,pS3];refine RegD.T_ 12 (v:=.int .i64 te) rfl (by kernel_rfl) (fun _ _ _ h=>h) (.inl ⟨by rfl,fun W hW=>by have a0:=hW.1.c3; simp only at a0; go_simp⟩) hH ?_
    simp only [Act.put,pS1,pS2,pS3];refine RegD.T_ 13 (v:=.bool true) rfl (by kernel_rfl) (fun _ _ _ h=>h) (.inl ⟨by rfl,fun W hW=>by go_simp⟩) hH ?_
    simp only [Act.put,pS1,pS2,pS3];have HHH:Hid _:=hH;clear hH;refine RegD.L_ 14 rfl (by kernel_rfl) (by kernel_rfl) ?_; intro K hK; go_simp
    refine hK.out _ _ ?_;clear hK K;refine RegD.D_ (by kernel_rfl) ?_ _
    generalize World.drew _=WD at *;have HFE:Hid _:=HHH.out.2.2.2.1;have HEN:Hid _:=show_end (f:=zeroF) HHH.out.2.2.1 HFE.out (Nat.le_refl _);have d0:=HHH.out.2.2.2.2.c0; have d1:=HHH.out.2.2.2.2.c1; have d2:=HHH.out.2.2.2.2.c2; have d3:=HHH.out.2.2.2.2.c3; have d4:=HHH.out.2.2.2.2.c4; have d5:=HHH.out.2.2.2.2.c5; have d6:=HHH.out.2.2.2.2.c6; have d7:=HHH.out.2.2.2.2.c7; have d8:=HHH.out.2.2.2.2.c8;have z0:=HFE.out.c0; have z1:=HFE.out.c1; have z2:=HFE.out.c2; have z3:=HFE.out.c3; have z4:=HFE.out.c4; have z5:=HFE.out.c5; have z6:=HFE.out.c6; have z7:=HFE.out.c7; have z8:=HFE.out.c8; have zf:=HFE.out.fz;simp only at d0 d1 d2 d3 d4 d5 d6 d7 d8;clear HHH;go_wp2_with fail
    generalize hWW:World.setCell _ ⟨w.heap.size,8,none⟩ _=WW;have hW2:WD.setCells w.heap.size 0 (famCs zeroF)=WW:=hWW;have hbe:=HEN.out.1;have hfe:=HEN.out.2;rw [hW2] at hbe hfe;have q0:=hfe.c0; have q1:=hfe.c1; have q2:=hfe.c2; have q3:=hfe.c3; have q4:=hfe.c4; have q5:=hfe.c5; have q6:=hfe.c6; have q7:=hfe.c7; have q8:=hfe.c8;clear hW2 hWW HEN z0 z1 z2 z3 z4 z5 z6 z7 z8 zf hfe d0 d1 d2 d3 d4 d5 d6 d7 d8;exact bodyPost_ret (v:=.tuple #[.agg #[.int .i64 0,.string ⟨#[]⟩,.string ⟨#[]⟩,.string ⟨#[]⟩,.int .i64 0,.int .i64 0,.int .i64 0,.string ⟨#[]⟩,.bool false],.int .i64 10]) (by simp [results,Tryz.results32,go_sem,q0,q1,q2,q3,q4,q5,q6,q7,q8,zeroF]) rfl ⟨by rw [HE.out]; simp [famV,famCs,zeroF],hbe⟩
   ·have HE:Hid _:=HW3.out hg hc
    clear HW1 HW2 HW3;go_enter Tryz.func32,Tryz.ntmps32
    go_wp2_with fail
    refine hlk.mono ?_;rintro e2 w1 ⟨rfl,hb2⟩;have HX:Hid _:=fin w1 tk tf tg te f1 f2 f3 f4 f5 f6 f7 f8 f9 hb2;clear hlk hb2 fin;go_upto_region 2 with fail
    generalize hWW:((w1.alloc (.cells #[.int .i64 tk,.int .i64 tf,.int .i64 tg,.int .i64 te] 137)).alloc (.cells #[.int .i64 f1,.string f2,.string f3,.string f4,.int .i64 f5,.int .i64 f6,.int .i64 f7,.string f8,.bool f9] 40))=W3 at *;clear hWW;generalize w1.heap.size=gq at *;have HX1:Hid _:=HX.out.1;have HX2:Hid _:=HX.out.2.1;have HX3:Hid _:=HX.out.2.2.1;have HX4:Hid _:=HX.out.2.2.2.1;have HX5:Hid _:=HX.out.2.2.2.2;clear HX;have x2:=HX3.out.c2;have d4:=HX4.out.c4;simp only at x2 d4;go_upto_region 4 with fail
    refine RegD.R_ (fun W=>TB W gq ⟨tk,tf,tg,te⟩∧RvIs N W gx gr r p v∧Below w.heap.size w W∧FB W w.heap.size zeroF∧FB W (gq+1) ⟨f1,f2,f3,f4,f5,f6,f7,f8,f9⟩) 14 (by kernel_rfl) (⟨HX3.out.on (Below.refl _ _).drew,HX2.out.on (Below.refl _ _).drew,HX1.out.drew,HX5.out.on (Below.refl _ _).drew,HX4.out.on (Below.refl _ _).drew⟩) (fun hH=>?_)
    clear x2 d4 HX1 HX2 HX3 HX4 HX5;refine RegD.T_ 0 (v:=.int .i64 0) rfl (by kernel_rfl) (fun _ _ _ h=>h) (.inl ⟨by rfl,fun W hW=>by go_simp⟩) hH ?_
    simp only [Act.put,pS1,pS2,pS3];refine RegD.T_ 1 (v:=.bool true) rfl (by kernel_rfl) (fun _ _ _ h=>h) (.inl ⟨by rfl,fun W hW=>by go_simp⟩) hH ?_
    simp only [Act.put,pS1,pS2,pS3];refine RegD.T_ 2 (v:=.bool true) rfl (by kernel_rfl) (fun _ _ _ h=>h) (.inl ⟨by rfl,fun W hW=>by go_simp⟩) hH ?_
    simp only [Act.put,pS1,pS2,pS3];refine RegD.T_ 3 (v:=.pointer (some ⟨gx,0,none⟩)) rfl (by kernel_rfl) (fun _ _ _ h=>h) (.inl ⟨by rfl,fun W hW=>by go_simp⟩) hH ?_
    simp only [Act.put,pS1,pS2,pS3];refine RegD.T_ 4 (v:=.pointer (some ⟨gx,0,none⟩)) rfl (by kernel_rfl) (fun _ _ _ h=>h) (.inl ⟨by rfl,fun W hW=>by go_simp⟩) hH ?_
    simp only [Act.put,pS1,pS2,pS3];refine RegD.T_ 5 (v:=.pointer (some ⟨gx,0,none⟩)) rfl (by kernel_rfl) (fun _ _ _ h=>h) (.inl ⟨by rfl,fun W hW=>by go_simp⟩) hH ?_
    simp only [Act.put,pS1,pS2,pS3];refine RegD.T_ 6 (v:=.pointer (some ⟨gr,0,none⟩)) rfl (by kernel_rfl) (fun _ _ _ h=>h) (.inl ⟨by rfl,fun W hW=>by have a0:=hW.2.1.box.c0; go_simp⟩) hH ?_
    simp only [Act.put,pS1,pS2,pS3];refine RegD.T_ 7 (v:=.pointer (some ⟨gr,0,none⟩)) rfl (by kernel_rfl) (fun _ _ _ h=>h) (.inl ⟨by rfl,fun W hW=>by go_simp⟩) hH ?_
    simp only [Act.put,pS1,pS2,pS3];refine RegD.T_ 8 (v:=.pointer (some ⟨gr,0,none⟩)) rfl (by kernel_rfl) (fun _ _ _ h=>h) (.inl ⟨by rfl,fun W hW=>by go_simp⟩) hH ?_
    simp only [Act.put,pS1,pS2,pS3];refine RegD.T_ 9 (v:=.pointer (some ⟨gr,0,none⟩)) rfl (by kernel_rfl) (fun _ _ _ h=>h) (.inl ⟨by rfl,fun W hW=>by go_simp⟩) hH ?_
    simp only [Act.put,pS1,pS2,pS3];refine RegD.T_ 10 (v:=.int .i64 p.st.clock) rfl (by kernel_rfl) (fun _ _ _ h=>h) (.inl ⟨by rfl,fun W hW=>by have a0:=hW.2.1.doc.c0; go_simp⟩) hH ?_
    simp only [Act.put,pS1,pS2,pS3];refine RegD.T_ 11 (v:=.pointer (some ⟨gq,3,none⟩)) rfl (by kernel_rfl) (fun _ _ _ h=>h) (.inl ⟨by rfl,fun W hW=>by go_simp⟩) hH ?_
    simp only [Act.put,pS1,pS2,pS3];refine RegD.T_ 12 (v:=.int .i64 te) rfl (by kernel_rfl) (fun _ _ _ h=>h) (.inl ⟨by rfl,fun W hW=>by have a0:=hW.1.c3; simp only at a0; go_simp⟩) hH ?_
    simp only [Act.put,pS1,pS2,pS3];refine RegD.T_ 13 (v:=.bool false) rfl (by kernel_rfl) (fun _ _ _ h=>h) (.inl ⟨by rfl,fun W hW=>by go_simp⟩) hH ?_
    simp only [Act.put,pS1,pS2,pS3];have HHH:Hid _:=hH;clear hH;refine RegD.L_ 14 rfl (by kernel_rfl) (by kernel_rfl) ?_; intro K hK; go_simp
    refine hK.out _ _ ?_;clear hK K;refine RegD.D_ (by kernel_rfl) ?_ _
    generalize World.drew _=WD at *;have HFE:Hid _:=HHH.out.2.2.2.1;have HEN:Hid _:=show_end (f:=⟨f1,f2,f3,f4,f5,f6,f7,f8,f9⟩) HHH.out.2.2.1 HFE.out (Nat.le_refl _);have d0:=HHH.out.2.2.2.2.c0; have d1:=HHH.out.2.2.2.2.c1; have d2:=HHH.out.2.2.2.2.c2; have d3:=HHH.out.2.2.2.2.c3; have d4:=HHH.out.2.2.2.2.c4; have d5:=HHH.out.2.2.2.2.c5; have d6:=HHH.out.2.2.2.2.c6; have d7:=HHH.out.2.2.2.2.c7; have d8:=HHH.out.2.2.2.2.c8;have z0:=HFE.out.c0; have z1:=HFE.out.c1; have z2:=HFE.out.c2; have z3:=HFE.out.c3; have z4:=HFE.out.c4; have z5:=HFE.out.c5; have z6:=HFE.out.c6; have z7:=HFE.out.c7; have z8:=HFE.out.c8; have zf:=HFE.out.fz;simp only at d0 d1 d2 d3 d4 d5 d6 d7 d8;clear HHH;go_wp2_with fail
    generalize hWW:World.setCell _ ⟨w.heap.size,8,none⟩ _=WW;have hW2:WD.setCells w.heap.size 0 (famCs ⟨f1,f2,f3,f4,f5,f6,f7,f8,f9⟩)=WW:=hWW;have hbe:=HEN.out.1;have hfe:=HEN.out.2;rw [hW2] at hbe hfe;have q0:=hfe.c0; have q1:=hfe.c1; have q2:=hfe.c2; have q3:=hfe.c3; have q4:=hfe.c4; have q5:=hfe.c5; have q6:=hfe.c6; have q7:=hfe.c7; have q8:=hfe.c8;clear hW2 hWW HEN z0 z1 z2 z3 z4 z5 z6 z7 z8 zf hfe d0 d1 d2 d3 d4 d5 d6 d7 d8;exact bodyPost_ret (v:=.tuple #[.agg #[.int .i64 f1,.string f2,.string f3,.string f4,.int .i64 f5,.int .i64 f6,.int .i64 f7,.string f8,.bool f9],.int .i64 0]) (by simp [results,Tryz.results32,go_sem,q0,q1,q2,q3,q4,q5,q6,q7,q8]) rfl ⟨by rw [HE.out]; simp [famV,famCs],hbe⟩
 ·have HE:Hid (showM r p t n=(zeroF,look0 r p.st 2 t n)):=by show _=_; unfold showM; rw [lookM_bad he,if_pos he]
  have hlk:=refLooks_no N _ gx gr r p v text 2 t n _ HS.out ht hto rfl;clear h hto ht;generalize showM r p t n=K at *;generalize look0 r p.st 2 t n=e at *;have heI:¬ (e:Int)=0:=by omega
  go_enter Tryz.func32,Tryz.ntmps32
  go_wp2_with fail
  refine hlk.mono ?_;rintro e2 w1 ⟨⟨tk,tf,tg,te,f1,f2,f3,f4,f5,f6,f7,f8,f9,rfl⟩,hb2⟩;have HX:Hid _:=fin w1 tk tf tg te f1 f2 f3 f4 f5 f6 f7 f8 f9 hb2;clear hlk hb2 fin;go_upto_region 2 with fail
  generalize hWW:((w1.alloc (.cells #[.int .i64 tk,.int .i64 tf,.int .i64 tg,.int .i64 te] 137)).alloc (.cells #[.int .i64 f1,.string f2,.string f3,.string f4,.int .i64 f5,.int .i64 f6,.int .i64 f7,.string f8,.bool f9] 40))=W3 at *;clear hWW;generalize w1.heap.size=gq at *;have HX1:Hid _:=HX.out.1;have HX2:Hid _:=HX.out.2.1;have HX3:Hid _:=HX.out.2.2.1;have HX4:Hid _:=HX.out.2.2.2.1;have HX5:Hid _:=HX.out.2.2.2.2;clear HX;have x2:=HX3.out.c2;have d4:=HX4.out.c4;simp only at x2 d4;go_upto_region 4 with fail
  refine RegD.R_ (fun W=>TB W gq ⟨tk,tf,tg,te⟩∧RvIs N W gx gr r p v∧Below w.heap.size w W∧FB W w.heap.size zeroF∧FB W (gq+1) ⟨f1,f2,f3,f4,f5,f6,f7,f8,f9⟩) 14 (by kernel_rfl) (⟨HX3.out.on (Below.refl _ _).drew,HX2.out.on (Below.refl _ _).drew,HX1.out.drew,HX5.out.on (Below.refl _ _).drew,HX4.out.on (Below.refl _ _).drew⟩) (fun hH=>?_)
  clear x2 d4 HX1 HX2 HX3 HX4 HX5;refine RegD.T_ 0 (v:=.int .i64 (e:Int)) rfl (by kernel_rfl) (fun _ _ _ h=>h) (.inl ⟨by rfl,fun W hW=>by go_simp⟩) hH ?_
  simp only [Act.put,pS1,pS2,pS3];refine RegD.T_ 1 (v:=.bool false) rfl (by kernel_rfl) (fun _ _ _ h=>h) (.inl ⟨by rfl,fun W hW=>by go_simp⟩) hH ?_
  simp only [Act.put,pS1,pS2,pS3];refine RegD.T_ 2 (v:=.bool false) rfl (by kernel_rfl) (fun _ _ _ h=>h) (.inl ⟨by rfl,fun W hW=>by go_simp⟩) hH ?_
  simp only [Act.put,pS1,pS2,pS3];refine RegD.T_ 3 (v:=undef) rfl (by kernel_rfl) (fun _ _ _ h=>h) (.inr ⟨by rfl,rfl⟩) hH ?_
  simp only [Act.put,pS1,pS2,pS3];refine RegD.T_ 4 (v:=undef) rfl (by kernel_rfl) (fun _ _ _ h=>h) (.inr ⟨by rfl,rfl⟩) hH ?_
  simp only [Act.put,pS1,pS2,pS3];refine RegD.T_ 5 (v:=undef) rfl (by kernel_rfl) (fun _ _ _ h=>h) (.inr ⟨by rfl,rfl⟩) hH ?_
  simp only [Act.put,pS1,pS2,pS3];refine RegD.T_ 6 (v:=undef) rfl (by kernel_rfl) (fun _ _ _ h=>h) (.inr ⟨by rfl,rfl⟩) hH ?_
  simp only [Act.put,pS1,pS2,pS3];refine RegD.T_ 7 (v:=undef) rfl (by kernel_rfl) (fun _ _ _ h=>h) (.inr ⟨by rfl,rfl⟩) hH ?_
  simp only [Act.put,pS1,pS2,pS3];refine RegD.T_ 8 (v:=undef) rfl (by kernel_rfl) (fun _ _ _ h=>h) (.inr ⟨by rfl,rfl⟩) hH ?_
  simp only [Act.put,pS1,pS2,pS3];refine RegD.T_ 9 (v:=undef) rfl (by kernel_rfl) (fun _ _ _ h=>h) (.inr ⟨by rfl,rfl⟩) hH ?_
  simp only [Act.put,pS1,pS2,pS3];refine RegD.T_ 10 (v:=undef) rfl (by kernel_rfl) (fun _ _ _ h=>h) (.inr ⟨by rfl,rfl⟩) hH ?_
  simp only [Act.put,pS1,pS2,pS3];refine RegD.T_ 11 (v:=undef) rfl (by kernel_rfl) (fun _ _ _ h=>h) (.inr ⟨by rfl,rfl⟩) hH ?_
  simp only [Act.put,pS1,pS2,pS3];refine RegD.T_ 12 (v:=undef) rfl (by kernel_rfl) (fun _ _ _ h=>h) (.inr ⟨by rfl,rfl⟩) hH ?_
  simp only [Act.put,pS1,pS2,pS3];refine RegD.T_ 13 (v:=undef) rfl (by kernel_rfl) (fun _ _ _ h=>h) (.inr ⟨by rfl,rfl⟩) hH ?_
  simp only [Act.put,pS1,pS2,pS3];have HHH:Hid _:=hH;clear hH;refine RegD.L_ 14 rfl (by kernel_rfl) (by kernel_rfl) ?_; intro K hK; go_simp
  refine hK.out _ _ ?_;clear hK K;refine RegD.D_ (by kernel_rfl) ?_ _
  generalize World.drew _=WD at *;have HFE:Hid _:=HHH.out.2.2.2.1;have HEN:Hid _:=show_end (f:=zeroF) HHH.out.2.2.1 HFE.out (Nat.le_refl _);have d0:=HHH.out.2.2.2.2.c0; have d1:=HHH.out.2.2.2.2.c1; have d2:=HHH.out.2.2.2.2.c2; have d3:=HHH.out.2.2.2.2.c3; have d4:=HHH.out.2.2.2.2.c4; have d5:=HHH.out.2.2.2.2.c5; have d6:=HHH.out.2.2.2.2.c6; have d7:=HHH.out.2.2.2.2.c7; have d8:=HHH.out.2.2.2.2.c8;have z0:=HFE.out.c0; have z1:=HFE.out.c1; have z2:=HFE.out.c2; have z3:=HFE.out.c3; have z4:=HFE.out.c4; have z5:=HFE.out.c5; have z6:=HFE.out.c6; have z7:=HFE.out.c7; have z8:=HFE.out.c8; have zf:=HFE.out.fz;simp only at d0 d1 d2 d3 d4 d5 d6 d7 d8;clear HHH;go_wp2_with fail
  generalize hWW:World.setCell _ ⟨w.heap.size,8,none⟩ _=WW;have hW2:WD.setCells w.heap.size 0 (famCs zeroF)=WW:=hWW;have hbe:=HEN.out.1;have hfe:=HEN.out.2;rw [hW2] at hbe hfe;have q0:=hfe.c0; have q1:=hfe.c1; have q2:=hfe.c2; have q3:=hfe.c3; have q4:=hfe.c4; have q5:=hfe.c5; have q6:=hfe.c6; have q7:=hfe.c7; have q8:=hfe.c8;clear hW2 hWW HEN z0 z1 z2 z3 z4 z5 z6 z7 z8 zf hfe d0 d1 d2 d3 d4 d5 d6 d7 d8;exact bodyPost_ret (v:=.tuple #[.agg #[.int .i64 0,.string ⟨#[]⟩,.string ⟨#[]⟩,.string ⟨#[]⟩,.int .i64 0,.int .i64 0,.int .i64 0,.string ⟨#[]⟩,.bool false],.int .i64 (e:Int)]) (by simp [results,Tryz.results32,go_sem,q0,q1,q2,q3,q4,q5,q6,q7,q8,zeroF]) rfl ⟨by rw [HE.out]; simp [famV,famCs,zeroF],hbe⟩
theorem refMint_is (N:Nat) (w:World) (gx gr:Nat) (r:Rul) (p:Pub) (v:Value) (text:ByteArray) (t:T) (n:Nat) (h:RvIs N w gx gr r p v) (ht:text.size≤5000) (hto:Tok.Out (tag r.key) text.data.toList t n) :
 Calls Tryz.prog 30 #[.pointer (some ⟨gx,0,none⟩),.string text] w fun x w'=>x=.returned (.tuple #[.string (mintM (txtB r) r p t n).1,.int .i64 ((mintM (txtB r) r p t n).2:Nat)])∧Below w.heap.size w w':=by
 have HS:Hid (RvIs N w gx gr r p v):=h;have HGD:Hid (Ev.Good p.st):=h.ok.good;have HRU:Hid (RulOk r):=h.rul
 have fin:∀ (w1:World) (tk tf tg te f1:Int) (f2 f3 f4:ByteArray) (f5 f6 f7:Int) (f8:ByteArray) (f9:Bool),Below w.heap.size w w1→Below w.heap.size w ((w1.alloc (.cells #[.int .i64 tk,.int .i64 tf,.int .i64 tg,.int .i64 te] 137)).alloc (.cells #[.int .i64 f1,.string f2,.string f3,.string f4,.int .i64 f5,.int .i64 f6,.int .i64 f7,.string f8,.bool f9] 40))∧RvIs N ((w1.alloc (.cells #[.int .i64 tk,.int .i64 tf,.int .i64 tg,.int .i64 te] 137)).alloc (.cells #[.int .i64 f1,.string f2,.string f3,.string f4,.int .i64 f5,.int .i64 f6,.int .i64 f7,.string f8,.bool f9] 40)) gx gr r p v∧TB ((w1.alloc (.cells #[.int .i64 tk,.int .i64 tf,.int .i64 tg,.int .i64 te] 137)).alloc (.cells #[.int .i64 f1,.string f2,.string f3,.string f4,.int .i64 f5,.int .i64 f6,.int .i64 f7,.string f8,.bool f9] 40)) w1.heap.size ⟨tk,tf,tg,te⟩∧FB ((w1.alloc (.cells #[.int .i64 tk,.int .i64 tf,.int .i64 tg,.int .i64 te] 137)).alloc (.cells #[.int .i64 f1,.string f2,.string f3,.string f4,.int .i64 f5,.int .i64 f6,.int .i64 f7,.string f8,.bool f9] 40)) (w1.heap.size+1) ⟨f1,f2,f3,f4,f5,f6,f7,f8,f9⟩:=fun w1 tk tf tg te f1 f2 f3 f4 f5 f6 f7 f8 f9 hb2=>by
  have hb3:Below w1.heap.size w1 ((w1.alloc (.cells #[.int .i64 tk,.int .i64 tf,.int .i64 tg,.int .i64 te] 137)).alloc (.cells #[.int .i64 f1,.string f2,.string f3,.string f4,.int .i64 f5,.int .i64 f6,.int .i64 f7,.string f8,.bool f9] 40)):=((Below.refl _ _).alloc (Nat.le_refl _) _).alloc (by simp) _
  have hsz:(w1.alloc (.cells #[.int .i64 tk,.int .i64 tf,.int .i64 tg,.int .i64 te] 137)).heap.size=w1.heap.size+1:=by simp
  exact ⟨hb2.trans (hb3.mono hb2.size),(HS.out.on hb2).on hb3,(TB.made w1 ⟨tk,tf,tg,te⟩ _).on ((Below.refl _ _).alloc (Nat.le_refl _) _),by rw [← hsz]; exact FB.made _ ⟨f1,f2,f3,f4,f5,f6,f7,f8,f9⟩ _⟩
 by_cases he:look0 r p.st 1 t n=0
 ·have hlk:=refLooks_ok N _ gx gr r p v text 1 t n HS.out ht hto he
  have HMF:Hid (mayF (famM p.st t)):=fam_may HGD.out (look_fam he).2.2.1;have HW1:Hid ((famM p.st t).gen<t.g→mintM (txtB r) r p t n=(noT,2)):=fun hg=>by show mintM (txtB r) r p t n=_; unfold mintM; rw [lookM_new he hg]; rfl
  have HW2:Hid (¬ (famM p.st t).gen<t.g→t.g<(famM p.st t).gen→mintM (txtB r) r p t n=(noT,8)):=fun hg hc=>by show mintM (txtB r) r p t n=_; unfold mintM; rw [lookM_ok he hg,if_neg (by simp),if_pos hc]
  have HW3:Hid (¬ (famM p.st t).gen<t.g→¬ t.g<(famM p.st t).gen→mintM (txtB r) r p t n=(txtB r ⟨2,(famM p.st t).id,(famM p.st t).gen,laterI p.st.clock r.access⟩,0)):=fun hg hc=>by show mintM (txtB r) r p t n=_; unfold mintM; rw [lookM_ok he hg,if_neg (by simp),if_neg hc]
  have HWT:Hid (∀ W:World,RvIs N W gx gr r p v→Calls Tryz.prog 79 #[.int .i64 r.key,.agg #[.int .i64 2,.int .i64 (famM p.st t).id,.int .i64 (famM p.st t).gen,.int .i64 (laterI p.st.clock r.access)]] W fun e w'=>e=.returned (.tuple #[.string (txtB r ⟨2,(famM p.st t).id,(famM p.st t).gen,laterI p.st.clock r.access⟩),.int .i64 0])∧Below W.heap.size W w'):=fun W hW=>writeR_yes r.key ⟨2,(famM p.st t).id,(famM p.st t).gen,laterI p.st.clock r.access⟩ W (may_mint HMF.out HGD.out hW.rul) hW.libs.base;clear h hto ht he;generalize mintM (txtB r) r p t n=K at *;generalize famM p.st t=f at *;obtain ⟨tk,tf,tg,te⟩:=t;obtain ⟨f1,f2,f3,f4,f5,f6,f7,f8,f9⟩:=f;unfold tokV famV famCs at hlk;simp only at hlk HW1 HW2 HW3 HWT;by_cases hg:f5<tg
  ·have HE:Hid _:=HW1.out hg
   clear HW1 HW2 HW3 HWT;go_enter Tryz.func30,Tryz.ntmps30
   go_wp2_with fail
   refine hlk.mono ?_;rintro e2 w1 ⟨rfl,hb2⟩;have HX:Hid _:=fin w1 tk tf tg te f1 f2 f3 f4 f5 f6 f7 f8 f9 hb2;clear hlk hb2 fin;go_upto_region 2 with fail
   generalize hWW:((w1.alloc (.cells #[.int .i64 tk,.int .i64 tf,.int .i64 tg,.int .i64 te] 137)).alloc (.cells #[.int .i64 f1,.string f2,.string f3,.string f4,.int .i64 f5,.int .i64 f6,.int .i64 f7,.string f8,.bool f9] 40))=W3 at *;clear hWW;generalize w1.heap.size=gq at *;have HX1:Hid _:=HX.out.1;have HX2:Hid _:=HX.out.2.1;have HX4:Hid _:=HX.out.2.2.2;have x2:=HX.out.2.2.1.c2;have d4:=HX4.out.c4;simp only at x2 d4;clear HX;go_wp2_with fail
   go_ret2;rw [HE.out];exact ⟨rfl,HX1.out⟩
  ·by_cases hc:tg<f5
   ·have HE:Hid _:=HW2.out hg hc
    clear HW1 HW2 HW3 HWT;go_enter Tryz.func30,Tryz.ntmps30
    go_wp2_with fail
    refine hlk.mono ?_;rintro e2 w1 ⟨rfl,hb2⟩;have HX:Hid _:=fin w1 tk tf tg te f1 f2 f3 f4 f5 f6 f7 f8 f9 hb2;clear hlk hb2 fin;go_upto_region 2 with fail
    generalize hWW:((w1.alloc (.cells #[.int .i64 tk,.int .i64 tf,.int .i64 tg,.int .i64 te] 137)).alloc (.cells #[.int .i64 f1,.string f2,.string f3,.string f4,.int .i64 f5,.int .i64 f6,.int .i64 f7,.string f8,.bool f9] 40))=W3 at *;clear hWW;generalize w1.heap.size=gq at *;have HX1:Hid _:=HX.out.1;have HX2:Hid _:=HX.out.2.1;have HX4:Hid _:=HX.out.2.2.2;have x2:=HX.out.2.2.1.c2;have d4:=HX4.out.c4;simp only at x2 d4;clear HX;go_wp2_with fail
    go_ret2;rw [HE.out];exact ⟨rfl,HX1.out⟩
   ·have HE:Hid _:=HW3.out hg hc
    clear HW1 HW2 HW3;go_enter Tryz.func30,Tryz.ntmps30
    go_wp2_with fail
    refine hlk.mono ?_;rintro e2 w1 ⟨rfl,hb2⟩;have HX:Hid _:=fin w1 tk tf tg te f1 f2 f3 f4 f5 f6 f7 f8 f9 hb2;clear hlk hb2 fin;go_upto_region 2 with fail
    generalize hWW:((w1.alloc (.cells #[.int .i64 tk,.int .i64 tf,.int .i64 tg,.int .i64 te] 137)).alloc (.cells #[.int .i64 f1,.string f2,.string f3,.string f4,.int .i64 f5,.int .i64 f6,.int .i64 f7,.string f8,.bool f9] 40))=W3 at *;clear hWW;generalize w1.heap.size=gq at *;have HX1:Hid _:=HX.out.1;have HX2:Hid _:=HX.out.2.1;have HX4:Hid _:=HX.out.2.2.2;have x2:=HX.out.2.2.1.c2;have d4:=HX4.out.c4;simp only at x2 d4;clear HX;generalize htx:txtB r ⟨2,f1,f5,laterI p.st.clock r.access⟩=TX at *;clear htx;go_upto_region 8 with fail
    refine RegD.R_ (fun W=>RvIs N W gx gr r p v∧Below w.heap.size w W∧FB W (gq+1) ⟨f1,f2,f3,f4,f5,f6,f7,f8,f9⟩) 28 (by kernel_rfl) (⟨HX2.out.on (Below.refl _ _).drew,HX1.out.drew,HX4.out.on (Below.refl _ _).drew⟩) (fun hH=>?_)
    clear x2 d4 HX1 HX2 HX4;refine RegD.T_ 0 (v:=.pointer (some ⟨gx,0,none⟩)) rfl (by kernel_rfl) (fun _ _ _ h=>h) (.inl ⟨by rfl,fun W hW=>by go_simp⟩) hH ?_
    simp only [Act.put,pS1,pS2,pS3];refine RegD.T_ 1 (v:=.pointer (some ⟨gx,0,none⟩)) rfl (by kernel_rfl) (fun _ _ _ h=>h) (.inl ⟨by rfl,fun W hW=>by go_simp⟩) hH ?_
    simp only [Act.put,pS1,pS2,pS3];refine RegD.T_ 2 (v:=.pointer (some ⟨gx,1,none⟩)) rfl (by kernel_rfl) (fun _ _ _ h=>h) (.inl ⟨by rfl,fun W hW=>by go_simp⟩) hH ?_
    simp only [Act.put,pS1,pS2,pS3];refine RegD.T_ 3 (v:=.pointer (some ⟨gx,1,none⟩)) rfl (by kernel_rfl) (fun _ _ _ h=>h) (.inl ⟨by rfl,fun W hW=>by go_simp⟩) hH ?_
    simp only [Act.put,pS1,pS2,pS3];refine RegD.T_ 4 (v:=.int .i64 r.key) rfl (by kernel_rfl) (fun _ _ _ h=>h) (.inl ⟨by rfl,fun W hW=>by have a0:=hW.1.box.c1; go_simp⟩) hH ?_
    simp only [Act.put,pS1,pS2,pS3];refine RegD.T_ 5 (v:=.pointer (some ⟨gq+1,0,none⟩)) rfl (by kernel_rfl) (fun _ _ _ h=>h) (.inl ⟨by rfl,fun W hW=>by go_simp⟩) hH ?_
    simp only [Act.put,pS1,pS2,pS3];refine RegD.T_ 6 (v:=.int .i64 f1) rfl (by kernel_rfl) (fun _ _ _ h=>h) (.inl ⟨by rfl,fun W hW=>by have a0:=hW.2.2.c0; simp only at a0; go_simp⟩) hH ?_
    simp only [Act.put,pS1,pS2,pS3];refine RegD.T_ 7 (v:=.pointer (some ⟨gq+1,4,none⟩)) rfl (by kernel_rfl) (fun _ _ _ h=>h) (.inl ⟨by rfl,fun W hW=>by go_simp⟩) hH ?_
    simp only [Act.put,pS1,pS2,pS3];refine RegD.T_ 8 (v:=.int .i64 f5) rfl (by kernel_rfl) (fun _ _ _ h=>h) (.inl ⟨by rfl,fun W hW=>by have a0:=hW.2.2.c4; simp only at a0; go_simp⟩) hH ?_
    simp only [Act.put,pS1,pS2,pS3];refine RegD.T_ 9 (v:=.pointer (some ⟨gx,0,none⟩)) rfl (by kernel_rfl) (fun _ _ _ h=>h) (.inl ⟨by rfl,fun W hW=>by go_simp⟩) hH ?_
    simp only [Act.put,pS1,pS2,pS3];refine RegD.T_ 10 (v:=.pointer (some ⟨gx,0,none⟩)) rfl (by kernel_rfl) (fun _ _ _ h=>h) (.inl ⟨by rfl,fun W hW=>by go_simp⟩) hH ?_
    simp only [Act.put,pS1,pS2,pS3];refine RegD.T_ 11 (v:=.pointer (some ⟨gx,0,none⟩)) rfl (by kernel_rfl) (fun _ _ _ h=>h) (.inl ⟨by rfl,fun W hW=>by go_simp⟩) hH ?_
    simp only [Act.put,pS1,pS2,pS3];refine RegD.T_ 12 (v:=.pointer (some ⟨gr,0,none⟩)) rfl (by kernel_rfl) (fun _ _ _ h=>h) (.inl ⟨by rfl,fun W hW=>by have a0:=hW.1.box.c0; go_simp⟩) hH ?_
    simp only [Act.put,pS1,pS2,pS3];refine RegD.T_ 13 (v:=.pointer (some ⟨gr,0,none⟩)) rfl (by kernel_rfl) (fun _ _ _ h=>h) (.inl ⟨by rfl,fun W hW=>by go_simp⟩) hH ?_
    simp only [Act.put,pS1,pS2,pS3];refine RegD.T_ 14 (v:=.pointer (some ⟨gr,0,none⟩)) rfl (by kernel_rfl) (fun _ _ _ h=>h) (.inl ⟨by rfl,fun W hW=>by go_simp⟩) hH ?_
    simp only [Act.put,pS1,pS2,pS3];refine RegD.T_ 15 (v:=.pointer (some ⟨gr,0,none⟩)) rfl (by kernel_rfl) (fun _ _ _ h=>h) (.inl ⟨by rfl,fun W hW=>by go_simp⟩) hH ?_
    simp only [Act.put,pS1,pS2,pS3];refine RegD.T_ 16 (v:=.int .i64 p.st.clock) rfl (by kernel_rfl) (fun _ _ _ h=>h) (.inl ⟨by rfl,fun W hW=>by have a0:=hW.1.doc.c0; go_simp⟩) hH ?_
    simp only [Act.put,pS1,pS2,pS3];refine RegD.T_ 17 (v:=.pointer (some ⟨gx,0,none⟩)) rfl (by kernel_rfl) (fun _ _ _ h=>h) (.inl ⟨by rfl,fun W hW=>by go_simp⟩) hH ?_
    simp only [Act.put,pS1,pS2,pS3];refine RegD.T_ 18 (v:=.pointer (some ⟨gx,0,none⟩)) rfl (by kernel_rfl) (fun _ _ _ h=>h) (.inl ⟨by rfl,fun W hW=>by go_simp⟩) hH ?_
    simp only [Act.put,pS1,pS2,pS3];refine RegD.T_ 19 (v:=.pointer (some ⟨gx,1,none⟩)) rfl (by kernel_rfl) (fun _ _ _ h=>h) (.inl ⟨by rfl,fun W hW=>by go_simp⟩) hH ?_
    simp only [Act.put,pS1,pS2,pS3];refine RegD.T_ 20 (v:=.pointer (some ⟨gx,4,none⟩)) rfl (by kernel_rfl) (fun _ _ _ h=>h) (.inl ⟨by rfl,fun W hW=>by go_simp⟩) hH ?_
    simp only [Act.put,pS1,pS2,pS3];refine RegD.T_ 21 (v:=.int .i64 r.access) rfl (by kernel_rfl) (fun _ _ _ h=>h) (.inl ⟨by rfl,fun W hW=>by have a0:=hW.1.box.c4; go_simp⟩) hH ?_
    simp only [Act.put,pS1,pS2,pS3];refine RegD.O_ 22 rfl (by kernel_rfl) ?_; intro K hK; go_simp
    go_at_call 80
    refine (refAdd_is _ _ HGD.out.clock HRU.out.access _).mono ?_;rintro e2 w2 ⟨rfl,rfl⟩;go_wp2_with fail
    refine hK.out _ _ (hH) ?_;clear hK hH;intro hH;clear K;refine RegD.T_ 23 (v:=.agg #[.int .i64 2,.int .i64 f1,.int .i64 f5,.int .i64 (laterI p.st.clock r.access)]) rfl (by kernel_rfl) (fun _ _ _ h=>h) (.inl ⟨by rfl,fun W hW=>by go_simp⟩) hH ?_
    simp only [Act.put,pS1,pS2,pS3];refine RegD.O_ 24 rfl (by kernel_rfl) ?_; intro K hK; go_simp
    go_at_call 79
    refine (HWT.out _ hH.1).mono ?_;rintro e3 w3 ⟨rfl,hb3⟩;go_wp2_with fail
    refine hK.out _ _ (⟨hH.1.on hb3,hH.2.1.trans (hb3.mono hH.2.1.size),hH.2.2.on hb3⟩) ?_;clear hK hH;intro hH;clear K;clear hb3;refine RegD.T_ 25 (v:=.string TX) rfl (by kernel_rfl) (fun _ _ _ h=>h) (.inl ⟨by rfl,fun W hW=>by go_simp⟩) hH ?_
    simp only [Act.put,pS1,pS2,pS3];refine RegD.T_ 26 (v:=.int .i64 0) rfl (by kernel_rfl) (fun _ _ _ h=>h) (.inl ⟨by rfl,fun W hW=>by go_simp⟩) hH ?_
    simp only [Act.put,pS1,pS2,pS3];refine RegD.T_ 27 (v:=.string TX) rfl (by kernel_rfl) (fun _ _ _ h=>h) (.inl ⟨by rfl,fun W hW=>by go_simp⟩) hH ?_
    simp only [Act.put,pS1,pS2,pS3];have HHH:Hid _:=hH.2.1;clear hH;refine RegD.L_ 28 rfl (by kernel_rfl) (by kernel_rfl) ?_; intro K hK; go_simp
    refine hK.out _ _ ?_;clear hK K;refine RegD.D_ (by kernel_rfl) ?_ _
    go_wp2_with fail
    go_ret2;rw [HE.out];exact ⟨rfl,HHH.out⟩
 ·have HE:Hid (mintM (txtB r) r p t n=(noT,look0 r p.st 1 t n)):=by show _=_; unfold mintM; rw [lookM_bad he,if_pos he]
  have hlk:=refLooks_no N _ gx gr r p v text 1 t n _ HS.out ht hto rfl;clear h hto ht;generalize mintM (txtB r) r p t n=K at *;generalize look0 r p.st 1 t n=e at *;have heI:¬ (e:Int)=0:=by omega
  go_enter Tryz.func30,Tryz.ntmps30
  go_wp2_with fail
  refine hlk.mono ?_;rintro e2 w1 ⟨⟨tk,tf,tg,te,f1,f2,f3,f4,f5,f6,f7,f8,f9,rfl⟩,hb2⟩;have HX:Hid _:=fin w1 tk tf tg te f1 f2 f3 f4 f5 f6 f7 f8 f9 hb2;clear hlk hb2 fin;go_upto_region 2 with fail
  generalize hWW:((w1.alloc (.cells #[.int .i64 tk,.int .i64 tf,.int .i64 tg,.int .i64 te] 137)).alloc (.cells #[.int .i64 f1,.string f2,.string f3,.string f4,.int .i64 f5,.int .i64 f6,.int .i64 f7,.string f8,.bool f9] 40))=W3 at *;clear hWW;generalize w1.heap.size=gq at *;have HX1:Hid _:=HX.out.1;have HX2:Hid _:=HX.out.2.1;have HX4:Hid _:=HX.out.2.2.2;have x2:=HX.out.2.2.1.c2;have d4:=HX4.out.c4;simp only at x2 d4;clear HX;go_wp2_with fail
  go_ret2;rw [HE.out];exact ⟨rfl,HX1.out⟩
end Go.Proofs.YtlailakofhenkabGreatDoor
