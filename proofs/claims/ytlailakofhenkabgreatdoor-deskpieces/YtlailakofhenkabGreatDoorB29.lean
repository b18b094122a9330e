import Derived.Test.YtlailakofhenkabGreatDoorB28
set_option maxRecDepth 100000
set_option maxHeartbeats 8000000
namespace Go.Proofs.YtlailakofhenkabGreatDoor
open Go Go.RowKit Tok Sc Ev
theorem may_mint {s:St} {r:Rul} {f:Fam} (hf:mayF f) (hg:Ev.Good s) (hr:RulOk r):Tok.may ⟨2,f.id,f.gen,laterI s.clock r.access⟩:=⟨.inr ⟨rfl,later_ok hg.clock hr.access⟩,hf.1.1,hf.1.2.1⟩
theorem mint_is (N:Nat) (w:World) (gv gs gd:Nat) (r:Rul) (p:Pub) (v:Value) (text:ByteArray) (t:T) (n:Nat) (h:SvIs N w gv gs gd r p v) (ht:text.size≤5000) (hto:Tok.Out (tag r.key) text.data.toList t n) :
 Calls Tryz.prog 31 #[.pointer (some ⟨gv,0,none⟩),.string text] w fun x w'=>x=.returned (.tuple #[.string (mintM (txtB r) r p t n).1,errQ (mintM (txtB r) r p t n).2])∧Below w.heap.size w w':=by
 have HS:Hid (SvIs N w gv gs gd r p v):=h;have hlk:=look_is N w gv gs gd r p v text 1 t n (lookM r p.st 1 t n) h ht hto rfl;have HGD:Hid (Ev.Good p.st):=h.sp.ok.good;have HFM:Hid (lookM r p.st 1 t n=0→mayF (famM p.st t)):=fun he=>fam_may h.sp.ok.good (look_fam (look_ok he).1).2.2.1;clear h hto ht;unfold mintM;generalize lookM r p.st 1 t n=e at *;generalize famM p.st t=f at *
 cases e with
 |succ e=>
  rw [if_neg (by omega),if_neg (by omega)] at hlk
  rw [if_pos (by omega)]
  unfold tokV famV famCs zero zeroF at hlk;simp only at hlk;go_enter Tryz.func31,Tryz.ntmps31
  go_wp2_with fail
  refine hlk.mono ?_;rintro e2 w2 ⟨rfl,hb2⟩;have HB2:Hid (Below w.heap.size w w2):=hb2;rw [errQ_succ];clear hlk hb2;go_wp2_with fail
  go_ret2;refine ⟨rfl,?_⟩;repeat (first | exact HB2.out | refine Below.alloc ?_ (by have:=HB2.out.size; simp; try omega) _)
 |zero=>
  rw [if_pos rfl,if_pos rfl] at hlk;rw [if_neg (by omega)]
  have HF:Hid (mayF f):=HFM.out (by trivial)
  have HWT:Hid (∀ W:World,SvIs N W gv gs gd r p v→Calls Tryz.prog 81 #[.int .i64 r.key,.agg #[.int .i64 2,.int .i64 f.id,.int .i64 f.gen,.int .i64 (laterI p.st.clock r.access)]] W fun e w'=>e=.returned (.tuple #[.string (txtB r ⟨2,f.id,f.gen,laterI p.st.clock r.access⟩),.nilIface])∧Below W.heap.size W w'):=fun W hW=>writeP_yes r.key ⟨2,f.id,f.gen,laterI p.st.clock r.access⟩ W (may_mint HF.out HGD.out hW.rul) hW.libs.base;obtain ⟨tk,tf,tg,te⟩:=t;obtain ⟨f1,f2,f3,f4,f5,f6,f7,f8,f9⟩:=f;simp only at HWT ⊢;unfold tokV famV famCs at hlk;simp only at hlk
  have fin:∀ (w1:World) (hb2:Below w.heap.size w w1),Below w.heap.size w ((w1.alloc (.cells #[.int .i64 tk,.int .i64 tf,.int .i64 tg,.int .i64 te] 142)).alloc (.cells #[.int .i64 f1,.string f2,.string f3,.string f4,.int .i64 f5,.int .i64 f6,.int .i64 f7,.string f8,.bool f9] 40))∧SvIs N ((w1.alloc (.cells #[.int .i64 tk,.int .i64 tf,.int .i64 tg,.int .i64 te] 142)).alloc (.cells #[.int .i64 f1,.string f2,.string f3,.string f4,.int .i64 f5,.int .i64 f6,.int .i64 f7,.string f8,.bool f9] 40)) gv gs gd r p v∧TB ((w1.alloc (.cells #[.int .i64 tk,.int .i64 tf,.int .i64 tg,.int .i64 te] 142)).alloc (.cells #[.int .i64 f1,.string f2,.string f3,.string f4,.int .i64 f5,.int .i64 f6,.int .i64 f7,.string f8,.bool f9] 40)) w1.heap.size ⟨tk,tf,tg,te⟩∧FB ((w1.alloc (.cells #[.int .i64 tk,.int .i64 tf,.int .i64 tg,.int .i64 te] 142)).alloc (.cells #[.int .i64 f1,.string f2,.string f3,.string f4,.int .i64 f5,.int .i64 f6,.int .i64 f7,.string f8,.bool f9] 40)) (w1.heap.size+1) ⟨f1,f2,f3,f4,f5,f6,f7,f8,f9⟩:=fun w1 hb2=>by
   have hb3:Below w1.heap.size w1 ((w1.alloc (.cells #[.int .i64 tk,.int .i64 tf,.int .i64 tg,.int .i64 te] 142)).alloc (.cells #[.int .i64 f1,.string f2,.string f3,.string f4,.int .i64 f5,.int .i64 f6,.int .i64 f7,.string f8,.bool f9] 40)):=((Below.refl _ _).alloc (Nat.le_refl _) _).alloc (by simp) _
   have hsz:(w1.alloc (.cells #[.int .i64 tk,.int .i64 tf,.int .i64 tg,.int .i64 te] 142)).heap.size=w1.heap.size+1:=by simp
   exact ⟨hb2.trans (hb3.mono hb2.size),(HS.out.on hb2).on hb3,(TB.made w1 ⟨tk,tf,tg,te⟩ _).on ((Below.refl _ _).alloc (Nat.le_refl _) _),by rw [← hsz]; exact FB.made _ ⟨f1,f2,f3,f4,f5,f6,f7,f8,f9⟩ _⟩
  by_cases hg:tg<f5
  ·rw [if_pos hg]
   go_enter Tryz.func31,Tryz.ntmps31
   go_wp2_with fail
   refine hlk.mono ?_;rintro e2 w1 ⟨rfl,hb2⟩;rw [show errQ 0=.nilIface from rfl]
   have HX:Hid _:=fin w1 hb2;clear hlk hb2 fin;go_upto_region 4 with fail
   have t2:=HX.out.2.2.1.c2;have z4:=HX.out.2.2.2.c4;simp only at t2 z4;have HB3:Hid _:=HX.out.1;clear HX HWT;generalize hWW:((w1.alloc (.cells #[.int .i64 tk,.int .i64 tf,.int .i64 tg,.int .i64 te] 142)).alloc (.cells #[.int .i64 f1,.string f2,.string f3,.string f4,.int .i64 f5,.int .i64 f6,.int .i64 f7,.string f8,.bool f9] 40))=W3 at *;clear hWW;generalize w1.heap.size=gq at *;go_wp2_with fail
   go_ret2;exact ⟨rfl,HB3.out⟩
  ·rw [if_neg hg]
   go_enter Tryz.func31,Tryz.ntmps31
   go_wp2_with fail
   refine hlk.mono ?_;rintro e2 w1 ⟨rfl,hb2⟩;rw [show errQ 0=.nilIface from rfl]
   have HX:Hid _:=fin w1 hb2;clear hlk hb2 fin;go_upto_region 4 with fail
   have t2:=HX.out.2.2.1.c2;have z4:=HX.out.2.2.2.c4;simp only at t2 z4;generalize hWW:((w1.alloc (.cells #[.int .i64 tk,.int .i64 tf,.int .i64 tg,.int .i64 te] 142)).alloc (.cells #[.int .i64 f1,.string f2,.string f3,.string f4,.int .i64 f5,.int .i64 f6,.int .i64 f7,.string f8,.bool f9] 40))=W3 at *;clear hWW;generalize w1.heap.size=gq at *;go_upto_region 6 with fail
   have HB3:Hid _:=HX.out.1;clear t2 z4;refine RegD.R_ (fun W=>FB W (gq+1) ⟨f1,f2,f3,f4,f5,f6,f7,f8,f9⟩∧SvIs N W gv gs gd r p v∧Below w.heap.size w W) 22 (by kernel_rfl) (⟨HX.out.2.2.2.on (Below.refl _ _).drew,HX.out.2.1.on (Below.refl _ _).drew,HX.out.1.drew⟩) (fun hH=>?_)
   refine RegD.T_ 0 (v:=.pointer (some ⟨gv,0,none⟩)) rfl (by kernel_rfl) (fun _ _ _ h=>h) (.inl ⟨by rfl,fun W hW=>by go_simp⟩) hH ?_
   simp only [Act.put,pS1,pS2,pS3];refine RegD.T_ 1 (v:=.pointer (some ⟨gv,0,none⟩)) rfl (by kernel_rfl) (fun _ _ _ h=>h) (.inl ⟨by rfl,fun W hW=>by go_simp⟩) hH ?_
   simp only [Act.put,pS1,pS2,pS3];refine RegD.T_ 2 (v:=.pointer (some ⟨gv,1,none⟩)) rfl (by kernel_rfl) (fun _ _ _ h=>h) (.inl ⟨by rfl,fun W hW=>by go_simp⟩) hH ?_
   simp only [Act.put,pS1,pS2,pS3];refine RegD.T_ 3 (v:=.pointer (some ⟨gv,1,none⟩)) rfl (by kernel_rfl) (fun _ _ _ h=>h) (.inl ⟨by rfl,fun W hW=>by go_simp⟩) hH ?_
   simp only [Act.put,pS1,pS2,pS3];refine RegD.T_ 4 (v:=.int .i64 r.key) rfl (by kernel_rfl) (fun _ _ _ h=>h) (.inl ⟨by rfl,fun W hW=>by have a0:=hW.2.1.box.c1; go_simp⟩) hH ?_
   simp only [Act.put,pS1,pS2,pS3];refine RegD.T_ 5 (v:=.pointer (some ⟨gq+1,0,none⟩)) rfl (by kernel_rfl) (fun _ _ _ h=>h) (.inl ⟨by rfl,fun W hW=>by go_simp⟩) hH ?_
   simp only [Act.put,pS1,pS2,pS3];refine RegD.T_ 6 (v:=.int .i64 f1) rfl (by kernel_rfl) (fun _ _ _ h=>h) (.inl ⟨by rfl,fun W hW=>by have a0:=hW.1.c0; go_simp⟩) hH ?_
   simp only [Act.put,pS1,pS2,pS3];refine RegD.T_ 7 (v:=.pointer (some ⟨gq+1,4,none⟩)) rfl (by kernel_rfl) (fun _ _ _ h=>h) (.inl ⟨by rfl,fun W hW=>by go_simp⟩) hH ?_
   simp only [Act.put,pS1,pS2,pS3];refine RegD.T_ 8 (v:=.int .i64 f5) rfl (by kernel_rfl) (fun _ _ _ h=>h) (.inl ⟨by rfl,fun W hW=>by have a0:=hW.1.c4; go_simp⟩) hH ?_
   simp only [Act.put,pS1,pS2,pS3];refine RegD.T_ 9 (v:=.pointer (some ⟨gv,0,none⟩)) rfl (by kernel_rfl) (fun _ _ _ h=>h) (.inl ⟨by rfl,fun W hW=>by go_simp⟩) hH ?_
   simp only [Act.put,pS1,pS2,pS3];refine RegD.T_ 12 (v:=.pointer (some ⟨gv,0,none⟩)) rfl (by kernel_rfl) (fun _ _ _ h=>h) (.inl ⟨by rfl,fun W hW=>by go_simp⟩) hH ?_
   simp only [Act.put,pS1,pS2,pS3];refine RegD.T_ 13 (v:=.pointer (some ⟨gv,0,none⟩)) rfl (by kernel_rfl) (fun _ _ _ h=>h) (.inl ⟨by rfl,fun W hW=>by go_simp⟩) hH ?_
   simp only [Act.put,pS1,pS2,pS3];refine RegD.T_ 14 (v:=.pointer (some ⟨gv,1,none⟩)) rfl (by kernel_rfl) (fun _ _ _ h=>h) (.inl ⟨by rfl,fun W hW=>by go_simp⟩) hH ?_
   simp only [Act.put,pS1,pS2,pS3];refine RegD.T_ 15 (v:=.pointer (some ⟨gv,4,none⟩)) rfl (by kernel_rfl) (fun _ _ _ h=>h) (.inl ⟨by rfl,fun W hW=>by go_simp⟩) hH ?_
   simp only [Act.put,pS1,pS2,pS3];refine RegD.T_ 16 (v:=.int .i64 r.access) rfl (by kernel_rfl) (fun _ _ _ h=>h) (.inl ⟨by rfl,fun W hW=>by have a0:=hW.2.1.box.c4; go_simp⟩) hH ?_
   simp only [Act.put,pS1,pS2,pS3];refine RegD.O_ 10 rfl (by kernel_rfl) ?_; intro K hK; go_simp
   go_at_call 43
   refine (svState_is N _ gv gs gd r p v hH.2.1).mono ?_;rintro e3 w3 ⟨v3,rfl,hf3,hb3⟩;obtain ⟨b3,c3,rfl⟩:=RowsK.slice hf3;unfold stV;go_wp2_with fail
   refine hK.out _ _ (⟨hH.1.on hb3,hH.2.1.on hb3,hH.2.2.trans (hb3.mono hH.2.2.size)⟩) ?_;clear hK hH;intro hH;clear K;clear hf3 hb3;have hfd:∀ W:World,(Instr.field 36 (.agg #[.int .i64 p.st.clock,.int .i64 p.st.next,.slice b3 p.st.fams.length c3]) 0).run Tryz.prog W=.ok (.int .i64 p.st.clock) W:=fun _=>by kernel_rfl
   refine RegD.T_ 11 (v:=.int .i64 p.st.clock) rfl (by kernel_rfl) (fun _ _ _ h=>h) (.inl ⟨by rfl,fun W hW=>by go_simp⟩) hH ?_
   simp only [Act.put,pS1,pS2,pS3];clear hfd;refine RegD.O_ 17 rfl (by kernel_rfl) ?_; intro K hK; go_simp
   go_at_call 82
   refine (later_is _ _ HGD.out.clock hH.2.1.rul.access _).mono ?_;rintro e4 w4 ⟨rfl,rfl⟩;go_wp2_with fail
   refine hK.out _ _ (hH) ?_;clear hK hH;intro hH;clear K;refine RegD.T_ 18 (v:=.agg #[.int .i64 2,.int .i64 f1,.int .i64 f5,.int .i64 (laterI p.st.clock r.access)]) rfl (by kernel_rfl) (fun _ _ _ h=>h) (.inl ⟨by rfl,fun W hW=>by go_simp⟩) hH ?_
   simp only [Act.put,pS1,pS2,pS3];refine RegD.O_ 19 rfl (by kernel_rfl) ?_; intro K hK; go_simp
   go_at_call 81
   refine (HWT.out _ hH.2.1).mono ?_;rintro e5 w5 ⟨rfl,hb5⟩;go_wp2_with fail
   refine hK.out _ _ (⟨hH.1.on hb5,hH.2.1.on hb5,hH.2.2.trans (hb5.mono hH.2.2.size)⟩) ?_;clear hK hH;intro hH;clear K;clear hb5;refine RegD.T_ 20 (v:=.string (txtB r ⟨2,f1,f5,laterI p.st.clock r.access⟩)) rfl (by kernel_rfl) (fun _ _ _ h=>h) (.inl ⟨by rfl,fun W hW=>by go_simp⟩) hH ?_
   simp only [Act.put,pS1,pS2,pS3];refine RegD.T_ 21 (v:=.nilIface) rfl (by kernel_rfl) (fun _ _ _ h=>h) (.inl ⟨by rfl,fun W hW=>by go_simp⟩) hH ?_
   simp only [Act.put,pS1,pS2,pS3];have HBB:Hid _:=hH.2.2;clear hH;refine RegD.L_ 22 rfl (by kernel_rfl) (by kernel_rfl) ?_; intro K hK; go_simp
   refine hK.out _ _ ?_;clear hK K;refine RegD.L_ 23 rfl (by kernel_rfl) (by kernel_rfl) ?_; intro K hK; go_simp
   refine hK.out _ _ ?_;clear hK K;refine RegD.D_ (by kernel_rfl) ?_ _
   go_wp2_with fail
   go_ret2;exact ⟨rfl,HBB.out⟩
theorem show_end {w w1:World} {g:Nat} {f0 f:Fam} (hb:Below w.heap.size w w1) (h2:FB w1 g f0) (hg:w.heap.size≤g):Below w.heap.size w (w1.setCells g 0 (famCs f))∧FB (w1.setCells g 0 (famCs f)) g f:=⟨hb.trans (below_setCellsW hg _ 0 _),h2.set⟩
theorem show_is (N:Nat) (w:World) (gv gs gd:Nat) (r:Rul) (p:Pub) (v:Value) (text:ByteArray) (t:T) (n:Nat) (h:SvIs N w gv gs gd r p v) (ht:text.size≤5000) (hto:Tok.Out (tag r.key) text.data.toList t n) :
 Calls Tryz.prog 33 #[.pointer (some ⟨gv,0,none⟩),.string text] w fun x w'=>x=.returned (.tuple #[famV (showM r p t n).1,errQ (showM r p t n).2])∧Below w.heap.size w w':=by
 have HB0:Hid (Below w.heap.size w (w.alloc (.cells #[.int .i64 0,.string ⟨#[]⟩,.string ⟨#[]⟩,.string ⟨#[]⟩,.int .i64 0,.int .i64 0,.int .i64 0,.string ⟨#[]⟩,.bool false] 40))):=(Below.refl _ _).alloc (Nat.le_refl _) _;have HF0:Hid (FB (w.alloc (.cells #[.int .i64 0,.string ⟨#[]⟩,.string ⟨#[]⟩,.string ⟨#[]⟩,.int .i64 0,.int .i64 0,.int .i64 0,.string ⟨#[]⟩,.bool false] 40)) w.heap.size zeroF):=FB.made w zeroF _;have HS:Hid (SvIs N (w.alloc (.cells #[.int .i64 0,.string ⟨#[]⟩,.string ⟨#[]⟩,.string ⟨#[]⟩,.int .i64 0,.int .i64 0,.int .i64 0,.string ⟨#[]⟩,.bool false] 40)) gv gs gd r p v):=h.on HB0.out;have hlk:=look_is N _ gv gs gd r p v text 2 t n (lookM r p.st 2 t n) HS.out ht hto rfl;clear h hto ht;unfold showM;generalize lookM r p.st 2 t n=e at *;generalize famM p.st t=f at *
 cases e with
 |succ e=>
  rw [if_neg (by omega),if_neg (by omega)] at hlk
  rw [if_pos (by omega)]
  unfold tokV famV famCs zero zeroF at hlk;simp only at hlk;go_enter Tryz.func33,Tryz.ntmps33
  go_wp2_with fail
  refine hlk.mono ?_;rintro e2 w2 ⟨rfl,hb2⟩;rw [errQ_succ];have HBE:Hid (Below w.heap.size w ((w2.alloc (.cells #[.int .i64 0,.int .i64 0,.int .i64 0,.int .i64 0] 142)).alloc (.cells #[.int .i64 0,.string ⟨#[]⟩,.string ⟨#[]⟩,.string ⟨#[]⟩,.int .i64 0,.int .i64 0,.int .i64 0,.string ⟨#[]⟩,.bool false] 40))):=((HB0.out.trans (hb2.mono HB0.out.size)).alloc (Nat.le_trans HB0.out.size hb2.size) _).alloc (by have h1:=HB0.out.size; have h2:=hb2.size; simp at *; omega) _
  have HFE:Hid (FB ((w2.alloc (.cells #[.int .i64 0,.int .i64 0,.int .i64 0,.int .i64 0] 142)).alloc (.cells #[.int .i64 0,.string ⟨#[]⟩,.string ⟨#[]⟩,.string ⟨#[]⟩,.int .i64 0,.int .i64 0,.int .i64 0,.string ⟨#[]⟩,.bool false] 40)) w.heap.size zeroF):=(HF0.out.on hb2).on (((Below.refl _ _).alloc (Nat.le_refl _) _).alloc (by simp) _)
  have HEN:Hid _:=show_end (f:=zeroF) HBE.out HFE.out (Nat.le_refl _);have z0:=HFE.out.c0; have z1:=HFE.out.c1; have z2:=HFE.out.c2; have z3:=HFE.out.c3; have z4:=HFE.out.c4; have z5:=HFE.out.c5; have z6:=HFE.out.c6; have z7:=HFE.out.c7; have z8:=HFE.out.c8; have zf:=HFE.out.fz;clear hlk hb2;go_wp2_with fail
  generalize hWW:World.setCell _ ⟨w.heap.size,8,none⟩ _=WW;have hW2:((w2.alloc (.cells #[.int .i64 0,.int .i64 0,.int .i64 0,.int .i64 0] 142)).alloc (.cells #[.int .i64 0,.string ⟨#[]⟩,.string ⟨#[]⟩,.string ⟨#[]⟩,.int .i64 0,.int .i64 0,.int .i64 0,.string ⟨#[]⟩,.bool false] 40)).setCells w.heap.size 0 (famCs zeroF)=WW:=hWW;have hbe:=HEN.out.1;have hfe:=HEN.out.2;rw [hW2] at hbe hfe;have q0:=hfe.c0; have q1:=hfe.c1; have q2:=hfe.c2; have q3:=hfe.c3; have q4:=hfe.c4; have q5:=hfe.c5; have q6:=hfe.c6; have q7:=hfe.c7; have q8:=hfe.c8;clear hW2 hWW HEN z0 z1 z2 z3 z4 z5 z6 z7 z8 zf hfe
  exact bodyPost_ret (v:=.tuple #[.agg #[.int .i64 0,.string ⟨#[]⟩,.string ⟨#[]⟩,.string ⟨#[]⟩,.int .i64 0,.int .i64 0,.int .i64 0,.string ⟨#[]⟩,.bool false],.iface 47 (.int .i64 ((e+1:Nat):Int))]) (by simp [results,Tryz.results33,go_sem,q0,q1,q2,q3,q4,q5,q6,q7,q8,zeroF]) rfl ⟨by simp [famV,famCs,zeroF,errQ_succ],hbe⟩
 |zero=>
  rw [if_pos rfl,if_pos rfl] at hlk;rw [if_neg (by omega)]
  obtain ⟨tk,tf,tg,te⟩:=t;obtain ⟨f1,f2,f3,f4,f5,f6,f7,f8,f9⟩:=f;unfold tokV famV famCs at hlk;simp only at hlk
  have fin:∀ (w1:World) (hb2:Below (w.alloc (.cells #[.int .i64 0,.string ⟨#[]⟩,.string ⟨#[]⟩,.string ⟨#[]⟩,.int .i64 0,.int .i64 0,.int .i64 0,.string ⟨#[]⟩,.bool false] 40)).heap.size (w.alloc (.cells #[.int .i64 0,.string ⟨#[]⟩,.string ⟨#[]⟩,.string ⟨#[]⟩,.int .i64 0,.int .i64 0,.int .i64 0,.string ⟨#[]⟩,.bool false] 40)) w1),Below w.heap.size w ((w1.alloc (.cells #[.int .i64 tk,.int .i64 tf,.int .i64 tg,.int .i64 te] 142)).alloc (.cells #[.int .i64 f1,.string f2,.string f3,.string f4,.int .i64 f5,.int .i64 f6,.int .i64 f7,.string f8,.bool f9] 40))∧SvIs N ((w1.alloc (.cells #[.int .i64 tk,.int .i64 tf,.int .i64 tg,.int .i64 te] 142)).alloc (.cells #[.int .i64 f1,.string f2,.string f3,.string f4,.int .i64 f5,.int .i64 f6,.int .i64 f7,.string f8,.bool f9] 40)) gv gs gd r p v∧TB ((w1.alloc (.cells #[.int .i64 tk,.int .i64 tf,.int .i64 tg,.int .i64 te] 142)).alloc (.cells #[.int .i64 f1,.string f2,.string f3,.string f4,.int .i64 f5,.int .i64 f6,.int .i64 f7,.string f8,.bool f9] 40)) w1.heap.size ⟨tk,tf,tg,te⟩∧FB ((w1.alloc (.cells #[.int .i64 tk,.int .i64 tf,.int .i64 tg,.int .i64 te] 142)).alloc (.cells #[.int .i64 f1,.string f2,.string f3,.string f4,.int .i64 f5,.int .i64 f6,.int .i64 f7,.string f8,.bool f9] 40)) (w1.heap.size+1) ⟨f1,f2,f3,f4,f5,f6,f7,f8,f9⟩∧FB ((w1.alloc (.cells #[.int .i64 tk,.int .i64 tf,.int .i64 tg,.int .i64 te] 142)).alloc (.cells #[.int .i64 f1,.string f2,.string f3,.string f4,.int .i64 f5,.int .i64 f6,.int .i64 f7,.string f8,.bool f9] 40)) w.heap.size zeroF:=fun w1 hb2=>by
   have hb3:Below w1.heap.size w1 ((w1.alloc (.cells #[.int .i64 tk,.int .i64 tf,.int .i64 tg,.int .i64 te] 142)).alloc (.cells #[.int .i64 f1,.string f2,.string f3,.string f4,.int .i64 f5,.int .i64 f6,.int .i64 f7,.string f8,.bool f9] 40)):=((Below.refl _ _).alloc (Nat.le_refl _) _).alloc (by simp) _
   have hsz:(w1.alloc (.cells #[.int .i64 tk,.int .i64 tf,.int .i64 tg,.int .i64 te] 142)).heap.size=w1.heap.size+1:=by simp
   exact ⟨HB0.out.trans ((hb2.trans (hb3.mono hb2.size)).mono HB0.out.size),(HS.out.on hb2).on hb3,(TB.made w1 ⟨tk,tf,tg,te⟩ _).on ((Below.refl _ _).alloc (Nat.le_refl _) _),by rw [← hsz]; exact FB.made _ ⟨f1,f2,f3,f4,f5,f6,f7,f8,f9⟩ _,(HF0.out.on hb2).on hb3⟩
  have go:∀ (b:Bool),b=decide (te<p.st.clock)→True:=fun _ _=>trivial;clear go;by_cases hg:te<p.st.clock
  ·rw [if_pos hg]
   go_enter Tryz.func33,Tryz.ntmps33
   go_wp2_with fail
   refine hlk.mono ?_;rintro e2 w1 ⟨rfl,hb2⟩;rw [show errQ 0=.nilIface from rfl]
   have HX:Hid _:=fin w1 hb2;clear hlk hb2 fin;go_upto_region 4 with fail
   generalize hWW:((w1.alloc (.cells #[.int .i64 tk,.int .i64 tf,.int .i64 tg,.int .i64 te] 142)).alloc (.cells #[.int .i64 f1,.string f2,.string f3,.string f4,.int .i64 f5,.int .i64 f6,.int .i64 f7,.string f8,.bool f9] 40))=W3 at *;clear hWW;generalize w1.heap.size=gq at *;refine RegD.R_ (fun W=>TB W gq ⟨tk,tf,tg,te⟩∧SvIs N W gv gs gd r p v∧Below w.heap.size w W∧FB W w.heap.size zeroF) 5 (by kernel_rfl) (⟨HX.out.2.2.1.on (Below.refl _ _).drew,HX.out.2.1.on (Below.refl _ _).drew,HX.out.1.drew,HX.out.2.2.2.2.on (Below.refl _ _).drew⟩) (fun hH=>?_)
   refine RegD.T_ 0 (v:=.pointer (some ⟨gv,0,none⟩)) rfl (by kernel_rfl) (fun _ _ _ h=>h) (.inl ⟨by rfl,fun W hW=>by go_simp⟩) hH ?_
   simp only [Act.put,pS1,pS2,pS3];refine RegD.T_ 3 (v:=.pointer (some ⟨gq,3,none⟩)) rfl (by kernel_rfl) (fun _ _ _ h=>h) (.inl ⟨by rfl,fun W hW=>by go_simp⟩) hH ?_
   simp only [Act.put,pS1,pS2,pS3];refine RegD.T_ 4 (v:=.int .i64 te) rfl (by kernel_rfl) (fun _ _ _ h=>h) (.inl ⟨by rfl,fun W hW=>by have a0:=hW.1.c3; go_simp⟩) hH ?_
   simp only [Act.put,pS1,pS2,pS3];refine RegD.O_ 1 rfl (by kernel_rfl) ?_; intro K hK; go_simp
   go_at_call 43
   refine (svState_is N _ gv gs gd r p v hH.2.1).mono ?_;rintro e3 w3 ⟨v3,rfl,hf3,hb3⟩;obtain ⟨b3,c3,rfl⟩:=RowsK.slice hf3;unfold stV;go_wp2_with fail
   refine hK.out _ _ (⟨hH.1.on hb3,hH.2.1.on hb3,hH.2.2.1.trans (hb3.mono hH.2.2.1.size),hH.2.2.2.on hb3⟩) ?_;clear hK hH;intro hH;clear K;clear hf3 hb3;have hfd:∀ W:World,(Instr.field 36 (.agg #[.int .i64 p.st.clock,.int .i64 p.st.next,.slice b3 p.st.fams.length c3]) 0).run Tryz.prog W=.ok (.int .i64 p.st.clock) W:=fun _=>by kernel_rfl
   refine RegD.T_ 2 (v:=.int .i64 p.st.clock) rfl (by kernel_rfl) (fun _ _ _ h=>h) (.inl ⟨by rfl,fun W hW=>by go_simp⟩) hH ?_
   simp only [Act.put,pS1,pS2,pS3];clear hfd;have HFE:Hid _:=hH.2.2.2;have HEN:Hid _:=show_end (f:=zeroF) hH.2.2.1 HFE.out (Nat.le_refl _);clear hH;refine RegD.L_ 5 rfl (by kernel_rfl) (by kernel_rfl) ?_; intro K hK; go_simp
   refine hK.out _ _ ?_;clear hK K;refine RegD.D_ (by kernel_rfl) ?_ _
   have z0:=HFE.out.c0; have z1:=HFE.out.c1; have z2:=HFE.out.c2; have z3:=HFE.out.c3; have z4:=HFE.out.c4; have z5:=HFE.out.c5; have z6:=HFE.out.c6; have z7:=HFE.out.c7; have z8:=HFE.out.c8; have zf:=HFE.out.fz;go_wp2_with fail
   generalize hWW:World.setCell _ ⟨w.heap.size,8,none⟩ _=WW;have hW2:w3.setCells w.heap.size 0 (famCs zeroF)=WW:=hWW;have hbe:=HEN.out.1;have hfe:=HEN.out.2;rw [hW2] at hbe hfe;have q0:=hfe.c0; have q1:=hfe.c1; have q2:=hfe.c2; have q3:=hfe.c3; have q4:=hfe.c4; have q5:=hfe.c5; have q6:=hfe.c6; have q7:=hfe.c7; have q8:=hfe.c8;clear hW2 hWW HEN z0 z1 z2 z3 z4 z5 z6 z7 z8 zf hfe;exact bodyPost_ret (v:=.tuple #[.agg #[.int .i64 0,.string ⟨#[]⟩,.string ⟨#[]⟩,.string ⟨#[]⟩,.int .i64 0,.int .i64 0,.int .i64 0,.string ⟨#[]⟩,.bool false],.iface 47 (.int .i64 10)]) (by simp [results,Tryz.results33,go_sem,q0,q1,q2,q3,q4,q5,q6,q7,q8,zeroF]) rfl ⟨by simp [famV,famCs,zeroF,errQ_succ],hbe⟩
  ·rw [if_neg hg]
   go_enter Tryz.func33,Tryz.ntmps33
   go_wp2_with fail
   refine hlk.mono ?_;rintro e2 w1 ⟨rfl,hb2⟩;rw [show errQ 0=.nilIface from rfl]
   have HX:Hid _:=fin w1 hb2;clear hlk hb2 fin;go_upto_region 4 with fail
   generalize hWW:((w1.alloc (.cells #[.int .i64 tk,.int .i64 tf,.int .i64 tg,.int .i64 te] 142)).alloc (.cells #[.int .i64 f1,.string f2,.string f3,.string f4,.int .i64 f5,.int .i64 f6,.int .i64 f7,.string f8,.bool f9] 40))=W3 at *;clear hWW;generalize w1.heap.size=gq at *;refine RegD.R_ (fun W=>TB W gq ⟨tk,tf,tg,te⟩∧SvIs N W gv gs gd r p v∧Below w.heap.size w W∧FB W w.heap.size zeroF∧FB W (gq+1) ⟨f1,f2,f3,f4,f5,f6,f7,f8,f9⟩) 5 (by kernel_rfl) (⟨HX.out.2.2.1.on (Below.refl _ _).drew,HX.out.2.1.on (Below.refl _ _).drew,HX.out.1.drew,HX.out.2.2.2.2.on (Below.refl _ _).drew,HX.out.2.2.2.1.on (Below.refl _ _).drew⟩) (fun hH=>?_)
   refine RegD.T_ 0 (v:=.pointer (some ⟨gv,0,none⟩)) rfl (by kernel_rfl) (fun _ _ _ h=>h) (.inl ⟨by rfl,fun W hW=>by go_simp⟩) hH ?_
   simp only [Act.put,pS1,pS2,pS3];refine RegD.T_ 3 (v:=.pointer (some ⟨gq,3,none⟩)) rfl (by kernel_rfl) (fun _ _ _ h=>h) (.inl ⟨by rfl,fun W hW=>by go_simp⟩) hH ?_
   simp only [Act.put,pS1,pS2,pS3];refine RegD.T_ 4 (v:=.int .i64 te) rfl (by kernel_rfl) (fun _ _ _ h=>h) (.inl ⟨by rfl,fun W hW=>by have a0:=hW.1.c3; go_simp⟩) hH ?_
   simp only [Act.put,pS1,pS2,pS3];refine RegD.O_ 1 rfl (by kernel_rfl) ?_; intro K hK; go_simp
   go_at_call 43
   refine (svState_is N _ gv gs gd r p v hH.2.1).mono ?_;rintro e3 w3 ⟨v3,rfl,hf3,hb3⟩;obtain ⟨b3,c3,rfl⟩:=RowsK.slice hf3;unfold stV;go_wp2_with fail
   refine hK.out _ _ (⟨hH.1.on hb3,hH.2.1.on hb3,hH.2.2.1.trans (hb3.mono hH.2.2.1.size),hH.2.2.2.1.on hb3,hH.2.2.2.2.on hb3⟩) ?_;clear hK hH;intro hH;clear K;clear hf3 hb3;have hfd:∀ W:World,(Instr.field 36 (.agg #[.int .i64 p.st.clock,.int .i64 p.st.next,.slice b3 p.st.fams.length c3]) 0).run Tryz.prog W=.ok (.int .i64 p.st.clock) W:=fun _=>by kernel_rfl
   refine RegD.T_ 2 (v:=.int .i64 p.st.clock) rfl (by kernel_rfl) (fun _ _ _ h=>h) (.inl ⟨by rfl,fun W hW=>by go_simp⟩) hH ?_
   simp only [Act.put,pS1,pS2,pS3];clear hfd;have HFE:Hid _:=hH.2.2.2.1;have d0:=hH.2.2.2.2.c0; have d1:=hH.2.2.2.2.c1; have d2:=hH.2.2.2.2.c2; have d3:=hH.2.2.2.2.c3; have d4:=hH.2.2.2.2.c4; have d5:=hH.2.2.2.2.c5; have d6:=hH.2.2.2.2.c6; have d7:=hH.2.2.2.2.c7; have d8:=hH.2.2.2.2.c8;simp only at d0 d1 d2 d3 d4 d5 d6 d7 d8;have HEN:Hid _:=show_end (f:=⟨f1,f2,f3,f4,f5,f6,f7,f8,f9⟩) hH.2.2.1 HFE.out (Nat.le_refl _);clear hH;refine RegD.L_ 5 rfl (by kernel_rfl) (by kernel_rfl) ?_; intro K hK; go_simp
   refine hK.out _ _ ?_;clear hK K;refine RegD.D_ (by kernel_rfl) ?_ _
   have z0:=HFE.out.c0; have z1:=HFE.out.c1; have z2:=HFE.out.c2; have z3:=HFE.out.c3; have z4:=HFE.out.c4; have z5:=HFE.out.c5; have z6:=HFE.out.c6; have z7:=HFE.out.c7; have z8:=HFE.out.c8; have zf:=HFE.out.fz;go_wp2_with fail
   generalize hWW:World.setCell _ ⟨w.heap.size,8,none⟩ _=WW;have hW2:w3.setCells w.heap.size 0 (famCs ⟨f1,f2,f3,f4,f5,f6,f7,f8,f9⟩)=WW:=hWW;have hbe:=HEN.out.1;have hfe:=HEN.out.2;rw [hW2] at hbe hfe;have q0:=hfe.c0; have q1:=hfe.c1; have q2:=hfe.c2; have q3:=hfe.c3; have q4:=hfe.c4; have q5:=hfe.c5; have q6:=hfe.c6; have q7:=hfe.c7; have q8:=hfe.c8;clear hW2 hWW HEN z0 z1 z2 z3 z4 z5 z6 z7 z8 zf hfe d0 d1 d2 d3 d4 d5 d6 d7 d8;exact bodyPost_ret (v:=.tuple #[.agg #[.int .i64 f1,.string f2,.string f3,.string f4,.int .i64 f5,.int .i64 f6,.int .i64 f7,.string f8,.bool f9],.nilIface]) (by simp [results,Tryz.results33,go_sem,q0,q1,q2,q3,q4,q5,q6,q7,q8]) rfl ⟨by simp [famV,famCs,errQ],hbe⟩
end Go.Proofs.YtlailakofhenkabGreatDoor
namespace Go.Proofs.YtlailakofhenkabGreatDoor.Ev
open Go.Lib Tok Sc
end Go.Proofs.YtlailakofhenkabGreatDoor.Ev
namespace Go.Proofs.YtlailakofhenkabGreatDoor
open Go Go.RowKit Tok Sc Ev
theorem grant_is (N:Nat) (w:World) (gv gs gd:Nat) (r:Rul) (p:Pub) (v:Value) (client subject sc:ByteArray) (l:List Word) (m:Nat) (h:SvIs N w gv gs gd r p v) (hcl:client.size≤5000) (hsu:subject.size≤5000) (hsc:sc.size≤5000) (ho:Sc.Out sc.data.toList l m) (hN:N<98000) :
 Calls Tryz.prog 27 #[.pointer (some ⟨gv,0,none⟩),.string client,.string subject,.string sc] w fun e w'=>e=.returned (.tuple #[.string (grantM (txtB r) p (nameB client.data.toList && nameB subject.data.toList) client subject ⟨(joined l).toArray⟩ m).2.1,errQ (grantM (txtB r) p (nameB client.data.toList && nameB subject.data.toList) client subject ⟨(joined l).toArray⟩ m).2.2])∧∃ v',SPto N gs gd v w w' (grantM (txtB r) p (nameB client.data.toList && nameB subject.data.toList) client subject ⟨(joined l).toArray⟩ m).1 v':=by
 have HS:Hid (SvIs N w gv gs gd r p v):=h;have hn1:=fun (W:World)=>name_is client W (by omega)
 have hn2:=fun (W:World)=>name_is subject W (by omega)
 have HLE:Hid (∀ W:World,LenOk W→Calls Tryz.prog 71 #[.string sc] W fun e w'=>e=.returned (.tuple #[.string ⟨(joined l).toArray⟩,errQ m])∧Below W.heap.size W w'):=fun W hW=>least_at sc l m ho W hsc hW
 have HGI:Hid (nameB client.data.toList=true→nameB subject.data.toList=true→m=0→¬ 1099511627776<p.st.next→∀ (W:World),SvIs N W gv gs gd r p v→Calls Tryz.prog 72 #[.pointer (some ⟨gv,0,none⟩),famV (newF p.st client subject ⟨(joined l).toArray⟩)] W fun e w'=>e=.returned (.tuple #[.string (giveM (txtB r) p (newF p.st client subject ⟨(joined l).toArray⟩)).2.1,errQ (giveM (txtB r) p (newF p.st client subject ⟨(joined l).toArray⟩)).2.2])∧∃ v',SPto N gs gd v W w' (giveM (txtB r) p (newF p.st client subject ⟨(joined l).toArray⟩)).1 v'):=fun h1 h2 hm hx W hW=>by subst hm; exact give_is N W gv gs gd r p v _ hW (may_new h.sp.ok.good hx h1 h2 (lst_joined ho)) hN
 have hl20:(p.st.fams.length:Int)≤20:=by have:=h.sp.ok.good.len; omega
 generalize (⟨(joined l).toArray⟩:ByteArray)=J at *;clear h ho hcl hsu hsc;unfold grantM
 cases h1:nameB client.data.toList with
 |false=>
  rw [h1] at hn1;rw [if_pos (by rfl)]
  clear h1;go_enter Tryz.func27,Tryz.ntmps27
  go_wp2_with fail
  refine (hn1 _).mono ?_;rintro e1 w1 ⟨rfl,hw⟩;obtain rfl:w=w1:=hw.symm;go_wp2_with fail
  go_ret2;exact ⟨rfl,_,SPto.same HS.out.sp (Below.refl _ _)⟩
 |true=>
  rw [h1] at hn1 HGI
  cases h2:nameB subject.data.toList with
  |false=>
   rw [h2] at hn2;rw [if_pos (by rfl)]
   clear h1 h2;go_enter Tryz.func27,Tryz.ntmps27
   go_wp2_with fail
   refine (hn1 _).mono ?_;rintro e1 w1 ⟨rfl,hw⟩;obtain rfl:w=w1:=hw.symm;go_wp2_with fail
   refine (hn2 _).mono ?_;rintro e1 w1 ⟨rfl,hw⟩;obtain rfl:w=w1:=hw.symm;go_wp2_with fail
   go_ret2;exact ⟨rfl,_,SPto.same HS.out.sp (Below.refl _ _)⟩
  |true=>
   rw [h2] at hn2 HGI;rw [if_neg (by simp)]
   clear h1 h2
   cases m with
   |succ m=>
    rw [if_pos (by omega)]
    go_enter Tryz.func27,Tryz.ntmps27
    go_wp2_with fail
    refine (hn1 _).mono ?_;rintro e1 w1 ⟨rfl,hw⟩;obtain rfl:w=w1:=hw.symm;go_wp2_with fail
    refine (hn2 _).mono ?_;rintro e1 w1 ⟨rfl,hw⟩;obtain rfl:w=w1:=hw.symm;go_wp2_with fail
    refine (HLE.out _ HS.out.sp.libs.base.len).mono ?_;rintro e2 w2 ⟨rfl,hb2⟩;have HT2:Hid _:=SPto.same (N:=N) HS.out.sp hb2;clear hb2;rw [errQ_succ];go_wp2_with fail
    go_ret2;exact ⟨rfl,_,HT2.out⟩
   |zero=>
    rw [if_neg (by omega)]
    by_cases hx:1099511627776<p.st.next
    ·rw [if_pos hx]
     go_enter Tryz.func27,Tryz.ntmps27
     go_wp2_with fail
     refine (hn1 _).mono ?_;rintro e1 w1 ⟨rfl,hw⟩;obtain rfl:w=w1:=hw.symm;go_wp2_with fail
     refine (hn2 _).mono ?_;rintro e1 w1 ⟨rfl,hw⟩;obtain rfl:w=w1:=hw.symm;go_wp2_with fail
     refine (HLE.out _ HS.out.sp.libs.base.len).mono ?_;rintro e2 w2 ⟨rfl,hb2⟩;have HS2:Hid _:=HS.out.on hb2;have HB2:Hid (Below w.heap.size w w2):=hb2;rw [show errQ 0=.nilIface from rfl]
     clear hb2;go_wp2_with fail
     refine (svState_is N _ gv gs gd r p v HS2.out).mono ?_;rintro e3 w3 ⟨v3,rfl,hf3,hb3⟩;obtain ⟨b3,c3,rfl⟩:=RowsK.slice hf3;unfold stV;have hb4:Below w3.heap.size w3 (w3.alloc (.cells #[.int .i64 p.st.clock,.int .i64 p.st.next,.slice b3 p.st.fams.length c3] 36)):=(Below.refl _ _).alloc (Nat.le_refl _) _;have HS4:Hid (SvIs N (w3.alloc (.cells #[.int .i64 p.st.clock,.int .i64 p.st.next,.slice b3 p.st.fams.length c3] 36)) gv gs gd r p v):=(HS2.out.on hb3).on hb4;have HB3:Hid (Below w.heap.size w (w3.alloc (.cells #[.int .i64 p.st.clock,.int .i64 p.st.next,.slice b3 p.st.fams.length c3] 36))):=(HB2.out.trans (hb3.mono HB2.out.size)).trans (hb4.mono (Nat.le_trans HB2.out.size hb3.size))
     have s0:(w3.alloc (.cells #[.int .i64 p.st.clock,.int .i64 p.st.next,.slice b3 p.st.fams.length c3] 36)).cell? ⟨w3.heap.size,0,none⟩=some (.int .i64 p.st.clock):=(World.cell?_alloc_at _ _ _ _ rfl).trans rfl;have s1:(w3.alloc (.cells #[.int .i64 p.st.clock,.int .i64 p.st.next,.slice b3 p.st.fams.length c3] 36)).cell? ⟨w3.heap.size,1,none⟩=some (.int .i64 p.st.next):=(World.cell?_alloc_at _ _ _ _ rfl).trans rfl;have s2:(w3.alloc (.cells #[.int .i64 p.st.clock,.int .i64 p.st.next,.slice b3 p.st.fams.length c3] 36)).cell? ⟨w3.heap.size,2,none⟩=some (.slice b3 p.st.fams.length c3):=(World.cell?_alloc_at _ _ _ _ rfl).trans rfl;clear hb3 hb4 hf3;go_wp2_with fail
     go_ret2;exact ⟨rfl,_,SPto.same HS.out.sp HB3.out⟩
    ·rw [if_neg hx]
     by_cases hy:20≤p.st.fams.length
     ·rw [if_pos hy]
      have hyI:(20:Int)≤(p.st.fams.length:Int):=by omega
      go_enter Tryz.func27,Tryz.ntmps27
      go_wp2_with fail
      refine (hn1 _).mono ?_;rintro e1 w1 ⟨rfl,hw⟩;obtain rfl:w=w1:=hw.symm;go_wp2_with fail
      refine (hn2 _).mono ?_;rintro e1 w1 ⟨rfl,hw⟩;obtain rfl:w=w1:=hw.symm;go_wp2_with fail
      refine (HLE.out _ HS.out.sp.libs.base.len).mono ?_;rintro e2 w2 ⟨rfl,hb2⟩;have HS2:Hid _:=HS.out.on hb2;have HB2:Hid (Below w.heap.size w w2):=hb2;rw [show errQ 0=.nilIface from rfl]
      clear hb2;go_wp2_with fail
      refine (svState_is N _ gv gs gd r p v HS2.out).mono ?_;rintro e3 w3 ⟨v3,rfl,hf3,hb3⟩;obtain ⟨b3,c3,rfl⟩:=RowsK.slice hf3;unfold stV;have hb4:Below w3.heap.size w3 (w3.alloc (.cells #[.int .i64 p.st.clock,.int .i64 p.st.next,.slice b3 p.st.fams.length c3] 36)):=(Below.refl _ _).alloc (Nat.le_refl _) _;have HS4:Hid (SvIs N (w3.alloc (.cells #[.int .i64 p.st.clock,.int .i64 p.st.next,.slice b3 p.st.fams.length c3] 36)) gv gs gd r p v):=(HS2.out.on hb3).on hb4;have HB3:Hid (Below w.heap.size w (w3.alloc (.cells #[.int .i64 p.st.clock,.int .i64 p.st.next,.slice b3 p.st.fams.length c3] 36))):=(HB2.out.trans (hb3.mono HB2.out.size)).trans (hb4.mono (Nat.le_trans HB2.out.size hb3.size))
      have s0:(w3.alloc (.cells #[.int .i64 p.st.clock,.int .i64 p.st.next,.slice b3 p.st.fams.length c3] 36)).cell? ⟨w3.heap.size,0,none⟩=some (.int .i64 p.st.clock):=(World.cell?_alloc_at _ _ _ _ rfl).trans rfl;have s1:(w3.alloc (.cells #[.int .i64 p.st.clock,.int .i64 p.st.next,.slice b3 p.st.fams.length c3] 36)).cell? ⟨w3.heap.size,1,none⟩=some (.int .i64 p.st.next):=(World.cell?_alloc_at _ _ _ _ rfl).trans rfl;have s2:(w3.alloc (.cells #[.int .i64 p.st.clock,.int .i64 p.st.next,.slice b3 p.st.fams.length c3] 36)).cell? ⟨w3.heap.size,2,none⟩=some (.slice b3 p.st.fams.length c3):=(World.cell?_alloc_at _ _ _ _ rfl).trans rfl;clear hb3 hb4 hf3;go_wp2_with fail
      go_ret2;exact ⟨rfl,_,SPto.same HS.out.sp HB3.out⟩
     ·rw [if_neg hy]
      have hyI:¬ (20:Int)≤(p.st.fams.length:Int):=by omega
      have hgi:=HGI.out (by trivial) (by trivial) (by trivial) hx
      have HGI2:Hid _:=hgi;generalize giveM (txtB r) p (newF p.st client subject J)=Q at *;have hgj:=HGI2.out;unfold newF famV famCs noT at hgj;simp only at hgj;have HGI3:Hid _:=hgj;clear hgi hgj HGI2 HGI;go_enter Tryz.func27,Tryz.ntmps27
      go_wp2_with fail
      refine (hn1 _).mono ?_;rintro e1 w1 ⟨rfl,hw⟩;obtain rfl:w=w1:=hw.symm;go_wp2_with fail
      refine (hn2 _).mono ?_;rintro e1 w1 ⟨rfl,hw⟩;obtain rfl:w=w1:=hw.symm;go_wp2_with fail
      refine (HLE.out _ HS.out.sp.libs.base.len).mono ?_;rintro e2 w2 ⟨rfl,hb2⟩;have HS2:Hid _:=HS.out.on hb2;have HB2:Hid (Below w.heap.size w w2):=hb2;rw [show errQ 0=.nilIface from rfl]
      clear hb2;go_wp2_with fail
      refine (svState_is N _ gv gs gd r p v HS2.out).mono ?_;rintro e3 w3 ⟨v3,rfl,hf3,hb3⟩;obtain ⟨b3,c3,rfl⟩:=RowsK.slice hf3;unfold stV;have hb4:Below w3.heap.size w3 (w3.alloc (.cells #[.int .i64 p.st.clock,.int .i64 p.st.next,.slice b3 p.st.fams.length c3] 36)):=(Below.refl _ _).alloc (Nat.le_refl _) _;have HS4:Hid (SvIs N (w3.alloc (.cells #[.int .i64 p.st.clock,.int .i64 p.st.next,.slice b3 p.st.fams.length c3] 36)) gv gs gd r p v):=(HS2.out.on hb3).on hb4;have HB3:Hid (Below w.heap.size w (w3.alloc (.cells #[.int .i64 p.st.clock,.int .i64 p.st.next,.slice b3 p.st.fams.length c3] 36))):=(HB2.out.trans (hb3.mono HB2.out.size)).trans (hb4.mono (Nat.le_trans HB2.out.size hb3.size))
      have s0:(w3.alloc (.cells #[.int .i64 p.st.clock,.int .i64 p.st.next,.slice b3 p.st.fams.length c3] 36)).cell? ⟨w3.heap.size,0,none⟩=some (.int .i64 p.st.clock):=(World.cell?_alloc_at _ _ _ _ rfl).trans rfl;have s1:(w3.alloc (.cells #[.int .i64 p.st.clock,.int .i64 p.st.next,.slice b3 p.st.fams.length c3] 36)).cell? ⟨w3.heap.size,1,none⟩=some (.int .i64 p.st.next):=(World.cell?_alloc_at _ _ _ _ rfl).trans rfl;have s2:(w3.alloc (.cells #[.int .i64 p.st.clock,.int .i64 p.st.next,.slice b3 p.st.fams.length c3] 36)).cell? ⟨w3.heap.size,2,none⟩=some (.slice b3 p.st.fams.length c3):=(World.cell?_alloc_at _ _ _ _ rfl).trans rfl;clear hb3 hb4 hf3;go_wp2_with fail
      refine (HGI3.out _ HS4.out).mono ?_;rintro e5 w5 ⟨rfl,v5,hto⟩;have HTO:Hid _:=hto.pre HB3.out;clear hto;go_wp2_with fail
      go_ret2;exact ⟨rfl,_,HTO.out⟩
end Go.Proofs.YtlailakofhenkabGreatDoor
