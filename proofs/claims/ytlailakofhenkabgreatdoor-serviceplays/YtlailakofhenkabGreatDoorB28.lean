import Derived.Test.YtlailakofhenkabGreatDoorB27
import Derived.Lib.OwnBridge
set_option maxRecDepth 100000
set_option maxHeartbeats 8000000
namespace Go.Proofs.YtlailakofhenkabGreatDoor
open Go Go.RowKit Tok Sc Ev
theorem may_mint {s:St} {r:Rul} {f:Fam} (hf:mayF f) (hg:Ev.Good s) (hr:RulOk r):Tok.may ⟨2,f.id,f.gen,laterI s.clock r.access⟩:=⟨.inr ⟨rfl,later_ok hg.clock hr.access⟩,hf.1.1,hf.1.2.1⟩
theorem mint_is (N:Nat) (w:World) (gv gs gd:Nat) (r:Rul) (p:Pub) (v:Value) (text:ByteArray) (t:T) (n:Nat) (h:SvIs N w gv gs gd r p v) (ht:text.size≤5000) (hto:Tok.Out (tag r.key) text.data.toList t n) :
 Calls Tryz.prog 31 #[.pointer (some ⟨gv,0,none⟩),.string text] w fun x w'=>x=.returned (.tuple #[.string (mintM (txtB r) r p t n).1,errQ (mintM (txtB r) r p t n).2])∧Below w.heap.size w w':=by
 have HS:Hid (SvIs N w gv gs gd r p v):=h;have hlk:=look_is N w gv gs gd r p v text 1 t n (lookM r p.st 1 t n) h ht hto rfl;have HGD:Hid (Ev.Good p.st):=h.sp.ok.good;have HFM:Hid (lookM r p.st 1 t n=0→mayF (famM p.st t)):=fun he=>fam_may h.sp.ok.good (look_fam (look_ok he).1).2.2.1;clear h hto ht;unfold mintM;generalize lookM r p.st 1 t n=e at *;generalize famM p.st t=f at *
 cases e with
 |succ e=>
  rw [if_neg (by omega),if_neg (by omega)] at hlk
  rw [if_pos (by omega)]
  unfold tokV famV famCs zero zeroF at hlk;simp only at hlk;go_enter Tryz.func31,Tryz.ntmps31
  go_wp2_with fail
  refine hlk.mono ?_;rintro e2 w2 ⟨rfl,hb2⟩;have HB2:Hid (Below w.heap.size w w2):=hb2;rw [errQ_succ];clear hlk hb2;go_wp2_with fail
  go_ret2;refine ⟨rfl,?_⟩;repeat (first | exact HB2.out | refine Below.alloc ?_ (by have:=HB2.out.size; simp; try omega) _)
 |zero=>
  rw [if_pos rfl,if_pos rfl] at hlk;rw [if_neg (by omega)]
  have HF:Hid (mayF f):=HFM.out (by trivial)
  have HWT:Hid (∀ W:World,SvIs N W gv gs gd r p v→Calls Tryz.prog 81 #[.int .i64 r.key,.agg #[.int .i64 2,.int .i64 f.id,.int .i64 f.gen,.int .i64 (laterI p.st.clock r.access)]] W fun e w'=>e=.returned (.tuple #[.string (txtB r ⟨2,f.id,f.gen,laterI p.st.clock r.access⟩),.nilIface])∧Below W.heap.size W w'):=fun W hW=>writeP_yes r.key ⟨2,f.id,f.gen,laterI p.st.clock r.access⟩ W (may_mint HF.out HGD.out hW.rul) hW.libs.base;obtain ⟨tk,tf,tg,te⟩:=t;obtain ⟨f1,f2,f3,f4,f5,f6,f7,f8,f9⟩:=f;simp only at HWT ⊢;unfold tokV famV famCs at hlk;simp only at hlk
  have fin:∀ (w1:World) (hb2:Below w.heap.size w w1),Below w.heap.size w ((w1.alloc (.cells #[.int .i64 tk,.int .i64 tf,.int .i64 tg,.int .i64 te] 142)).alloc (.cells #[.int .i64 f1,.string f2,.string f3,.string f4,.int .i64 f5,.int .i64 f6,.int .i64 f7,.string f8,.bool f9] 40))∧SvIs N ((w1.alloc (.cells #[.int .i64 tk,.int .i64 tf,.int .i64 tg,.int .i64 te] 142)).alloc (.cells #[.int .i64 f1,.string f2,.string f3,.string f4,.int .i64 f5,.int .i64 f6,.int .i64 f7,.string f8,.bool f9] 40)) gv gs gd r p v∧TB ((w1.alloc (.cells #[.int .i64 tk,.int .i64 tf,.int .i64 tg,.int .i64 te] 142)).alloc (.cells #[.int .i64 f1,.string f2,.string f3,.string f4,.int .i64 f5,.int .i64 f6,.int .i64 f7,.string f8,.bool f9] 40)) w1.heap.size ⟨tk,tf,tg,te⟩∧FB ((w1.alloc (.cells #[.int .i64 tk,.int .i64 tf,.int .i64 tg,.int .i64 te] 142)).alloc (.cells #[.int .i64 f1,.string f2,.string f3,.string f4,.int .i64 f5,.int .i64 f6,.int .i64 f7,.string f8,.bool f9] 40)) (w1.heap.size+1) ⟨f1,f2,f3,f4,f5,f6,f7,f8,f9⟩:=fun w1 hb2=>by
   have hb3:Below w1.heap.size w1 ((w1.alloc (.cells #[.int .i64 tk,.int .i64 tf,.int .i64 tg,.int .i64 te] 142)).alloc (.cells #[.int .i64 f1,.string f2,.string f3,.string f4,.int .i64 f5,.int .i64 f6,.int .i64 f7,.string f8,.bool f9] 40)):=((Below.refl _ _).alloc (Nat.le_refl _) _).alloc (by simp) _
   have hsz:(w1.alloc (.cells #[.int .i64 tk,.int .i64 tf,.int .i64 tg,.int .i64 te] 142)).heap.size=w1.heap.size+1:=by simp
   exact ⟨hb2.trans (hb3.mono hb2.size),(HS.out.on hb2).on hb3,(TB.made w1 ⟨tk,tf,tg,te⟩ _).on ((Below.refl _ _).alloc (Nat.le_refl _) _),by rw [← hsz]; exact FB.made _ ⟨f1,f2,f3,f4,f5,f6,f7,f8,f9⟩ _⟩
  by_cases hg:tg<f5
  ·rw [if_pos hg]
   go_enter Tryz.func31,Tryz.ntmps31
   go_wp2_with fail
   refine hlk.mono ?_;rintro e2 w1 ⟨rfl,hb2⟩;rw [show errQ 0=.nilIface from rfl]
   have HX:Hid _:=fin w1 hb2;clear hlk hb2 fin;go_upto_region 4 with fail
   have t2:=HX.out.2.2.1.c2;have z4:=HX.out.2.2.2.c4;simp only at t2 z4;have HB3:Hid _:=HX.out.1;clear HX HWT;generalize hWW:((w1.alloc (.cells #[.int .i64 tk,.int .i64 tf,.int .i64 tg,.int .i64 te] 142)).alloc (.cells #[.int .i64 f1,.string f2,.string f3,.string f4,.int .i64 f5,.int .i64 f6,.int .i64 f7,.string f8,.bool f9] 40))=W3 at *;clear hWW;generalize w1.heap.size=gq at *;go_wp2_with fail
   go_ret2;exact ⟨rfl,HB3.out⟩
  ·rw [if_neg hg]
   go_enter Tryz.func31,Tryz.ntmps31
   go_wp2_with fail
   refine hlk.mono ?_;rintro e2 w1 ⟨rfl,hb2⟩;rw [show errQ 0=.nilIface from rfl]
   have HX:Hid _:=fin w1 hb2;clear hlk hb2 fin;go_upto_region 4 with fail
   have t2:=HX.out.2.2.1.c2;have z4:=HX.out.2.2.2.c4;simp only at t2 z4;generalize hWW:((w1.alloc (.cells #[.int .i64 tk,.int .i64 tf,.int .i64 tg,.int .i64 te] 142)).alloc (.cells #[.int .i64 f1,.string f2,.string f3,.string f4,.int .i64 f5,.int .i64 f6,.int .i64 f7,.string f8,.bool f9] 40))=W3 at *;clear hWW;generalize w1.heap.size=gq at *;go_upto_region 6 with fail
   have HB3:Hid _:=HX.out.1;clear t2 z4;refine RegD.R_ (fun W=>FB W (gq+1) ⟨f1,f2,f3,f4,f5,f6,f7,f8,f9⟩∧SvIs N W gv gs gd r p v∧Below w.heap.size w W) 22 (by kernel_rfl) (⟨HX.out.2.2.2.on (Below.refl _ _).drew,HX.out.2.1.on (Below.refl _ _).drew,HX.out.1.drew⟩) (fun hH=>?_)
   refine RegD.T_ 0 (v:=.pointer (some ⟨gv,0,none⟩)) rfl (by kernel_rfl) (fun _ _ _ h=>h) (.inl ⟨by rfl,fun W hW=>by go_simp⟩) hH ?_
   simp only [Act.put,pS1,pS2,pS3];refine RegD.T_ 1 (v:=.pointer (some ⟨gv,0,none⟩)) rfl (by kernel_rfl) (fun _ _ _ h=>h) (.inl ⟨by rfl,fun W hW=>by go_simp⟩) hH ?_
   simp only [Act.put,pS1,pS2,pS3];refine RegD.T_ 2 (v:=.pointer (some ⟨gv,1,none⟩)) rfl (by kernel_rfl) (fun _ _ _ h=>h) (.inl ⟨by rfl,fun W hW=>by go_simp⟩) hH ?_
   simp only [Act.put,pS1,pS2,pS3];refine RegD.T_ 3 (v:=.pointer (some ⟨gv,1,none⟩)) rfl (by kernel_rfl) (fun _ _ _ h=>h) (.inl ⟨by rfl,fun W hW=>by go_simp⟩) hH ?_
   simp only [Act.put,pS1,pS2,pS3];refine RegD.T_ 4 (v:=.int .i64 r.key) rfl (by kernel_rfl) (fun _ _ _ h=>h) (.inl ⟨by rfl,fun W hW=>by have a0:=hW.2.1.box.c1; go_simp⟩) hH ?_
   simp only [Act.put,pS1,pS2,pS3];refine RegD.T_ 5 (v:=.pointer (some ⟨gq+1,0,none⟩)) rfl (by kernel_rfl) (fun _ _ _ h=>h) (.inl ⟨by rfl,fun W hW=>by go_simp⟩) hH ?_
   simp only [Act.put,pS1,pS2,pS3];refine RegD.T_ 6 (v:=.int .i64 f1) rfl (by kernel_rfl) (fun _ _ _ h=>h) (.inl ⟨by rfl,fun W hW=>by have a0:=hW.1.c0; go_simp⟩) hH ?_
   simp only [Act.put,pS1,pS2,pS3];refine RegD.T_ 7 (v:=.pointer (some ⟨gq+1,4,none⟩)) rfl (by kernel_rfl) (fun _ _ _ h=>h) (.inl ⟨by rfl,fun W hW=>by go_simp⟩) hH ?_
   simp only [Act.put,pS1,pS2,pS3];refine RegD.T_ 8 (v:=.int .i64 f5) rfl (by kernel_rfl) (fun _ _ _ h=>h) (.inl ⟨by rfl,fun W hW=>by have a0:=hW.1.c4; go_simp⟩) hH ?_
   simp only [Act.put,pS1,pS2,pS3];refine RegD.T_ 9 (v:=.pointer (some ⟨gv,0,none⟩)) rfl (by kernel_rfl) (fun _ _ _ h=>h) (.inl ⟨by rfl,fun W hW=>by go_simp⟩) hH ?_
   simp only [Act.put,pS1,pS2,pS3];refine RegD.T_ 12 (v:=.pointer (some ⟨gv,0,none⟩)) rfl (by kernel_rfl) (fun _ _ _ h=>h) (.inl ⟨by rfl,fun W hW=>by go_simp⟩) hH ?_
   simp only [Act.put,pS1,pS2,pS3];refine RegD.T_ 13 (v:=.pointer (some ⟨gv,0,none⟩)) rfl (by kernel_rfl) (fun _ _ _ h=>h) (.inl ⟨by rfl,fun W hW=>by go_simp⟩) hH ?_
   simp only [Act.put,pS1,pS2,pS3];refine RegD.T_ 14 (v:=.pointer (some ⟨gv,1,none⟩)) rfl (by kernel_rfl) (fun _ _ _ h=>h) (.inl ⟨by rfl,fun W hW=>by go_simp⟩) hH ?_
   simp only [Act.put,pS1,pS2,pS3];refine RegD.T_ 15 (v:=.pointer (some ⟨gv,4,none⟩)) rfl (by kernel_rfl) (fun _ _ _ h=>h) (.inl ⟨by rfl,fun W hW=>by go_simp⟩) hH ?_
   simp only [Act.put,pS1,pS2,pS3];refine RegD.T_ 16 (v:=.int .i64 r.access) rfl (by kernel_rfl) (fun _ _ _ h=>h) (.inl ⟨by rfl,fun W hW=>by have a0:=hW.2.1.box.c4; go_simp⟩) hH ?_
   simp only [Act.put,pS1,pS2,pS3];refine RegD.O_ 10 rfl (by kernel_rfl) ?_; intro K hK; go_simp
   go_at_call 43
   refine (svState_is N _ gv gs gd r p v hH.2.1).mono ?_;rintro e3 w3 ⟨v3,rfl,hf3,hb3⟩;obtain ⟨b3,c3,rfl⟩:=RowsK.slice hf3;unfold stV;go_wp2_with fail
   refine hK.out _ _ (⟨hH.1.on hb3,hH.2.1.on hb3,hH.2.2.trans (hb3.mono hH.2.2.size)⟩) ?_;clear hK hH;intro hH;clear K;clear hf3 hb3;have hfd:∀ W:World,(Instr.field 36 (.agg #[.int .i64 p.st.clock,.int .i64 p.st.next,.slice b3 p.st.fams.length c3]) 0).run Tryz.prog W=.ok (.int .i64 p.st.clock) W:=fun _=>by kernel_rfl
   refine RegD.T_ 11 (v:=.int .i64 p.st.clock) rfl (by kernel_rfl) (fun _ _ _ h=>h) (.inl ⟨by rfl,fun W hW=>by go_simp⟩) hH ?_
   simp only [Act.put,pS1,pS2,pS3];clear hfd;refine RegD.O_ 17 rfl (by kernel_rfl) ?_; intro K hK; go_simp
   go_at_call 82
   refine (later_is _ _ HGD.out.clock hH.2.1.rul.access _).mono ?_;rintro e4 w4 ⟨rfl,rfl⟩;go_wp2_with fail
   refine hK.out _ _ (hH) ?_;clear hK hH;intro hH;clear K;refine RegD.T_ 18 (v:=.agg #[.int .i64 2,.int .i64 f1,.int .i64 f5,.int .i64 (laterI p.st.clock r.access)]) rfl (by kernel_rfl) (fun _ _ _ h=>h) (.inl ⟨by rfl,fun W hW=>by go_simp⟩) hH ?_
   simp only [Act.put,pS1,pS2,pS3];refine RegD.O_ 19 rfl (by kernel_rfl) ?_; intro K hK; go_simp
   go_at_call 81
   refine (HWT.out _ hH.2.1).mono ?_;rintro e5 w5 ⟨rfl,hb5⟩;go_wp2_with fail
   refine hK.out _ _ (⟨hH.1.on hb5,hH.2.1.on hb5,hH.2.2.trans (hb5.mono hH.2.2.size)⟩) ?_;clear hK hH;intro hH;clear K;clear hb5;refine RegD.T_ 20 (v:=.string (txtB r ⟨2,f1,f5,laterI p.st.clock r.access⟩)) rfl (by kernel_rfl) (fun _ _ _ h=>h) (.inl ⟨by rfl,fun W hW=>by go_simp⟩) hH ?_
   simp only [Act.put,pS1,pS2,pS3];refine RegD.T_ 21 (v:=.nilIface) rfl (by kernel_rfl) (fun _ _ _ h=>h) (.inl ⟨by rfl,fun W hW=>by go_simp⟩) hH ?_
   simp only [Act.put,pS1,pS2,pS3];have HBB:Hid _:=hH.2.2;clear hH;refine RegD.L_ 22 rfl (by kernel_rfl) (by kernel_rfl) ?_; intro K hK; go_simp
   refine hK.out _ _ ?_;clear hK K;refine RegD.L_ 23 rfl (by kernel_rfl) (by kernel_rfl) ?_; intro K hK; go_simp
   refine hK.out _ _ ?_;clear hK K;refine RegD.D_ (by kernel_rfl) ?_ _
   go_wp2_with fail
   go_ret2;exact ⟨rfl,HBB.out⟩
theorem show_end {w w1:World} {g:Nat} {f0 f:Fam} (hb:Below w.heap.size w w1) (h2:FB w1 g f0) (hg:w.heap.size≤g):Below w.heap.size w (w1.setCells g 0 (famCs f))∧FB (w1.setCells g 0 (famCs f)) g f:=⟨hb.trans (below_setCellsW hg _ 0 _),h2.set⟩
theorem show_is (N:Nat) (w:World) (gv gs gd:Nat) (r:Rul) (p:Pub) (v:Value) (text:ByteArray) (t:T) (n:Nat) (h:SvIs N w gv gs gd r p v) (ht:text.size≤5000) (hto:Tok.Out (tag r.key) text.data.toList t n) :
 Calls Tryz.prog 33 #[.pointer (some ⟨gv,0,none⟩),.string text] w fun x w'=>x=.returned (.tuple #[famV (showM r p t n).1,errQ (showM r p t n).2])∧Below w.heap.size w w':=by
 have HB0:Hid (Below w.heap.size w (w.alloc (.cells #[.int .i64 0,.string ⟨#[]⟩,.string ⟨#[]⟩,.string ⟨#[]⟩,.int .i64 0,.int .i64 0,.int .i64 0,.string ⟨#[]⟩,.bool false] 40))):=(Below.refl _ _).alloc (Nat.le_refl _) _;have HF0:Hid (FB (w.alloc (.cells #[.int .i64 0,.string ⟨#[]⟩,.string ⟨#[]⟩,.string ⟨#[]⟩,.int .i64 0,.int .i64 0,.int .i64 0,.string ⟨#[]⟩,.bool false] 40)) w.heap.size zeroF):=FB.made w zeroF _;have HS:Hid (SvIs N (w.alloc (.cells #[.int .i64 0,.string ⟨#[]⟩,.string ⟨#[]⟩,.string ⟨#[]⟩,.int .i64 0,.int .i64 0,.int .i64 0,.string ⟨#[]⟩,.bool false] 40)) gv gs gd r p v):=h.on HB0.out;have hlk:=look_is N _ gv gs gd r p v text 2 t n (lookM r p.st 2 t n) HS.out ht hto rfl;clear h hto ht;unfold showM;generalize lookM r p.st 2 t n=e at *;generalize famM p.st t=f at *
 cases e with
 |succ e=>
  rw [if_neg (by omega),if_neg (by omega)] at hlk
  rw [if_pos (by omega)]
  unfold tokV famV famCs zero zeroF at hlk;simp only at hlk;go_enter Tryz.func33,Tryz.ntmps33
  go_wp2_with fail
  refine hlk.mono ?_;rintro e2 w2 ⟨rfl,hb2⟩;rw [errQ_succ];have HBE:Hid (Below w.heap.size w ((w2.alloc (.cells #[.int .i64 0,.int .i64 0,.int .i64 0,.int .i64 0] 142)).alloc (.cells #[.int .i64 0,.string ⟨#[]⟩,.string ⟨#[]⟩,.string ⟨#[]⟩,.int .i64 0,.int .i64 0,.int .i64 0,.string ⟨#[]⟩,.bool false] 40))):=((HB0.out.trans (hb2.mono HB0.out.size)).alloc (Nat.le_trans HB0.out.size hb2.size) _).alloc (by have h1:=HB0.out.size; have h2:=hb2.size; simp at *; omega) _
  have HFE:Hid (FB ((w2.alloc (.cells #[.int .i64 0,.int .i64 0,.int .i64 0,.int .i64 0] 142)).alloc (.cells #[.int .i64 0,.string ⟨#[]⟩,.string ⟨#[]⟩,.string ⟨#[]⟩,.int .i64 0,.int .i64 0,.int .i64 0,.string ⟨#[]⟩,.bool false] 40)) w.heap.size zeroF):=(HF0.out.on hb2).on (((Below.refl _ _).alloc (Nat.le_refl _) _).alloc (by simp) _)
  have HEN:Hid _:=show_end (f:=zeroF) HBE.out HFE.out (Nat.le_refl _);have z0:=HFE.out.c0; have z1:=HFE.out.c1; have z2:=HFE.out.c2; have z3:=HFE.out.c3; have z4:=HFE.out.c4; have z5:=HFE.out.c5; have z6:=HFE.out.c6; have z7:=HFE.out.c7; have z8:=HFE.out.c8; have zf:=HFE.out.fz;clear hlk hb2;go_wp2_with fail
  generalize hWW:World.setCell _ ⟨w.heap.size,8,none⟩ _=WW;have hW2:((w2.alloc (.cells #[.int .i64 0,.int .i64 0,.int .i64 0,.int .i64 0] 142)).alloc (.cells #[.int .i64 0,.string ⟨#[]⟩,.string ⟨#[]⟩,.string ⟨#[]⟩,.int .i64 0,.int .i64 0,.int .i64 0,.string ⟨#[]⟩,.bool false] 40)).setCells w.heap.size 0 (famCs zeroF)=WW:=hWW;have hbe:=HEN.out.1;have hfe:=HEN.out.2;rw [hW2] at hbe hfe;have q0:=hfe.c0; have q1:=hfe.c1; have q2:=hfe.c2; have q3:=hfe.c3; have q4:=hfe.c4; have q5:=hfe.c5; have q6:=hfe.c6; have q7:=hfe.c7; have q8:=hfe.c8;clear hW2 hWW HEN z0 z1 z2 z3 z4 z5 z6 z7 z8 zf hfe
  exact bodyPost_ret (v:=.tuple #[.agg #[.int .i64 0,.string ⟨#[]⟩,.string ⟨#[]⟩,.string ⟨#[]⟩,.int .i64 0,.int .i64 0,.int .i64 0,.string ⟨#[]⟩,.bool false],.iface 47 (.int .i64 ((e+1:Nat):Int))]) (by simp [results,Tryz.results33,go_sem,q0,q1,q2,q3,q4,q5,q6,q7,q8,zeroF]) rfl ⟨by simp [famV,famCs,zeroF,errQ_succ],hbe⟩
 |zero=>
  rw [if_pos rfl,if_pos rfl] at hlk;rw [if_neg (by omega)]
  obtain ⟨tk,tf,tg,te⟩:=t;obtain ⟨f1,f2,f3,f4,f5,f6,f7,f8,f9⟩:=f;unfold tokV famV famCs at hlk;simp only at hlk
  have fin:∀ (w1:World) (hb2:Below (w.alloc (.cells #[.int .i64 0,.string ⟨#[]⟩,.string ⟨#[]⟩,.string ⟨#[]⟩,.int .i64 0,.int .i64 0,.int .i64 0,.string ⟨#[]⟩,.bool false] 40)).heap.size (w.alloc (.cells #[.int .i64 0,.string ⟨#[]⟩,.string ⟨#[]⟩,.string ⟨#[]⟩,.int .i64 0,.int .i64 0,.int .i64 0,.string ⟨#[]⟩,.bool false] 40)) w1),Below w.heap.size w ((w1.alloc (.cells #[.int .i64 tk,.int .i64 tf,.int .i64 tg,.int .i64 te] 142)).alloc (.cells #[.int .i64 f1,.string f2,.string f3,.string f4,.int .i64 f5,.int .i64 f6,.int .i64 f7,.string f8,.bool f9] 40))∧SvIs N ((w1.alloc (.cells #[.int .i64 tk,.int .i64 tf,.int .i64 tg,.int .i64 te] 142)).alloc (.cells #[.int .i64 f1,.string f2,.string f3,.string f4,.int .i64 f5,.int .i64 f6,.int .i64 f7,.string f8,.bool f9] 40)) gv gs gd r p v∧TB ((w1.alloc (.cells #[.int .i64 tk,.int .i64 tf,.int .i64 tg,.int .i64 te] 142)).alloc (.cells #[.int .i64 f1,.string f2,.string f3,.string f4,.int .i64 f5,.int .i64 f6,.int .i64 f7,.string f8,.bool f9] 40)) w1.heap.size ⟨tk,tf,tg,te⟩∧FB ((w1.alloc (.cells #[.int .i64 tk,.int .i64 tf,.int .i64 tg,.int .i64 te] 142)).alloc (.cells #[.int .i64 f1,.string f2,.string f3,.string f4,.int .i64 f5,.int .i64 f6,.int .i64 f7,.string f8,.bool f9] 40)) (w1.heap.size+1) ⟨f1,f2,f3,f4,f5,f6,f7,f8,f9⟩∧FB ((w1.alloc (.cells #[.int .i64 tk,.int .i64 tf,.int .i64 tg,.int .i64 te] 142)).alloc (.cells #[.int .i64 f1,.string f2,.string f3,.string f4,.int .i64 f5,.int .i64 f6,.int .i64 f7,.string f8,.bool f9] 40)) w.heap.size zeroF:=fun w1 hb2=>by
   have hb3:Below w1.heap.size w1 ((w1.alloc (.cells #[.int .i64 tk,.int .i64 tf,.int .i64 tg,.int .i64 te] 142)).alloc (.cells #[.int .i64 f1,.string f2,.string f3,.string f4,.int .i64 f5,.int .i64 f6,.int .i64 f7,.string f8,.bool f9] 40)):=((Below.refl _ _).alloc (Nat.le_refl _) _).alloc (by simp) _
   have hsz:(w1.alloc (.cells #[.int .i64 tk,.int .i64 tf,.int .i64 tg,.int .i64 te] 142)).heap.size=w1.heap.size+1:=by simp
   exact ⟨HB0.out.trans ((hb2.trans (hb3.mono hb2.size)).mono HB0.out.size),(HS.out.on hb2).on hb3,(TB.made w1 ⟨tk,tf,tg,te⟩ _).on ((Below.refl _ _).alloc (Nat.le_refl _) _),by rw [← hsz]; exact FB.made _ ⟨f1,f2,f3,f4,f5,f6,f7,f8,f9⟩ _,(HF0.out.on hb2).on hb3⟩
  have go:∀ (b:Bool),b=decide (te<p.st.clock)→True:=fun _ _=>trivial;clear go;by_cases hg:te<p.st.clock
  ·rw [if_pos hg]
   go_enter Tryz.func33,Tryz.ntmps33
   go_wp2_with fail
   refine hlk.mono ?_;rintro e2 w1 ⟨rfl,hb2⟩;rw [show errQ 0=.nilIface from rfl]
   have HX:Hid _:=fin w1 hb2;clear hlk hb2 fin;go_upto_region 4 with fail
   generalize hWW:((w1.alloc (.cells #[.int .i64 tk,.int .i64 tf,.int .i64 tg,.int .i64 te] 142)).alloc (.cells #[.int .i64 f1,.string f2,.string f3,.string f4,.int .i64 f5,.int .i64 f6,.int .i64 f7,.string f8,.bool f9] 40))=W3 at *;clear hWW;generalize w1.heap.size=gq at *;refine RegD.R_ (fun W=>TB W gq ⟨tk,tf,tg,te⟩∧SvIs N W gv gs gd r p v∧Below w.heap.size w W∧FB W w.heap.size zeroF) 5 (by kernel_rfl) (⟨HX.out.2.2.1.on (Below.refl _ _).drew,HX.out.2.1.on (Below.refl _ _).drew,HX.out.1.drew,HX.out.2.2.2.2.on (Below.refl _ _).drew⟩) (fun hH=>?_)
   refine RegD.T_ 0 (v:=.pointer (some ⟨gv,0,none⟩)) rfl (by kernel_rfl) (fun _ _ _ h=>h) (.inl ⟨by rfl,fun W hW=>by go_simp⟩) hH ?_
   simp only [Act.put,pS1,pS2,pS3];refine RegD.T_ 3 (v:=.pointer (some ⟨gq,3,none⟩)) rfl (by kernel_rfl) (fun _ _ _ h=>h) (.inl ⟨by rfl,fun W hW=>by go_simp⟩) hH ?_
   simp only [Act.put,pS1,pS2,pS3];refine RegD.T_ 4 (v:=.int .i64 te) rfl (by kernel_rfl) (fun _ _ _ h=>h) (.inl ⟨by rfl,fun W hW=>by have a0:=hW.1.c3; go_simp⟩) hH ?_
   simp only [Act.put,pS1,pS2,pS3];refine RegD.O_ 1 rfl (by kernel_rfl) ?_; intro K hK; go_simp
   go_at_call 43
   refine (svState_is N _ gv gs gd r p v hH.2.1).mono ?_;rintro e3 w3 ⟨v3,rfl,hf3,hb3⟩;obtain ⟨b3,c3,rfl⟩:=RowsK.slice hf3;unfold stV;go_wp2_with fail
   refine hK.out _ _ (⟨hH.1.on hb3,hH.2.1.on hb3,hH.2.2.1.trans (hb3.mono hH.2.2.1.size),hH.2.2.2.on hb3⟩) ?_;clear hK hH;intro hH;clear K;clear hf3 hb3;have hfd:∀ W:World,(Instr.field 36 (.agg #[.int .i64 p.st.clock,.int .i64 p.st.next,.slice b3 p.st.fams.length c3]) 0).run Tryz.prog W=.ok (.int .i64 p.st.clock) W:=fun _=>by kernel_rfl
   refine RegD.T_ 2 (v:=.int .i64 p.st.clock) rfl (by kernel_rfl) (fun _ _ _ h=>h) (.inl ⟨by rfl,fun W hW=>by go_simp⟩) hH ?_
   simp only [Act.put,pS1,pS2,pS3];clear hfd;have HFE:Hid _:=hH.2.2.2;have HEN:Hid _:=show_end (f:=zeroF) hH.2.2.1 HFE.out (Nat.le_refl _);clear hH;refine RegD.L_ 5 rfl (by kernel_rfl) (by kernel_rfl) ?_; intro K hK; go_simp
   refine hK.out _ _ ?_;clear hK K;refine RegD.D_ (by kernel_rfl) ?_ _
   have z0:=HFE.out.c0; have z1:=HFE.out.c1; have z2:=HFE.out.c2; have z3:=HFE.out.c3; have z4:=HFE.out.c4; have z5:=HFE.out.c5; have z6:=HFE.out.c6; have z7:=HFE.out.c7; have z8:=HFE.out.c8; have zf:=HFE.out.fz;go_wp2_with fail
   generalize hWW:World.setCell _ ⟨w.heap.size,8,none⟩ _=WW;have hW2:w3.setCells w.heap.size 0 (famCs zeroF)=WW:=hWW;have hbe:=HEN.out.1;have hfe:=HEN.out.2;rw [hW2] at hbe hfe;have q0:=hfe.c0; have q1:=hfe.c1; have q2:=hfe.c2; have q3:=hfe.c3; have q4:=hfe.c4; have q5:=hfe.c5; have q6:=hfe.c6; have q7:=hfe.c7; have q8:=hfe.c8;clear hW2 hWW HEN z0 z1 z2 z3 z4 z5 z6 z7 z8 zf hfe;exact bodyPost_ret (v:=.tuple #[.agg #[.int .i64 0,.string ⟨#[]⟩,.string ⟨#[]⟩,.string ⟨#[]⟩,.int .i64 0,.int .i64 0,.int .i64 0,.string ⟨#[]⟩,.bool false],.iface 47 (.int .i64 10)]) (by simp [results,Tryz.results33,go_sem,q0,q1,q2,q3,q4,q5,q6,q7,q8,zeroF]) rfl ⟨by simp [famV,famCs,zeroF,errQ_succ],hbe⟩
  ·rw [if_neg hg]
   go_enter Tryz.func33,Tryz.ntmps33
   go_wp2_with fail
   refine hlk.mono ?_;rintro e2 w1 ⟨rfl,hb2⟩;rw [show errQ 0=.nilIface from rfl]
   have HX:Hid _:=fin w1 hb2;clear hlk hb2 fin;go_upto_region 4 with fail
   generalize hWW:((w1.alloc (.cells #[.int .i64 tk,.int .i64 tf,.int .i64 tg,.int .i64 te] 142)).alloc (.cells #[.int .i64 f1,.string f2,.string f3,.string f4,.int .i64 f5,.int .i64 f6,.int .i64 f7,.string f8,.bool f9] 40))=W3 at *;clear hWW;generalize w1.heap.size=gq at *;refine RegD.R_ (fun W=>TB W gq ⟨tk,tf,tg,te⟩∧SvIs N W gv gs gd r p v∧Below w.heap.size w W∧FB W w.heap.size zeroF∧FB W (gq+1) ⟨f1,f2,f3,f4,f5,f6,f7,f8,f9⟩) 5 (by kernel_rfl) (⟨HX.out.2.2.1.on (Below.refl _ _).drew,HX.out.2.1.on (Below.refl _ _).drew,HX.out.1.drew,HX.out.2.2.2.2.on (Below.refl _ _).drew,HX.out.2.2.2.1.on (Below.refl _ _).drew⟩) (fun hH=>?_)
   refine RegD.T_ 0 (v:=.pointer (some ⟨gv,0,none⟩)) rfl (by kernel_rfl) (fun _ _ _ h=>h) (.inl ⟨by rfl,fun W hW=>by go_simp⟩) hH ?_
   simp only [Act.put,pS1,pS2,pS3];refine RegD.T_ 3 (v:=.pointer (some ⟨gq,3,none⟩)) rfl (by kernel_rfl) (fun _ _ _ h=>h) (.inl ⟨by rfl,fun W hW=>by go_simp⟩) hH ?_
   simp only [Act.put,pS1,pS2,pS3];refine RegD.T_ 4 (v:=.int .i64 te) rfl (by kernel_rfl) (fun _ _ _ h=>h) (.inl ⟨by rfl,fun W hW=>by have a0:=hW.1.c3; go_simp⟩) hH ?_
   simp only [Act.put,pS1,pS2,pS3];refine RegD.O_ 1 rfl (by kernel_rfl) ?_; intro K hK; go_simp
   go_at_call 43
   refine (svState_is N _ gv gs gd r p v hH.2.1).mono ?_;rintro e3 w3 ⟨v3,rfl,hf3,hb3⟩;obtain ⟨b3,c3,rfl⟩:=RowsK.slice hf3;unfold stV;go_wp2_with fail
   refine hK.out _ _ (⟨hH.1.on hb3,hH.2.1.on hb3,hH.2.2.1.trans (hb3.mono hH.2.2.1.size),hH.2.2.2.1.on hb3,hH.2.2.2.2.on hb3⟩) ?_;clear hK hH;intro hH;clear K;clear hf3 hb3;have hfd:∀ W:World,(Instr.field 36 (.agg #[.int .i64 p.st.clock,.int .i64 p.st.next,.slice b3 p.st.fams.length c3]) 0).run Tryz.prog W=.ok (.int .i64 p.st.clock) W:=fun _=>by kernel_rfl
   refine RegD.T_ 2 (v:=.int .i64 p.st.clock) rfl (by kernel_rfl) (fun _ _ _ h=>h) (.inl ⟨by rfl,fun W hW=>by go_simp⟩) hH ?_
   simp only [Act.put,pS1,pS2,pS3];clear hfd;have HFE:Hid _:=hH.2.2.2.1;have d0:=hH.2.2.2.2.c0; have d1:=hH.2.2.2.2.c1; have d2:=hH.2.2.2.2.c2; have d3:=hH.2.2.2.2.c3; have d4:=hH.2.2.2.2.c4; have d5:=hH.2.2.2.2.c5; have d6:=hH.2.2.2.2.c6; have d7:=hH.2.2.2.2.c7; have d8:=hH.2.2.2.2.c8;simp only at d0 d1 d2 d3 d4 d5 d6 d7 d8;have HEN:Hid _:=show_end (f:=⟨f1,f2,f3,f4,f5,f6,f7,f8,f9⟩) hH.2.2.1 HFE.out (Nat.le_refl _);clear hH;refine RegD.L_ 5 rfl (by kernel_rfl) (by kernel_rfl) ?_; intro K hK; go_simp
   refine hK.out _ _ ?_;clear hK K;refine RegD.D_ (by kernel_rfl) ?_ _
   have z0:=HFE.out.c0; have z1:=HFE.out.c1; have z2:=HFE.out.c2; have z3:=HFE.out.c3; have z4:=HFE.out.c4; have z5:=HFE.out.c5; have z6:=HFE.out.c6; have z7:=HFE.out.c7; have z8:=HFE.out.c8; have zf:=HFE.out.fz;go_wp2_with fail
   generalize hWW:World.setCell _ ⟨w.heap.size,8,none⟩ _=WW;have hW2:w3.setCells w.heap.size 0 (famCs ⟨f1,f2,f3,f4,f5,f6,f7,f8,f9⟩)=WW:=hWW;have hbe:=HEN.out.1;have hfe:=HEN.out.2;rw [hW2] at hbe hfe;have q0:=hfe.c0; have q1:=hfe.c1; have q2:=hfe.c2; have q3:=hfe.c3; have q4:=hfe.c4; have q5:=hfe.c5; have q6:=hfe.c6; have q7:=hfe.c7; have q8:=hfe.c8;clear hW2 hWW HEN z0 z1 z2 z3 z4 z5 z6 z7 z8 zf hfe d0 d1 d2 d3 d4 d5 d6 d7 d8;exact bodyPost_ret (v:=.tuple #[.agg #[.int .i64 f1,.string f2,.string f3,.string f4,.int .i64 f5,.int .i64 f6,.int .i64 f7,.string f8,.bool f9],.nilIface]) (by simp [results,Tryz.results33,go_sem,q0,q1,q2,q3,q4,q5,q6,q7,q8]) rfl ⟨by simp [famV,famCs,errQ],hbe⟩
end Go.Proofs.YtlailakofhenkabGreatDoor
set_option maxHeartbeats 2000000
namespace Go.Proofs.YtlailakofhenkabGreatDoor
open Go Go.RowKit Ev
def ltF (a b:Fam):Bool:=decide (a.id<b.id)
theorem swoF:Go.Sort.SWO ltF:=⟨fun x=>by simp [ltF],fun x y z h1 h2=>by simp [ltF] at *; omega,fun x y z h1 h2=>by simp [ltF] at *; omega⟩
theorem infoFS:∃ i,Tryz.prog.info? 34=some i∧i.desc=.slice 40:=by
 have h:(Tryz.prog.info? 34).map (·.desc)=some (.slice 40):=by kernel_rfl
 cases hi:Tryz.prog.info? 34 with
 |none=>rw [hi] at h; cases h
 |some i=>
  rw [hi] at h;exact ⟨i,rfl,by simpa using h⟩
theorem infoFTs:∃ i,Tryz.prog.info? 40=some i∧i.size=9∧i.hasPointers=true∧i.bytes=104:=by
 have h:(Tryz.prog.info? 40).map (fun i=>(i.size,i.hasPointers,i.bytes))=some (9,true,104):=by kernel_rfl
 cases hi:Tryz.prog.info? 40 with
 |none=>rw [hi] at h; cases h
 |some i=>
  rw [hi] at h;simp only [Option.map_some,Option.some.injEq,Prod.mk.injEq] at h;exact ⟨i,rfl,h.1,h.2.1,h.2.2⟩
theorem lessF (g c Bs size:Nat) (W:World) (G:Nat→Int) (hs:W.cell? ⟨Bs,0,none⟩=some (.slice (some ⟨g,0,none⟩) size c))
 (hc:∀ t,t<size→W.cell? ⟨g,t*9,none⟩=some (.int .i64 (G t))) (i j:Nat) (hi:i<size) (hj:j<size) :
 Calls Tryz.prog 220 #[.int .i64 i,.int .i64 j,.pointer (some ⟨Bs,0,none⟩)] W fun e w'=>e=.returned (.bool (decide (G i<G j)))∧∃ q,w'=W.drewN q:=by
 have ci:=hc i hi;have cj:=hc j hj;have mixed:=mixedF;have hiI:(i:Int)<(size:Int):=by omega
 have hjI:(j:Int)<(size:Int):=by omega
 clear hc;go_enter Tryz.func220,Tryz.ntmps220
 go_wp2_with fail
 go_region
 go_wp2_with fail
 go_ret;exact ⟨rfl,1,rfl⟩
def Asc (d:List Fam):Prop:=d.Pairwise (fun a b=>¬ b.id<a.id)
theorem swapK (n:Nat) (ie:TypeInfo) (h1:ie.hasPointers=true) (h2:ie.bytes=104):Lib.swapperK n ie 25=if n=0 then 1 else if n=1 then 2 else 9:=by
 unfold Lib.swapperK;rw [h1,h2];by_cases h0:n=0
 ·simp [h0]
 ·by_cases h1:n=1
  ·simp [h1]
  ·simp [h0,h1]
theorem famsCs_get (l:List Fam) (j:Nat) (hj:j<l.length*9):(famsCs l)[j]?=(famCs (l[j / 9]'(by omega)))[j % 9]?:=by
 have:=famsCs_at l (j / 9) (j % 9) (by omega) (Nat.mod_lt _ (by omega))
 rw [show j / 9*9+j % 9=j by omega] at this
 exact this
theorem swapExt:∀ args W,(callFunc 340 args).run Tryz.prog W=((Extern.ReflectliteSwapper.swap false args).run Tryz.prog W).andThen fun v w'=>.ok (.value v) w':=
 fun args W=>run_callFunc_extern Tryz.func340 (by kernel_rfl) (by kernel_rfl) (by kernel_rfl) (e:=Extern.ReflectliteSwapper.swap false) (by kernel_rfl) args W
theorem sort_fams {B:Nat} {w:World} {g c Bs:Nat} {l:List Fam} (hr:RowK 9 B w g c l.length (famsCs l)) (hn:l.length≤100000) (hs:w.cell? ⟨Bs,0,none⟩=some (.slice (some ⟨g,0,none⟩) l.length c)) (hg:Bs≠g) :
 Calls Tryz.prog 219 #[.iface 34 (.slice (some ⟨g,0,none⟩) l.length c),.func (.func 220) #[] #[.pointer (some ⟨Bs,0,none⟩)]] w fun e w'=>e=.returned (.tuple #[])∧∃ d:List Fam,d.Perm l∧Asc d∧RowK 9 B w' g c d.length (famsCs d)∧Below B w w':=by
 haveI:Inhabited Fam:=⟨zeroF⟩;obtain ⟨i1,hi1,hd1⟩:=infoFS;obtain ⟨ie,hie,hs1,hp,hby⟩:=infoFTs;have hBg:B≤w.heap.size:=Nat.le_trans hr.new (Nat.le_of_lt hr.lt);by_cases h2:2≤l.length
 ·have hBs:Bs<w.heap.size:=World.block_lt_of_cell? _ _ hs
  have hsz:l.toArray.size=l.length:=by simp
  have hget:∀ (m:List Fam) (t:Nat) (ht:t<m.length),m.toArray[t]! = m[t]:=fun m t ht=>by
   rw [getElem!_pos m.toArray t (by simpa using ht)]
   simp
  have hH:Go.Sort.HoldsK famCs 9 w g 0 l.toArray:=by
   intro j hj;rw [Go.Sort.size_flatK,hsz] at hj;have hk:(l.length)*9≤c*9:=Nat.mul_le_mul_right 9 hr.le;refine ⟨?_,(hr.there (0+j) (by omega)).2⟩
   rw [Nat.zero_add];refine hr.holds j _ ?_;rw [famsCs_get l j hj];show _=some (Go.Sort.flatK famCs 9 l.toArray)[j]!
   rw [Go.Sort.get_flatK famCs 9 l.toArray j (by rw [hsz]; exact hj),hget l (j / 9) (by omega)]
   rw [getElem!_pos (famCs _) (j % 9) (by rw [famCs_len]; omega),List.getElem?_eq_getElem (by rw [famCs_len]; omega)]
  have hless:LessReadsK Tryz.prog 220 #[.pointer (some ⟨Bs,0,none⟩)] famCs 9 ltF g 0 l.toArray.size w:=by
   intro m os dk hdk i j hi hj
   have e:sortWorldK famCs 9 w g 0 m dk os=Go.Sort.putRowK famCs 9 (Sort.grow (Sort.ahead w m) os) g 0 dk:=by
    unfold sortWorldK;rw [Go.Sort.putRowK_grow famCs 9 (Sort.ahead w m) os g 0 dk hr.lt]
   have hHg:Go.Sort.HoldsK famCs 9 (Sort.grow (Sort.ahead w m) os) g 0 l.toArray:=Go.Sort.holdsK_grow famCs 9 _ _ g 0 _ hr.lt (Go.Sort.holdsK_ahead famCs 9 _ _ _ _ _ hH);refine lessF g c Bs l.length _ (fun t=>dk[t]!.id) ?_ (fun t ht=>?_) i j (by rw [hsz] at hi; exact hi) (by rw [hsz] at hj; exact hj)
   ·rw [e,Go.Sort.cell?_putRowK_other famCs 9 _ g 0 dk _ (by exact hg),Sort.cell?_grow _ _ _ (by exact hBs)]
    exact hs
   ·rw [e]
    have:=((Go.Sort.holdsK_putRowK famCs 9 _ g 0 _ dk hHg hdk).cell (i:=t) (c:=0) (by rw [hdk,hsz]; exact ht) (by omega)).1
    rw [show 0+t*9+0=t*9 by omega] at this
    exact this
  have key:=Any.sort_Slice_cells_sorted Tryz.laysGg6 34 40 i1 ie hi1 hd1 (by kernel_rfl) hie 25 (fun _=>by kernel_rfl) famCs 9 famCs_len hs1 (fun _=>by kernel_rfl) famCs_one ltF swoF 220 #[.pointer (some ⟨Bs,0,none⟩)]
   (enters_of Tryz.func220 (by kernel_rfl) rfl) g 0 c l.toArray (by rw [hsz]; exact h2) (by rw [hsz]; omega) 340 (by rw [hsz,swapK _ ie hp hby,if_neg (by omega),if_neg (by omega)]; kernel_rfl) false swapExt w hless hH hr.lt
  rw [hsz] at key;refine key.mono ?_;rintro e w' ⟨rfl,d',n,os,hperm,hsort,rfl⟩;have hd:d'.size=l.length:=by rw [hperm.1,hsz]
  have hHd:Go.Sort.HoldsK famCs 9 (Sort.grow (Go.Sort.putRowK famCs 9 (Sort.ahead w n) g 0 d') os) g 0 d':=Go.Sort.holdsK_grow famCs 9 _ _ g 0 _ (by show g<(Go.Sort.putRowK famCs 9 (Sort.ahead w n) g 0 d').heap.size; unfold Go.Sort.putRowK; rw [Go.Sort.size_putRow]; exact hr.lt) (Go.Sort.holdsK_putRowK famCs 9 _ g 0 _ d' (Go.Sort.holdsK_ahead famCs 9 _ _ _ _ _ hH) (by rw [hd,hsz]))
  refine ⟨rfl,d'.toList,?_,?_,?_,?_⟩
  ·have:=hperm.2.2
   rw [Array.extract_eq_self_of_le (by omega),Array.extract_eq_self_of_le (by rw [hsz]; exact Nat.le_refl _)] at this
   simpa using this
  ·unfold Asc
   rw [List.pairwise_iff_getElem];intro i j hi hj hij
   have:=hsort i j (Nat.zero_le _) hij (by rw [← hd]; simpa using hj)
   rw [getElem!_pos d' i (by simpa using hi),getElem!_pos d' j (by simpa using hj)] at this
   simpa [ltF] using this
  ·have hdl:d'.toList.length=l.length:=by simpa using hd
   rw [hdl];have hgw:g<(Go.Sort.putRowK famCs 9 (Sort.ahead w n) g 0 d').heap.size:=by unfold Go.Sort.putRowK; rw [Go.Sort.size_putRow]; exact hr.lt
   have hfl:(Go.Sort.flatK famCs 9 d').size=l.length*9:=by rw [Go.Sort.size_flatK,hd]
   have hback:∀ j,l.length*9≤j→(Go.Sort.grow (Go.Sort.putRowK famCs 9 (Sort.ahead w n) g 0 d') os).cell? ⟨g,j,none⟩=w.cell? ⟨g,j,none⟩:=fun j hj=>by
    rw [Sort.cell?_grow _ _ _ (by exact hgw)]
    unfold Go.Sort.putRowK;rw [Go.Sort.cell?_putRow_other id _ g 0 _ ⟨g,j,none⟩ (.inr (.inr (by rw [hfl]; show 0+l.length*9≤j; omega)))]
    rfl
   have hfrz:∀ j,(Go.Sort.grow (Go.Sort.putRowK famCs 9 (Sort.ahead w n) g 0 d') os).frozen? ⟨g,j,none⟩=w.frozen? ⟨g,j,none⟩:=fun j=>by
    rw [Sort.frozen?_grow _ _ _ (by exact hgw)]
    unfold Go.Sort.putRowK;rw [Go.Sort.frozen?_putRow];rfl
   have hin:∀ j,j<l.length*9→(Go.Sort.grow (Go.Sort.putRowK famCs 9 (Sort.ahead w n) g 0 d') os).cell? ⟨g,j,none⟩=(famsCs d'.toList)[j]?:=fun j hj=>by
    have:=(hHd.cell (i:=j / 9) (c:=j % 9) (by omega) (by omega)).1
    rw [show 0+j / 9*9+j % 9=j by omega] at this
    rw [this,famsCs_get d'.toList j (by rw [hdl]; exact hj)]
    have e:d'[j / 9]! = d'.toList[j / 9]'(by rw [hdl]; omega):=by
     rw [getElem!_pos d' (j / 9) (by omega)]
     simp
    rw [e,getElem!_pos (famCs _) (j % 9) (by rw [famCs_len]; omega),List.getElem?_eq_getElem (by rw [famCs_len]; omega)]
   refine ⟨hr.new,Nat.lt_of_lt_of_le hgw (by simp [Sort.grow]),by rw [famsCs_len,hdl],hr.le,hr.max,famsCs_one _,fun j u hj=>?_,fun j hj=>⟨?_,?_⟩⟩
   ·have hjl:=(List.getElem?_eq_some_iff.1 hj).1
    rw [famsCs_len,hdl] at hjl;rw [hin j hjl,hj]
   ·by_cases hjl:j<l.length*9
    ·rw [hin j hjl,List.getElem?_eq_getElem (by rw [famsCs_len,hdl]; exact hjl)]
     rfl
    ·rw [hback j (by omega)]
     exact (hr.there j hj).1
   ·rw [hfrz j]
    exact (hr.there j hj).2
  ·have h1:Below B w (Go.Sort.putRowK famCs 9 (Sort.ahead w n) g 0 d'):=Lib.below_putRow (Below.refl B w) hr.new
   refine h1.trans ⟨rfl,rfl,rfl,by simp [Sort.grow],fun k hk=>Sort.heap_grow_old _ _ (Nat.lt_of_lt_of_le (Nat.lt_of_lt_of_le hk hBg) h1.size)⟩
 ·have key:=Any.sort_Slice_tiny Tryz.laysGg6 34 40 i1 ie hi1 hd1 (by kernel_rfl) hie 25 (fun _=>by kernel_rfl) (some ⟨g,0,none⟩) l.length c (by omega)
  have fin:∀ e w',(e=Ending.returned (.tuple #[])∧∃ os,w'=Sort.grow w os)→e=.returned (.tuple #[])∧∃ d:List Fam,d.Perm l∧Asc d∧RowK 9 B w' g c d.length (famsCs d)∧Below B w w':=by
   rintro e w' ⟨rfl,os,rfl⟩;have hb:Below w.heap.size w (Sort.grow w os):=⟨rfl,rfl,rfl,by simp [Sort.grow],fun k hk=>Sort.heap_grow_old _ _ hk⟩
   refine ⟨rfl,l,.refl _,?_,hr.below hb hr.lt,hb.mono hBg⟩;match l,h2 with
   |[],_=>exact .nil
   |[a],_=>exact List.pairwise_singleton _ _
   |a::b::r,h2=>simp at h2
  by_cases h0:l.length=0
  ·exact (key 332 (by rw [swapK _ ie hp hby,if_pos h0]; kernel_rfl) _ _ _ w).mono fin
  ·exact (key 333 (by rw [swapK _ ie hp hby,if_neg h0,if_pos (by omega)]; kernel_rfl) _ _ _ w).mono fin
structure RA (w0:World) (c n:Int) (v:Value) (l:List Fam) (e:E) (vl:Value) (L:List Fam) (w:World):Prop where
 ab:AB (w0.heap.size+4) w0.heap.size c n v e w
 l0:w.cell? ⟨w0.heap.size+3,0,none⟩=some vl
 lf:w.frozen? ⟨w0.heap.size+3,0,none⟩=false
 fl:Fams (w0.heap.size+4) w vl L
 src:SrcF w0.heap.size w v l
 below:Below w0.heap.size w0 w
theorem RA.on {w0:World} {c n:Int} {v:Value} {l:List Fam} {e:E} {vl:Value} {L:List Fam} {w w':World} (h:RA w0 c n v l e vl L w) (hb:Below w.heap.size w w'):RA w0 c n v l e vl L w':=by
 have hs:=h.ab.size;have hb4:Below (w0.heap.size+4) w w':=hb.mono hs;exact ⟨h.ab.on hb4,(hb4.cell (p:=⟨w0.heap.size+3,0,none⟩) (Nat.lt_succ_self _)).trans h.l0,(hb4.frozen (p:=⟨w0.heap.size+3,0,none⟩) (Nat.lt_succ_self _)).trans h.lf,h.fl.below hb (Nat.le_refl _),h.src.on hb4 (by omega),h.below.trans (hb4.mono (by omega))⟩
structure RB (w0:World) (c n:Int) (v:Value) (l:List Fam) (e:E) (vl:Value) (w:World):Prop where
 ab:AB (w0.heap.size+4) w0.heap.size c n v e w
 l0:w.cell? ⟨w0.heap.size+3,0,none⟩=some vl
 lf:w.frozen? ⟨w0.heap.size+3,0,none⟩=false
 src:SrcF w0.heap.size w v l
 below:Below w0.heap.size w0 w
theorem RA.rb {w0:World} {c n:Int} {v:Value} {l:List Fam} {e:E} {vl:Value} {L:List Fam} {w w':World} (h:RA w0 c n v l e vl L w) (hb4:Below (w0.heap.size+4) w w'):RB w0 c n v l e vl w':=
 ⟨h.ab.on hb4,(hb4.cell (p:=⟨w0.heap.size+3,0,none⟩) (Nat.lt_succ_self _)).trans h.l0,(hb4.frozen (p:=⟨w0.heap.size+3,0,none⟩) (Nat.lt_succ_self _)).trans h.lf,h.src.on hb4 (by omega),h.below.trans (hb4.mono (by omega))⟩
theorem RB.put {w0:World} {c n:Int} {v:Value} {l:List Fam} {e:E} {vl:Value} {w:World} (h:RB w0 c n v l e vl w) {vl':Value} {L':List Fam} (hf:Fams (w0.heap.size+4) w vl' L'):RA w0 c n v l e vl' L' (w.setCell ⟨w0.heap.size+3,0,none⟩ vl'):=by
 have hl:=h.ab;have ho:∀ g j,g≠w0.heap.size+3→(w.setCell ⟨w0.heap.size+3,0,none⟩ vl').cell? ⟨g,j,none⟩=w.cell? ⟨g,j,none⟩:=fun g j hg=>World.cell?_setCell_other _ _ _ _ (by intro e; injection e with e _ _; exact hg e.symm)
 refine ⟨⟨hl.lt,by simpa using hl.size,(ho _ _ (by omega)).trans hl.s0,(ho _ _ (by omega)).trans hl.s1,(ho _ _ (by omega)).trans hl.s2,hl.ev.other (by show w0.heap.size+3≠w0.heap.size+1; omega) _,(ho _ _ (by omega)).trans hl.r0,(ho _ _ (by omega)).trans hl.r1,(ho _ _ (by omega)).trans hl.r2,fun i=>by rw [World.frozen?_setCell]; exact hl.fs i,fun i=>by rw [World.frozen?_setCell]; exact hl.fr i⟩,
  World.cell?_setCell_same _ _ _ h.l0,by rw [World.frozen?_setCell]; exact h.lf,hf.other (by show w0.heap.size+3<w0.heap.size+4; omega) _,h.src.set (by show w0.heap.size≤w0.heap.size+3; omega) _,h.below.setCell (by show w0.heap.size≤w0.heap.size+3; omega) _⟩
theorem ra_made {B:Nat} (w:World) (c n:Int) (v:Value) (l:List Fam) (e:E) (h:Fams B w v l) (t1 t2 t3 t4:TypeId):RA w c n v l e (.slice none 0 0) [] ((((w.alloc (.cells #[.int .i64 c,.int .i64 n,v] t1)).alloc (.cells #[.int .i64 e.kind,.int .i64 e.fam.id,.string e.fam.client,.string e.fam.subject,.string e.fam.scope,.int .i64 e.fam.gen,.int .i64 e.fam.made,.int .i64 e.fam.used,.string e.fam.request,.bool e.fam.dead,.int .i64 e.id,.int .i64 e.time] t2)).alloc (.cells #[.int .i64 0,.int .i64 0,.slice none 0 0] t3)).alloc (.cells #[.slice none 0 0] t4)):=by
 have hbl:Below w.heap.size w ((((w.alloc (.cells #[.int .i64 c,.int .i64 n,v] t1)).alloc (.cells #[.int .i64 e.kind,.int .i64 e.fam.id,.string e.fam.client,.string e.fam.subject,.string e.fam.scope,.int .i64 e.fam.gen,.int .i64 e.fam.made,.int .i64 e.fam.used,.string e.fam.request,.bool e.fam.dead,.int .i64 e.id,.int .i64 e.time] t2)).alloc (.cells #[.int .i64 0,.int .i64 0,.slice none 0 0] t3)).alloc (.cells #[.slice none 0 0] t4)):=by
  repeat (first | exact Below.refl _ _ | refine Below.alloc ?_ (by simp; try omega) _)
 have h1:∀ (W:World) (o:Obj) (g i:Nat),g<W.heap.size→(W.alloc o).frozen? ⟨g,i,none⟩=W.frozen? ⟨g,i,none⟩:=fun W o g i hg=>((Below.refl W.heap.size W).alloc (Nat.le_refl _) o).frozen (p:=⟨g,i,none⟩) hg;refine ⟨⟨by omega,by simp,?_,?_,?_,?_,?_,?_,?_,fun i=>?_,fun i=>?_⟩,(World.cell?_alloc_at _ _ _ _ (by simp)).trans rfl,World.frozen?_alloc_at _ _ _ _ (by simp),Fams.nil _ _,(srcF_of h).on hbl (Nat.le_refl _),hbl⟩
 ·exact Lib.cell?_alloc_some _ (Lib.cell?_alloc_some _ (Lib.cell?_alloc_some _ ((World.cell?_alloc_at _ _ _ _ rfl).trans rfl)))
 ·exact Lib.cell?_alloc_some _ (Lib.cell?_alloc_some _ (Lib.cell?_alloc_some _ ((World.cell?_alloc_at _ _ _ _ rfl).trans rfl)))
 ·exact Lib.cell?_alloc_some _ (Lib.cell?_alloc_some _ (Lib.cell?_alloc_some _ ((World.cell?_alloc_at _ _ _ _ rfl).trans rfl)))
 ·exact ((evAt_made _ e t2 _ (by simp)).on ((Below.refl _ _).alloc (Nat.le_refl _) _)).on ((Below.refl _ _).alloc (Nat.le_refl _) _)
 ·exact Lib.cell?_alloc_some _ ((World.cell?_alloc_at _ _ _ _ (by simp)).trans rfl)
 ·exact Lib.cell?_alloc_some _ ((World.cell?_alloc_at _ _ _ _ (by simp)).trans rfl)
 ·exact Lib.cell?_alloc_some _ ((World.cell?_alloc_at _ _ _ _ (by simp)).trans rfl)
 ·rw [h1 _ _ _ _ (by simp; omega),h1 _ _ _ _ (by simp; omega),h1 _ _ _ _ (by simp)]
  exact World.frozen?_alloc_at _ _ _ _ rfl
 ·rw [h1 _ _ _ _ (by simp)]
  exact World.frozen?_alloc_at _ _ _ _ (by simp)
theorem dropP_take (l:List Fam) (n:Int) (j:Nat) (hj:j<l.length):dropP (l.take (j+1)) n=dropP (l.take j) n ++ (if l[j].id=n then [] else [l[j]]):=by
 unfold dropP;rw [List.take_succ_eq_append_getElem hj,List.filter_append];congr 1
 by_cases h:l[j].id=n
 ·rw [if_pos h]
  simp [h]
 ·rw [if_neg h]
  simp [h]
end Go.Proofs.YtlailakofhenkabGreatDoor
