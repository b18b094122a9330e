import Derived.Test.YtlailakofhenkabGreatDoorB25
set_option maxRecDepth 100000
set_option maxHeartbeats 8000000
namespace Go.Proofs.YtlailakofhenkabGreatDoor
open Go Go.RowKit Tok Sc Ev
theorem give_is (N:Nat) (w:World) (gv gs gd:Nat) (r:Rul) (p:Pub) (v:Value) (f:Fam) (h:SvIs N w gv gs gd r p v) (hf:Ev.may (putE f)) (hN:N<98000) :
 Calls Tryz.prog 72 #[.pointer (some ⟨gv,0,none⟩),famV f] w fun e w'=>e=.returned (.tuple #[.string (giveM (txtB r) p f).2.1,errQ (giveM (txtB r) p f).2.2])∧∃ v',SPto N gs gd v w w' (giveM (txtB r) p f).1 v':=by
 have hmf:mayF f:=by
  rcases hf with ⟨-,h1,-⟩ | ⟨h1,-⟩ | ⟨h1,-⟩
  ·exact h1
  ·cases h1
  ·cases h1
 obtain ⟨f1,f2,f3,f4,f5,f6,f7,f8,f9⟩:=f;have HB0:Hid (Below w.heap.size w (w.alloc (.cells #[.int .i64 f1,.string f2,.string f3,.string f4,.int .i64 f5,.int .i64 f6,.int .i64 f7,.string f8,.bool f9] 40))):=(Below.refl _ _).alloc (Nat.le_refl _) _;have HF0:Hid (FB (w.alloc (.cells #[.int .i64 f1,.string f2,.string f3,.string f4,.int .i64 f5,.int .i64 f6,.int .i64 f7,.string f8,.bool f9] 40)) w.heap.size ⟨f1,f2,f3,f4,f5,f6,f7,f8,f9⟩):=FB.made w ⟨f1,f2,f3,f4,f5,f6,f7,f8,f9⟩ _;have HS0:Hid (SvIs N (w.alloc (.cells #[.int .i64 f1,.string f2,.string f3,.string f4,.int .i64 f5,.int .i64 f6,.int .i64 f7,.string f8,.bool f9] 40)) gv gs gd r p v):=h.on HB0.out
 have HPU:Hid (∀ _:Unit,Calls Tryz.prog 130 #[.pointer (some ⟨gv,0,none⟩),.agg #[.int .i64 f1,.string f2,.string f3,.string f4,.int .i64 f5,.int .i64 f6,.int .i64 f7,.string f8,.bool f9]] (w.alloc (.cells #[.int .i64 f1,.string f2,.string f3,.string f4,.int .i64 f5,.int .i64 f6,.int .i64 f7,.string f8,.bool f9] 40)) fun e w'=>e=.returned (errQ (addP p (putE ⟨f1,f2,f3,f4,f5,f6,f7,f8,f9⟩) true).2)∧∃ v',SPto N gs gd v (w.alloc (.cells #[.int .i64 f1,.string f2,.string f3,.string f4,.int .i64 f5,.int .i64 f6,.int .i64 f7,.string f8,.bool f9] 40)) w' (addP p (putE ⟨f1,f2,f3,f4,f5,f6,f7,f8,f9⟩) true).1 v'):=fun _=>svPut_is N (w.alloc (.cells #[.int .i64 f1,.string f2,.string f3,.string f4,.int .i64 f5,.int .i64 f6,.int .i64 f7,.string f8,.bool f9] 40)) gv gs gd r p v ⟨f1,f2,f3,f4,f5,f6,f7,f8,f9⟩ HS0.out hf (by omega)
 have HRF:Hid (∀ (W:World) (q:Pub) (v:Value),SvIs (N+22) W gv gs gd r q v→Calls Tryz.prog 77 #[.pointer (some ⟨gv,0,none⟩),.agg #[.int .i64 f1,.string f2,.string f3,.string f4,.int .i64 f5,.int .i64 f6,.int .i64 f7,.string f8,.bool f9]] W fun e w'=>e=.returned (.tuple #[.string (txtB r ⟨1,f1,f5,0⟩),.nilIface])∧Below W.heap.size W w'):=fun W q v hW=>refresh_is (N+22) W gv gs gd r q v ⟨f1,f2,f3,f4,f5,f6,f7,f8,f9⟩ hW hmf;have HNE:Hid (w.heap.size≠gd∧w.heap.size≠gs):=by have h1:=h.sp.lt; have h2:=h.sp.ord; show _∧_; omega
 have z0:=HF0.out.c0; have z1:=HF0.out.c1; have z2:=HF0.out.c2; have z3:=HF0.out.c3; have z4:=HF0.out.c4; have z5:=HF0.out.c5; have z6:=HF0.out.c6; have z7:=HF0.out.c7; have z8:=HF0.out.c8;simp only at z0 z1 z2 z3 z4 z5 z6 z7 z8;unfold giveM famV famCs;simp only;clear h hf hmf;generalize addP p (putE ⟨f1,f2,f3,f4,f5,f6,f7,f8,f9⟩) true=Q at *;obtain ⟨q,n⟩:=Q;simp only at HPU ⊢
 cases n with
 |zero=>
  rw [if_pos rfl];go_enter Tryz.func72,Tryz.ntmps72
  go_wp2_with fail
  refine (HPU.out ()).mono ?_;rintro e1 w1 ⟨rfl,v1,hto⟩;have HTO:Hid _:=hto;have HS1:Hid _:=HS0.out.to hto;have HF1:Hid _:=HF0.out.keep hto.keep (by have:=HNE.out; simp; omega)
  clear hto HPU z0 z1 z2 z3 z4 z5 z6 z7 z8;have z0:=HF1.out.c0; have z1:=HF1.out.c1; have z2:=HF1.out.c2; have z3:=HF1.out.c3; have z4:=HF1.out.c4; have z5:=HF1.out.c5; have z6:=HF1.out.c6; have z7:=HF1.out.c7; have z8:=HF1.out.c8;simp only at z0 z1 z2 z3 z4 z5 z6 z7 z8;rw [show errQ 0=.nilIface from rfl]
  go_wp2_with fail
  refine (HRF.out _ _ _ HS1.out).mono ?_;rintro e2 w2 ⟨rfl,hb2⟩;have HTF:Hid _:=(HTO.out.post hb2).pre HB0.out;clear hb2;go_wp2_with fail
  go_ret2;exact ⟨rfl,_,HTF.out⟩
 |succ n=>
  rw [if_neg (by omega)]
  go_enter Tryz.func72,Tryz.ntmps72
  go_wp2_with fail
  refine (HPU.out ()).mono ?_;rintro e1 w1 ⟨rfl,v1,hto⟩;have HTF:Hid _:=hto.pre HB0.out;clear hto HPU;rw [errQ_succ];go_wp2_with fail
  go_ret2;exact ⟨rfl,_,HTF.out⟩
theorem bury_is (N:Nat) (w:World) (gv gs gd:Nat) (r:Rul) (p:Pub) (v:Value) (f:Fam) (h:SvIs N w gv gs gd r p v) (hf:mayF f) (hN:N<98000) :
 Calls Tryz.prog 85 #[.pointer (some ⟨gv,0,none⟩),famV f] w fun e w'=>e=.returned (errQ (addP p (putE (deadF f)) true).2)∧∃ v',SPto N gs gd v w w' (addP p (putE (deadF f)) true).1 v':=by
 have hmd:=may_dead hf;obtain ⟨f1,f2,f3,f4,f5,f6,f7,f8,f9⟩:=f;have HB0:Hid (Below w.heap.size w (w.alloc (.cells #[.int .i64 f1,.string f2,.string f3,.string f4,.int .i64 f5,.int .i64 f6,.int .i64 f7,.string f8,.bool true] 40))):=(Below.refl _ _).alloc (Nat.le_refl _) _;have HF0:Hid (FB (w.alloc (.cells #[.int .i64 f1,.string f2,.string f3,.string f4,.int .i64 f5,.int .i64 f6,.int .i64 f7,.string f8,.bool f9] 40)) w.heap.size ⟨f1,f2,f3,f4,f5,f6,f7,f8,f9⟩):=FB.made w ⟨f1,f2,f3,f4,f5,f6,f7,f8,f9⟩ _;have HF1:Hid (FB (w.alloc (.cells #[.int .i64 f1,.string f2,.string f3,.string f4,.int .i64 f5,.int .i64 f6,.int .i64 f7,.string f8,.bool true] 40)) w.heap.size ⟨f1,f2,f3,f4,f5,f6,f7,f8,true⟩):=FB.made w ⟨f1,f2,f3,f4,f5,f6,f7,f8,true⟩ _
 have HPU:Hid (∀ _:Unit,Calls Tryz.prog 130 #[.pointer (some ⟨gv,0,none⟩),.agg #[.int .i64 f1,.string f2,.string f3,.string f4,.int .i64 f5,.int .i64 f6,.int .i64 f7,.string f8,.bool true]] (w.alloc (.cells #[.int .i64 f1,.string f2,.string f3,.string f4,.int .i64 f5,.int .i64 f6,.int .i64 f7,.string f8,.bool true] 40)) fun e w'=>e=.returned (errQ (addP p (putE ⟨f1,f2,f3,f4,f5,f6,f7,f8,true⟩) true).2)∧∃ v',SPto N gs gd v (w.alloc (.cells #[.int .i64 f1,.string f2,.string f3,.string f4,.int .i64 f5,.int .i64 f6,.int .i64 f7,.string f8,.bool true] 40)) w' (addP p (putE ⟨f1,f2,f3,f4,f5,f6,f7,f8,true⟩) true).1 v'):=fun _=>svPut_is N _ gv gs gd r p v ⟨f1,f2,f3,f4,f5,f6,f7,f8,true⟩ (h.on HB0.out) hmd (by omega)
 have z8:=HF0.out.c8;have zf:=HF0.out.fz;have y0:=HF1.out.c0; have y1:=HF1.out.c1; have y2:=HF1.out.c2; have y3:=HF1.out.c3; have y4:=HF1.out.c4; have y5:=HF1.out.c5; have y6:=HF1.out.c6; have y7:=HF1.out.c7; have y8:=HF1.out.c8;simp only at z8 y0 y1 y2 y3 y4 y5 y6 y7 y8;unfold deadF famV famCs;simp only;clear h hf hmd;generalize addP p (putE ⟨f1,f2,f3,f4,f5,f6,f7,f8,true⟩) true=Q at *;go_enter Tryz.func85,Tryz.ntmps85
 go_wp2_with fail
 refine (HPU.out ()).mono ?_;rintro e1 w1 ⟨rfl,v1,hto⟩;have HTF:Hid _:=hto.pre HB0.out;clear hto HPU;go_wp2_with fail
 go_ret;exact ⟨rfl,_,HTF.out⟩
theorem spoil_is (N:Nat) (w:World) (gv gs gd:Nat) (r:Rul) (p:Pub) (v:Value) (f:Fam) (h:SvIs N w gv gs gd r p v) (hf:mayF f) (hN:N<98000) :
 Calls Tryz.prog 78 #[.pointer (some ⟨gv,0,none⟩),famV f] w fun e w'=>e=.returned (errQ (spoilM p f).2.2)∧∃ v',SPto N gs gd v w w' (spoilM p f).1 v':=by
 obtain ⟨f1,f2,f3,f4,f5,f6,f7,f8,f9⟩:=f;have HB0:Hid (Below w.heap.size w (w.alloc (.cells #[.int .i64 f1,.string f2,.string f3,.string f4,.int .i64 f5,.int .i64 f6,.int .i64 f7,.string f8,.bool f9] 40))):=(Below.refl _ _).alloc (Nat.le_refl _) _;have HF0:Hid (FB (w.alloc (.cells #[.int .i64 f1,.string f2,.string f3,.string f4,.int .i64 f5,.int .i64 f6,.int .i64 f7,.string f8,.bool f9] 40)) w.heap.size ⟨f1,f2,f3,f4,f5,f6,f7,f8,f9⟩):=FB.made w ⟨f1,f2,f3,f4,f5,f6,f7,f8,f9⟩ _
 have HBU:Hid (∀ _:Unit,Calls Tryz.prog 85 #[.pointer (some ⟨gv,0,none⟩),.agg #[.int .i64 f1,.string f2,.string f3,.string f4,.int .i64 f5,.int .i64 f6,.int .i64 f7,.string f8,.bool f9]] (w.alloc (.cells #[.int .i64 f1,.string f2,.string f3,.string f4,.int .i64 f5,.int .i64 f6,.int .i64 f7,.string f8,.bool f9] 40)) fun e w'=>e=.returned (errQ (addP p (putE (deadF ⟨f1,f2,f3,f4,f5,f6,f7,f8,f9⟩)) true).2)∧∃ v',SPto N gs gd v (w.alloc (.cells #[.int .i64 f1,.string f2,.string f3,.string f4,.int .i64 f5,.int .i64 f6,.int .i64 f7,.string f8,.bool f9] 40)) w' (addP p (putE (deadF ⟨f1,f2,f3,f4,f5,f6,f7,f8,f9⟩)) true).1 v'):=fun _=>bury_is N (w.alloc (.cells #[.int .i64 f1,.string f2,.string f3,.string f4,.int .i64 f5,.int .i64 f6,.int .i64 f7,.string f8,.bool f9] 40)) gv gs gd r p v ⟨f1,f2,f3,f4,f5,f6,f7,f8,f9⟩ (h.on HB0.out) hf hN
 have z0:=HF0.out.c0; have z1:=HF0.out.c1; have z2:=HF0.out.c2; have z3:=HF0.out.c3; have z4:=HF0.out.c4; have z5:=HF0.out.c5; have z6:=HF0.out.c6; have z7:=HF0.out.c7; have z8:=HF0.out.c8;simp only at z0 z1 z2 z3 z4 z5 z6 z7 z8;unfold spoilM famV famCs;simp only;clear h hf;generalize addP p (putE (deadF ⟨f1,f2,f3,f4,f5,f6,f7,f8,f9⟩)) true=Q at *;obtain ⟨q,n⟩:=Q;simp only at HBU ⊢
 cases n with
 |zero=>
  rw [if_pos rfl];go_enter Tryz.func78,Tryz.ntmps78
  go_wp2_with fail
  refine (HBU.out ()).mono ?_;rintro e1 w1 ⟨rfl,v1,hto⟩;have HTF:Hid _:=hto.pre HB0.out;clear hto HBU;rw [show errQ 0=.nilIface from rfl]
  go_wp2_with fail
  go_ret;exact ⟨rfl,_,HTF.out⟩
 |succ n=>
  rw [if_neg (by omega)]
  go_enter Tryz.func78,Tryz.ntmps78
  go_wp2_with fail
  refine (HBU.out ()).mono ?_;rintro e1 w1 ⟨rfl,v1,hto⟩;have HTF:Hid _:=hto.pre HB0.out;clear hto HBU;rw [errQ_succ];go_wp2_with fail
  go_ret;exact ⟨rfl,_,HTF.out⟩
end Go.Proofs.YtlailakofhenkabGreatDoor
