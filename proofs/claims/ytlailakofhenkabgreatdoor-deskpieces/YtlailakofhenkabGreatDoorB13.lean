import Derived.Test.YtlailakofhenkabGreatDoorB12
set_option maxRecDepth 100000
set_option maxHeartbeats 4000000
namespace Go.Proofs.YtlailakofhenkabGreatDoor
open Go Go.RowKit Tok Sc Ev
theorem there12 {W:World} {b:Nat} {e:E} (hz:EvAt W b e):∀ j,j<12→(W.cell? ⟨b,0+j,none⟩).isSome=true:=by
 intro j hj;have c0:=hz.c0; have c1:=hz.fam.c0; have c2:=hz.fam.c1; have c3:=hz.fam.c2; have c4:=hz.fam.c3; have c5:=hz.fam.c4; have c6:=hz.fam.c5; have c7:=hz.fam.c6; have c8:=hz.fam.c7; have c9:=hz.fam.c8; have c10:=hz.c10; have c11:=hz.c11;rw [Nat.zero_add];match j,hj with
 |0,_=>rw [c0]; rfl
 |1,_=>rw [c1]; rfl
 |2,_=>rw [c2]; rfl
 |3,_=>rw [c3]; rfl
 |4,_=>rw [c4]; rfl
 |5,_=>rw [c5]; rfl
 |6,_=>rw [c6]; rfl
 |7,_=>rw [c7]; rfl
 |8,_=>rw [c8]; rfl
 |9,_=>rw [c9]; rfl
 |10,_=>rw [c10]; rfl
 |11,_=>rw [c11]; rfl
theorem readEv (e:E) (w:World) (h:Ev.may e) (hL:LibsA w):Calls Tryz.prog 59 #[.string (bs8 (line e))] w fun r w'=>r=.returned (.tuple #[evV e,.nilIface])∧Below w.heap.size w w':=by
 refine (readE_is (bs8 (line e)) w (by have:=line_len h; show (line e).toArray.size≤5000; simp; omega) hL).mono ?_
 rintro r w' ⟨h1 | h1,hb⟩
 ·obtain ⟨e',hm,hx,rfl⟩:=h1
  have h2:line e=line e':=by have:=congrArg (fun b:ByteArray=>b.data.toList) hx; simpa using this
  rw [line_inj h hm h2];exact ⟨rfl,hb⟩
 ·exact absurd rfl (h1.1 e h)
theorem readEvent_no (g:Nat) (F:Int→ByteArray) (n:Int) (c:Bool) (l:Int) (k sv:Nat) (T X Y:List UInt8) (b:Bool) (w:World) (hd:IsDisk w g F n c l) (hg:g<w.heap.size) (hk:k<90) (hF:F k=bs8 (inBlock tag0 T)) (hl:T.length≤900) (hcX:Lib.cut T [32]=(X,Y,b)) (hX:X≠Lib.itoa sv) (hsv:okN sv) (hL:LibsA w) :
 Calls Tryz.prog 112 #[.pointer (some ⟨g,0,none⟩),.int .i64 k,.int .i64 sv] w fun r w'=>r=.returned (.tuple #[evV zeroE,.bool false])∧Below w.heap.size w w':=by
 have HB0:Hid (Below w.heap.size w (w.alloc (.cells #[.int .i64 0,.int .i64 0,.string ⟨#[]⟩,.string ⟨#[]⟩,.string ⟨#[]⟩,.int .i64 0,.int .i64 0,.int .i64 0,.string ⟨#[]⟩,.bool false,.int .i64 0,.int .i64 0] 42))):=(Below.refl _ _).alloc (Nat.le_refl _) _;have HZ0:Hid (EvAt (w.alloc (.cells #[.int .i64 0,.int .i64 0,.string ⟨#[]⟩,.string ⟨#[]⟩,.string ⟨#[]⟩,.int .i64 0,.int .i64 0,.int .i64 0,.string ⟨#[]⟩,.bool false,.int .i64 0,.int .i64 0] 42)) w.heap.size zeroE):=evAt_made w zeroE 42 _ rfl;have HF0:Hid (∀ i,(w.alloc (.cells #[.int .i64 0,.int .i64 0,.string ⟨#[]⟩,.string ⟨#[]⟩,.string ⟨#[]⟩,.int .i64 0,.int .i64 0,.int .i64 0,.string ⟨#[]⟩,.bool false,.int .i64 0,.int .i64 0] 42)).frozen? ⟨w.heap.size,i,none⟩=false):=fun i=>World.frozen?_alloc_at _ _ _ _ rfl
 have HRB:=readBlock_is g F n c l k T (w.alloc (.cells #[.int .i64 0,.int .i64 0,.string ⟨#[]⟩,.string ⟨#[]⟩,.string ⟨#[]⟩,.int .i64 0,.int .i64 0,.int .i64 0,.string ⟨#[]⟩,.bool false,.int .i64 0,.int .i64 0] 42)) (hd.below HB0.out hg) hk hF (by omega) (hL.below HB0.out).base.len
 have HLC:Hid (LenOk (w.alloc (.cells #[.int .i64 0,.int .i64 0,.string ⟨#[]⟩,.string ⟨#[]⟩,.string ⟨#[]⟩,.int .i64 0,.int .i64 0,.int .i64 0,.string ⟨#[]⟩,.bool false,.int .i64 0,.int .i64 0] 42))):=(hL.below HB0.out).base.len
 have HC:∀ (W:World),LenOk W→Calls Tryz.prog 150 #[.string (bs8 T),.string ⟨#[32]⟩] W fun r w'=>r=.returned (.tuple #[.string (bs8 X),.string (bs8 Y),.bool b])∧∃ d,w'=W.drewN d:=fun W hW=>by
  obtain ⟨m,hm⟩:=hW;have hcut:=Tryz.strings_Cut (bs8 T) ⟨#[32]⟩ m W (by rw [bsize]; omega) hm
  rw [show (⟨#[32]⟩:ByteArray).data.toList= [32] from rfl,show (bs8 T).data.toList=T from rfl,hcX] at hcut
  exact hcut
 have HIT:∀ (W:World),LibsE W→Calls Tryz.prog 57 #[.int .i64 sv] W fun r w'=>r=.returned (.string (bs8 (Lib.itoa sv)))∧Below W.heap.size W w':=fun W hW=>itoaE_is sv W hsv.1 (by have:=hsv.2; omega) hW
 have HL:Hid (LibsA w):=hL
 have hne:((bs8 X).toList == (bs8 (Lib.itoa sv)).toList)=false:=by
  rw [beq_eq_false_iff_ne,ByteArray.toList_eq,ByteArray.toList_eq];exact hX
 clear hd hF hcX hX hsv hL hl;generalize bs8 (Lib.itoa sv)=N2 at *;generalize bs8 X=X2 at *;generalize bs8 Y=Y2 at *;generalize bs8 T=T2 at *;go_enter Tryz.func112,Tryz.ntmps112
 go_wp2_with fail
 refine HRB.mono ?_;rintro e1 w1 ⟨rfl,hb1⟩;have HB1:Hid (Below w.heap.size w w1):=HB0.out.trans (hb1.mono HB0.out.size);have HZ1:Hid (EvAt w1 w.heap.size zeroE):=HZ0.out.on hb1;have HF1:Hid (∀ i,w1.frozen? ⟨w.heap.size,i,none⟩=false):=fun i=>(hb1.frozen (p:=⟨w.heap.size,i,none⟩) HZ0.out.lt).trans (HF0.out i);clear hb1 HRB;go_wp2_with fail
 refine (HC _ (HL.out.below HB1.out).base.len).mono ?_;rintro e2 w2 ⟨rfl,d2,rfl⟩;have hb2:Below w1.heap.size w1 (w1.drewN d2):=below_drewN (Below.refl _ _) d2;have HB2:Hid (Below w.heap.size w (w1.drewN d2)):=HB1.out.trans (hb2.mono HB1.out.size);have HZ2:Hid (EvAt (w1.drewN d2) w.heap.size zeroE):=HZ1.out.on hb2;have HF2:Hid (∀ i,(w1.drewN d2).frozen? ⟨w.heap.size,i,none⟩=false):=fun i=>(hb2.frozen (p:=⟨w.heap.size,i,none⟩) HZ1.out.lt).trans (HF1.out i);clear hb2 HC;go_wp2_with fail
 refine (HIT _ (HL.out.below HB2.out).base).mono ?_;rintro e3 w3 ⟨rfl,hb3⟩;have HB3:Hid (Below w.heap.size w w3):=HB2.out.trans (hb3.mono HB2.out.size);have HZ3:Hid (EvAt w3 w.heap.size zeroE):=HZ2.out.on hb3;have HF3:Hid (∀ i,w3.frozen? ⟨w.heap.size,i,none⟩=false):=fun i=>(hb3.frozen (p:=⟨w.heap.size,i,none⟩) HZ2.out.lt).trans (HF2.out i);clear hb3 HIT;have hz3:=HZ3.out;have fz:=HF3.out;have c0:=hz3.c0; have c1:=hz3.fam.c0; have c2:=hz3.fam.c1; have c3:=hz3.fam.c2; have c4:=hz3.fam.c3; have c5:=hz3.fam.c4; have c6:=hz3.fam.c5; have c7:=hz3.fam.c6; have c8:=hz3.fam.c7; have c9:=hz3.fam.c8; have c10:=hz3.c10; have c11:=hz3.c11;simp only [zeroE,zeroF] at c0 c1 c2 c3 c4 c5 c6 c7 c8 c9 c10 c11;have HTH:Hid (∀ j,j<12→(w3.cell? ⟨w.heap.size,0+j,none⟩).isSome=true):=there12 hz3;clear hz3;go_wp2_with fail
 have hth:∀ j,j<([.int .i64 0,.int .i64 0,.string ⟨#[]⟩,.string ⟨#[]⟩,.string ⟨#[]⟩,.int .i64 0,.int .i64 0,.int .i64 0,.string ⟨#[]⟩,.bool false,.int .i64 0,.int .i64 0]:List Value).length→(w3.cell? ⟨w.heap.size,0+j,none⟩).isSome=true:=HTH.out;have HBF:Hid (Below w.heap.size w (w3.setCells w.heap.size 0 [.int .i64 0,.int .i64 0,.string ⟨#[]⟩,.string ⟨#[]⟩,.string ⟨#[]⟩,.int .i64 0,.int .i64 0,.int .i64 0,.string ⟨#[]⟩,.bool false,.int .i64 0,.int .i64 0])):=HB3.out.trans (below_setCellsW (Nat.le_refl _) _ 0 _);have q0:=World.cell?_setCells_in w.heap.size [.int .i64 0,.int .i64 0,.string ⟨#[]⟩,.string ⟨#[]⟩,.string ⟨#[]⟩,.int .i64 0,.int .i64 0,.int .i64 0,.string ⟨#[]⟩,.bool false,.int .i64 0,.int .i64 0] 0 w3 hth 0 (by simp)
 have q1:=World.cell?_setCells_in w.heap.size [.int .i64 0,.int .i64 0,.string ⟨#[]⟩,.string ⟨#[]⟩,.string ⟨#[]⟩,.int .i64 0,.int .i64 0,.int .i64 0,.string ⟨#[]⟩,.bool false,.int .i64 0,.int .i64 0] 0 w3 hth 1 (by simp)
 have q2:=World.cell?_setCells_in w.heap.size [.int .i64 0,.int .i64 0,.string ⟨#[]⟩,.string ⟨#[]⟩,.string ⟨#[]⟩,.int .i64 0,.int .i64 0,.int .i64 0,.string ⟨#[]⟩,.bool false,.int .i64 0,.int .i64 0] 0 w3 hth 2 (by simp)
 have q3:=World.cell?_setCells_in w.heap.size [.int .i64 0,.int .i64 0,.string ⟨#[]⟩,.string ⟨#[]⟩,.string ⟨#[]⟩,.int .i64 0,.int .i64 0,.int .i64 0,.string ⟨#[]⟩,.bool false,.int .i64 0,.int .i64 0] 0 w3 hth 3 (by simp)
 have q4:=World.cell?_setCells_in w.heap.size [.int .i64 0,.int .i64 0,.string ⟨#[]⟩,.string ⟨#[]⟩,.string ⟨#[]⟩,.int .i64 0,.int .i64 0,.int .i64 0,.string ⟨#[]⟩,.bool false,.int .i64 0,.int .i64 0] 0 w3 hth 4 (by simp)
 have q5:=World.cell?_setCells_in w.heap.size [.int .i64 0,.int .i64 0,.string ⟨#[]⟩,.string ⟨#[]⟩,.string ⟨#[]⟩,.int .i64 0,.int .i64 0,.int .i64 0,.string ⟨#[]⟩,.bool false,.int .i64 0,.int .i64 0] 0 w3 hth 5 (by simp)
 have q6:=World.cell?_setCells_in w.heap.size [.int .i64 0,.int .i64 0,.string ⟨#[]⟩,.string ⟨#[]⟩,.string ⟨#[]⟩,.int .i64 0,.int .i64 0,.int .i64 0,.string ⟨#[]⟩,.bool false,.int .i64 0,.int .i64 0] 0 w3 hth 6 (by simp)
 have q7:=World.cell?_setCells_in w.heap.size [.int .i64 0,.int .i64 0,.string ⟨#[]⟩,.string ⟨#[]⟩,.string ⟨#[]⟩,.int .i64 0,.int .i64 0,.int .i64 0,.string ⟨#[]⟩,.bool false,.int .i64 0,.int .i64 0] 0 w3 hth 7 (by simp)
 have q8:=World.cell?_setCells_in w.heap.size [.int .i64 0,.int .i64 0,.string ⟨#[]⟩,.string ⟨#[]⟩,.string ⟨#[]⟩,.int .i64 0,.int .i64 0,.int .i64 0,.string ⟨#[]⟩,.bool false,.int .i64 0,.int .i64 0] 0 w3 hth 8 (by simp)
 have q9:=World.cell?_setCells_in w.heap.size [.int .i64 0,.int .i64 0,.string ⟨#[]⟩,.string ⟨#[]⟩,.string ⟨#[]⟩,.int .i64 0,.int .i64 0,.int .i64 0,.string ⟨#[]⟩,.bool false,.int .i64 0,.int .i64 0] 0 w3 hth 9 (by simp)
 have q10:=World.cell?_setCells_in w.heap.size [.int .i64 0,.int .i64 0,.string ⟨#[]⟩,.string ⟨#[]⟩,.string ⟨#[]⟩,.int .i64 0,.int .i64 0,.int .i64 0,.string ⟨#[]⟩,.bool false,.int .i64 0,.int .i64 0] 0 w3 hth 10 (by simp)
 have q11:=World.cell?_setCells_in w.heap.size [.int .i64 0,.int .i64 0,.string ⟨#[]⟩,.string ⟨#[]⟩,.string ⟨#[]⟩,.int .i64 0,.int .i64 0,.int .i64 0,.string ⟨#[]⟩,.bool false,.int .i64 0,.int .i64 0] 0 w3 hth 11 (by simp)
 generalize hWW:World.setCell _ ⟨w.heap.size,11,none⟩ _=WW;have hW2:w3.setCells w.heap.size 0 [.int .i64 0,.int .i64 0,.string ⟨#[]⟩,.string ⟨#[]⟩,.string ⟨#[]⟩,.int .i64 0,.int .i64 0,.int .i64 0,.string ⟨#[]⟩,.bool false,.int .i64 0,.int .i64 0]=WW:=hWW;have HB5:Hid (Below w.heap.size w WW):=by rw [← hW2]; exact HBF.out
 rw [hW2] at q0 q1 q2 q3 q4 q5 q6 q7 q8 q9 q10 q11;simp only [Nat.zero_add,List.getElem_cons_zero,List.getElem_cons_succ] at q0 q1 q2 q3 q4 q5 q6 q7 q8 q9 q10 q11;exact bodyPost_ret (v:=.tuple #[.agg #[.int .i64 0,.int .i64 0,.string ⟨#[]⟩,.string ⟨#[]⟩,.string ⟨#[]⟩,.int .i64 0,.int .i64 0,.int .i64 0,.string ⟨#[]⟩,.bool false,.int .i64 0,.int .i64 0],.bool false]) (by simp [results,Tryz.results112,go_sem,q0,q1,q2,q3,q4,q5,q6,q7,q8,q9,q10,q11]) rfl ⟨rfl,HB5.out⟩
theorem readEvent_yes (g:Nat) (F:Int→ByteArray) (n:Int) (c:Bool) (l:Int) (k sv:Nat) (e:E) (w:World) (hd:IsDisk w g F n c l) (hg:g<w.heap.size) (hk:k<90) (hF:F k=bs8 (inBlock tag0 (evL sv e))) (hm:Ev.may e) (hsv:okN sv) (hL:LibsA w) :
 Calls Tryz.prog 112 #[.pointer (some ⟨g,0,none⟩),.int .i64 k,.int .i64 sv] w fun r w'=>r=.returned (.tuple #[evV e,.bool true])∧Below w.heap.size w w':=by
 have hl:=evL_len hsv hm;have hcX:=cut_ev hsv e;have HRD:∀ (W:World),LibsA W→Calls Tryz.prog 59 #[.string (bs8 (line e))] W fun r w'=>r=.returned (.tuple #[evV e,.nilIface])∧Below W.heap.size W w':=fun W hW=>readEv e W hm hW;generalize evL sv e=T at *;generalize line e=Y at *;have hX:Lib.itoa sv=Lib.itoa sv:=rfl;generalize hXX:Lib.itoa (sv:Int)=X at hcX;obtain ⟨b,hbt⟩:∃ b:Bool,b=true:=⟨_,rfl⟩;rw [← hbt] at hcX;clear hbt;have HB0:Hid (Below w.heap.size w (w.alloc (.cells #[.int .i64 0,.int .i64 0,.string ⟨#[]⟩,.string ⟨#[]⟩,.string ⟨#[]⟩,.int .i64 0,.int .i64 0,.int .i64 0,.string ⟨#[]⟩,.bool false,.int .i64 0,.int .i64 0] 42))):=(Below.refl _ _).alloc (Nat.le_refl _) _
 have HZ0:Hid (EvAt (w.alloc (.cells #[.int .i64 0,.int .i64 0,.string ⟨#[]⟩,.string ⟨#[]⟩,.string ⟨#[]⟩,.int .i64 0,.int .i64 0,.int .i64 0,.string ⟨#[]⟩,.bool false,.int .i64 0,.int .i64 0] 42)) w.heap.size zeroE):=evAt_made w zeroE 42 _ rfl;have HF0:Hid (∀ i,(w.alloc (.cells #[.int .i64 0,.int .i64 0,.string ⟨#[]⟩,.string ⟨#[]⟩,.string ⟨#[]⟩,.int .i64 0,.int .i64 0,.int .i64 0,.string ⟨#[]⟩,.bool false,.int .i64 0,.int .i64 0] 42)).frozen? ⟨w.heap.size,i,none⟩=false):=fun i=>World.frozen?_alloc_at _ _ _ _ rfl;have HRB:=readBlock_is g F n c l k T (w.alloc (.cells #[.int .i64 0,.int .i64 0,.string ⟨#[]⟩,.string ⟨#[]⟩,.string ⟨#[]⟩,.int .i64 0,.int .i64 0,.int .i64 0,.string ⟨#[]⟩,.bool false,.int .i64 0,.int .i64 0] 42)) (hd.below HB0.out hg) hk hF (by omega) (hL.below HB0.out).base.len
 have HLC:Hid (LenOk (w.alloc (.cells #[.int .i64 0,.int .i64 0,.string ⟨#[]⟩,.string ⟨#[]⟩,.string ⟨#[]⟩,.int .i64 0,.int .i64 0,.int .i64 0,.string ⟨#[]⟩,.bool false,.int .i64 0,.int .i64 0] 42))):=(hL.below HB0.out).base.len
 have HC:∀ (W:World),LenOk W→Calls Tryz.prog 150 #[.string (bs8 T),.string ⟨#[32]⟩] W fun r w'=>r=.returned (.tuple #[.string (bs8 X),.string (bs8 Y),.bool b])∧∃ d,w'=W.drewN d:=fun W hW=>by
  obtain ⟨m,hm⟩:=hW;have hcut:=Tryz.strings_Cut (bs8 T) ⟨#[32]⟩ m W (by rw [bsize]; omega) hm
  rw [show (⟨#[32]⟩:ByteArray).data.toList= [32] from rfl,show (bs8 T).data.toList=T from rfl,hcX] at hcut
  exact hcut
 have HIT:∀ (W:World),LibsE W→Calls Tryz.prog 57 #[.int .i64 sv] W fun r w'=>r=.returned (.string (bs8 (Lib.itoa sv)))∧Below W.heap.size W w':=fun W hW=>itoaE_is sv W hsv.1 (by have:=hsv.2; omega) hW
 have HL:Hid (LibsA w):=hL;clear hd hF hcX hX hsv hL hl hm;rw [hXX] at HIT;clear hXX;generalize bs8 X=X2 at *;generalize bs8 Y=Y2 at *;generalize bs8 T=T2 at *;obtain ⟨kk,⟨f1,f2,f3,f4,f5,f6,f7,f8,f9⟩,i,t⟩:=e;unfold evV evCs at HRD ⊢;simp only at HRD ⊢;go_enter Tryz.func112,Tryz.ntmps112
 go_wp2_with fail
 refine HRB.mono ?_;rintro e1 w1 ⟨rfl,hb1⟩;have HB1:Hid (Below w.heap.size w w1):=HB0.out.trans (hb1.mono HB0.out.size);have HZ1:Hid (EvAt w1 w.heap.size zeroE):=HZ0.out.on hb1;have HF1:Hid (∀ i,w1.frozen? ⟨w.heap.size,i,none⟩=false):=fun i=>(hb1.frozen (p:=⟨w.heap.size,i,none⟩) HZ0.out.lt).trans (HF0.out i);clear hb1 HRB;go_wp2_with fail
 refine (HC _ (HL.out.below HB1.out).base.len).mono ?_;rintro e2 w2 ⟨rfl,d2,rfl⟩;have hb2:Below w1.heap.size w1 (w1.drewN d2):=below_drewN (Below.refl _ _) d2;have HB2:Hid (Below w.heap.size w (w1.drewN d2)):=HB1.out.trans (hb2.mono HB1.out.size);have HZ2:Hid (EvAt (w1.drewN d2) w.heap.size zeroE):=HZ1.out.on hb2;have HF2:Hid (∀ i,(w1.drewN d2).frozen? ⟨w.heap.size,i,none⟩=false):=fun i=>(hb2.frozen (p:=⟨w.heap.size,i,none⟩) HZ1.out.lt).trans (HF1.out i);clear hb2 HC;go_wp2_with fail
 refine (HIT _ (HL.out.below HB2.out).base).mono ?_;rintro e3 w3 ⟨rfl,hb3⟩;have HB3:Hid (Below w.heap.size w w3):=HB2.out.trans (hb3.mono HB2.out.size);have HZ3:Hid (EvAt w3 w.heap.size zeroE):=HZ2.out.on hb3;have HF3:Hid (∀ i,w3.frozen? ⟨w.heap.size,i,none⟩=false):=fun i=>(hb3.frozen (p:=⟨w.heap.size,i,none⟩) HZ2.out.lt).trans (HF2.out i);clear hb3 HIT;go_wp2_with fail
 refine (HRD _ (HL.out.below HB3.out)).mono ?_;rintro e4 w4 ⟨rfl,hb4⟩;have HB4:Hid (Below w.heap.size w (w4.alloc (.cells #[.int .i64 kk,.int .i64 f1,.string f2,.string f3,.string f4,.int .i64 f5,.int .i64 f6,.int .i64 f7,.string f8,.bool f9,.int .i64 i,.int .i64 t] 42))):=(HB3.out.trans (hb4.mono HB3.out.size)).alloc (HB3.out.trans (hb4.mono HB3.out.size)).size _;have hb5:Below w4.heap.size w4 (w4.alloc (.cells #[.int .i64 kk,.int .i64 f1,.string f2,.string f3,.string f4,.int .i64 f5,.int .i64 f6,.int .i64 f7,.string f8,.bool f9,.int .i64 i,.int .i64 t] 42)):=(Below.refl _ _).alloc (Nat.le_refl _) _;have HZ4:Hid (EvAt (w4.alloc (.cells #[.int .i64 kk,.int .i64 f1,.string f2,.string f3,.string f4,.int .i64 f5,.int .i64 f6,.int .i64 f7,.string f8,.bool f9,.int .i64 i,.int .i64 t] 42)) w.heap.size zeroE):=(HZ3.out.on hb4).on hb5
 have HF4:Hid (∀ j,(w4.alloc (.cells #[.int .i64 kk,.int .i64 f1,.string f2,.string f3,.string f4,.int .i64 f5,.int .i64 f6,.int .i64 f7,.string f8,.bool f9,.int .i64 i,.int .i64 t] 42)).frozen? ⟨w.heap.size,j,none⟩=false):=fun j=>(hb5.frozen (p:=⟨w.heap.size,j,none⟩) (HZ3.out.on hb4).lt).trans ((hb4.frozen (p:=⟨w.heap.size,j,none⟩) HZ3.out.lt).trans (HF3.out j));have HE4:Hid (EvAt (w4.alloc (.cells #[.int .i64 kk,.int .i64 f1,.string f2,.string f3,.string f4,.int .i64 f5,.int .i64 f6,.int .i64 f7,.string f8,.bool f9,.int .i64 i,.int .i64 t] 42)) w4.heap.size ⟨kk,⟨f1,f2,f3,f4,f5,f6,f7,f8,f9⟩,i,t⟩):=evAt_made w4 ⟨kk,⟨f1,f2,f3,f4,f5,f6,f7,f8,f9⟩,i,t⟩ 42 _ rfl;clear hb4 hb5 HRD;go_upto_region 5 with fail
 have hz3:=HZ4.out;have he:=HE4.out;have fz:=HF4.out;have c0:=hz3.c0; have c1:=hz3.fam.c0; have c2:=hz3.fam.c1; have c3:=hz3.fam.c2; have c4:=hz3.fam.c3; have c5:=hz3.fam.c4; have c6:=hz3.fam.c5; have c7:=hz3.fam.c6; have c8:=hz3.fam.c7; have c9:=hz3.fam.c8; have c10:=hz3.c10; have c11:=hz3.c11;simp only [zeroE,zeroF] at c0 c1 c2 c3 c4 c5 c6 c7 c8 c9 c10 c11;have d0:=he.c0; have d1:=he.fam.c0; have d2:=he.fam.c1; have d3:=he.fam.c2; have d4:=he.fam.c3; have d5:=he.fam.c4; have d6:=he.fam.c5; have d7:=he.fam.c6; have d8:=he.fam.c7; have d9:=he.fam.c8; have d10:=he.c10; have d11:=he.c11;simp only at d0 d1 d2 d3 d4 d5 d6 d7 d8 d9 d10 d11
 have HTH:Hid (∀ j,j<12→((w4.alloc (.cells #[.int .i64 kk,.int .i64 f1,.string f2,.string f3,.string f4,.int .i64 f5,.int .i64 f6,.int .i64 f7,.string f8,.bool f9,.int .i64 i,.int .i64 t] 42)).cell? ⟨w.heap.size,0+j,none⟩).isSome=true):=there12 hz3;clear hz3 he;generalize w4.alloc _=W4 at *;generalize w4.heap.size=b4 at *;go_region
 go_wp2_with fail
 have hth:∀ j,j<([.int .i64 kk,.int .i64 f1,.string f2,.string f3,.string f4,.int .i64 f5,.int .i64 f6,.int .i64 f7,.string f8,.bool f9,.int .i64 i,.int .i64 t]:List Value).length→(W4.cell? ⟨w.heap.size,0+j,none⟩).isSome=true:=HTH.out;have HBF:Hid (Below w.heap.size w (W4.setCells w.heap.size 0 [.int .i64 kk,.int .i64 f1,.string f2,.string f3,.string f4,.int .i64 f5,.int .i64 f6,.int .i64 f7,.string f8,.bool f9,.int .i64 i,.int .i64 t])):=HB4.out.trans (below_setCellsW (Nat.le_refl _) _ 0 _);have q0:=World.cell?_setCells_in w.heap.size [.int .i64 kk,.int .i64 f1,.string f2,.string f3,.string f4,.int .i64 f5,.int .i64 f6,.int .i64 f7,.string f8,.bool f9,.int .i64 i,.int .i64 t] 0 W4 hth 0 (by simp)
 have q1:=World.cell?_setCells_in w.heap.size [.int .i64 kk,.int .i64 f1,.string f2,.string f3,.string f4,.int .i64 f5,.int .i64 f6,.int .i64 f7,.string f8,.bool f9,.int .i64 i,.int .i64 t] 0 W4 hth 1 (by simp)
 have q2:=World.cell?_setCells_in w.heap.size [.int .i64 kk,.int .i64 f1,.string f2,.string f3,.string f4,.int .i64 f5,.int .i64 f6,.int .i64 f7,.string f8,.bool f9,.int .i64 i,.int .i64 t] 0 W4 hth 2 (by simp)
 have q3:=World.cell?_setCells_in w.heap.size [.int .i64 kk,.int .i64 f1,.string f2,.string f3,.string f4,.int .i64 f5,.int .i64 f6,.int .i64 f7,.string f8,.bool f9,.int .i64 i,.int .i64 t] 0 W4 hth 3 (by simp)
 have q4:=World.cell?_setCells_in w.heap.size [.int .i64 kk,.int .i64 f1,.string f2,.string f3,.string f4,.int .i64 f5,.int .i64 f6,.int .i64 f7,.string f8,.bool f9,.int .i64 i,.int .i64 t] 0 W4 hth 4 (by simp)
 have q5:=World.cell?_setCells_in w.heap.size [.int .i64 kk,.int .i64 f1,.string f2,.string f3,.string f4,.int .i64 f5,.int .i64 f6,.int .i64 f7,.string f8,.bool f9,.int .i64 i,.int .i64 t] 0 W4 hth 5 (by simp)
 have q6:=World.cell?_setCells_in w.heap.size [.int .i64 kk,.int .i64 f1,.string f2,.string f3,.string f4,.int .i64 f5,.int .i64 f6,.int .i64 f7,.string f8,.bool f9,.int .i64 i,.int .i64 t] 0 W4 hth 6 (by simp)
 have q7:=World.cell?_setCells_in w.heap.size [.int .i64 kk,.int .i64 f1,.string f2,.string f3,.string f4,.int .i64 f5,.int .i64 f6,.int .i64 f7,.string f8,.bool f9,.int .i64 i,.int .i64 t] 0 W4 hth 7 (by simp)
 have q8:=World.cell?_setCells_in w.heap.size [.int .i64 kk,.int .i64 f1,.string f2,.string f3,.string f4,.int .i64 f5,.int .i64 f6,.int .i64 f7,.string f8,.bool f9,.int .i64 i,.int .i64 t] 0 W4 hth 8 (by simp)
 have q9:=World.cell?_setCells_in w.heap.size [.int .i64 kk,.int .i64 f1,.string f2,.string f3,.string f4,.int .i64 f5,.int .i64 f6,.int .i64 f7,.string f8,.bool f9,.int .i64 i,.int .i64 t] 0 W4 hth 9 (by simp)
 have q10:=World.cell?_setCells_in w.heap.size [.int .i64 kk,.int .i64 f1,.string f2,.string f3,.string f4,.int .i64 f5,.int .i64 f6,.int .i64 f7,.string f8,.bool f9,.int .i64 i,.int .i64 t] 0 W4 hth 10 (by simp)
 have q11:=World.cell?_setCells_in w.heap.size [.int .i64 kk,.int .i64 f1,.string f2,.string f3,.string f4,.int .i64 f5,.int .i64 f6,.int .i64 f7,.string f8,.bool f9,.int .i64 i,.int .i64 t] 0 W4 hth 11 (by simp)
 generalize hWW:World.setCell _ ⟨w.heap.size,11,none⟩ _=WW;have hW2:W4.setCells w.heap.size 0 [.int .i64 kk,.int .i64 f1,.string f2,.string f3,.string f4,.int .i64 f5,.int .i64 f6,.int .i64 f7,.string f8,.bool f9,.int .i64 i,.int .i64 t]=WW:=hWW;have HB5:Hid (Below w.heap.size w WW):=by rw [← hW2]; exact HBF.out
 rw [hW2] at q0 q1 q2 q3 q4 q5 q6 q7 q8 q9 q10 q11;simp only [Nat.zero_add,List.getElem_cons_zero,List.getElem_cons_succ] at q0 q1 q2 q3 q4 q5 q6 q7 q8 q9 q10 q11;exact bodyPost_ret (v:=.tuple #[.agg #[.int .i64 kk,.int .i64 f1,.string f2,.string f3,.string f4,.int .i64 f5,.int .i64 f6,.int .i64 f7,.string f8,.bool f9,.int .i64 i,.int .i64 t],.bool true]) (by simp [results,Tryz.results112,go_sem,q0,q1,q2,q3,q4,q5,q6,q7,q8,q9,q10,q11]) rfl ⟨rfl,HB5.out.drew⟩
def evOf (o:Option (Nat × E)) (sv:Nat):E × Bool:=match o with
 |some (s,e)=>if s=sv then (e,true) else (zeroE,false)
 |none=>(zeroE,false)
theorem itoa_ne {n:Int} (h:0≤n):Lib.itoa n≠ []:=by
 rw [itoa_pos h];obtain ⟨c,r,e⟩:=dec_cons n.toNat;rw [e]; simp
theorem readEvent_is (g:Nat) (F:Int→ByteArray) (n:Int) (c:Bool) (l:Int) (k sv:Nat) (o:Option (Nat × E)) (w:World) (hd:IsDisk w g F n c l) (hg:g<w.heap.size) (hk:k<90) (hF:F k=bs8 (inBlock tag0 (txtE o))) (ho:∀ s e,o=some (s,e)→Ev.may e∧okN s) (hsv:okN sv) (hL:LibsA w) :
 Calls Tryz.prog 112 #[.pointer (some ⟨g,0,none⟩),.int .i64 k,.int .i64 sv] w fun r w'=>r=.returned (.tuple #[evV (evOf o sv).1,.bool (evOf o sv).2])∧Below w.heap.size w w':=by
 match o with
 |none=>exact readEvent_no g F n c l k sv [] [] [] false w hd hg hk hF (by simp) (cut_no (by simp)) (itoa_ne hsv.1).symm hsv hL
 |some (s,e)=>
  obtain ⟨hm,hs⟩:=ho s e rfl;by_cases h:s=sv
  ·subst h
   have:=readEvent_yes g F n c l k s e w hd hg hk hF hm hs hL;unfold evOf;simp only [if_true];exact this
  ·have hne:Lib.itoa s≠Lib.itoa sv:=fun he=>h (by have:=itoaN_inj hs hsv he; omega)
   have:=readEvent_no g F n c l k sv (evL s e) (Lib.itoa s) (line e) true w hd hg hk hF (by have:=evL_len hs hm; omega) (cut_ev hs e) hne hsv hL
   unfold evOf;simp only [if_neg h];exact this
theorem atoiN_is (n:Int) (w:World) (h0:0≤n) (h1:n≤9223372036854775807) (hs:(Lib.itoa n).length≤5000):Calls Tryz.prog 181 #[.string (bs8 (Lib.itoa n))] w fun e w'=>e=.returned (.tuple #[.int .i64 n,.nilIface])∧Below w.heap.size w w':=by
 refine (Tryz.strconv_Atoi_ok (bs8 (Lib.itoa n)) (by rw [bsize]; omega) n (atoi_itoa h0 h1) w).mono ?_
 rintro e w' ⟨rfl,hw⟩;refine ⟨rfl,?_⟩;rcases hw with rfl | ⟨t,rfl⟩
 ·exact Below.refl _ _
 ·exact Joins.below_bytesWorld _ _ _ _ (Nat.le_refl _)
def NumsAt (w:World) (g:Nat) (ns:List Int):Prop:=g<w.heap.size∧∀ (j:Nat) n,ns[j]?=some n→w.cell? ⟨g,j,none⟩=some (.int .i64 n)
structure NR (w:World) (ns:List Int) (j:Nat) (wr:World):Prop where
 row:RowAt w.heap.size wr w.heap.size 4 4 ((ns.take j ++ List.replicate (4 - j) 0).map (Value.int .i64))
 below:Below w.heap.size w wr
theorem nr_start (w:World) (ns:List Int) (t:TypeId):NR w ns 0 (w.alloc (.cells #[.int .i64 0,.int .i64 0,.int .i64 0,.int .i64 0] t)):=by
 refine ⟨⟨Nat.le_refl _,by simp,by simp,Nat.le_refl _,by unfold maxLen; omega,fun j u hj=>?_,fun j hj=>⟨?_,World.frozen?_alloc_at _ _ _ _ rfl⟩⟩,(Below.refl _ _).alloc (Nat.le_refl _) _⟩
 ·rw [World.cell?_alloc_at _ _ _ _ rfl]
  have e:((ns.take 0 ++ List.replicate (4 - 0) (0:Int)).map (Value.int .i64))= [.int .i64 0,.int .i64 0,.int .i64 0,.int .i64 0]:=rfl;rw [e] at hj;simpa using hj
 ·rw [World.cell?_alloc_at _ _ _ _ rfl]
  rcases (show j=0∨j=1∨j=2∨j=3 by omega) with rfl | rfl | rfl | rfl <;> rfl
theorem NR.on {w:World} {ns:List Int} {j:Nat} {wr w':World} (h:NR w ns j wr) (hb:Below wr.heap.size wr w'):NR w ns j w':=⟨h.row.below hb h.row.lt,h.below.trans (hb.mono h.below.size)⟩
theorem NR.put {w:World} {ns:List Int} {j:Nat} {wr:World} (h:NR w ns j wr) (hl:ns.length=4) (hj:j<4) {n:Int} (hn:ns[j]?=some n):NR w ns (j+1) (wr.setCell ⟨w.heap.size,j,none⟩ (.int .i64 n)):=by
 refine ⟨?_,h.below.setCell (p:=⟨w.heap.size,j,none⟩) (Nat.le_refl _) _⟩;have hs:=h.row.store hj (.int .i64 n)
 have e:((ns.take j ++ List.replicate (4 - j) 0).map (Value.int .i64)).set j (.int .i64 n)=(ns.take (j+1) ++ List.replicate (4 - (j+1)) 0).map (Value.int .i64):=by
  have h1:(ns.take j).length=j:=by rw [List.length_take]; omega
  have h2:ns.take (j+1)=ns.take j ++ [n]:=by rw [List.take_add_one,hn]; rfl
  rw [h2,show 4 - j=(4 - (j+1))+1 by omega,List.replicate_succ]
  simp only [List.map_append,List.map_cons];rw [List.set_append_right _ _ (by rw [List.length_map,h1]; exact Nat.le_refl _),List.length_map,h1,Nat.sub_self]
  simp
 rwa [e] at hs
theorem numbers_four (n0 n1 n2 n3:Int) (g c:Nat) (w:World) (hw:WordsAt w g ([n0,n1,n2,n3].map fun n=>bs8 (Lib.itoa n))) (h:∀ n∈ [n0,n1,n2,n3],0≤n∧n≤9223372036854775807∧(Lib.itoa n).length≤5000) :
 Calls Tryz.prog 110 #[.slice (some ⟨g,0,none⟩) 4 c] w fun r w'=>∃ b,r=.returned (.slice (some ⟨b,0,none⟩) 4 4)∧NumsAt w' b [n0,n1,n2,n3]∧Below w.heap.size w w':=by
 obtain ⟨ns,hns⟩:∃ ns,ns= [n0,n1,n2,n3]:=⟨_,rfl⟩;have hl4:ns.length=4:=by rw [hns]; rfl
 rw [← hns] at hw h ⊢;have HH:Hid (∀ (j:Nat) n,ns[j]?=some n→0≤n∧n≤9223372036854775807∧(Lib.itoa n).length≤5000):=fun j n hj=>h n (List.mem_of_getElem? hj)
 have HW:Hid (∀ (j:Nat) n,ns[j]?=some n→w.cell? ⟨g,j,none⟩=some (.string (bs8 (Lib.itoa n)))):=fun j n hj=>by
  have:=hw.2 j (bs8 (Lib.itoa n)) (by rw [List.getElem?_map,hj]; rfl)
  rwa [Nat.zero_add] at this
 have HG:Hid (g<w.heap.size):=hw.1;have H4:Hid (ns.length=4):=hl4;have HNR:=nr_start w ns 3;clear h hw hl4 hns;have hmk:∀ w:World,(Instr.makeSlice 23 (.int .i64 4) (.int .i64 4)).run Tryz.prog w=.ok (.slice (some ⟨w.heap.size,0,none⟩) 4 4) (w.alloc (.cells #[.int .i64 0,.int .i64 0,.int .i64 0,.int .i64 0] 3)):=fun _=>by kernel_rfl
 go_enter Tryz.func110,Tryz.ntmps110
 go_wp2_with fail
 go_loopg [13] 4 (fun gk iv wr=>∃ j:Nat,j+gk=4∧iv=.int .i64 j∧Hid (NR w ns j wr))
 case atStart=>exact ⟨0,by omega,rfl,HNR⟩
 case round=>
  obtain ⟨j,hj,rfl,HR⟩:=hrel;have HJ:Hid (j+gk=4):=hj;clear hj HNR;by_cases hlt:j<4
  ·obtain ⟨n,hn⟩:∃ n,ns[j]?=some n:=⟨_,List.getElem?_eq_getElem (by rw [H4.out]; exact hlt)⟩
   have hltI:(j:Int)<4:=by omega
   have hcw:wr.cell? ⟨g,j,none⟩=some (.string (bs8 (Lib.itoa n))):=(HR.out.below.cell (p:=⟨g,j,none⟩) HG.out).trans (HW.out j n hn);have HN:Hid (ns[j]?=some n):=hn;obtain ⟨h0,h1,h2⟩:=HH.out j n hn;have hat:=fun (W:World)=>atoiN_is n W h0 h1 h2;clear hn h0 h1 h2;generalize bs8 (Lib.itoa n)=X at *;go_wp2_with fail
   refine (hat _).mono ?_;rintro e w1 ⟨rfl,hb1⟩;have HR1:Hid _:=HR.out.on hb1;have hth:=HR1.out.row.there j hlt;obtain ⟨old,hold⟩:=Option.isSome_iff_exists.1 hth.1;have hfz:=hth.2;clear hth hb1 hcw hat;go_wp2_with fail
   go_roundg (gk - 1)
   case measure=>have:=HJ.out; omega
   case rel=>exact ⟨j+1,by have:=HJ.out; omega,by go_num,HR1.out.put H4.out hlt HN.out⟩
  ·obtain rfl:j=4:=by have:=HJ.out; omega
   go_wp2_with fail
   go_ret;refine ⟨_,rfl,⟨HR.out.row.lt,fun i n hi=>?_⟩,HR.out.below⟩;refine HR.out.row.holds i _ ?_;rw [List.take_of_length_le (by rw [H4.out]; exact Nat.le_refl _),Nat.sub_self,List.replicate_zero,List.append_nil,List.getElem?_map,hi]
   rfl
theorem numbers_none (g c:Nat) (w:World) (hw:w.cell? ⟨g,0,none⟩=some (.string ⟨#[]⟩)) (hL:LibsA w) :
 Calls Tryz.prog 110 #[.slice (some ⟨g,0,none⟩) 1 c] w fun r w'=>r=.returned (.slice none 0 0)∧Below w.heap.size w w':=by
 have HB:Hid (Below w.heap.size w (w.alloc (.cells #[.int .i64 0] 3))):=(Below.refl _ _).alloc (Nat.le_refl _) _;have hcw:=Lib.cell?_alloc_some (.cells #[.int .i64 0] 3) hw;obtain ⟨ev,h1,h2⟩:=(hL.below HB.out).syn;have hat:=Tryz.strconv_Atoi_syntax ⟨#[]⟩ (by rw [show (⟨#[]⟩:ByteArray).size=0 from rfl]; omega) (by decide) ev _ h1 h2
 clear h1 h2 hL hw;have hmk:∀ w:World,(Instr.makeSlice 23 (.int .i64 1) (.int .i64 1)).run Tryz.prog w=.ok (.slice (some ⟨w.heap.size,0,none⟩) 1 1) (w.alloc (.cells #[.int .i64 0] 3)):=fun _=>by kernel_rfl
 go_enter Tryz.func110,Tryz.ntmps110
 go_wp2_with fail
 go_loopg [13] 1 (fun gk iv wr=>iv=.int .i64 0∧wr=w.alloc (.cells #[.int .i64 0] 3))
 case atStart=>exact ⟨rfl,rfl⟩
 case round=>
  obtain ⟨rfl,rfl⟩:=hrel;go_wp2_with fail
  refine hat.mono ?_;rintro e w1 ⟨N,rfl,_,_,hb1⟩;have HB1:Hid (Below w.heap.size w w1):=HB.out.trans (hb1.mono HB.out.size);clear hb1 hat;go_wp2_with fail
  go_ret;exact ⟨rfl,HB1.out⟩
end Go.Proofs.YtlailakofhenkabGreatDoor
