import Derived.Test.YtlailakofhenkabGreatDoorB11
set_option maxRecDepth 100000
set_option maxHeartbeats 4000000
namespace Go.Proofs.YtlailakofhenkabGreatDoor
open Go Go.RowKit Tok Sc Ev Tryz
variable {W w wr:World}
theorem lB{b:Nat}{e:E}(hz:cG W b e):∀j,j<12->(W.cell? ⟨b,0+j,none⟩).isSome=true:=by
 intro j hj;have c0:=hz.c0; have c1:=hz.fam.c0; have c2:=hz.fam.c1; have c3:=hz.fam.c2; have c4:=hz.fam.c3; have c5:=hz.fam.c4; have c6:=hz.fam.c5; have c7:=hz.fam.c6; have c8:=hz.fam.c7; have c:=hz.fam.c8; have c10:=hz.c10; have c11:=hz.c11;rw[Nat.zero_add];match j,hj with
 |0,_=>rw[c0]; rfl
 |1,_=>rw[c1]; rfl
 |2,_=>rw[c2]; rfl
 |3,_=>rw[c3]; rfl
 |4,_=>rw[c4]; rfl
 |5,_=>rw[c5]; rfl
 |6,_=>rw[c6]; rfl
 |7,_=>rw[c7]; rfl
 |8,_=>rw[c8]; rfl
 |9,_=>rw[c]; rfl
 |10,_=>rw[c10]; rfl
 |11,_=>rw[c11]; rfl
theorem readEv(e:E)(w:World)(h:Ev.may e)(hL:aY w):Calls prog 59 #[.string (bs8 (line e))] w fun r w'=>r=.returned (.tuple #[evV e,.nilIface])∧Below w.heap.size w w':=by
 refine (zA (bs8 (line e)) w (by have:=line_len h; show (line e).toArray.size<=5000; simp; omega) hL).mono ?_
 rintro r w' ⟨h1 | h1,hb⟩
 ·obtain⟨e',hm,hx,rfl⟩:=h1
  have c:line e=line e':=by have:=congrArg (fun b:ByteArray=>b.data.toList) hx; simpa using this
  rw[yJ h hm c];exact⟨rfl,hb⟩
 ·exact absurd rfl (h1.1 e h)
theorem jJ(g:Nat)(F:Int->ByteArray)(n:Int)(c:Bool)(l:Int)(k sv:Nat)(T X Y:List UInt8)(b:Bool)(w:World)(hd:ay w g F n c l)(hg:g<w.heap.size)(hk:k<90)(hF:F k=bs8 (inBlock tag0 T))(hl:T.length<=900)(hcX:Lib.cut T [32]=(X,Y,b))(hX:X≠Lib.itoa sv)(hsv:okN sv)(hL:aY w):
 Calls prog 112 #[p_ g 0,.i_ k,.i_ sv] w fun r w'=>r=.returned (.tuple #[evV zeroE,.bool false])∧Below w.heap.size w w':=by
 have s:Hid _:=bA w (.cells (g_ 0 0 0) 42);have B:Hid _:=bU w zeroE 42 _ rfl;have I:Hid (∀i,(w.alloc (.cells (g_ 0 0 0) 42)).frozen? (a_ w.heap.size i)=false):=fun i=>Ff _ _ _ _ rfl;have J:=gG g F n c l k T (w.alloc (.cells (g_ 0 0 0) 42)) (hd.below s.o hg) hk hF (by omega) (hL.below s.o).base.len
 have HC:∀(W:World),aU W->Calls prog 150 #[.string (bs8 T),.string ⟨#[32]⟩] W fun r w'=>r=.returned (.tuple #[.string (bs8 X),.string (bs8 Y),.bool b])∧∃d,w'=W.drewN d:=fun W hW=>by
  obtain⟨m,hm⟩:=hW;have q:=strings_Cut (bs8 T) ⟨#[32]⟩ m W (by rw[dC]; omega) hm
  rw[show (⟨#[32]⟩:ByteArray).data.toList= [32] from rfl,show (bs8 T).data.toList=T from rfl,hcX] at q
  exact q
 have L:∀(W:World),bv W->Calls prog 57 #[.i_ sv] W fun r w'=>r=.returned (.string (bs8 (Lib.itoa sv)))∧Below W.heap.size W w':=fun W hW=>bQ sv W hsv.1 (by have:=hsv.2; omega) hW
 have HL:Hid _:=hL
 have hne:((bs8 X).toList == (bs8 (Lib.itoa sv)).toList)=false:=by
  rw[beq_eq_false_iff_ne,ByteArray.toList_eq,ByteArray.toList_eq];exact hX
 generalize bs8 (Lib.itoa sv)=N2 at *;generalize bs8 X=X2 at *;generalize bs8 Y=Y2 at *;generalize bs8 T=T2 at *;go_enter func112,ntmps112
 go_wp2_with fail
 refine J.mono ?_;rintro e1 w1 ⟨rfl,hb1⟩;have C:Hid _:=s.o.tm hb1;have D:Hid _:=B.o.on hb1;have M:Hid (∀i,w1.frozen? (a_ w.heap.size i)=false):=fun i=>(hb1.frozen (p:=(a_ w.heap.size i)) B.o.lt).trans (I.o i);go_wp2_with fail
 refine (HC _ (HL.o.below C.o).base.len).mono ?_;rintro e2 w2 ⟨rfl,d2,rfl⟩;have t:Below w1.heap.size w1 (w1.drewN d2):=below_drewN (E9 _ _) d2;have E:Hid _:=C.o.tm t;have G:Hid _:=D.o.on t;have N:Hid (∀i,(w1.drewN d2).frozen? (a_ w.heap.size i)=false):=fun i=>(t.frozen (p:=(a_ w.heap.size i)) D.o.lt).trans (M.o i);go_wp2_with fail
 refine (L _ (HL.o.below E.o).base).mono ?_;rintro e3 w3 ⟨rfl,hb3⟩;have O:Hid _:=E.o.tm hb3;have R:Hid _:=G.o.on hb3;have U:Hid (∀i,w3.frozen? (a_ w.heap.size i)=false):=fun i=>(hb3.frozen (p:=(a_ w.heap.size i)) G.o.lt).trans (N.o i);have f:=R.o;have fz:=U.o;have c0:=f.c0; have c1:=f.fam.c0; have c2:=f.fam.c1; have c3:=f.fam.c2; have c4:=f.fam.c3; have c5:=f.fam.c4; have c6:=f.fam.c5; have c7:=f.fam.c6; have c8:=f.fam.c7; have c9:=f.fam.c8; have c10:=f.c10; have c11:=f.c11;simp only[zeroE,zeroF] at c0 c1 c2 c3 c4 c5 c6 c7 c8 c9 c10 c11;have V:Hid _:=lB f;go_wp2_with fail
 have o:∀j,j<((h_ 0 0 0):List Value).length->(w3.cell? (a_ w.heap.size (0+j))).isSome=true:=V.o;have Z:Hid (Below w.heap.size w (w3.setCells w.heap.size 0 (h_ 0 0 0))):=O.o.trans (aa (Fa _) _ 0 _);have q0:=World.cell?_setCells_in w.heap.size (h_ 0 0 0) 0 w3 o 0 (by simp)
 have q1:=World.cell?_setCells_in w.heap.size (h_ 0 0 0) 0 w3 o 1 (by simp)
 have q2:=World.cell?_setCells_in w.heap.size (h_ 0 0 0) 0 w3 o 2 (by simp)
 have q3:=World.cell?_setCells_in w.heap.size (h_ 0 0 0) 0 w3 o 3 (by simp)
 have q4:=World.cell?_setCells_in w.heap.size (h_ 0 0 0) 0 w3 o 4 (by simp)
 have q5:=World.cell?_setCells_in w.heap.size (h_ 0 0 0) 0 w3 o 5 (by simp)
 have q6:=World.cell?_setCells_in w.heap.size (h_ 0 0 0) 0 w3 o 6 (by simp)
 have q7:=World.cell?_setCells_in w.heap.size (h_ 0 0 0) 0 w3 o 7 (by simp)
 have q8:=World.cell?_setCells_in w.heap.size (h_ 0 0 0) 0 w3 o 8 (by simp)
 have q9:=World.cell?_setCells_in w.heap.size (h_ 0 0 0) 0 w3 o 9 (by simp)
 have z:=World.cell?_setCells_in w.heap.size (h_ 0 0 0) 0 w3 o 10 (by simp)
 have A:=World.cell?_setCells_in w.heap.size (h_ 0 0 0) 0 w3 o 11 (by simp)
 generalize hWW:World.setCell _ (a_ w.heap.size 11) _=WW;have H:w3.setCells w.heap.size 0 (h_ 0 0 0)=WW:=hWW;have Ed:Hid (Below w.heap.size w WW):=by rw[<- H]; exact Z.o
 rw[H] at q0 q1 q2 q3 q4 q5 q6 q7 q8 q9 z A;simp only[Nat.zero_add,List.getElem_cons_zero,List.getElem_cons_succ] at q0 q1 q2 q3 q4 q5 q6 q7 q8 q9 z A;exact bodyPost_ret (v:=.tuple #[.agg (g_ 0 0 0),.bool false]) (by simp[results,results112,go_sem,q0,q1,q2,q3,q4,q5,q6,q7,q8,q9,z,A]) rfl ⟨rfl,Ed.o⟩
theorem nz(g:Nat)(F:Int->ByteArray)(n:Int)(c:Bool)(l:Int)(k sv:Nat)(e:E)(w:World)(hd:ay w g F n c l)(hg:g<w.heap.size)(hk:k<90)(hF:F k=bs8 (inBlock tag0 (evL sv e)))(hm:Ev.may e)(hsv:okN sv)(hL:aY w):
 Calls prog 112 #[p_ g 0,.i_ k,.i_ sv] w fun r w'=>r=.returned (.tuple #[evV e,.bool true])∧Below w.heap.size w w':=by
 have hl:=lx hsv hm;have z:=yU hsv e;have A:∀(W:World),aY W->Calls prog 59 #[.string (bs8 (line e))] W fun r w'=>r=.returned (.tuple #[evV e,.nilIface])∧Below W.heap.size W w':=fun W hW=>readEv e W hm hW;generalize evL sv e=T at *;generalize line e=Y at *;have hX:Lib.itoa sv=Lib.itoa sv:=rfl;generalize hXX:Lib.itoa (sv:Int)=X at z;obtain⟨b,hbt⟩:∃b:Bool,b=true:=⟨_,rfl⟩;rw[<- hbt] at z;have B:Hid _:=bA w (.cells (g_ 0 0 0) 42);have J:Hid _:=bU w zeroE 42 _ rfl;have Ed:Hid (∀i,(w.alloc (.cells (g_ 0 0 0) 42)).frozen? (a_ w.heap.size i)=false):=fun i=>Ff _ _ _ _ rfl;have Ee:=gG g F n c l k T (w.alloc (.cells (g_ 0 0 0) 42)) (hd.below B.o hg) hk hF (by omega) (hL.below B.o).base.len
 have HC:∀(W:World),aU W->Calls prog 150 #[.string (bs8 T),.string ⟨#[32]⟩] W fun r w'=>r=.returned (.tuple #[.string (bs8 X),.string (bs8 Y),.bool b])∧∃d,w'=W.drewN d:=fun W hW=>by
  obtain⟨m,hm⟩:=hW;have s:=strings_Cut (bs8 T) ⟨#[32]⟩ m W (by rw[dC]; omega) hm
  rw[show (⟨#[32]⟩:ByteArray).data.toList= [32] from rfl,show (bs8 T).data.toList=T from rfl,z] at s
  exact s
 have L:∀(W:World),bv W->Calls prog 57 #[.i_ sv] W fun r w'=>r=.returned (.string (bs8 (Lib.itoa sv)))∧Below W.heap.size W w':=fun W hW=>bQ sv W hsv.1 (by have:=hsv.2; omega) hW
 have HL:Hid _:=hL;rw[hXX] at L;generalize bs8 X=X2 at *;generalize bs8 Y=Y2 at *;generalize bs8 T=T2 at *;obtain⟨kk,⟨f1,f2,f3,f4,f5,f6,f7,f8,f9⟩,i,t⟩:=e;unfold evV aX at A ⊢;simp only at A ⊢;go_enter func112,ntmps112
 go_wp2_with fail
 refine Ee.mono ?_;rintro e1 w1 ⟨rfl,hb1⟩;have M:Hid _:=B.o.tm hb1;have N:Hid _:=J.o.on hb1;have Ef:Hid (∀i,w1.frozen? (a_ w.heap.size i)=false):=fun i=>(hb1.frozen (p:=(a_ w.heap.size i)) J.o.lt).trans (Ed.o i);go_wp2_with fail
 refine (HC _ (HL.o.below M.o).base.len).mono ?_;rintro e2 w2 ⟨rfl,V,rfl⟩;have C:Below w1.heap.size w1 (w1.drewN V):=below_drewN (E9 _ _) V;have O:Hid _:=M.o.tm C;have R:Hid _:=N.o.on C;have Eg:Hid (∀i,(w1.drewN V).frozen? (a_ w.heap.size i)=false):=fun i=>(C.frozen (p:=(a_ w.heap.size i)) N.o.lt).trans (Ef.o i);go_wp2_with fail
 refine (L _ (HL.o.below O.o).base).mono ?_;rintro e3 w3 ⟨rfl,hb3⟩;have D:Hid _:=O.o.tm hb3;have G:Hid _:=R.o.on hb3;have Eh:Hid (∀i,w3.frozen? (a_ w.heap.size i)=false):=fun i=>(hb3.frozen (p:=(a_ w.heap.size i)) R.o.lt).trans (Eg.o i);go_wp2_with fail
 refine (A _ (HL.o.below D.o)).mono ?_;rintro e4 w4 ⟨rfl,hb4⟩;have Ei:Hid (Below w.heap.size w (w4.alloc (.cells (E_ kk f1 f2 f3 f4 f5 f6 f7 f8 f9 i t) 42))):=(D.o.tm hb4).alloc (D.o.tm hb4).size _;have U:=bA w4 (.cells (E_ kk f1 f2 f3 f4 f5 f6 f7 f8 f9 i t) 42);have Ej:Hid _:=(G.o.on hb4).on U;have Ek:Hid (∀j,(w4.alloc (.cells (E_ kk f1 f2 f3 f4 f5 f6 f7 f8 f9 i t) 42)).frozen? (a_ w.heap.size j)=false):=fun j=>(U.frozen (p:=(a_ w.heap.size j)) (G.o.on hb4).lt).trans ((hb4.frozen (p:=(a_ w.heap.size j)) G.o.lt).trans (Eh.o j));have El:Hid _:=bU w4 ⟨kk,⟨f1,f2,f3,f4,f5,f6,f7,f8,f9⟩,i,t⟩ 42 _ rfl;go_upto_region 5 with fail
 have f:=Ej.o;have q:=El.o;have fz:=Ek.o;have c0:=f.c0; have c1:=f.fam.c0; have c2:=f.fam.c1; have c3:=f.fam.c2; have c4:=f.fam.c3; have c5:=f.fam.c4; have c6:=f.fam.c5; have c7:=f.fam.c6; have c8:=f.fam.c7; have c9:=f.fam.c8; have c10:=f.c10; have c11:=f.c11;simp only[zeroE,zeroF] at c0 c1 c2 c3 c4 c5 c6 c7 c8 c9 c10 c11;have d0:=q.c0; have d1:=q.fam.c0; have V:=q.fam.c1; have d3:=q.fam.c2; have d4:=q.fam.c3; have d5:=q.fam.c4; have d6:=q.fam.c5; have d7:=q.fam.c6; have d8:=q.fam.c7; have d9:=q.fam.c8; have Em:=q.c10; have En:=q.c11;simp only at d0 d1 V d3 d4 d5 d6 d7 d8 d9 Em En;have Eo:Hid _:=lB f;generalize w4.alloc _=W4 at *;generalize w4.heap.size=b4 at *;go_region
 go_wp2_with fail
 have o:∀j,j<((H_ kk f1 f2 f3 f4 f5 f6 f7 f8 f9 i t):List Value).length->(W4.cell? (a_ w.heap.size (0+j))).isSome=true:=Eo.o;have Ep:Hid (Below w.heap.size w (W4.setCells w.heap.size 0 (H_ kk f1 f2 f3 f4 f5 f6 f7 f8 f9 i t))):=Ei.o.trans (aa (Fa _) _ 0 _);have q0:=World.cell?_setCells_in w.heap.size (H_ kk f1 f2 f3 f4 f5 f6 f7 f8 f9 i t) 0 W4 o 0 (by simp)
 have q1:=World.cell?_setCells_in w.heap.size (H_ kk f1 f2 f3 f4 f5 f6 f7 f8 f9 i t) 0 W4 o 1 (by simp)
 have q2:=World.cell?_setCells_in w.heap.size (H_ kk f1 f2 f3 f4 f5 f6 f7 f8 f9 i t) 0 W4 o 2 (by simp)
 have q3:=World.cell?_setCells_in w.heap.size (H_ kk f1 f2 f3 f4 f5 f6 f7 f8 f9 i t) 0 W4 o 3 (by simp)
 have q4:=World.cell?_setCells_in w.heap.size (H_ kk f1 f2 f3 f4 f5 f6 f7 f8 f9 i t) 0 W4 o 4 (by simp)
 have q5:=World.cell?_setCells_in w.heap.size (H_ kk f1 f2 f3 f4 f5 f6 f7 f8 f9 i t) 0 W4 o 5 (by simp)
 have q6:=World.cell?_setCells_in w.heap.size (H_ kk f1 f2 f3 f4 f5 f6 f7 f8 f9 i t) 0 W4 o 6 (by simp)
 have q7:=World.cell?_setCells_in w.heap.size (H_ kk f1 f2 f3 f4 f5 f6 f7 f8 f9 i t) 0 W4 o 7 (by simp)
 have q8:=World.cell?_setCells_in w.heap.size (H_ kk f1 f2 f3 f4 f5 f6 f7 f8 f9 i t) 0 W4 o 8 (by simp)
 have q9:=World.cell?_setCells_in w.heap.size (H_ kk f1 f2 f3 f4 f5 f6 f7 f8 f9 i t) 0 W4 o 9 (by simp)
 have H:=World.cell?_setCells_in w.heap.size (H_ kk f1 f2 f3 f4 f5 f6 f7 f8 f9 i t) 0 W4 o 10 (by simp)
 have I:=World.cell?_setCells_in w.heap.size (H_ kk f1 f2 f3 f4 f5 f6 f7 f8 f9 i t) 0 W4 o 11 (by simp)
 generalize hWW:World.setCell _ (a_ w.heap.size 11) _=WW;have Z:W4.setCells w.heap.size 0 (H_ kk f1 f2 f3 f4 f5 f6 f7 f8 f9 i t)=WW:=hWW;have Er:Hid (Below w.heap.size w WW):=by rw[<- Z]; exact Ep.o
 rw[Z] at q0 q1 q2 q3 q4 q5 q6 q7 q8 q9 H I;simp only[Nat.zero_add,List.getElem_cons_zero,List.getElem_cons_succ] at q0 q1 q2 q3 q4 q5 q6 q7 q8 q9 H I;exact bodyPost_ret (v:=.tuple #[.agg (E_ kk f1 f2 f3 f4 f5 f6 f7 f8 f9 i t),.bool true]) (by simp[results,results112,go_sem,q0,q1,q2,q3,q4,q5,q6,q7,q8,q9,H,I]) rfl ⟨rfl,Er.o.drew⟩
def jn(o:Option (Nat × E))(sv:Nat):E × Bool:=match o with
 |some (s,e)=>if s=sv then (e,true) else (zeroE,false)
 |none=>(zeroE,false)
variable {n:Int}
theorem BH(h:0<=n):Lib.itoa n≠ []:=by
 rw[fN h];obtain⟨c,r,e⟩:=qH n.toNat;rw[e]; simp
theorem pF(g:Nat)(F:Int->ByteArray)(n:Int)(c:Bool)(l:Int)(k sv:Nat)(o:Option (Nat × E))(w:World)(hd:ay w g F n c l)(hg:g<w.heap.size)(hk:k<90)(hF:F k=bs8 (inBlock tag0 (Bk o)))(ho:∀s e,o=some (s,e)->Ev.may e∧okN s)(hsv:okN sv)(hL:aY w):
 Calls prog 112 #[p_ g 0,.i_ k,.i_ sv] w fun r w'=>r=.returned (.tuple #[evV (jn o sv).1,.bool (jn o sv).2])∧Below w.heap.size w w':=by
 match o with
 |none=>exact jJ g F n c l k sv [] [] [] false w hd hg hk hF (by simp) (jc (by simp)) (BH hsv.1).symm hsv hL
 |some (s,e)=>
  obtain⟨hm,hs⟩:=ho s e rfl;by_cases h:s=sv
  ·subst h
   have:=nz g F n c l k s e w hd hg hk hF hm hs hL;unfold jn;simp only[if_true];exact this
  ·have b:Lib.itoa s≠Lib.itoa sv:=fun he=>h (by have:=dX hs hsv he; omega)
   have:=jJ g F n c l k sv (evL s e) (Lib.itoa s) (line e) true w hd hg hk hF (by have:=lx hs hm; omega) (yU hs e) b hsv hL
   unfold jn;simp only[if_neg h];exact this
theorem zJ(n:Int)(w:World)(h0:0<=n)(h1:n<=9223372036854775807)(hs:(Lib.itoa n).length<=5000):Calls prog 181 #[.string (bs8 (Lib.itoa n))] w fun e w'=>e=.returned (.tuple #[.int .i64 n,.nilIface])∧Below w.heap.size w w':=by
 refine (strconv_Atoi_ok (bs8 (Lib.itoa n)) (by rw[dC]; omega) n (dl h0 h1) w).mono ?_
 rintro e w' ⟨rfl,hw⟩;refine⟨rfl,?_⟩;rcases hw with rfl | ⟨t,rfl⟩
 ·exact E9 _ _
 ·exact Joins.below_bytesWorld _ _ _ _ (Fa _)
def zK(w:World)(g:Nat)(ns:List Int):Prop:=g<w.heap.size∧∀(j:Nat) n,ns[j]?=some n->w.cell? ⟨g,j,none⟩=some (.int .i64 n)
structure NR (w:World) (ns:List Int) (j:Nat) (wr:World):Prop where
 row:aN w.heap.size wr w.heap.size 4 4 ((ns.take j ++ List.replicate (4 - j) 0).map (Value.int .i64))
 below:Below w.heap.size w wr
theorem zL(w:World)(ns:List Int)(t:TypeId):NR w ns 0 (w.alloc (.cells #[.int .i64 0,.int .i64 0,.int .i64 0,.int .i64 0] t)):=by
 refine⟨⟨Nat.le_refl _,by simp,by simp,Nat.le_refl _,by unfold maxLen; omega,fun j u hj=>?_,fun j hj=>⟨?_,Ff _ _ _ _ rfl⟩⟩,bA _ _⟩
 ·rw[World.cell?_alloc_at _ _ _ _ rfl]
  have e:((ns.take 0 ++ List.replicate (4 - 0) (0:Int)).map (Value.int .i64))= [.i_ 0,.i_ 0,.i_ 0,.i_ 0]:=rfl;rw[e] at hj;simpa using hj
 ·rw[World.cell?_alloc_at _ _ _ _ rfl]
  rcases (show j=0∨j=1∨j=2∨j=3 by omega) with rfl | rfl | rfl | rfl <;> rfl
variable {B c g j k:Nat}{ns:List Int}
theorem NR.on{w':World}(h:NR w ns j wr)(hb:Below wr.heap.size wr w'):NR w ns j w':=⟨h.row.below hb h.row.lt,h.below.tm hb⟩
theorem NR.put(h:NR w ns j wr)(hl:ns.length=4)(hj:j<4)(hn:ns[j]?=some n):NR w ns (j+1) (wr.setCell ⟨w.heap.size,j,none⟩ (.int .i64 n)):=by
 refine⟨?_,h.below.setCell (p:=(a_ w.heap.size j)) (Fa _) _⟩;have c:=h.row.store hj (.i_ n)
 have e:((ns.take j ++ List.replicate (4 - j) 0).map (Value.int .i64)).set j (.i_ n)=(ns.take (j+1) ++ List.replicate (4 - (j+1)) 0).map (Value.int .i64):=by
  have b:(ns.take j).length=j:=by rw[List.length_take]; omega
  have f:ns.take (j+1)=ns.take j ++ [n]:=by rw[List.take_add_one,hn]; rfl
  rw[f,show 4 - j=(4 - (j+1))+1 by omega,List.replicate_succ]
  simp only[List.map_append,List.map_cons];rw[List.set_append_right _ _ (by rw[List.length_map,b]; exact Fa _),Fy,b,Nat.sub_self]
  simp
 rwa [e] at c
theorem pG(n0 n1 n2 n3:Int)(g c:Nat)(w:World)(hw:aO w g ([n0,n1,n2,n3].map fun n=>bs8 (Lib.itoa n)))(h:∀n∈ [n0,n1,n2,n3],0<=n∧n<=9223372036854775807∧(Lib.itoa n).length<=5000):
 Calls prog 110 #[.slice (o_ g 0) 4 c] w fun r w'=>∃b,r=.returned (.slice (some ⟨b,0,none⟩) 4 4)∧zK w' b [n0,n1,n2,n3]∧Below w.heap.size w w':=by
 obtain⟨ns,hns⟩:∃ns,ns= [n0,n1,n2,n3]:=⟨_,rfl⟩;have k:ns.length=4:=by rw[hns]; rfl
 rw[<- hns] at hw h ⊢;have A:J (∀(j:Nat) n,ns[j]?=some n->0<=n∧n<=9223372036854775807∧(Lib.itoa n).length<=5000):=fun j n hj=>h n (FE hj)
 have B:J (∀(j:Nat) n,ns[j]?=some n->w.c_ g j=some (.string (bs8 (Lib.itoa n)))):=fun j n hj=>by
  have:=hw.2 j (bs8 (Lib.itoa n)) (by rw[List.getElem?_map,hj]; rfl)
  rwa [Fl] at this
 have C:J _:=hw.1;have s:J _:=k;have m:=zL w ns 3;clear h hw k hns;have D:∀w:World,(Instr.makeSlice 23 (.i_ 4) (.i_ 4)).run prog w=.ok (.slice (o_ w.heap.size 0) 4 4) (w.alloc (.cells (Q_ 0 0 0 0) 3)):=fun _=>by kernel_rfl
 go_enter func110,ntmps110
 go_wp2_with fail;go_loopg [13] 4 (fun gk iv wr=>∃j:Nat,j+gk=4∧iv=.i_ j∧Hid (NR w ns j wr))
 case atStart=>exact⟨0,by omega,rfl,m⟩
 case round=>
  obtain⟨j,hj,rfl,HR⟩:=hrel;have t:J _:=hj;clear hj m;by_cases hlt:j<4
  ·obtain⟨n,hn⟩:∃n,ns[j]?=some n:=⟨_,List.getElem?_eq_getElem (by rw[s.o]; exact hlt)⟩
   have z:(j:Int)<4:=by omega
   have v:wr.c_ g j=some (.string (bs8 (Lib.itoa n))):=(HR.out.below.cell (p:=(a_ g j)) C.o).trans (B.o j n hn);have E:J _:=hn;obtain⟨h0,h1,h2⟩:=A.o j n hn;have o:=fun (W:World)=>zJ n W h0 h1 h2;clear hn h0 h1 h2;generalize bs8 (Lib.itoa n)=X at *;go_wp2_with fail;refine (o _).mono ?_;rintro e w1 ⟨rfl,hb1⟩;have q:J _:=HR.out.on hb1;have f:=q.o.row.there j hlt;obtain⟨old,hold⟩:=Option.isSome_iff_exists.1 f.1;have F:=f.2;clear f hb1 v o;go_wp2_with fail;go_roundg (gk - 1)
   case measure=>have:=t.o; omega
   case rel=>exact⟨j+1,by have:=t.o; omega,by go_num,q.o.put s.o hlt E.o⟩
  ·obtain rfl:j=4:=by have:=t.o; omega
   go_wp2_with fail;go_ret;refine⟨_,rfl,⟨HR.out.row.lt,fun i n hi=>?_⟩,HR.out.below⟩;refine HR.out.row.holds i _ ?_;rw[List.take_of_length_le (by rw[s.o]; exact Fa _),Nat.sub_self,List.replicate_zero,List.append_nil,Fs,hi]
   rfl
theorem pH(g c:Nat)(w:World)(hw:w.cell? ⟨g,0,none⟩=some (.string ⟨#[]⟩))(hL:aY w):
 Calls prog 110 #[.slice (o_ g 0) 1 c] w fun r w'=>r=.returned (.slice none 0 0)∧Below w.heap.size w w':=by
 have j:J _:=bA w (.cells #[.i_ 0] 3);have k:=Lib.cell?_alloc_some (.cells #[.i_ 0] 3) hw;obtain⟨ev,h1,h2⟩:=(hL.below j.o).syn;have b:=strconv_Atoi_syntax ⟨#[]⟩ (by rw[show (⟨#[]⟩:ByteArray).size=0 from rfl]; omega) (by decide) ev _ h1 h2
 clear h1 h2 hL hw;have m:∀w:World,(Instr.makeSlice 23 (.i_ 1) (.i_ 1)).run prog w=.ok (.slice (o_ w.heap.size 0) 1 1) (w.alloc (.cells #[.i_ 0] 3)):=fun _=>by kernel_rfl
 go_enter func110,ntmps110
 go_wp2_with fail;go_loopg [13] 1 (fun gk iv wr=>iv=.i_ 0∧wr=w.alloc (.cells #[.i_ 0] 3))
 case atStart=>exact⟨rfl,rfl⟩
 case round=>
  obtain⟨rfl,rfl⟩:=hrel;go_wp2_with fail;refine b.mono ?_;rintro e w1 ⟨N,rfl,_,_,hb1⟩;have f:J _:=j.o.tm hb1;clear hb1 b;go_wp2_with fail;go_ret;exact⟨rfl,f.o⟩
variable {cs:List Value}
theorem cF.set{n:Nat}(h:cF k B w g c n cs)(i:Nat)(hi:i<n)(us:List Value)(hu:us.length=k)(h1:∀u∈us,u.oneCell'=true):
 cF k B (w.setCells g (i*k) us) g c n (cs.take (i*k) ++ us ++ cs.drop ((i+1)*k)):=by
 have e1:(i+1)*k=i*k+k:=Nat.succ_mul i k;have e2:(i+1)*k<=n*k:=Fi k hi;have e3:n*k<=c*k:=Fi k h.le;have f:=h.len;have m:(cs.take (i*k)).length=i*k:=by rw[List.length_take]; omega
 have b:(cs.take (i*k) ++ us).length=i*k+k:=by rw[List.length_append,m,hu]
 refine h.setCells (i*k) us (by omega) h.le ?_ ?_ (fun j u hj=>?_)
 ·rw[List.length_append,b,List.length_drop]; omega
 ·intro u hu'
  rw[List.mem_append,List.mem_append] at hu';rcases hu' with (hu' | hu') | hu'
  ·exact h.one u (List.mem_of_mem_take hu')
  ·exact h1 u hu'
  ·exact h.one u (FD hu')
 ·rw[hu]
  refine⟨fun hin=>?_,fun hout=>?_⟩
  ·rw[List.getElem?_append_left (by omega),List.getElem?_append_right (by omega),m] at hj
   exact hj
  ·by_cases hj1:j<i*k
   ·rw[List.getElem?_append_left (by omega),List.getElem?_append_left (by omega),List.getElem?_take,if_pos hj1] at hj
    exact h.holds j u hj
   ·rw[List.getElem?_append_right (by omega),b,List.getElem?_drop,show (i+1)*k+(j - (i*k+k))=j by omega] at hj
    exact h.holds j u hj
theorem cF.shift{n:Nat}(h:cF k B w g c n cs)(i:Nat)(hi:i<=n)(hc:n+1<=c)(us:List Value)(hu:us.length=k)(h1:∀u∈us,u.oneCell'=true):
 cF k B ((w.setCells g ((i+1)*k) (cs.drop (i*k))).setCells g (i*k) us) g c (n+1) (cs.take (i*k) ++ us ++ cs.drop (i*k)):=by
 have e1:(i+1)*k=i*k+k:=Nat.succ_mul i k;have e0:(n+1)*k=n*k+k:=Nat.succ_mul n k;have e2:i*k<=n*k:=Fi k hi;have e3:(n+1)*k<=c*k:=Fi k hc;have q:=h.len;have o:(cs.take (i*k)).length=i*k:=by rw[List.length_take]; omega
 have r:(cs.drop (i*k)).length=n*k - i*k:=by rw[List.length_drop]; omega
 have f:(cs.take (i*k) ++ us).length=i*k+k:=by rw[List.length_append,o,hu]
 have m:∀(zs:List Value),(∀u∈zs,u.oneCell'=true)->∀u∈cs.take (i*k) ++ zs ++ cs.drop (i*k),u.oneCell'=true:=by
  intro zs hz u hu';rw[List.mem_append,List.mem_append] at hu';rcases hu' with (hu' | hu') | hu'
  ·exact h.one u (List.mem_of_mem_take hu')
  ·exact hz u hu'
  ·exact h.one u (FD hu')
 have s:cF k B (w.setCells g ((i+1)*k) (cs.drop (i*k))) g c i (cs.take (i*k)):=by
  refine h.setCells _ _ (by omega) (by omega) o (fun u hu'=>h.one u (List.mem_of_mem_take hu')) (fun j u hj=>⟨fun b=>?_,fun hout=>?_⟩)
  ·have:=(List.getElem?_eq_some_iff.1 hj).1
   omega
  ·have:=(List.getElem?_eq_some_iff.1 hj).1
   rw[List.getElem?_take,if_pos (by omega)] at hj
   exact h.holds j u hj
 refine s.setCells _ _ (by omega) hc ?_ (m us h1) (fun j u hj=>?_)
 ·rw[List.length_append,f,r]; omega
 ·rw[hu]
  refine⟨fun b=>?_,fun hout=>?_⟩
  ·rw[List.getElem?_append_left (by omega),List.getElem?_append_right (by omega),o] at hj
   exact hj
  ·by_cases hj1:j<i*k
   ·rw[List.getElem?_append_left (by omega),List.getElem?_append_left (by omega)] at hj
    exact s.holds j u hj
   ·have p:=(List.getElem?_eq_some_iff.1 hj).1
    rw[List.length_append,f,r] at p;rw[List.getElem?_append_right (by omega),f] at hj
    have b:=World.cell?_setCells_in g (cs.drop (i*k)) ((i+1)*k) w (fun t o=>(h.there _ (by omega)).1) (j - (i*k+k)) (by omega)
    rw[show (i+1)*k+(j - (i*k+k))=j by omega] at b
    rw[b,<- hj,List.getElem?_eq_getElem (by omega)]
theorem cF.grown{n:Nat}(h:cF k B w g c n cs)(hB:B<=W.heap.size)(i:Nat)(hi:i<=n)(us:List Value)(hu:us.length=k)(h1:∀u∈us,u.oneCell'=true)(z:Array Value)(hz:z.size=k)(G:Nat)(t:TypeId)(hm:G<=maxLen)(hl:n+1<=G):
 cF k B ((((W.alloc (.cells ((cs.take (i*k)).toArray ++ Builtin.zeroCells z (n+1 - i) ++ Builtin.zeroCells z (G - (n+1))) t)).drew.setCells W.heap.size (i*k) us).drew).setCells W.heap.size ((i+1)*k) (cs.drop (i*k))) W.heap.size G (n+1) (cs.take (i*k) ++ us ++ cs.drop (i*k)):=by
 have v:(i+1)*k=i*k+k:=Nat.succ_mul i k;have e0:(n+1)*k=n*k+k:=Nat.succ_mul n k;have e2:i*k<=n*k:=Fi k hi;have e3:(n+1)*k<=G*k:=Fi k hl;have r:=h.len;have p:(cs.take (i*k)).length=i*k:=by rw[List.length_take]; omega
 have q:(cs.drop (i*k)).length=n*k - i*k:=by rw[List.length_drop]; omega
 have b:(cs.take (i*k) ++ us).length=i*k+k:=by rw[List.length_append,p,hu]
 have A:cF k B (W.alloc (.cells ((cs.take (i*k)).toArray ++ Builtin.zeroCells z (n+1 - i) ++ Builtin.zeroCells z (G - (n+1))) t)) W.heap.size G i (cs.take (i*k)):=by
  have C:((cs.take (i*k)).toArray ++ Builtin.zeroCells z (n+1 - i) ++ Builtin.zeroCells z (G - (n+1))).size=G*k:=by
   rw[Array.size_append,Array.size_append,size_zeroCells,size_zeroCells,hz,List.size_toArray,p,<- Nat.add_mul,<- Nat.add_mul];congr 1
   omega
  refine⟨hB,by simp,p,by omega,hm,fun u hu'=>h.one u (List.mem_of_mem_take hu'),fun j u hj=>?_,fun j hj=>⟨?_,World.frozen?_alloc_at _ _ _ _ (by simp)⟩⟩
  ·have hl:=(List.getElem?_eq_some_iff.1 hj).1
   rw[World.cell?_alloc_at _ _ _ _ (by simp),Array.append_assoc,Array.getElem?_append_left (by simpa using hl)]
   simpa using hj
  ·rw[World.cell?_alloc_at _ _ _ _ (by simp),Array.getElem?_eq_getElem (by rw[C]; exact hj)]
   rfl
 have f:cF k B (W.alloc (.cells ((cs.take (i*k)).toArray ++ Builtin.zeroCells z (n+1 - i) ++ Builtin.zeroCells z (G - (n+1))) t)).drew W.heap.size G i (cs.take (i*k)):=A.block (Fa _) rfl
 have s:cF k B ((W.alloc (.cells ((cs.take (i*k)).toArray ++ Builtin.zeroCells z (n+1 - i) ++ Builtin.zeroCells z (G - (n+1))) t)).drew.setCells W.heap.size (i*k) us) W.heap.size G (i+1) (cs.take (i*k) ++ us):=by
  refine f.setCells _ _ (by omega) (by omega) (by omega) (fun u hu'=>?_) (fun j u hj=>?_)
  ·rw[List.mem_append] at hu'
   rcases hu' with hu' | hu'
   ·exact h.one u (List.mem_of_mem_take hu')
   ·exact h1 u hu'
  ·rw[hu]
   refine⟨fun hin=>?_,fun hout=>?_⟩
   ·rw[List.getElem?_append_right (by omega),p] at hj
    exact hj
   ·have m:=(List.getElem?_eq_some_iff.1 hj).1
    rw[List.getElem?_append_left (by omega)] at hj
    exact f.holds j u hj
 have o:=s.block (w':=((W.alloc (.cells ((cs.take (i*k)).toArray ++ Builtin.zeroCells z (n+1 - i) ++ Builtin.zeroCells z (G - (n+1))) t)).drew.setCells W.heap.size (i*k) us).drew) (Fa _) rfl;refine o.setCells _ _ (by omega) hl ?_ (fun u hu'=>?_) (fun j u hj=>?_)
 ·rw[List.length_append,b,q]; omega
 ·rw[List.mem_append] at hu'
  rcases hu' with hu' | hu'
  ·exact s.one u hu'
  ·exact h.one u (FD hu')
 ·rw[q]
  have m:=(List.getElem?_eq_some_iff.1 hj).1;rw[List.length_append,b,q] at m;refine⟨fun hin=>?_,fun hout=>?_⟩
  ·rw[List.getElem?_append_right (by omega),b,<- v] at hj
   exact hj
  ·rw[List.getElem?_append_left (by omega)] at hj
   exact o.holds j u hj
theorem cF.cut{n:Nat}(h:cF k B w g c n cs)(i:Nat)(hi:i<n)(zs:List Value)(hz:zs.length=k):
 cF k B (((w.setCells g (i*k) (cs.drop ((i+1)*k)))).setCells g ((n - 1)*k) zs) g c (n - 1) (cs.take (i*k) ++ cs.drop ((i+1)*k)):=by
 obtain⟨m,rfl⟩:∃m,n=m+1:=⟨n - 1,by omega⟩
 rw[Nat.add_sub_cancel];have e1:(i+1)*k=i*k+k:=Nat.succ_mul i k;have e0:(m+1)*k=m*k+k:=Nat.succ_mul m k;have e2:i*k<=m*k:=Fi k (by omega)
 have e3:(m+1)*k<=c*k:=Fi k h.le;have p:=h.len;have s:=h.le;have q:(cs.take (i*k)).length=i*k:=by rw[List.length_take]; omega
 have t:(cs.drop ((i+1)*k)).length=m*k - i*k:=by rw[List.length_drop]; omega
 have b:(cs.take (i*k) ++ cs.drop ((i+1)*k)).length=m*k:=by rw[List.length_append,q,t]; omega
 have f:∀u∈cs.take (i*k) ++ cs.drop ((i+1)*k),u.oneCell'=true:=by
  intro u hu';rw[List.mem_append] at hu';rcases hu' with hu' | hu'
  ·exact h.one u (List.mem_of_mem_take hu')
  ·exact h.one u (FD hu')
 have r:cF k B (w.setCells g (i*k) (cs.drop ((i+1)*k))) g c m (cs.take (i*k) ++ cs.drop ((i+1)*k)):=by
  refine h.setCells _ _ (by omega) (by omega) b f (fun j u hj=>⟨fun hin=>?_,fun hout=>?_⟩)
  ·rw[List.getElem?_append_right (by omega),q] at hj
   exact hj
  ·have o:=(List.getElem?_eq_some_iff.1 hj).1
   rw[b] at o;rw[List.getElem?_append_left (by omega),List.getElem?_take,if_pos (by omega)] at hj
   exact h.holds j u hj
 refine r.setCells _ _ (by omega) (by omega) b f (fun j u hj=>⟨fun hin=>?_,fun hout=>r.holds j u hj⟩)
 have o:=(List.getElem?_eq_some_iff.1 hj).1;omega
def cmpI(a b:Int):Int:=if a<b then -1 else if b<a then 1 else 0
theorem mx(x:Int)(w:World):Calls prog 272 #[.i_ x] w fun e w'=>e=.returned (.bool false)∧w'=w:=by
 go_enter func272,ntmps272
 go_wp2_with fail;go_ret;exact⟨by simp,rfl⟩
theorem uf(a b:Int)(w:World):Calls prog 200 #[.i_ a,.i_ b] w fun e w'=>e=.returned (.int .i64 (cmpI a b))∧w'=w:=by
 by_cases h:a<b
 ·have H:J (cmpI a b=-1):=if_pos h
  go_enter func200,ntmps200
  go_wp2_with (go_at_call 272; refine (mx _ _).mono ?_; rintro e w' ⟨rfl,rfl⟩)
  go_ret;exact⟨by rw[H.o]; rfl,rfl⟩
 ·by_cases h2:b<a
  ·have H:J (cmpI a b=1):=by show _=_; unfold cmpI; rw[if_neg h,if_pos h2]
   go_enter func200,ntmps200
   go_wp2_with (go_at_call 272; refine (mx _ _).mono ?_; rintro e w' ⟨rfl,rfl⟩)
   go_ret;exact⟨by rw[H.o]; rfl,rfl⟩
  ·have H:J (cmpI a b=0):=by show _=_; unfold cmpI; rw[if_neg h,if_neg h2]
   go_enter func200,ntmps200
   go_wp2_with (go_at_call 272; refine (mx _ _).mono ?_; rintro e w' ⟨rfl,rfl⟩)
   go_ret;exact⟨by rw[H.o]; rfl,rfl⟩
theorem vI(f:Fam)(n:Int)(w:World):Calls prog 199 #[ap f,.i_ n] w fun e w'=>e=.returned (.int .i64 (cmpI f.id n))∧Below w.heap.size w w':=by
 obtain⟨f1,f2,f3,f4,f5,f6,f7,f8,f9⟩:=f;unfold ap ac;simp only;go_enter func199,ntmps199
 go_wp2_with fail;refine (uf _ _ _).mono ?_;rintro e w' ⟨rfl,rfl⟩;go_wp2_with fail;go_ret;exact⟨rfl,bA _ _⟩
def thereB(l:List Fam)(n:Int):Bool:=match l[rank l n]? with
 |some f=>decide (f.id=n)
 |none=>false
variable {l:List Fam}
theorem my(h:rank l n<l.length):thereB l n=decide (l[rank l n].id=n):=by
 unfold thereB;rw[List.getElem?_eq_getElem h]
theorem mz(h:¬ rank l n<l.length):thereB l n=false:=by
 unfold thereB;rw[List.getElem?_eq_none (by omega)]
theorem om(h:thereB l n=true):∃hr:rank l n<l.length,l[rank l n].id=n:=by
 by_cases hr:rank l n<l.length
 ·rw[my hr] at h
  exact⟨hr,of_decide_eq_true h⟩
 ·rw[mz hr] at h; cases h
theorem rr(h:thereB l n=false):∀hr:rank l n<l.length,l[rank l n].id≠n:=by
 intro hr;rw[my hr] at h;exact of_decide_eq_false h
variable {v:Value}
theorem ug(h:ah B w v l)(hr:aP l)(hn:l.length<=5000)(n:Int):
 Calls prog 198 #[v,.i_ n,.func (.func 199) #[] #[]] w fun e w'=>e=.returned (.tuple #[.int .i64 (rank l n:Nat),.bool (thereB l n)])∧Below w.heap.size w w':=by
 obtain⟨base,c,rfl⟩:=h.slice;have U:Hid (ah B w (.slice base l.length c) l):=h;have I:Hid (∀t (ht:t<l.length),t<rank l n↔l[t].id<n):=fun t ht=>pk hr t ht;have J:=vr l n;have L:Hid (∀h:rank l n<l.length,thereB l n=decide (l[rank l n].id=n)):=fun h=>my h;have N:Hid (¬ rank l n<l.length->thereB l n=false):=fun h=>mz h;clear h hr;generalize thereB l n=tb at *;generalize rank l n=R at *;have eg:∀args w,(callFunc 199 args).run prog w=.ok (.enter 199 args) w:=enters_of func199 (by kernel_rfl) rfl
 go_enter func198,ntmps198
 go_wp2_with fail
 go_loopg [9,10] l.length (fun gk s9 s10 wr=>∃lo hi:Nat,s9=.i_ lo∧s10=.i_ hi∧lo<=R∧R<=hi∧hi<=l.length∧hi - lo<=gk∧Hid (Below w.heap.size w wr))
 case atStart=>exact⟨0,l.length,rfl,rfl,Fo _,J,Fa _,by omega,E9 _ _⟩
 case round=>
  obtain⟨lo,hi,rfl,rfl,h1,h2,h3,hg,HB⟩:=hrel;by_cases hlt:lo<hi
  ·have V:(lo:Int)<(hi:Int):=by omega
   obtain⟨M,hM⟩:∃M,M=(lo+hi) / 2:=⟨_,rfl⟩;have E:M<l.length:=by omega
   obtain⟨g,rfl,hgw,hc⟩:=U.o.fam M E;have b:=hc.on HB.out hgw;have F:M<R↔l[M].id<n:=I.o M E;generalize l[M]=y at *;subst hM;have G:Hid _:=F;have o:=b.c0; have p:=b.c1; have q:=b.c2; have r:=b.c3; have s:=b.c4; have z:=b.c5; have A:=b.c6; have C:=b.c7; have D:=b.c8;clear hc b F;obtain⟨f1,f2,f3,f4,f5,f6,f7,f8,f9⟩:=y;simp only at o p q r s z A C D;have f:=fun (W:World)=>vI ⟨f1,f2,f3,f4,f5,f6,f7,f8,f9⟩ n W;unfold ap ac at f;simp only at f;by_cases hlow:f1<n
   ·have O:Hid (cmpI f1 n=-1):=if_pos hlow
    have k:Hid _:=G.o.2 hlow;clear hlow;go_wp2_with fail
    refine (f _).mono ?_;rintro e w1 ⟨rfl,hb1⟩;have j:Hid _:=HB.out.trans (hb1.mono HB.out.size);rw[O.o];clear hb1 o p q r s z A C D;go_wp2_with fail
    go_roundg (hi - ((lo+hi) / 2+1))
    case measure=>omega
    case rel=>exact⟨(lo+hi) / 2+1,hi,by rw[show ((lo:Int)+(hi:Int)) / 2+1=(((lo+hi) / 2+1:Nat):Int) by omega],rfl,k.o,h2,h3,by omega,j⟩
   ·have O:Hid (¬ cmpI f1 n<0):=by
     show ¬ _
     unfold cmpI;rw[if_neg hlow];split <;> omega
    have X:=O.o;have k:Hid (¬ (lo+hi) / 2<R):=fun h=>hlow (G.o.1 h);clear hlow;generalize cmpI f1 n=cv at *;go_wp2_with fail
    refine (f _).mono ?_;rintro e w1 ⟨rfl,hb1⟩;have j:Hid _:=HB.out.trans (hb1.mono HB.out.size);clear hb1 o p q r s z A C D;go_wp2_with fail
    go_roundg ((lo+hi) / 2 - lo)
    case measure=>omega
    case rel=>exact⟨lo,(lo+hi) / 2,rfl,by rw[show ((lo:Int)+(hi:Int)) / 2=(((lo+hi) / 2:Nat):Int) by omega],h1,by have:=k.o; omega,by omega,by omega,j⟩
  ·obtain rfl:hi=lo:=by omega
   obtain rfl:R=hi:=by omega
   by_cases hR:R<l.length
   ·obtain⟨g,rfl,hgw,hc⟩:=U.o.fam R hR
    have b:=hc.on HB.out hgw;have H:=L.o hR;have T:(R:Int)<(l.length:Int):=by omega
    generalize l[R]=y at *;have m:Hid _:=H;have o:=b.c0; have p:=b.c1; have q:=b.c2; have r:=b.c3; have s:=b.c4; have z:=b.c5; have A:=b.c6; have C:=b.c7; have D:=b.c8;clear hc b H;obtain⟨f1,f2,f3,f4,f5,f6,f7,f8,f9⟩:=y;simp only at o p q r s z A C D;have f:=fun (W:World)=>vI ⟨f1,f2,f3,f4,f5,f6,f7,f8,f9⟩ n W;unfold ap ac at f;simp only at f
    have Y:Hid (decide (f1=n)=(cmpI f1 n == 0)):=by
     show _=_
     rw[Bool.eq_iff_iff,decide_eq_true_iff,beq_iff_eq];unfold cmpI;split
     ·omega
     ·split <;> omega
    generalize cmpI f1 n=cv at *;go_wp2_with fail
    refine (f _).mono ?_;rintro e w1 ⟨rfl,hb1⟩;have j:Hid _:=HB.out.trans (hb1.mono HB.out.size);clear hb1 o p q r s z A C D;go_wp2_with fail
    go_ret2;refine⟨?_,j.o⟩;rw[m.o];show Ending.returned (.tuple #[.i_ (R:Int),.bool (cv == 0)])=_
    rw[<- Y.o]
   ·have m:Hid _:=N.o hR
    have T:¬ (R:Int)<(l.length:Int):=by omega
    go_wp2_with fail
    go_ret2;exact⟨by rw[m.o]; rfl,HB.out⟩
theorem xk:(prog.info? 40).map (fun i=>(i.zero,i.size,decide (i.bytes<=1000)))=some (some (ap zeroF),9,true):=by kernel_rfl
theorem dL:∃i,prog.info? 40=some i∧i.zero=some (ap zeroF)∧i.size=9∧i.bytes<=1000:=by
 have h:=xk
 cases hi:prog.info? 40 with
 |none=>rw[hi] at h; cases h
 |some i=>
  rw[hi] at h;simp only[Option.map_some,Option.some.injEq,Prod.mk.injEq,decide_eq_true_eq] at h;exact⟨i,rfl,h.1,h.2.1,h.2.2⟩
theorem df:(ap zeroF).cells.size=9:=rfl
theorem DO(w:World)(a:Option Addr)(n c n' c':Nat):(binOp .eql 34 (.slice a n c) (.slice none n' c')).run prog w=.ok (.bool a.isNone) w:=Lib.run_eql_slice_nil w _ _ a n c n' c' underlying34
theorem rs(w:World)(cs:Array Value)(t:TypeId)(h:cs=#[]):ag 9 w.heap.size (w.alloc (.cells cs t)) (.slice (some ⟨w.heap.size,0,none⟩) 0 0) 0 []:=by
 subst h;exact .inr ⟨w.heap.size,0,rfl,⟨Nat.le_refl _,by simp,rfl,Nat.le_refl _,by unfold maxLen; omega,fun _ h=>(by cases h),fun j u h=>(by cases h),fun j h=>(by omega)⟩⟩
theorem gH(h:ah B w v l)(hn:l.length<=5000):
 Calls prog 61 #[v] w fun e w'=>∃v',e=.returned v'∧ah w.heap.size w' v' l∧Below w.heap.size w w':=by
 obtain⟨i0,hi,hz0,hz1,hz2⟩:=dL;have q:=DO;rcases h with ⟨rfl,h0,h1⟩ | ⟨g,c,rfl,hr⟩
 ·obtain rfl:l= []:=List.length_eq_zero_iff.1 h0
  clear hi;go_enter func61,ntmps61
  go_wp2_with fail
  go_ret;exact⟨_,rfl,ah.nil _ _,E9 _ _⟩
 ·have f:J (ag 9 B w (.slice (o_ g 0) l.length c) l.length (aq l)):=.inr ⟨g,c,rfl,hr⟩
  have j:=hr.lt;clear hr;generalize hlen:l.length=n at *;have k:J _:=hlen;clear hlen;have m:J (ag 9 w.heap.size (w.alloc (.cells #[] 40)) (.slice (o_ w.heap.size 0) 0 0) 0 []):=rs w _ _ rfl;have b:J (ag 9 B (w.alloc (.cells #[] 40)) (.slice (o_ g 0) n c) n (aq l)):=f.o.below ((E9 _ _).alloc (Fa _) _) (Fa _);go_enter func61,ntmps61
  go_wp2_with (at_builtin; refine bw _ rfl _ _ 34 rfl 40 i0 _ 9 i0.bytes underlying34 hi hz0 hz1 rfl df w.heap.size _ 0 [] rfl m.o (by simp) _ n (aq l) rfl (b.o.src underlying34) (by omega) (by omega) ?_)
  intro v' w' h1 h2 h3;rw[<- k.o] at h1;have o:J _:=h1;have p:J _:=((E9 _ _).alloc (Fa _) _).trans h2;clear h1 h2 h3;go_wp2_with fail
  go_ret;exact⟨v',rfl,o.o,p.o⟩
theorem ru{B:Nat}{w:World}{v:Value}{l:List Fam}(h:ah B w v l)(hr:aP l)(hn:l.length<=5000)(n:Int):
 Calls prog 125 #[v,.i_ n] w fun e w'=>e=.returned (.tuple #[.int .i64 (rank l n:Nat),.bool (thereB l n)])∧Below w.heap.size w w':=by
 have c:=ug h hr hn n;clear h;go_enter func125,ntmps125
 go_wp2_with fail;refine c.mono ?_;rintro e w' ⟨rfl,hb⟩;have b:J _:=hb;clear hb;go_wp2_with fail;go_ret2;exact⟨rfl,b.o⟩
theorem uh(h:ah B w v l)(hn:l.length<=5000)(hB:B<=w.heap.size)(f:Fam)(t:TypeId):
 Calls prog 126 #[v,.i_ (l.length:Nat),.slice (o_ w.heap.size 0) 1 1] (w.alloc (.cells (ac f).toArray t)) fun e w'=>∃v',e=.returned v'∧ah B w' v' (l ++ [f])∧Below B w w':=by
 obtain⟨i0,hi,hz0,hz1,hz2⟩:=dL;have k:J (Below B w (w.alloc (.cells (ac f).toArray t))):=(E9 _ _).alloc hB _;have n:J (ah B (w.alloc (.cells (ac f).toArray t)) v l):=h.below ((E9 w.heap.size w).alloc (Fa _) _) (Fa _);have m:B<=(w.alloc (.cells (ac f).toArray t)).heap.size:=by simp; omega
 have g:Src prog 9 34 (.slice (o_ w.heap.size 0) 1 1) 1 (ac f) (w.alloc (.cells (ac f).toArray t)):=Src.ofSlice _ underlying34 (a_ w.heap.size 0) 1 1 (ac f) (by simp[bL]) (fun j u hj=>by
  rw[Addr.add_lit,Nat.zero_add,World.cell?_alloc_at _ _ _ _ rfl];simpa using hj) (cy f)
 obtain⟨base,c,rfl⟩:=h.slice;clear h;generalize hWW:w.alloc (.cells (ac f).toArray t)=W at *;have o:J (w.alloc (.cells (ac f).toArray t)=W):=hWW;clear hWW;generalize w.heap.size=b at *;go_enter func126,ntmps126
 go_wp2_with (at_builtin; refine bw _ rfl _ _ 34 rfl 40 i0 _ 9 i0.bytes underlying34 hi hz0 hz1 rfl df B _ l.length (aq l) rfl n.o m _ 1 (ac f) rfl g (by omega) (by omega) ?_)
 all_goals (
  intro v' w' h1 h2 h3
  have p:J (ah B w' v' (l ++ [f])):=by
   show ag _ _ _ _ _ _
   rw[List.length_append,List.length_singleton,cV,fx];exact h1
  have q:J (Below B w w'):=k.o.trans h2;clear h1 h2 h3;go_wp2_with fail
  go_ret;exact⟨v',rfl,p.o,q.o⟩)
end Go.Proofs.YtlailakofhenkabGreatDoor
