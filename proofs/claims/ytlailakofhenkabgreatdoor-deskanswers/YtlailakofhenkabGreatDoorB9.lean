import Derived.Test.YtlailakofhenkabGreatDoorB8
set_option maxRecDepth 100000
set_option maxHeartbeats 16000000
namespace Go.Proofs.YtlailakofhenkabGreatDoor
open Go Go.RowKit Tok Sc Ev Tryz
def nu(n:Nat):Prop:=4<n∧5<n∧3<n∧2<n
variable {w:World}
theorem vD(h:aY w):nu w.heap.size:=by
 obtain⟨_,h1,_⟩:=h.syn;obtain⟨_,h2,_⟩:=h.rng;obtain⟨_,h3⟩:=h.base.len;exact⟨Fc _ _ h1,Fc _ _ h2,h.base.big,Fc _ _ h3⟩
theorem px(w:World)(g:Nat)(ws:List ByteArray)(cs:Array Value)(t:TypeId)(hc:cs.size=12)(hL:aY w)(hw:aO w g ws):OS w w.heap.size g ws (w.alloc (.cells cs t)) where
 libs:=hL.below (bA _ _)
 words:=⟨by simp; have:=hw.1; omega,fun j x hj=>Lib.cell?_alloc_some _ (hw.2 j x hj)⟩
 lt:=by simp
 new:=Fa _
 ne:=by have:=hw.1; omega
 there:=fun i hi=>by
  rw[World.cell?_alloc_at _ _ _ _ rfl,Array.getElem?_eq_getElem (by omega)]
  rfl
 free:=fun i=>Ff _ _ _ _ rfl
 below:=bA _ _
 old:=vD hL
theorem ri(x0 x1 x2 x3 x4 x5 x6 x7 x8 x9:ByteArray)(g c:Nat)(w:World)(h0:x0.data.toList= [112])(hs:∀x∈ [x0,x1,x2,x3,x4,x5,x6,x7,x8,x9],x.size<=5000)(hw:aO w g [x0,x1,x2,x3,x4,x5,x6,x7,x8,x9])(hL:aY w):
 Calls prog 119 #[.slice (o_ g 0) 10 c] w fun r w'=>∃e,r=.returned (evV e)∧iX [x0,x1,x2,x3,x4,x5,x6,x7,x8,x9] e∧Small 5000 e.fam∧Below w.heap.size w w':=by
 obtain rfl:x0=⟨#[112]⟩:=aK h0;have R:=hs x1 (by simp)
 have J:=hs x2 (by simp)
 have L:=hs x3 (by simp)
 have M:=hs x4 (by simp)
 have T:=hs x5 (by simp)
 have U:=hs x6 (by simp)
 have V:=hs x7 (by simp)
 have N:=hs x8 (by simp)
 have q:=px w g _ (g_ 0 0 0) 42 rfl hL hw;have O:=(lz q);have X:=O.1;have Y:=fun (W:World) (hW:aY W)=>dD x1 W (by omega) hW
 have Z:=fun (W:World) (hW:aY W)=>dD x5 W (by omega) hW
 have i6:=fun (W:World) (hW:aY W)=>dD x6 W (by omega) hW
 have i7:=fun (W:World) (hW:aY W)=>dD x7 W (by omega) hW
 have i2:=fun (W:World)=>iN x2 W (by omega)
 have i3:=fun (W:World)=>iN x3 W (by omega)
 have i4:=fun (W:World)=>iN x4 W (by omega)
 have i8:=fun (W:World)=>iN x8 W (by omega)
 have m:Hid (x2.size<=5000∧x3.size<=5000∧x4.size<=5000∧x8.size<=5000):=⟨J,L,M,N⟩;clear R J L M T U V N hs hw hL h0 O;go_enter func119,ntmps119
 go_wp2_with fail
 clear X;generalize hb:w.heap.size=b at *;generalize (w.alloc (.cells (g_ 0 0 0) 42))=W at *;have HBQ:Hid (w.heap.size=b):=hb;clear hb
 go_region_held3 (fun w'=>(w'.cell? (a_ g 0)=some (.string ⟨#[112]⟩)∧w'.cell? (a_ g 1)=some (.string x1)∧w'.cell? (a_ g 2)=some (.string x2)∧w'.cell? (a_ g 3)=some (.string x3)∧w'.cell? (a_ g 4)=some (.string x4)∧w'.cell? (a_ g 5)=some (.string x5)∧w'.cell? (a_ g 6)=some (.string x6)∧w'.cell? (a_ g 7)=some (.string x7)∧w'.cell? (a_ g 8)=some (.string x8)∧w'.cell? (a_ g 9)=some (.string x9)∧w'.cell? (a_ b 0)=some (au w' b 0)∧w'.cell? (a_ b 1)=some (au w' b 1)∧w'.cell? (a_ b 2)=some (au w' b 2)∧w'.cell? (a_ b 3)=some (au w' b 3)∧w'.cell? (a_ b 4)=some (au w' b 4)∧w'.cell? (a_ b 5)=some (au w' b 5)∧w'.cell? (a_ b 6)=some (au w' b 6)∧w'.cell? (a_ b 7)=some (au w' b 7)∧w'.cell? (a_ b 8)=some (au w' b 8)∧w'.cell? (a_ b 9)=some (au w' b 9)∧w'.cell? (a_ b 10)=some (au w' b 10)∧w'.cell? (a_ b 11)=some (au w' b 11)∧(∀i,w'.frozen? (a_ b i)=false)∧OS w b g [⟨#[112]⟩,x1,x2,x3,x4,x5,x6,x7,x8,x9] w'))
  (first | (refine BB ?_; (repeat refine OS.set ?_ _ _); exact pw (by assumption)) | exact zq q | exact rg (by assumption) (by assumption))
  (first
   |(go_at_call_of 193 (Value.string x1); refine (Y _ (jG (by assumption))).mono ?_; rintro e w1 ⟨n1,rfl,hb1,hv1⟩)
   |(go_at_call_of 194 (Value.string x2); refine (i2 _).mono ?_; rintro e w2 ⟨t2,rfl,hb2,hv2⟩)
   |(go_at_call_of 194 (Value.string x3); refine (i3 _).mono ?_; rintro e w3 ⟨t3,rfl,hb3,hv3⟩)
   |(go_at_call_of 194 (Value.string x4); refine (i4 _).mono ?_; rintro e w4 ⟨t4,rfl,hb4,hv4⟩)
   |(go_at_call_of 193 (Value.string x5); refine (Z _ (jG (by assumption))).mono ?_; rintro e w5 ⟨n5,rfl,hb5,hv5⟩)
   |(go_at_call_of 193 (Value.string x6); refine (i6 _ (jG (by assumption))).mono ?_; rintro e w6 ⟨n6,rfl,hb6,hv6⟩)
   |(go_at_call_of 193 (Value.string x7); refine (i7 _ (jG (by assumption))).mono ?_; rintro e w7 ⟨n7,rfl,hb7,hv7⟩)
   |(go_at_call_of 194 (Value.string x8); refine (i8 _).mono ?_; rintro e w8 ⟨t8,rfl,hb8,hv8⟩; have k:=pw (rg (w0:=w) (b:=b) (g:=g) (by assumption) hb8)))
 have f:∀j,j<((H_ 1 n1 t2 t3 t4 n5 n6 n7 t8 (x9.toList == [49]) 0 0):List Value).length->(w8.cell? (a_ b (0+j))).isSome=true:=fun j hj=>by rw[Nat.zero_add]; exact k.there j hj
 have s:Hid (Below w.heap.size w (w8.setCells b 0 (H_ 1 n1 t2 t3 t4 n5 n6 n7 t8 (x9.toList == [49]) 0 0))):=k.below.trans (aa k.new _ 0 w8);have t:=World.cell?_setCells_in b (H_ 1 n1 t2 t3 t4 n5 n6 n7 t8 (x9.toList == [49]) 0 0) 0 w8 f 0 (by simp)
 have z:=World.cell?_setCells_in b (H_ 1 n1 t2 t3 t4 n5 n6 n7 t8 (x9.toList == [49]) 0 0) 0 w8 f 1 (by simp)
 have A:=World.cell?_setCells_in b (H_ 1 n1 t2 t3 t4 n5 n6 n7 t8 (x9.toList == [49]) 0 0) 0 w8 f 2 (by simp)
 have B:=World.cell?_setCells_in b (H_ 1 n1 t2 t3 t4 n5 n6 n7 t8 (x9.toList == [49]) 0 0) 0 w8 f 3 (by simp)
 have C:=World.cell?_setCells_in b (H_ 1 n1 t2 t3 t4 n5 n6 n7 t8 (x9.toList == [49]) 0 0) 0 w8 f 4 (by simp)
 have D:=World.cell?_setCells_in b (H_ 1 n1 t2 t3 t4 n5 n6 n7 t8 (x9.toList == [49]) 0 0) 0 w8 f 5 (by simp)
 have E:=World.cell?_setCells_in b (H_ 1 n1 t2 t3 t4 n5 n6 n7 t8 (x9.toList == [49]) 0 0) 0 w8 f 6 (by simp)
 have F:=World.cell?_setCells_in b (H_ 1 n1 t2 t3 t4 n5 n6 n7 t8 (x9.toList == [49]) 0 0) 0 w8 f 7 (by simp)
 have G:=World.cell?_setCells_in b (H_ 1 n1 t2 t3 t4 n5 n6 n7 t8 (x9.toList == [49]) 0 0) 0 w8 f 8 (by simp)
 have H:=World.cell?_setCells_in b (H_ 1 n1 t2 t3 t4 n5 n6 n7 t8 (x9.toList == [49]) 0 0) 0 w8 f 9 (by simp)
 have n:=World.cell?_setCells_in b (H_ 1 n1 t2 t3 t4 n5 n6 n7 t8 (x9.toList == [49]) 0 0) 0 w8 f 10 (by simp)
 have o:=World.cell?_setCells_in b (H_ 1 n1 t2 t3 t4 n5 n6 n7 t8 (x9.toList == [49]) 0 0) 0 w8 f 11 (by simp)
 generalize hWW:World.setCell _ (a_ b 11) _=WW;have p:w8.setCells b 0 (H_ 1 n1 t2 t3 t4 n5 n6 n7 t8 (x9.toList == [49]) 0 0)=WW:=hWW;have I:Hid (Below w.heap.size w WW):=by rw[<- p]; exact s.o
 rw[p] at t z A B C D E F G H n o;simp only[Nat.zero_add,List.getElem_cons_zero,List.getElem_cons_succ] at t z A B C D E F G H n o;clear p hWW f s k;go_wp2_with fail
 exact bodyPost_ret (v:=.agg (E_ 1 n1 t2 t3 t4 n5 n6 n7 t8 (x9.toList == [49]) 0 0)) (by simp[results,results119,go_sem,t,z,A,B,C,D,E,F,G,H,n,o]) rfl ⟨⟨1,⟨n1,t2,t3,t4,n5,n6,n7,t8,x9.toList == [49]⟩,0,0⟩,rfl,wX hv1 hv5 hv6 hv7 hv2 hv3 hv4 hv8,⟨Nat.le_trans hv2.1 m.o.1,Nat.le_trans hv3.1 m.o.2.1,Nat.le_trans hv4.1 m.o.2.2.1,Nat.le_trans hv8.1 m.o.2.2.2⟩,I.o⟩
theorem py(x0 x1:ByteArray)(g c:Nat)(w:World)(h0:x0.data.toList= [100])(hs:x1.size<=5000)(hw:aO w g [x0,x1])(hL:aY w):
 Calls prog 119 #[.slice (o_ g 0) 2 c] w fun r w'=>∃e,r=.returned (evV e)∧iX [x0,x1] e∧Small 5000 e.fam∧Below w.heap.size w w':=by
 obtain rfl:x0=⟨#[100]⟩:=aK h0;have n:=px w g _ (g_ 0 0 0) 42 rfl hL hw;have I:=lA n;have d0:=I.1;have d1:=I.2.1;have J:=fun (W:World) (hW:aY W)=>dD x1 W (by omega) hW
 go_enter func119,ntmps119
 go_wp2_with fail
 have o:Hid _:=n;refine (J _ o.o.libs).mono ?_;rintro e w1 ⟨n1,rfl,hb1,hv1⟩;have f:=o.o.on hb1;obtain⟨_,_,c0,c1,c2,c3,c4,c5,c6,c7,c8,c9,c10,c11,fz,_⟩:=lA f;have b:∀j,j<((h_ 2 n1 0):List Value).length->(w1.cell? (a_ w.heap.size (0+j))).isSome=true:=fun j hj=>by rw[Nat.zero_add]; exact f.there j hj
 have q:Hid (Below w.heap.size w (w1.setCells w.heap.size 0 (h_ 2 n1 0))):=f.below.trans (aa f.new _ 0 w1);have s:=World.cell?_setCells_in w.heap.size (h_ 2 n1 0) 0 w1 b 0 (by simp)
 have t:=World.cell?_setCells_in w.heap.size (h_ 2 n1 0) 0 w1 b 1 (by simp)
 have z:=World.cell?_setCells_in w.heap.size (h_ 2 n1 0) 0 w1 b 2 (by simp)
 have A:=World.cell?_setCells_in w.heap.size (h_ 2 n1 0) 0 w1 b 3 (by simp)
 have B:=World.cell?_setCells_in w.heap.size (h_ 2 n1 0) 0 w1 b 4 (by simp)
 have C:=World.cell?_setCells_in w.heap.size (h_ 2 n1 0) 0 w1 b 5 (by simp)
 have D:=World.cell?_setCells_in w.heap.size (h_ 2 n1 0) 0 w1 b 6 (by simp)
 have E:=World.cell?_setCells_in w.heap.size (h_ 2 n1 0) 0 w1 b 7 (by simp)
 have F:=World.cell?_setCells_in w.heap.size (h_ 2 n1 0) 0 w1 b 8 (by simp)
 have G:=World.cell?_setCells_in w.heap.size (h_ 2 n1 0) 0 w1 b 9 (by simp)
 have k:=World.cell?_setCells_in w.heap.size (h_ 2 n1 0) 0 w1 b 10 (by simp)
 have m:=World.cell?_setCells_in w.heap.size (h_ 2 n1 0) 0 w1 b 11 (by simp)
 go_wp2_with fail
 generalize hWW:World.setCell _ (a_ w.heap.size 11) _=WW;have p:w1.setCells w.heap.size 0 (h_ 2 n1 0)=WW:=hWW;have H:Hid (Below w.heap.size w WW):=by rw[<- p]; exact q.o
 rw[p] at s t z A B C D E F G k m;simp only[Nat.zero_add,List.getElem_cons_zero,List.getElem_cons_succ] at s t z A B C D E F G k m;exact bodyPost_ret (v:=.agg (g_ 2 n1 0)) (by simp[results,results119,go_sem,s,t,z,A,B,C,D,E,F,G,k,m]) rfl ⟨⟨2,zeroF,n1,0⟩,rfl,tV rfl hv1,⟨Nat.zero_le _,Nat.zero_le _,Nat.zero_le _,Nat.zero_le _⟩,H.o⟩
theorem nw(x0 x1:ByteArray)(g c:Nat)(w:World)(h0:x0.data.toList= [99])(hs:x1.size<=5000)(hw:aO w g [x0,x1])(hL:aY w):
 Calls prog 119 #[.slice (o_ g 0) 2 c] w fun r w'=>∃e,r=.returned (evV e)∧iX [x0,x1] e∧Small 5000 e.fam∧Below w.heap.size w w':=by
 obtain rfl:x0=⟨#[99]⟩:=aK h0;have n:=px w g _ (g_ 0 0 0) 42 rfl hL hw;have I:=lA n;have d0:=I.1;have d1:=I.2.1;have J:=fun (W:World) (hW:aY W)=>dD x1 W (by omega) hW
 go_enter func119,ntmps119
 go_wp2_with fail
 have o:Hid _:=n;refine (J _ o.o.libs).mono ?_;rintro e w1 ⟨n1,rfl,hb1,hv1⟩;have f:=o.o.on hb1;obtain⟨_,_,c0,c1,c2,c3,c4,c5,c6,c7,c8,c9,c10,c11,fz,_⟩:=lA f;have b:∀j,j<((h_ 3 0 n1):List Value).length->(w1.cell? (a_ w.heap.size (0+j))).isSome=true:=fun j hj=>by rw[Nat.zero_add]; exact f.there j hj
 have q:Hid (Below w.heap.size w (w1.setCells w.heap.size 0 (h_ 3 0 n1))):=f.below.trans (aa f.new _ 0 w1);have s:=World.cell?_setCells_in w.heap.size (h_ 3 0 n1) 0 w1 b 0 (by simp)
 have t:=World.cell?_setCells_in w.heap.size (h_ 3 0 n1) 0 w1 b 1 (by simp)
 have z:=World.cell?_setCells_in w.heap.size (h_ 3 0 n1) 0 w1 b 2 (by simp)
 have A:=World.cell?_setCells_in w.heap.size (h_ 3 0 n1) 0 w1 b 3 (by simp)
 have B:=World.cell?_setCells_in w.heap.size (h_ 3 0 n1) 0 w1 b 4 (by simp)
 have C:=World.cell?_setCells_in w.heap.size (h_ 3 0 n1) 0 w1 b 5 (by simp)
 have D:=World.cell?_setCells_in w.heap.size (h_ 3 0 n1) 0 w1 b 6 (by simp)
 have E:=World.cell?_setCells_in w.heap.size (h_ 3 0 n1) 0 w1 b 7 (by simp)
 have F:=World.cell?_setCells_in w.heap.size (h_ 3 0 n1) 0 w1 b 8 (by simp)
 have G:=World.cell?_setCells_in w.heap.size (h_ 3 0 n1) 0 w1 b 9 (by simp)
 have k:=World.cell?_setCells_in w.heap.size (h_ 3 0 n1) 0 w1 b 10 (by simp)
 have m:=World.cell?_setCells_in w.heap.size (h_ 3 0 n1) 0 w1 b 11 (by simp)
 go_wp2_with fail
 generalize hWW:World.setCell _ (a_ w.heap.size 11) _=WW;have p:w1.setCells w.heap.size 0 (h_ 3 0 n1)=WW:=hWW;have H:Hid (Below w.heap.size w WW):=by rw[<- p]; exact q.o
 rw[p] at s t z A B C D E F G k m;simp only[Nat.zero_add,List.getElem_cons_zero,List.getElem_cons_succ] at s t z A B C D E F G k m;exact bodyPost_ret (v:=.agg (g_ 3 0 n1)) (by simp[results,results119,go_sem,s,t,z,A,B,C,D,E,F,G,k,m]) rfl ⟨⟨3,zeroF,0,n1⟩,rfl,rh rfl hv1,⟨Nat.zero_le _,Nat.zero_le _,Nat.zero_le _,Nat.zero_le _⟩,H.o⟩
theorem tW(x0:ByteArray)(n g c:Nat)(w:World)(hc:w.cell? ⟨g,0,none⟩=some (.string x0))(hn:0<n)(hn2:n<=5000)(h1:¬ (x0.data.toList= [112]∧n=10))(h2:¬ (x0.data.toList= [100]∧n=2))(h3:¬ (x0.data.toList= [99]∧n=2)):
 Calls prog 119 #[.slice (o_ g 0) n c] w fun r w'=>r=.returned (evV ⟨0,zeroF,0,0⟩)∧Below w.heap.size w w':=by
 have d0:=Lib.cell?_alloc_some (.cells (g_ 0 0 0) 42) hc;have k:J _:=bA w (.cells (g_ 0 0 0) 42);have m:J (x0.toList= [112]->((n:Int) == 10)=true->False):=fun a b=>h1 ⟨by rwa [ByteArray.toList_eq] at a,by rw[beq_iff_eq] at b; omega⟩
 have o:J (x0.toList= [100]->((n:Int) == 2)=true->False):=fun a b=>h2 ⟨by rwa [ByteArray.toList_eq] at a,by rw[beq_iff_eq] at b; omega⟩
 have p:J (x0.toList= [99]->((n:Int) == 2)=true->False):=fun a b=>h3 ⟨by rwa [ByteArray.toList_eq] at a,by rw[beq_iff_eq] at b; omega⟩
 have q:(0:Int)<(n:Int):=by omega
 have s:((w.alloc (.cells (g_ 0 0 0) 42)):World).c_ w.heap.size 0=some (.i_ 0):=(Fb _ _ _ _ rfl).trans rfl;have t:((w.alloc (.cells (g_ 0 0 0) 42)):World).c_ w.heap.size 1=some (.i_ 0):=(Fb _ _ _ _ rfl).trans rfl;have z:((w.alloc (.cells (g_ 0 0 0) 42)):World).c_ w.heap.size 2=some (.e_):=(Fb _ _ _ _ rfl).trans rfl;have A:((w.alloc (.cells (g_ 0 0 0) 42)):World).c_ w.heap.size 3=some (.e_):=(Fb _ _ _ _ rfl).trans rfl;have B:((w.alloc (.cells (g_ 0 0 0) 42)):World).c_ w.heap.size 4=some (.e_):=(Fb _ _ _ _ rfl).trans rfl
 have C:((w.alloc (.cells (g_ 0 0 0) 42)):World).c_ w.heap.size 5=some (.i_ 0):=(Fb _ _ _ _ rfl).trans rfl;have D:((w.alloc (.cells (g_ 0 0 0) 42)):World).c_ w.heap.size 6=some (.i_ 0):=(Fb _ _ _ _ rfl).trans rfl;have E:((w.alloc (.cells (g_ 0 0 0) 42)):World).c_ w.heap.size 7=some (.i_ 0):=(Fb _ _ _ _ rfl).trans rfl;have F:((w.alloc (.cells (g_ 0 0 0) 42)):World).c_ w.heap.size 8=some (.e_):=(Fb _ _ _ _ rfl).trans rfl;have G:((w.alloc (.cells (g_ 0 0 0) 42)):World).c_ w.heap.size 9=some (.bool false):=(Fb _ _ _ _ rfl).trans rfl
 have f:((w.alloc (.cells (g_ 0 0 0) 42)):World).c_ w.heap.size 10=some (.i_ 0):=(Fb _ _ _ _ rfl).trans rfl;have j:((w.alloc (.cells (g_ 0 0 0) 42)):World).c_ w.heap.size 11=some (.i_ 0):=(Fb _ _ _ _ rfl).trans rfl;go_enter func119,ntmps119
 go_wp2_with fail
 all_goals first
  |exact (m.o (by assumption) (by assumption)).elim
  |exact (o.o (by assumption) (by assumption)).elim
  |exact (p.o (by assumption) (by assumption)).elim
  |exact bodyPost_ret (v:=.agg (g_ 0 0 0)) (by simp[results,results119,go_sem,s,t,z,A,B,C,D,E,F,G,f,j]) rfl ⟨rfl,k.o⟩
theorem zt{α:Type}{l:List α}(h:l.length=2):∃a b,l= [a,b]:=by
 match l,h with
 |[a,b],_=>exact⟨a,b,rfl⟩
theorem C0{α:Type}{l:List α}(h:l.length=10):∃a0 a1 a2 a3 a4 a5 a6 a7 a8 a9,l= [a0,a1,a2,a3,a4,a5,a6,a7,a8,a9]:=by
 match l,h with
 |[a0,a1,a2,a3,a4,a5,a6,a7,a8,a9],_=>exact⟨a0,a1,a2,a3,a4,a5,a6,a7,a8,a9,rfl⟩
theorem tX(ws:List ByteArray)(g c:Nat)(w:World)(hn:0<ws.length)(hn2:ws.length<=5000)(hs:∀x∈ws,x.size<=5000)(hw:aO w g ws)(hL:aY w):
 Calls prog 119 #[.slice (o_ g 0) ws.length c] w fun r w'=>∃e,r=.returned (evV e)∧iX ws e∧Small 5000 e.fam∧Below w.heap.size w w':=by
 obtain⟨x0,h0⟩:∃x0,ws[0]?=some x0:=⟨_,Fh hn⟩;by_cases hp:x0.data.toList= [112]∧ws.length=10
 ·obtain⟨a0,a1,a2,a3,a4,a5,a6,a7,a8,a9,rfl⟩:=C0 hp.2
  simp only[List.getElem?_cons_zero,Option.some.injEq] at h0;subst h0;exact ri _ _ _ _ _ _ _ _ _ _ g c w hp.1 hs hw hL
 by_cases hd:x0.data.toList= [100]∧ws.length=2
 ·obtain⟨a0,a1,rfl⟩:=zt hd.2
  simp only[List.getElem?_cons_zero,Option.some.injEq] at h0;subst h0;exact py _ _ g c w hd.1 (hs a1 (by simp)) hw hL
 by_cases hc:x0.data.toList= [99]∧ws.length=2
 ·obtain⟨a0,a1,rfl⟩:=zt hc.2
  simp only[List.getElem?_cons_zero,Option.some.injEq] at h0;subst h0;exact nw _ _ g c w hc.1 (hs a1 (by simp)) hw hL
 refine (tW x0 ws.length g c w (by have:=hw.2 0 x0 h0; rwa [Nat.add_zero] at this) hn hn2 hp hd hc).mono ?_
 rintro e w' ⟨rfl,hb⟩;exact⟨_,rfl,zr h0 (fun a b=>hp ⟨a,b⟩) (fun a b=>hd ⟨a,b⟩) (fun a b=>hc ⟨a,b⟩) _,⟨Fo _,Fo _,Fo _,Fo _⟩,hb⟩
theorem li(w:World)(ps:List ByteArray)(N:Nat)(t:TypeId):aO (w.alloc (.cells (Lib.cellsOf ps N) t)) w.heap.size ps:=by
 refine⟨by simp,fun j x hj=>?_⟩
 have b:=(List.getElem?_eq_some_iff.1 hj).1;rw[Nat.zero_add,World.cell?_alloc_at _ _ _ _ rfl];unfold Lib.cellsOf;rw[List.getElem?_toArray,List.getElem?_append_left (by simpa using b),List.getElem?_map,hj]
 rfl
theorem tY(c:UInt8)(k:Nat)(l:List UInt8):∀x∈Lib.splitK [c] 0 k l,x.length<=l.length:=by
 induction k generalizing l with
 |zero=>intro x hx; simp[Lib.splitK] at hx; subst hx; exact Fa _
 |succ k ih=>
  rcases eO c l with h | ⟨a,b,rfl,h⟩
  ·rw[bJ h]; intro x hx; simp at hx; subst hx; exact Fa _
  ·rw[bK b h]
   intro x hx;simp only[List.mem_cons] at hx;rcases hx with rfl | hx
   ·simp
   ·have:=ih b x hx
    simp; omega
theorem tZ(c:UInt8)(k:Nat)(l:List UInt8):0<(Lib.splitK [c] 0 k l).length:=by
 cases k with
 |zero=>simp[Lib.splitK]
 |succ k=>
  rcases eO c l with h | ⟨a,b,rfl,h⟩
  ·rw[bJ h]; simp
  ·rw[bK b h]; simp
theorem zu(f:Fam)(i t:Int)(b:Bool)(hb:b=true↔may ⟨1,f,i,t⟩)(hs:Small 5000 f)(w:World):Calls prog 140 #[evV ⟨1,f,i,t⟩] w fun e w'=>e=.returned (.bool b)∧Below w.heap.size w w':=by
 rw[CL] at hb;obtain⟨f1,f2,f3,f4,f5,f6,f7,f8,f9⟩:=f;unfold Small at hs;unfold bP at hb;simp only at hs hb;obtain⟨s2,s3,s4,s8⟩:=hs
 have F:Hid (Below w.heap.size w (((w.alloc (.cells (E_ 1 f1 f2 f3 f4 f5 f6 f7 f8 f9 i t) 154)).alloc (.cells (F_ f1 f2 f3 f4 f5 f6 f7 f8 f9) 40)).alloc (.cells (Q_ f1 f5 f6 f7) 3))):=by
  show Below _ _ _
  repeat (first | exact Below.refl _ _ | refine Below.alloc ?_ (by simp; try omega) _)
 have C:Hid _:=hb
 have V:Hid (∀j:Nat,j<4->okB ([f1,f5,f6,f7].getD j 0)=false->b=false):=fun j hj h=>bG C.o (fun hh=>by
  obtain⟨⟨⟨h1,h5,h6,h7⟩,_⟩,_⟩:=hh;match j,hj with
  |0,_=>rw[show [f1,f5,f6,f7].getD 0 0=f1 from rfl,dt h1] at h; cases h
  |1,_=>rw[show [f1,f5,f6,f7].getD 1 0=f5 from rfl,dt h5] at h; cases h
  |2,_=>rw[show [f1,f5,f6,f7].getD 2 0=f6 from rfl,dt h6] at h; cases h
  |3,_=>rw[show [f1,f5,f6,f7].getD 3 0=f7 from rfl,dt h7] at h; cases h)
 unfold evV aX;simp only;go_enter func140,ntmps140
 go_wp2_with fail;go_loopg [24] 4 (fun gk iv wr=>∃j:Nat,j+gk=4∧iv=.i_ j∧Hid (∀k:Nat,k<j->okB ([f1,f5,f6,f7].getD k 0)=true)∧wr=(((w.alloc (.cells (E_ 1 f1 f2 f3 f4 f5 f6 f7 f8 f9 i t) 154)).alloc (.cells (F_ f1 f2 f3 f4 f5 f6 f7 f8 f9) 40)).alloc (.cells (Q_ f1 f5 f6 f7) 3)))
 case atStart=>exact⟨0,by omega,rfl,(fun k hk=>absurd hk (Nat.not_lt_zero _)),rfl⟩
 case round=>
  obtain⟨j,hj,rfl,HA,rfl⟩:=hrel;have T:Hid _:=hj;have W:j<=4:=by omega
  by_cases hlt:j<4
  ·have G:(((w.alloc (.cells (E_ 1 f1 f2 f3 f4 f5 f6 f7 f8 f9 i t) 154)).alloc (.cells (F_ f1 f2 f3 f4 f5 f6 f7 f8 f9) 40)).alloc (.cells (Q_ f1 f5 f6 f7) 3)).c_ (w.heap.size+1+1) j=some (.i_ ([f1,f5,f6,f7].getD j 0)):=by
    match j,hlt with
    |0,_=>exact (World.cell?_alloc_at _ _ _ _ (by simp)).trans rfl
    |1,_=>exact (World.cell?_alloc_at _ _ _ _ (by simp)).trans rfl
    |2,_=>exact (World.cell?_alloc_at _ _ _ _ (by simp)).trans rfl
    |3,_=>exact (World.cell?_alloc_at _ _ _ _ (by simp)).trans rfl
   have H:Hid _:=V.o j hlt
   have I:Hid (okB ([f1,f5,f6,f7].getD j 0)=true->∀k:Nat,k<j+1->okB ([f1,f5,f6,f7].getD k 0)=true):=fun h k hk=>by
    by_cases hkj:k=j
    ·rw[hkj]; exact h
    ·exact HA.out k (by omega)
   generalize [f1,f5,f6,f7].getD j 0=n at *;have U:(j:Int)<4:=by omega
   go_wp2_with fail;refine (zm n _).mono ?_;rintro e w' ⟨rfl,rfl⟩
   cases hq:okB n with
   |true=>
    have c:=I.o hq;have L:Hid _:=c;go_wp2_with fail;go_roundg (gk - 1)
    case measure=>have:=T.o; omega
    case rel=>exact⟨j+1,by have:=T.o; omega,by go_num,L,rfl⟩
   |false=>
    have c:Hid _:=H.o hq;go_wp2_with fail;go_ret;exact⟨by rw[c.o]; rfl,F.o⟩
  ·obtain rfl:j=4:=by omega
   have M:Hid (okN f1∧okN f5∧okN f6∧okN f7):=⟨cU.1 (HA.out 0 (by omega)),cU.1 (HA.out 1 (by omega)),cU.1 (HA.out 2 (by omega)),cU.1 (HA.out 3 (by omega))⟩
   go_wp2_with fail;refine (kL f4 _ s4).mono ?_;rintro e w4 ⟨l,n,rfl,ho,hb4⟩;have m:Hid _:=F.o.tm hb4;have D:Hid _:=ho;have E:∀(g o:Nat) (v:Value),g<w.heap.size+1+1+1->(((w.alloc (.cells (E_ 1 f1 f2 f3 f4 f5 f6 f7 f8 f9 i t) 154)).alloc (.cells (F_ f1 f2 f3 f4 f5 f6 f7 f8 f9) 40)).alloc (.cells (Q_ f1 f5 f6 f7) 3)).c_ g o=some v->w4.c_ g o=some v:=fun g o v hg h=>(hb4.cell (p:=(a_ g o)) (by simpa using hg)).trans h
   have X:=E w.heap.size 10 (.i_ i) (by omega) (Lib.cell?_alloc_some _ (Lib.cell?_alloc_some _ ((Fb _ _ _ _ rfl).trans rfl)))
   have Y:=E w.heap.size 11 (.i_ t) (by omega) (Lib.cell?_alloc_some _ (Lib.cell?_alloc_some _ ((Fb _ _ _ _ rfl).trans rfl)))
   have m1:=E (w.heap.size+1) 1 (.string f2) (by omega) (Lib.cell?_alloc_some _ ((World.cell?_alloc_at _ _ _ _ (by simp)).trans rfl))
   have m2:=E (w.heap.size+1) 2 (.string f3) (by omega) (Lib.cell?_alloc_some _ ((World.cell?_alloc_at _ _ _ _ (by simp)).trans rfl))
   have m3:=E (w.heap.size+1) 3 (.string f4) (by omega) (Lib.cell?_alloc_some _ ((World.cell?_alloc_at _ _ _ _ (by simp)).trans rfl))
   have m7:=E (w.heap.size+1) 7 (.string f8) (by omega) (Lib.cell?_alloc_some _ ((World.cell?_alloc_at _ _ _ _ (by simp)).trans rfl))
   generalize hJJ:ae l=J;have A:Hid _:=hJJ;by_cases hi:i=0
   ·subst hi
    by_cases ht:t=0
    ·subst ht
     cases h2:am f2.data.toList with
     |true=>
      cases h3:am f3.data.toList with
      |true=>
       have N:Hid (b=true↔(f8.data.toList= []∨am f8.data.toList=true)∧Lst f4.data.toList):=by
        show b=true↔_
        rw[C.o,h2,h3]
        have:=M.o;simp[this]
       have q:Hid _:=h2;have r:Hid _:=h3;by_cases h8:f8.data.toList= []
       ·have Z:f8.toList.isEmpty=true:=by rw[ByteArray.toList_eq,h8]; rfl
        have s:Hid (b=true↔Lst f4.data.toList):=by
         show b=true↔_
         rw[N.o];simp[h8]
        cases n with
        |succ n=>
         have c:Hid _:=bG s.o (pi D.o);have hn:(((n+1:Nat):Int) == 0)=false:=by rw[beq_eq_false_iff_ne]; omega
         have O:((n:Int)+1 == 0)=false:=by rw[beq_eq_false_iff_ne]; omega
         go_wp2_with fail;refine (aA f2 _ (by omega)).mono ?_;rintro e w' ⟨rfl,rfl⟩;rw[q.o];go_wp2_with fail;refine (aA f3 _ (by omega)).mono ?_;rintro e w' ⟨rfl,rfl⟩;rw[r.o];go_wp2_with fail;go_ret;exact⟨by rw[c.o]; rfl,m.o⟩
        |zero=>
         rw[show ((0:Nat):Int)=0 from rfl]
         by_cases hJ:J=f4.data.toList
         ·have c:Hid _:=s.o.2 ((j2 D.o).2 (A.o.trans hJ))
          have B:f4=⟨J.toArray⟩:=aK hJ.symm;subst B;go_wp2_with fail;refine (aA f2 _ (by omega)).mono ?_;rintro e w' ⟨rfl,rfl⟩;rw[q.o];go_wp2_with fail;refine (aA f3 _ (by omega)).mono ?_;rintro e w' ⟨rfl,rfl⟩;rw[r.o];go_wp2_with fail;go_ret;exact⟨by rw[c.o]; rfl,m.o⟩
         ·have c:Hid _:=bG s.o (fun h=>hJ (A.o.symm.trans ((j2 D.o).1 h)))
          have R:(J == f4.toList)=false:=by rw[ByteArray.toList_eq,beq_eq_false_iff_ne]; exact hJ
          go_wp2_with fail;refine (aA f2 _ (by omega)).mono ?_;rintro e w' ⟨rfl,rfl⟩;rw[q.o];go_wp2_with fail;refine (aA f3 _ (by omega)).mono ?_;rintro e w' ⟨rfl,rfl⟩;rw[r.o];go_wp2_with fail;go_ret;exact⟨by rw[c.o]; rfl,m.o⟩
       ·have Z:f8.toList.isEmpty=false:=by rw[ByteArray.toList_eq,List.isEmpty_eq_false_iff]; exact h8
        cases hn8:am f8.data.toList with
        |true=>
         have z:Hid _:=hn8
         have s:Hid (b=true↔Lst f4.data.toList):=by
          show b=true↔_
          rw[N.o];simp[hn8]
         cases n with
         |succ n=>
          have c:Hid _:=bG s.o (pi D.o);have hn:(((n+1:Nat):Int) == 0)=false:=by rw[beq_eq_false_iff_ne]; omega
          have O:((n:Int)+1 == 0)=false:=by rw[beq_eq_false_iff_ne]; omega
          go_wp2_with fail;refine (aA f2 _ (by omega)).mono ?_;rintro e w' ⟨rfl,rfl⟩;rw[q.o];go_wp2_with fail;refine (aA f3 _ (by omega)).mono ?_;rintro e w' ⟨rfl,rfl⟩;rw[r.o];go_wp2_with fail;refine (aA f8 _ (by omega)).mono ?_;rintro e w' ⟨rfl,rfl⟩;rw[z.o];go_wp2_with fail;go_ret;exact⟨by rw[c.o]; rfl,m.o⟩
         |zero=>
          rw[show ((0:Nat):Int)=0 from rfl]
          by_cases hJ:J=f4.data.toList
          ·have c:Hid _:=s.o.2 ((j2 D.o).2 (A.o.trans hJ))
           have B:f4=⟨J.toArray⟩:=aK hJ.symm;subst B;go_wp2_with fail;refine (aA f2 _ (by omega)).mono ?_;rintro e w' ⟨rfl,rfl⟩;rw[q.o];go_wp2_with fail;refine (aA f3 _ (by omega)).mono ?_;rintro e w' ⟨rfl,rfl⟩;rw[r.o];go_wp2_with fail;refine (aA f8 _ (by omega)).mono ?_;rintro e w' ⟨rfl,rfl⟩;rw[z.o];go_wp2_with fail;go_ret;exact⟨by rw[c.o]; rfl,m.o⟩
          ·have c:Hid _:=bG s.o (fun h=>hJ (A.o.symm.trans ((j2 D.o).1 h)))
           have R:(J == f4.toList)=false:=by rw[ByteArray.toList_eq,beq_eq_false_iff_ne]; exact hJ
           go_wp2_with fail;refine (aA f2 _ (by omega)).mono ?_;rintro e w' ⟨rfl,rfl⟩;rw[q.o];go_wp2_with fail;refine (aA f3 _ (by omega)).mono ?_;rintro e w' ⟨rfl,rfl⟩;rw[r.o];go_wp2_with fail;refine (aA f8 _ (by omega)).mono ?_;rintro e w' ⟨rfl,rfl⟩;rw[z.o];go_wp2_with fail;go_ret;exact⟨by rw[c.o]; rfl,m.o⟩
        |false=>
         have z:Hid _:=hn8
         have c:Hid _:=bG N.o (fun h=>by
          rcases h.1 with h | h
          ·exact h8 h
          ·rw[hn8] at h; cases h)
         go_wp2_with fail;refine (aA f2 _ (by omega)).mono ?_;rintro e w' ⟨rfl,rfl⟩;rw[q.o];go_wp2_with fail;refine (aA f3 _ (by omega)).mono ?_;rintro e w' ⟨rfl,rfl⟩;rw[r.o];go_wp2_with fail;refine (aA f8 _ (by omega)).mono ?_;rintro e w' ⟨rfl,rfl⟩;rw[z.o];go_wp2_with fail;go_ret;exact⟨by rw[c.o]; rfl,m.o⟩
      |false=>
       have c:Hid _:=bG C.o (fun h=>by have:=h.1.2.2.1; rw[h3] at this; cases this)
       have q:Hid _:=h2;have r:Hid _:=h3;go_wp2_with fail;refine (aA f2 _ (by omega)).mono ?_;rintro e w' ⟨rfl,rfl⟩;rw[q.o];go_wp2_with fail;refine (aA f3 _ (by omega)).mono ?_;rintro e w' ⟨rfl,rfl⟩;rw[r.o];go_wp2_with fail;go_ret;exact⟨by rw[c.o]; rfl,m.o⟩
     |false=>
      have c:Hid _:=bG C.o (fun h=>by have:=h.1.2.1; rw[h2] at this; cases this)
      have q:Hid _:=h2;go_wp2_with fail;refine (aA f2 _ (by omega)).mono ?_;rintro e w' ⟨rfl,rfl⟩;rw[q.o];go_wp2_with fail;go_ret;exact⟨by rw[c.o]; rfl,m.o⟩
    ·have c:Hid _:=bG C.o (fun h=>ht h.2.2)
     have ht':(t == 0)=false:=by rw[beq_eq_false_iff_ne]; exact ht
     go_wp2_with fail;go_ret;exact⟨by rw[c.o]; rfl,m.o⟩
   ·have c:Hid _:=bG C.o (fun h=>hi h.2.1)
    have hi':(i == 0)=false:=by rw[beq_eq_false_iff_ne]; exact hi
    go_wp2_with fail;go_ret;exact⟨by rw[c.o]; rfl,m.o⟩
theorem zv(f:Fam)(i t:Int)(b:Bool)(hb:b=true↔may ⟨3,f,i,t⟩)(w:World):Calls prog 140 #[evV ⟨3,f,i,t⟩] w fun e w'=>e=.returned (.bool b)∧Below w.heap.size w w':=by
 rw[CK] at hb;by_cases hz:f=zeroF
 ·subst hz
  by_cases ht:i=0
  ·subst ht
   have c:J (b=okB t):=by
    show b=okB t
    rw[Bool.eq_iff_iff,cU,hb];simp
   clear hb;unfold evV aX zeroF;simp only;go_enter func140,ntmps140
   go_wp2_with fail;refine (zm t _).mono ?_;rintro e w' ⟨rfl,rfl⟩;go_wp2_with fail;go_ret;refine⟨by rw[c.o]; rfl,?_⟩
   repeat (first | exact Below.refl _ _ | refine Below.alloc ?_ (by simp) _)
  ·have c:J _:=bG hb (fun h=>ht h.2.1)
   have g:(i == 0)=false:=by rw[beq_eq_false_iff_ne]; exact ht
   clear hb;unfold evV aX zeroF;simp only;go_enter func140,ntmps140
   go_wp2_with fail;go_ret;refine⟨by rw[c.o]; rfl,?_⟩
   repeat (first | exact Below.refl _ _ | refine Below.alloc ?_ (by simp) _)
 ·have c:J _:=bG hb (fun h=>hz h.1)
  have j:J _:=hz;clear hb hz;obtain⟨f1,f2,f3,f4,f5,f6,f7,f8,f9⟩:=f;unfold evV aX;simp only;go_enter func140,ntmps140
  go_wp2_with fail
  all_goals first
   |(exfalso; refine j.o ?_; unfold zeroF; simp_all [gD]; done)
   |(go_ret; refine⟨by rw[c.o]; rfl,?_⟩; repeat (first | exact Below.refl _ _ | refine Below.alloc ?_ (by simp) _))
theorem wY(k:Int)(f:Fam)(i t:Int)(b:Bool)(hb:b=true↔may ⟨k,f,i,t⟩)(h1:k≠1)(h2:k≠2)(h3:k≠3)(w:World):Calls prog 140 #[evV ⟨k,f,i,t⟩] w fun e w'=>e=.returned (.bool b)∧Below w.heap.size w w':=by
 have c:J _:=bG hb (zl h1 h2 h3);clear hb;obtain⟨f1,f2,f3,f4,f5,f6,f7,f8,f9⟩:=f;unfold evV aX;simp only;go_enter func140,ntmps140
 go_wp2_with fail;go_ret;refine⟨by rw[c.o]; rfl,?_⟩
 repeat (first | exact Below.refl _ _ | refine Below.alloc ?_ (by simp) _)
theorem wZ(e:E)(b:Bool)(hb:b=true↔Ev.may e)(hs:Small 5000 e.fam)(w:World):Calls prog 140 #[evV e] w fun e w'=>e=.returned (.bool b)∧Below w.heap.size w w':=by
 obtain⟨k,f,i,t⟩:=e;by_cases h1:k=1
 ·subst h1; exact zu f i t b hb hs w
 by_cases h2:k=2
 ·subst h2; exact zn f i t b hb w
 by_cases h3:k=3
 ·subst h3; exact zv f i t b hb w
 exact wY k f i t b hb h1 h2 h3 w
def told(ns:List Int):List UInt8:=Lib.join (ns.map Lib.itoa) [32]
def eV(ns:List Int):List ByteArray:=ns.map fun n=>(⟨(Lib.itoa n).toArray⟩:ByteArray)
theorem t6(ns:List Int)(j:Nat)(h:j<ns.length):eV (ns.take (j+1))=eV (ns.take j) ++ [⟨(Lib.itoa ns[j]).toArray⟩]:=by
 unfold eV;rw[List.take_succ_eq_append_getElem h,List.map_append];rfl
theorem kM(ns:List Int):(eV ns).map (·.data.toList)=ns.map Lib.itoa:=by
 unfold eV;rw[List.map_map];rfl
theorem jH:∀(ns:List Int),(∀n∈ns,okN n)->(told ns).length<=14*ns.length
 |[],_=>by simp[told,Lib.join_nil]
 |[a],h=>by
  have:=ar (h a (by simp))
  simp[told,Lib.join_one]
  omega
 |a::b::l,h=>by
  have h1:=ar (h a (by simp))
  have c:=jH (b::l) (fun n hn=>h n (by simp[hn]))
  unfold told at *;rw[List.map_cons,List.map_cons,bV];simp at c ⊢
  omega
def gR(w:World)(g:Nat)(ns:List Int):Prop:=g<w.heap.size∧∀j (h:j<ns.length),w.cell? ⟨g,j,none⟩=some (.int .i64 ns[j])
theorem gR.on{w':World}{g:Nat}{ns:List Int}(h:gR w g ns)(hb:Below w.heap.size w w'):gR w' g ns:=
 ⟨Fd h.1 hb.size,fun j hj=>(hb.cell (p:=(a_ g j)) h.1).trans (h.2 j hj)⟩
theorem gR.alloc{w:World}{g:Nat}{ns:List Int}(h:gR w g ns)(o:Obj):gR (w.alloc o) g ns:=h.on (bA _ _)
theorem CM(w:World)(a:Int)(t:TypeId)(g:Nat)(hg:g=w.heap.size):gR (w.alloc (.cells #[.int .i64 a] t)) g [a]:=
 ⟨by simp[hg],fun j hj=>by
  match j,hj with
  |0,_=>exact (Fb _ _ _ _ hg).trans rfl⟩
theorem DL(w:World)(a b c:Int)(t:TypeId)(g:Nat)(hg:g=w.heap.size):gR (w.alloc (.cells #[.int .i64 a,.int .i64 b,.int .i64 c] t)) g [a,b,c]:=
 ⟨by simp[hg],fun j hj=>by
  match j,hj with
  |0,_=>exact (Fb _ _ _ _ hg).trans rfl
  |1,_=>exact (Fb _ _ _ _ hg).trans rfl
  |2,_=>exact (Fb _ _ _ _ hg).trans rfl⟩
theorem zw{B:Nat}{v:Value}{xs:List ByteArray}(h:aw B w v xs)(hn:(Lib.join (xs.map (·.data.toList)) [32]).length<=100000)(hx:xs.length<=5000):
 Calls prog 114 #[v,.string ⟨#[32]⟩] w fun e w'=>e=.returned (.string ⟨(Lib.join (xs.map (·.data.toList)) [32]).toArray⟩)∧Below w.heap.size w w':=by
 rcases h with ⟨rfl,rfl⟩ | ⟨g,c,rfl,hr⟩
 ·refine (strings_Join_none none 0 ⟨#[32]⟩ w).mono ?_
  rintro e w' ⟨rfl,rfl⟩;exact⟨rfl,E9 _ _⟩
 ·refine strings_Join g 0 c xs ⟨#[32]⟩ w (fun j x hj=>?_) hr.lt (by omega) hr.le (Fe hn (by omega))
  rw[Nat.zero_add];refine hr.holds j _ ?_;rw[List.getElem?_map,hj];rfl
theorem jk(s:ByteArray)(w:World):Calls prog 162 #[.string s] w fun e w'=>e=.returned (.string ⟨(wordL s.data.toList).toArray⟩)∧w'=w:=by
 by_cases h:s.data.toList= []
 ·have c:s.toList.isEmpty=true:=by rw[ByteArray.toList_eq,h]; rfl
  have b:J (wordL s.data.toList= [95]):=by show _=_; rw[h]; rfl
  clear h;go_enter func162,ntmps162
  go_wp2_with fail
  go_ret;exact⟨by rw[b.o]; rfl,rfl⟩
 ·have c:s.toList.isEmpty=false:=by rw[ByteArray.toList_eq,List.isEmpty_eq_false_iff]; exact h
  have b:J (wordL s.data.toList=s.data.toList):=if_neg h;clear h;go_enter func162,ntmps162
  go_wp2_with fail
  go_ret;exact⟨by rw[b.o]; rfl,rfl⟩
theorem xa:(prog.info? 9).map (fun i=>(i.zero,i.size,i.bytes))=some (some (.string ⟨#[]⟩),1,16):=by kernel_rfl
theorem t7:∃i,prog.info? 9=some i∧i.zero=some (.string ⟨#[]⟩)∧i.size=1∧i.bytes=16:=by
 have h:=xa
 cases hi:prog.info? 9 with
 |none=>rw[hi] at h; cases h
 |some i=>
  rw[hi] at h;simp only[Option.map_some,Option.some.injEq,Prod.mk.injEq] at h;exact⟨i,rfl,h.1,h.2.1,h.2.2⟩
theorem rj(ns:List Int)(g c:Nat)(w:World)(hn:ns.length<=4)(hok:∀n∈ns,0<=n∧n<=9223372036854775807)(hlen:(told ns).length<=100000)(hr:gR w g ns)(hL:bv w):Calls prog 104 #[.slice (o_ g 0) ns.length c] w fun e w'=>e=.returned (.string ⟨(told ns).toArray⟩)∧Below w.heap.size w w':=by
 obtain⟨i0,hi,hz0,hz1,hz2⟩:=t7;have F:J (bv w):=hL;have G:J (gR w g ns):=hr;have r:J (∀n∈ns,0<=n∧n<=9223372036854775807):=hok;have m:J ((told ns).length<=100000):=hlen;clear hL hr hok hlen;go_enter func104,ntmps104
 go_wp2_with fail
 go_loopg [3,8] ns.length (fun gk ov iv wr=>∃j:Nat,j+gk=ns.length∧iv=.i_ j∧Hid (aw w.heap.size wr ov (eV (ns.take j)))∧Hid (Below w.heap.size w wr))
 case atStart=>exact⟨0,by omega,rfl,.inl ⟨rfl,rfl⟩,E9 _ _⟩
 case round=>
  obtain⟨j,hj,rfl,HW,HB⟩:=hrel;have D:J (j+gk=ns.length):=hj;have H:j<=ns.length:=by omega
  clear hj;by_cases hlt:j<ns.length
  ·have E:(j:Int)<(ns.length:Int):=by omega
   have f:wr.cell? (a_ g j)=some (.i_ ns[j]):=((G.o.on HB.out).2 j hlt);have o:J (0<=ns[j]∧ns[j]<=9223372036854775807):=r.o _ (Fw hlt);have I:J (eV (ns.take (j+1))=eV (ns.take j) ++ [⟨(Lib.itoa ns[j]).toArray⟩]):=t6 ns j hlt;have s:(eV (ns.take j)).length<=1000000:=by unfold eV; simp; omega
   generalize ns[j]=n at *;go_wp2_with fail
   refine (bQ n _ o.o.1 o.o.2 (F.o.below HB.out)).mono ?_;rintro e w1 ⟨rfl,hb1⟩;have b:J (Below w.heap.size w w1):=HB.out.trans (hb1.mono HB.out.size);have t:J (aw w.heap.size w1 _ (eV (ns.take j))):=HW.out.below hb1 (Fa _);clear hb1 f;have p:J (Below w.heap.size w (w1.alloc (.cells #[.string ⟨(Lib.itoa n).toArray⟩] 9))):=b.o.alloc b.o.size _;have z:J (aw w.heap.size (w1.alloc (.cells #[.string ⟨(Lib.itoa n).toArray⟩] 9)) _ (eV (ns.take j))):=t.o.below ((E9 _ _).alloc (Fa _) _) (Fa _);go_wp2_with (at_builtin; refine bz _ rfl _ _ 66 rfl 9 i0 underlying66 hi hz0 hz1 hz2 w.heap.size _ _ rfl z.o p.o.size (a_ w1.heap.size 0) 1 ⟨(Lib.itoa n).toArray⟩ rfl ((Fb _ _ _ _ rfl).trans rfl) s ?_)
   intro v' w2 hw2 hb2;have A:J (Below w.heap.size w w2):=p.o.trans hb2;have B:J (aw w.heap.size w2 v' (eV (ns.take (j+1)))):=by show aw _ _ _ _; rw[I.o]; exact hw2
   clear hw2 hb2;go_wp2_with fail
   go_roundg (gk - 1)
   case measure=>have:=D.o; omega
   case rel=>exact⟨j+1,by have:=D.o; omega,by go_num,B,A⟩
  ·obtain rfl:j=ns.length:=by omega
   have k:=HW.out;rw[List.take_of_length_le (Nat.le_refl _)] at k;have C:J _:=k;clear k;have q:=fun (W:World) v (hW:aw w.heap.size W v (eV ns))=>zw hW (by rw[kM]; exact m.o) (by unfold eV; simp; omega)
   simp only[kM] at q;go_wp2_with fail
   refine (q _ _ C.o).mono ?_;rintro e w1 ⟨rfl,hb1⟩;have b:J (Below w.heap.size w w1):=HB.out.trans (hb1.mono HB.out.size);clear hb1;go_wp2_with fail
   go_ret;exact⟨rfl,b.o⟩
theorem pz(ns:List Int)(g c:Nat)(w:World)(hn:ns.length<=4)(hok:∀n∈ns,okN n)(hr:gR w g ns)(hL:bv w):Calls prog 104 #[.slice (o_ g 0) ns.length c] w fun e w'=>e=.returned (.string ⟨(told ns).toArray⟩)∧Below w.heap.size w w':=by
 exact rj ns g c w hn (fun n h=>⟨(hok n h).1,by have:=(hok n h).2; omega⟩) (by have:=jH ns hok; omega) hr hL
end Go.Proofs.YtlailakofhenkabGreatDoor
