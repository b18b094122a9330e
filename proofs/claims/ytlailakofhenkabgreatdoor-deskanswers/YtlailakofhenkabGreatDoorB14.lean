import Derived.Test.YtlailakofhenkabGreatDoorB13
set_option maxRecDepth 100000
set_option maxHeartbeats 16000000
namespace Go.Proofs.YtlailakofhenkabGreatDoor
open Go Go.RowKit Ev Tryz
def stV(c n:Int)(v:Value):Value:=.agg #[.int .i64 c,.int .i64 n,v]
structure AB (B b:Nat) (c n:Int) (v:Value) (e:E) (w:World):Prop where
 lt:b+2<B
 size:B<=w.heap.size
 s0:w.cell? ⟨b,0,none⟩=some (.int .i64 c)
 s1:w.cell? ⟨b,1,none⟩=some (.int .i64 n)
 s2:w.cell? ⟨b,2,none⟩=some v
 ev:cG w (b+1) e
 r0:w.cell? ⟨b+2,0,none⟩=some (.int .i64 0)
 r1:w.cell? ⟨b+2,1,none⟩=some (.int .i64 0)
 r2:w.cell? ⟨b+2,2,none⟩=some (.slice none 0 0)
 fs:∀i,w.frozen? ⟨b,i,none⟩=false
 fr:∀i,w.frozen? ⟨b+2,i,none⟩=false
variable {B b g:Nat}{e:E}{w w':World}
theorem cG.onB(h:cG w g e)(hb:Below B w w')(hg:g<B):cG w' g e:=
 ⟨Fd h.lt hb.size,(hb.cell (p:=(a_ g 0)) hg).trans h.c0,h.fam.on hb hg,(hb.cell (p:=(a_ g 10)) hg).trans h.c10,(hb.cell (p:=(a_ g 11)) hg).trans h.c11⟩
variable {a:Addr}
theorem eF.other{o:Nat}{f:Fam}(h:eF w g o f)(ha:a.block≠g)(u:Value):eF (w.setCell a u) g o f:=
 mh (fun i x hx=>(Fm _ _ _ _ (by intro e; exact ha (congrArg Addr.block e))).trans (h.all i x hx))
theorem cG.other{w:World}{g:Nat}{e:E}(h:cG w g e){a:Addr}(ha:a.block≠g)(u:Value):cG (w.setCell a u) g e:=by
 have b:∀j,(w.setCell a u).c_ g j=w.c_ g j:=fun j=>Fm _ _ _ _ (by intro e; exact ha (congrArg Addr.block e))
 exact⟨by simpa using h.lt,(b 0).trans h.c0,h.fam.other ha u,(b 10).trans h.c10,(b 11).trans h.c11⟩
variable {c n:Int}{v:Value}
theorem AB.on(h:AB B b c n v e w)(hb:Below B w w'):AB B b c n v e w':=by
 have m:=h.lt;have f:∀g j,g<B->w'.cell? (a_ g j)=w.c_ g j:=fun g j hg=>hb.cell (p:=(a_ g j)) hg;have k:∀g j,g<B->w'.frozen? (a_ g j)=w.frozen? (a_ g j):=fun g j hg=>hb.frozen (p:=(a_ g j)) hg
 exact⟨m,Fe h.size hb.size,(f _ _ (by omega)).trans h.s0,(f _ _ (by omega)).trans h.s1,(f _ _ (by omega)).trans h.s2,h.ev.onB hb (by omega),(f _ _ (by omega)).trans h.r0,(f _ _ (by omega)).trans h.r1,(f _ _ (by omega)).trans h.r2,
  fun i=>(k _ _ (by omega)).trans (h.fs i),fun i=>(k _ _ (by omega)).trans (h.fr i)⟩
theorem AB.set2(h:AB B b c n v e w)(u:Value):AB B b c n u e (w.setCell ⟨b,2,none⟩ u):=by
 have f:∀g j,(g≠b∨j≠2)->(w.setCell (a_ b 2) u).c_ g j=w.c_ g j:=fun g j hg=>Fm _ _ _ _ (by intro e; injection e with e1 e2; rcases hg with hg | hg <;> omega)
 exact⟨h.lt,by simpa using h.size,(f _ _ (by omega)).trans h.s0,(f _ _ (by omega)).trans h.s1,World.cell?_setCell_same _ _ _ h.s2,h.ev.other (by show b≠b+1; omega) u,(f _ _ (by omega)).trans h.r0,(f _ _ (by omega)).trans h.r1,(f _ _ (by omega)).trans h.r2,
  fun i=>by rw[World.frozen?_setCell]; exact h.fs i,fun i=>by rw[World.frozen?_setCell]; exact h.fr i⟩
theorem ag.other{k:Nat}{n:Nat}{cs:List Value}(h:ag k B w v n cs)(ha:a.block<B)(u:Value):ag k B (w.setCell a u) v n cs:=by
 rcases h with h | ⟨g,c,rfl,hr⟩
 ·exact .inl h
 ·exact .inr ⟨g,c,rfl,hr.block (by simp[World.setCell]) (Below.heap_setCell _ _ _ _ (by have:=hr.new; omega))⟩
theorem bB{W:World}{g:Nat}{a b c x0 x1 x2:Value}(h0:W.cell? ⟨g,0,none⟩=some x0)(h1:W.cell? ⟨g,1,none⟩=some x1)(h2:W.cell? ⟨g,2,none⟩=some x2):
 (((W.setCell ⟨g,0,none⟩ a).setCell ⟨g,1,none⟩ b).setCell ⟨g,2,none⟩ c).cell? ⟨g,0,none⟩=some a∧(((W.setCell ⟨g,0,none⟩ a).setCell ⟨g,1,none⟩ b).setCell ⟨g,2,none⟩ c).cell? ⟨g,1,none⟩=some b∧(((W.setCell ⟨g,0,none⟩ a).setCell ⟨g,1,none⟩ b).setCell ⟨g,2,none⟩ c).cell? ⟨g,2,none⟩=some c:=by
 have f:∀(V:World) (i j:Nat) (u:Value),i≠j->(V.setCell (a_ g i) u).cell? (a_ g j)=V.cell? (a_ g j):=fun V i j u hij=>Fm _ _ _ _ (by intro e; injection e with _ e _; exact hij e)
 refine⟨?_,?_,?_⟩
 ·rw[f _ _ _ _ (by omega),f _ _ _ _ (by omega)]
  exact Fr _ _ _ h0
 ·rw[f _ _ _ _ (by omega)]
  exact Fr _ _ _ ((f _ _ _ _ (by omega)).trans h1)
 ·exact Fr _ _ _ ((f _ _ _ _ (by omega)).trans ((f _ _ _ _ (by omega)).trans h2))
theorem aj{W:World}{i j:Nat}{u x:Value}(h:W.cell? ⟨g,j,none⟩=some x)(hg:b≠g):(W.setCell ⟨b,i,none⟩ u).cell? ⟨g,j,none⟩=some x:=
 (Fm _ _ _ _ (by intro e; injection e with e _ _; exact hg e)).trans h
theorem pJ(w:World)(c n:Int)(v:Value)(e:E):AB (w.heap.size+3) w.heap.size c n v e (((w.alloc (.cells #[.int .i64 c,.int .i64 n,v] 36)).alloc (.cells #[.int .i64 e.kind,.int .i64 e.fam.id,.string e.fam.client,.string e.fam.subject,.string e.fam.scope,.int .i64 e.fam.gen,.int .i64 e.fam.made,.int .i64 e.fam.used,.string e.fam.request,.bool e.fam.dead,.int .i64 e.id,.int .i64 e.time] 42)).alloc (.cells #[.int .i64 0,.int .i64 0,.slice none 0 0] 36)):=by
 refine⟨by omega,by simp,?_,?_,?_,?_,?_,?_,?_,fun i=>?_,fun i=>World.frozen?_alloc_at _ _ _ _ (by simp)⟩
 ·exact Lib.cell?_alloc_some _ (Lib.cell?_alloc_some _ ((Fb _ _ _ _ rfl).trans rfl))
 ·exact Lib.cell?_alloc_some _ (Lib.cell?_alloc_some _ ((Fb _ _ _ _ rfl).trans rfl))
 ·exact Lib.cell?_alloc_some _ (Lib.cell?_alloc_some _ ((Fb _ _ _ _ rfl).trans rfl))
 ·exact (bU _ e 42 _ (by simp)).on (bA _ _)
 ·exact (World.cell?_alloc_at _ _ _ _ (by simp)).trans rfl
 ·exact (World.cell?_alloc_at _ _ _ _ (by simp)).trans rfl
 ·exact (World.cell?_alloc_at _ _ _ _ (by simp)).trans rfl
 ·have b:∀(W:World) (o:Obj) (g:Nat),g<W.heap.size->(W.alloc o).frozen? (a_ g i)=W.frozen? (a_ g i):=fun W o g hg=>((E9 W.heap.size W).alloc (Fa _) o).frozen (p:=(a_ g i)) hg
  rw[b _ _ _ (by simp; omega),b _ _ _ (by simp)]
  exact Ff _ _ _ _ rfl
variable {l:List Fam}
theorem BJ(c n:Int)(f:Fam)(h:ah B w v l)(hr:aP l)(hn:l.length<=5000)(hf:0<=f.id∧f.id<=1099511627776):
 Calls prog 19 #[stV c n v,evV ⟨1,f,0,0⟩] w fun r w'=>∃v',r=.returned (stV c (if n<=f.id then f.id+1 else n) v')∧ah w.heap.size w' v' (er l f)∧Below w.heap.size w w':=by
 have G:=pJ w c n v ⟨1,f,0,0⟩;have H:=fun (W:World) (hf:ah B W v l)=>gH hf hn;have D:=fun (W:World) (v2:Value) (hf:ah (w.heap.size+3) W v2 l) (hB:w.heap.size+3<=W.heap.size)=>Df hf hr hn hB f;have HF:Hid (ah B w v l):=h;clear h hr
 have E:Hid (Below w.heap.size w (((w.alloc (.cells #[.i_ c,.i_ n,v] 36)).alloc (.cells (E_ 1 f.id f.client f.subject f.scope f.gen f.made f.used f.request f.dead 0 0) 42)).alloc (.cells (S_ 0 0 none 0 0) 36))):=by
  show Below _ _ _
  repeat (first | exact Below.refl _ _ | refine Below.alloc ?_ (by simp; try omega) _)
 have F:(((w.alloc (.cells #[.i_ c,.i_ n,v] 36)).alloc (.cells (E_ 1 f.id f.client f.subject f.scope f.gen f.made f.used f.request f.dead 0 0) 42)).alloc (.cells (S_ 0 0 none 0 0) 36)).heap.size=w.heap.size+3:=by simp
 obtain⟨f1,f2,f3,f4,f5,f6,f7,f8,f9⟩:=f;unfold evV aX stV;unfold ap ac at D;simp only at *;obtain⟨hf0,hf1⟩:=hf;go_enter func19,ntmps19
 go_wp2_with fail
 refine (H _ (HF.o.below E.o (Fa _))).mono ?_;rintro e1 w1 ⟨v1,rfl,hv1,hb1⟩;obtain⟨base1,cap1,rfl⟩:=hv1.slice;have o:=G.on (F ▸ hb1);have T:Hid (ah (w.heap.size+3) w1 (.slice base1 l.length cap1) l):=F ▸ hv1;have U:Hid (Below w.heap.size w w1):=E.o.trans (hb1.mono E.o.size);clear hv1 hb1 G F;generalize hb:w.heap.size=b at *;have C:Hid (w.heap.size=b):=hb;clear hb;have g:Hid _:=o.set2 (.slice base1 l.length cap1);have I:Hid (ah (b+3) (w1.setCell (a_ b 2) (.slice base1 l.length cap1)) (.slice base1 l.length cap1) l):=T.o.other (a:=(a_ b 2)) (by show b<b+3; omega) _
 have V:Hid (Below b w (w1.setCell (a_ b 2) (.slice base1 l.length cap1))):=U.o.setCell (p:=(a_ b 2)) (Fa _) _;have J:=o.s2;have qf:=o.fs 2;have X:=g.o.ev.c0; have R:=g.o.ev.fam.c0; have Y:=g.o.ev.fam.c1; have Z:=g.o.ev.fam.c2; have k4:=g.o.ev.fam.c3; have k5:=g.o.ev.fam.c4; have k6:=g.o.ev.fam.c5; have k7:=g.o.ev.fam.c6; have k8:=g.o.ev.fam.c7; have k9:=g.o.ev.fam.c8;have M:=g.o.s2;simp only at X R Y Z k4 k5 k6 k7 k8 k9 M;clear o;go_wp2_with fail
 refine (D _ _ I.o (by simp; have:=g.o.size; simpa using this)).mono ?_
 rintro e3 w3 ⟨v3,rfl,hv3,hb3⟩;obtain⟨base3,cap3,rfl⟩:=hv3.slice;have j:=g.o.on hb3;generalize hpp:er l ⟨f1,f2,f3,f4,f5,f6,f7,f8,f9⟩=L at *;have N:Hid (ah (b+3) w3 (.slice base3 L.length cap3) L):=hv3;have O:Hid (Below b w w3):=V.o.trans (hb3.mono (by omega))
 clear hv3 hb3 X R Y Z k4 k5 k6 k7 k8 k9 M J qf D H;have s0:=j.s0;have s1:=j.s1;have s2:=j.s2;have R:=j.ev.fam.c0;have fz:=j.fs;have fr:∀i,w3.frozen? (a_ (b+1+1) i)=false:=j.fr;have r0:w3.cell? (a_ (b+1+1) 0)=_:=j.r0;have r1:w3.cell? (a_ (b+1+1) 1)=_:=j.r1;have r2:w3.cell? (a_ (b+1+1) 2)=_:=j.r2;simp only at R;clear j;have q:Hid (∀(W:World) (i:Nat) (u:Value),ah (b+3) W (.slice base3 L.length cap3) L->ah (b+3) (W.setCell (a_ b i) u) (.slice base3 L.length cap3) L):=fun W i u hw=>hw.other (a:=(a_ b i)) (by show b<b+3; omega) u
 have k:Hid (∀(W:World) (i:Nat) (u:Value),ah (b+3) W (.slice base3 L.length cap3) L->ah (b+3) (W.setCell (a_ (b+1+1) i) u) (.slice base3 L.length cap3) L):=fun W i u hw=>hw.other (a:=(a_ (b+1+1) i)) (by show b+1+1<b+3; omega) u
 by_cases hnx:n<=f1
 ·have HX:Hid ((if n<=f1 then f1+1 else n)=f1+1):=if_pos hnx
  have s:n<=f1+1:=by omega
  have Ed:¬ f1+1<n:=by omega
  have hm:max n (f1+1)=f1+1:=Int.max_eq_right s;have t:Hid (ah b (((((w3.setCell (a_ b 2) (.slice base3 L.length cap3)).setCell (a_ b 1) (.i_ (f1+1))).setCell (a_ (b+1+1) 0) (.i_ c)).setCell (a_ (b+1+1) 1) (.i_ (f1+1))).setCell (a_ (b+1+1) 2) (.slice base3 L.length cap3)) (.slice base3 L.length cap3) L):=ag.mono (k.o _ _ _ (k.o _ _ _ (k.o _ _ _ (q.o _ _ _ (q.o _ _ _ N.o))))) (by omega)
  have z:Hid (Below b w (((((w3.setCell (a_ b 2) (.slice base3 L.length cap3)).setCell (a_ b 1) (.i_ (f1+1))).setCell (a_ (b+1+1) 0) (.i_ c)).setCell (a_ (b+1+1) 1) (.i_ (f1+1))).setCell (a_ (b+1+1) 2) (.slice base3 L.length cap3))):=by
   show Below _ _ _
   repeat (first | exact O.o | refine Below.setCell ?_ (by simp; try omega) _)
  go_wp2_with fail
  obtain⟨q0,q1,J⟩:=@bB ((w3.setCell (a_ b 2) (.slice base3 L.length cap3)).setCell (a_ b 1) (.i_ (f1+1))) (b+1+1) (.i_ c) (.i_ (f1+1)) (.slice base3 L.length cap3) _ _ _ (aj (aj r0 (by omega)) (by omega)) (aj (aj r1 (by omega)) (by omega)) (aj (aj r2 (by omega)) (by omega))
  have m:=t.o;have A:=z.o;clear t z s0 s1 s2 fz fr r0 r1 r2;generalize World.setCell _ (a_ (b+1+1) 2) _=WW at *;exact bodyPost_ret (v:=.agg (S_ c (f1+1) base3 L.length cap3)) (by simp[results,results19,go_sem,q0,q1,J]) rfl ⟨_,rfl,by rw[C.o]; first | exact m | (rw[hpp]; exact m),by rw[C.o]; exact A⟩
 ·have HX:Hid ((if n<=f1 then f1+1 else n)=n):=if_neg hnx
  have s:f1+1<=n:=by omega
  have hm:max n (f1+1)=n:=Int.max_eq_left s;have t:Hid (ah b (((((w3.setCell (a_ b 2) (.slice base3 L.length cap3)).setCell (a_ b 1) (.i_ n)).setCell (a_ (b+1+1) 0) (.i_ c)).setCell (a_ (b+1+1) 1) (.i_ n)).setCell (a_ (b+1+1) 2) (.slice base3 L.length cap3)) (.slice base3 L.length cap3) L):=ag.mono (k.o _ _ _ (k.o _ _ _ (k.o _ _ _ (q.o _ _ _ (q.o _ _ _ N.o))))) (by omega)
  have z:Hid (Below b w (((((w3.setCell (a_ b 2) (.slice base3 L.length cap3)).setCell (a_ b 1) (.i_ n)).setCell (a_ (b+1+1) 0) (.i_ c)).setCell (a_ (b+1+1) 1) (.i_ n)).setCell (a_ (b+1+1) 2) (.slice base3 L.length cap3))):=by
   show Below _ _ _
   repeat (first | exact O.o | refine Below.setCell ?_ (by simp; try omega) _)
  go_wp2_with fail
  obtain⟨q0,q1,J⟩:=@bB ((w3.setCell (a_ b 2) (.slice base3 L.length cap3)).setCell (a_ b 1) (.i_ n)) (b+1+1) (.i_ c) (.i_ n) (.slice base3 L.length cap3) _ _ _ (aj (aj r0 (by omega)) (by omega)) (aj (aj r1 (by omega)) (by omega)) (aj (aj r2 (by omega)) (by omega))
  have m:=t.o;have A:=z.o;clear t z s0 s1 s2 fz fr r0 r1 r2;generalize World.setCell _ (a_ (b+1+1) 2) _=WW at *;exact bodyPost_ret (v:=.agg (S_ c n base3 L.length cap3)) (by simp[results,results19,go_sem,q0,q1,J]) rfl ⟨_,rfl,by rw[C.o]; first | exact m | (rw[hpp]; exact m),by rw[C.o]; exact A⟩
theorem BK(c n d:Int)(h:ah B w v l)(hr:aP l)(hn:l.length<=5000):
 Calls prog 19 #[stV c n v,evV ⟨2,zeroF,d,0⟩] w fun r w'=>∃v',r=.returned (stV c n v')∧ah w.heap.size w' v' (dropP l d)∧Below w.heap.size w w':=by
 have C:=pJ w c n v ⟨2,zeroF,d,0⟩;have D:=fun (W:World) (hf:ah B W v l)=>gH hf hn;have E:=fun (W:World) (v2:Value) (hf:ah (w.heap.size+3) W v2 l) (hB:w.heap.size+3<=W.heap.size)=>BI hf hr hn hB d;have T:Hid (ah B w v l):=h
 have o:Hid (Below w.heap.size w (((w.alloc (.cells #[.i_ c,.i_ n,v] 36)).alloc (.cells (g_ 2 d 0) 42)).alloc (.cells (S_ 0 0 none 0 0) 36))):=by
  show Below _ _ _
  repeat (first | exact Below.refl _ _ | refine Below.alloc ?_ (by simp; try omega) _)
 have q:(((w.alloc (.cells #[.i_ c,.i_ n,v] 36)).alloc (.cells (g_ 2 d 0) 42)).alloc (.cells (S_ 0 0 none 0 0) 36)).heap.size=w.heap.size+3:=by simp
 unfold evV aX stV;unfold zeroF at *;simp only at *;go_enter func19,ntmps19
 go_wp2_with fail
 refine (D _ (T.o.below o.o (Fa _))).mono ?_;rintro e1 w1 ⟨v1,rfl,hv1,hb1⟩;obtain⟨base1,cap1,rfl⟩:=hv1.slice;have k:=C.on (q ▸ hb1);have F:Hid (ah (w.heap.size+3) w1 (.slice base1 l.length cap1) l):=q ▸ hv1;have G:Hid (Below w.heap.size w w1):=o.o.trans (hb1.mono o.o.size);generalize hb:w.heap.size=b at *;have s:Hid (w.heap.size=b):=hb;have g:Hid _:=k.set2 (.slice base1 l.length cap1);have t:Hid (ah (b+3) (w1.setCell (a_ b 2) (.slice base1 l.length cap1)) (.slice base1 l.length cap1) l):=F.o.other (a:=(a_ b 2)) (by show b<b+3; omega) _
 have H:Hid (Below b w (w1.setCell (a_ b 2) (.slice base1 l.length cap1))):=G.o.setCell (p:=(a_ b 2)) (Fa _) _;have R:=k.s2;have qf:=k.fs 2;have U:=g.o.ev.c0; obtain⟨k1,k2,k3,k4,k5,k6,k7,k8,-⟩:=g.o.ev.fam; have V:=g.o.ev.c10;have I:=g.o.s2;simp only at U k1 k2 k3 k4 k5 k6 k7 k8 V I;go_wp2_with fail
 refine (E _ _ t.o (by simp; have:=g.o.size; simpa using this)).mono ?_
 rintro e3 w3 ⟨v3,rfl,hv3,hb3⟩;obtain⟨base3,cap3,rfl⟩:=hv3.slice;have f:=g.o.on hb3;generalize hpp:dropP l d=L at *;have J:Hid (ah (b+3) w3 (.slice base3 L.length cap3) L):=hv3;have M:Hid (Below b w w3):=H.o.trans (hb3.mono (by omega))
 have s0:=f.s0;have s1:=f.s1;have s2:=f.s2;have fz:=f.fs;have fr:∀i,w3.frozen? (a_ (b+1+1) i)=false:=f.fr;have r0:w3.cell? (a_ (b+1+1) 0)=_:=f.r0;have r1:w3.cell? (a_ (b+1+1) 1)=_:=f.r1;have r2:w3.cell? (a_ (b+1+1) 2)=_:=f.r2;have z:Hid (∀(W:World) (i:Nat) (u:Value),ah (b+3) W (.slice base3 L.length cap3) L->ah (b+3) (W.setCell (a_ b i) u) (.slice base3 L.length cap3) L):=fun W i u hw=>hw.other (a:=(a_ b i)) (by show b<b+3; omega) u
 have j:Hid (∀(W:World) (i:Nat) (u:Value),ah (b+3) W (.slice base3 L.length cap3) L->ah (b+3) (W.setCell (a_ (b+1+1) i) u) (.slice base3 L.length cap3) L):=fun W i u hw=>hw.other (a:=(a_ (b+1+1) i)) (by show b+1+1<b+3; omega) u
 have N:Hid (ah b ((((w3.setCell (a_ b 2) (.slice base3 L.length cap3)).setCell (a_ (b+1+1) 0) (.i_ c)).setCell (a_ (b+1+1) 1) (.i_ n)).setCell (a_ (b+1+1) 2) (.slice base3 L.length cap3)) (.slice base3 L.length cap3) L):=ag.mono (j.o _ _ _ (j.o _ _ _ (j.o _ _ _ (z.o _ _ _ J.o)))) (by omega)
 have O:Hid (Below b w ((((w3.setCell (a_ b 2) (.slice base3 L.length cap3)).setCell (a_ (b+1+1) 0) (.i_ c)).setCell (a_ (b+1+1) 1) (.i_ n)).setCell (a_ (b+1+1) 2) (.slice base3 L.length cap3))):=by
  show Below _ _ _
  repeat (first | exact M.o | refine Below.setCell ?_ (by simp; try omega) _)
 go_wp2_with fail
 obtain⟨q0,q1,R⟩:=@bB (w3.setCell (a_ b 2) (.slice base3 L.length cap3)) (b+1+1) (.i_ c) (.i_ n) (.slice base3 L.length cap3) _ _ _ (aj r0 (by omega)) (aj r1 (by omega)) (aj r2 (by omega))
 have m:=N.o;have A:=O.o;generalize World.setCell _ (a_ (b+1+1) 2) _=WW at *;exact bodyPost_ret (v:=.agg (S_ c n base3 L.length cap3)) (by simp[results,results19,go_sem,q0,q1,R]) rfl ⟨_,rfl,by rw[s.o]; first | exact m | (rw[hpp]; exact m),by rw[s.o]; exact A⟩
theorem BL(c n d:Int)(h:ah B w v l)(hn:l.length<=5000):
 Calls prog 19 #[stV c n v,evV ⟨3,zeroF,0,d⟩] w fun r w'=>∃v',r=.returned (stV d n v')∧ah w.heap.size w' v' l∧Below w.heap.size w w':=by
 have s:=pJ w c n v ⟨3,zeroF,0,d⟩;have t:=fun (W:World) (hf:ah B W v l)=>gH hf hn;have E:J (ah B w v l):=h
 have k:J (Below w.heap.size w (((w.alloc (.cells #[.i_ c,.i_ n,v] 36)).alloc (.cells (g_ 3 0 d) 42)).alloc (.cells (S_ 0 0 none 0 0) 36))):=by
  show Below _ _ _
  repeat (first | exact Below.refl _ _ | refine Below.alloc ?_ (by simp; try omega) _)
 have m:(((w.alloc (.cells #[.i_ c,.i_ n,v] 36)).alloc (.cells (g_ 3 0 d) 42)).alloc (.cells (S_ 0 0 none 0 0) 36)).heap.size=w.heap.size+3:=by simp
 unfold evV aX stV;unfold zeroF at *;simp only at *;go_enter func19,ntmps19
 go_wp2_with fail
 refine (t _ (E.o.below k.o (Fa _))).mono ?_;rintro e1 w1 ⟨v1,rfl,hv1,hb1⟩;obtain⟨base1,cap1,rfl⟩:=hv1.slice;have f:=s.on (m ▸ hb1);have z:J _:=m ▸ hv1;have A:J _:=k.o.trans (hb1.mono k.o.size);generalize hb:w.heap.size=b at *;have o:J _:=hb;have s0:=f.s0;have s1:=f.s1;have s2:=f.s2;have F:=f.ev.c0;have G:=f.ev.c11;have fz:=f.fs;have fr:∀i,w1.frozen? (a_ (b+1+1) i)=false:=f.fr;have r0:w1.cell? (a_ (b+1+1) 0)=_:=f.r0;have r1:w1.cell? (a_ (b+1+1) 1)=_:=f.r1;have r2:w1.cell? (a_ (b+1+1) 2)=_:=f.r2;simp only at F G;have p:J (∀(W:World) (g i:Nat) (u:Value),g<b+3->ah (b+3) W (.slice base1 l.length cap1) l->ah (b+3) (W.setCell (a_ g i) u) (.slice base1 l.length cap1) l):=fun W g i u hg hw=>hw.other (a:=(a_ g i)) hg u
 have C:J (ah b (((((w1.setCell (a_ b 2) (.slice base1 l.length cap1)).setCell (a_ b 0) (.i_ d)).setCell (a_ (b+1+1) 0) (.i_ d)).setCell (a_ (b+1+1) 1) (.i_ n)).setCell (a_ (b+1+1) 2) (.slice base1 l.length cap1)) (.slice base1 l.length cap1) l):=by
  refine ag.mono (B:=b+3) ?_ (by omega)
  repeat (first | exact z.o | refine p.o _ _ _ _ (by omega) ?_)
 have D:J (Below b w (((((w1.setCell (a_ b 2) (.slice base1 l.length cap1)).setCell (a_ b 0) (.i_ d)).setCell (a_ (b+1+1) 0) (.i_ d)).setCell (a_ (b+1+1) 1) (.i_ n)).setCell (a_ (b+1+1) 2) (.slice base1 l.length cap1))):=by
  show Below _ _ _
  repeat (first | exact A.o | refine Below.setCell ?_ (by simp; try omega) _)
 go_wp2_with fail
 obtain⟨q0,q1,q2⟩:=@bB ((w1.setCell (a_ b 2) (.slice base1 l.length cap1)).setCell (a_ b 0) (.i_ d)) (b+1+1) (.i_ d) (.i_ n) (.slice base1 l.length cap1) _ _ _ (aj (aj r0 (by omega)) (by omega)) (aj (aj r1 (by omega)) (by omega)) (aj (aj r2 (by omega)) (by omega))
 have j:=C.o;have q:=D.o;generalize World.setCell _ (a_ (b+1+1) 2) _=WW at *;exact bodyPost_ret (v:=.agg (S_ d n base1 l.length cap1)) (by simp[results,results19,go_sem,q0,q1,q2]) rfl ⟨_,rfl,by rw[o.o]; first | exact j | (rw[hpp]; exact j),by rw[o.o]; exact q⟩
theorem mC(s:St)(e:E)(hm:Ev.may e)(h:ah B w v s.fams)(hr:aP s.fams)(hn:s.fams.length<=5000):
 Calls prog 19 #[stV s.clock s.next v,evV e] w fun r w'=>∃v',r=.returned (stV (applyP s e).clock (applyP s e).next v')∧ah w.heap.size w' v' (applyP s e).fams∧Below w.heap.size w w':=by
 obtain⟨c,n,l⟩:=s;obtain⟨k,f,i,t⟩:=e;rcases hm with ⟨hk,hf,hi,ht⟩ | ⟨hk,hf,hi,ht⟩ | ⟨hk,hf,hi,ht⟩ <;> simp only at hk hf hi ht <;> subst hk
 ·subst hi; subst ht
  rw[iK _ rfl];exact BJ c n f h hr hn hf.1.1
 ·subst hf; subst ht
  rw[jg _ rfl];exact BK c n i h hr hn
 ·subst hf; subst hi
  rw[ia _ rfl];exact BL c n t h hn
def ke(b:Nat)(w:World)(v:Value)(l:List Fam):Prop:=(v=.slice none 0 0∧l= [])∨∃g c,v=.slice (some ⟨g,0,none⟩) l.length c∧g<b∧cF 9 0 w g c l.length (aq l)
theorem BM(h:ah B w v l):ke w.heap.size w v l:=by
 rcases h with ⟨rfl,h0,_⟩ | ⟨g,c,rfl,hr⟩
 ·exact .inl ⟨rfl,List.length_eq_zero_iff.1 h0⟩
 ·exact .inr ⟨g,c,rfl,hr.lt,hr.mono (Fo _)⟩
theorem ke.on(h:ke b w v l)(hb:Below B w w')(hB:b<=B):ke b w' v l:=by
 rcases h with h | ⟨g,c,rfl,hg,hr⟩
 ·exact .inl h
 ·exact .inr ⟨g,c,rfl,hg,hr.below hb (by omega)⟩
theorem ke.set(h:ke b w v l)(ha:b<=a.block)(u:Value):ke b (w.setCell a u) v l:=by
 rcases h with h | ⟨g,c,rfl,hg,hr⟩
 ·exact .inl h
 ·exact .inr ⟨g,c,rfl,hg,hr.block (by simp[World.setCell]) (Below.heap_setCell _ _ _ _ (by omega))⟩
theorem ke.fam{b:Nat}{w:World}{base:Option Addr}{c:Nat}{l:List Fam}(h:ke b w (.slice base l.length c) l)(j:Nat)(hj:j<l.length):∃g,base=some ⟨g,0,none⟩∧eF w g (j*9) l[j]:=by
 rcases h with ⟨_,rfl⟩ | ⟨g,c',e,hg,hr⟩
 ·simp at hj
 ·have f:ah 0 w (.slice base l.length c) l:=by rw[e]; exact .inr ⟨g,c',rfl,hr⟩
  obtain⟨g',e1,_,e2⟩:=f.fam j hj;exact⟨g',e1,e2⟩
theorem ke.src{b:Nat}{w:World}{v:Value}{l:List Fam}(h:ke b w v l):Src prog 9 34 v l.length (aq l) w:=by
 have f:ag 9 0 w v l.length (aq l):=by
  rcases h with ⟨rfl,rfl⟩ | ⟨g,c,rfl,_,f⟩
  ·exact .inl ⟨rfl,rfl,rfl⟩
  ·exact .inr ⟨g,c,rfl,f⟩
 exact f.src underlying34
open Tok Sc
theorem rC(t:List UInt8)(ws:List Word)(hp:parts 32 t=ws)(hl:t.length<=5000)(W:World)(hL:aU W):
 Calls prog 102 #[.string (bs8 t),.string ⟨#[32]⟩] W fun e w'=>e=.returned (.slice (some ⟨W.heap.size,0,none⟩) ws.length ws.length)∧aO w' W.heap.size (ws.map bs8)∧Below W.heap.size W w':=by
 obtain⟨m,hm⟩:=hL;refine (strings_Split (bs8 t) ⟨#[32]⟩ m W (by rw[dC]; omega) hm (by decide)).mono ?_
 have c:=gW 32 (bs8 t);have h2:=Lib.splitB_all ⟨#[32]⟩ (by decide) 0 _ (bs8 t) rfl
 rw[show (bs8 t).data.toList=t from rfl,hp] at c
 generalize Lib.splitB ⟨#[32]⟩ 0 (Lib.countB (bs8 t) ⟨#[32]⟩) (bs8 t)=ps at *;generalize Lib.countB (bs8 t) ⟨#[32]⟩=N at *
 have b:ps=ws.map bs8:=by
  rw[<- c,List.map_map];exact (List.map_id' ps).symm
 rintro e w' ⟨rfl,rfl⟩
 have f:N+1=ws.length:=by
  have h3:ps.length=ws.length:=by rw[b,List.length_map]
  omega
 refine⟨by rw[f],?_,bA _ _⟩
 rw[<- b];exact bH W ps _
theorem gI(k:Nat)(w:World)(hk:k<2):Calls prog 54 #[.i_ k] w fun e w'=>e=.returned (.int .i64 ((16+21*k:Nat):Int))∧w'=w:=by
 rcases (show k=0∨k=1 by omega) with rfl | rfl
 ·go_enter func54,ntmps54
  go_wp2_with fail;go_ret;exact⟨rfl,rfl⟩
 ·go_enter func54,ntmps54
  go_wp2_with fail;go_ret;exact⟨rfl,rfl⟩
structure cW (w:World) (g:Nat) (A:AD):Prop where
 disk:∃F n c l,ay w g F n c l∧j4 tag0 F A
 lt:g<w.heap.size
 blks:∀k s e,A.blk k=some (s,e)->Ev.may e∧okN s
 heads:∀k s c nx n,A.head k=some (s,c,nx,n)->okN s∧okN c∧0<=nx∧nx<=1099511627777∧n<=20
theorem cW.below{B:Nat}{w w':World}{g:Nat}{A:AD}(h:cW w g A)(hb:Below B w w')(hg:g<B):cW w' g A:=by
 obtain⟨F,n,c,l,h1,h2⟩:=h.disk;exact⟨⟨F,n,c,l,h1.below hb hg,h2⟩,Fd h.lt hb.size,h.blks,h.heads⟩
variable {A:AD}
theorem cW.on(h:cW w g A)(hb:Below w.heap.size w w'):cW w' g A:=h.below hb h.lt
theorem cW.readHead(h:cW w g A)(k:Nat)(hk:k<2)(hL:aU w):Calls prog 111 #[p_ g 0,.i_ ((16+21*k:Nat):Int)] w fun r w'=>r=.returned (.string (bs8 (pm (A.head k))))∧Below w.heap.size w w':=by
 obtain⟨F,n,c,l,h1,h2⟩:=h.disk;refine gG g F n c l (16+21*k) (pm (A.head k)) w h1 (by omega) ?_ ?_ hL
 ·rw[h2 _ (by omega),me hk]
 ·cases hh:A.head k with
  |none=>simp[pm]
  |some p=>
   obtain⟨s,cc,nx,nn⟩:=p;obtain⟨q1,q2,q3,q4,q5⟩:=h.heads k s cc nx nn hh;unfold pm;simp only;rw[tL];have d1:=ar q1;have d2:=ar q2;have d3:=ar (n:=(nn:Int)) ⟨by omega,by omega⟩
   have d4:(Lib.itoa nx).length<=13:=by
    by_cases hx:nx<=1099511627776
    ·exact ar ⟨q3,hx⟩
    ·obtain rfl:nx=1099511627777:=by omega
     decide +kernel
   simp only[List.length_append,List.length_cons];omega
theorem cW.readEv(h:cW w g A)(k sv:Nat)(hk:k<90)(hk1:k≠16)(hk2:k≠37)(hsv:okN sv)(hL:aY w):Calls prog 112 #[p_ g 0,.i_ k,.i_ sv] w fun r w'=>r=.returned (.tuple #[evV (jn (A.blk k) sv).1,.bool (jn (A.blk k) sv).2])∧Below w.heap.size w w':=by
 obtain⟨F,n,c,l,h1,h2⟩:=h.disk;refine pF g F n c l k sv (A.blk k) w h1 h.lt hk ?_ (fun s e hs=>h.blks k s e hs) hsv hL;rw[h2 _ hk];unfold eT;rw[if_neg hk1,if_neg hk2]
theorem nC(g:Nat)(A:AD)(k:Nat)(hk:k<2)(w:World)(hh:A.head k=none)(hD:cW w g A)(hL:aY w):
 Calls prog 52 #[p_ g 0,.i_ k] w fun r w'=>r=.returned (.tuple #[stV 0 0 (.slice none 0 0),.int .i64 0])∧Below w.heap.size w w':=by
 have f:Hid _:=bA w (.cells (S_ 0 0 none 0 0) 36);have B:Hid _:=hL;have C:=fun (W:World)=>gI k W hk
 have D:Hid (∀W,cW W g A->aU W->Calls prog 111 #[p_ g 0,.i_ ((16+21*k:Nat):Int)] W fun r w'=>r=.returned (.e_)∧Below W.heap.size W w'):=fun W hW hl=>by
  have:=hW.readHead k hk hl;rw[hh] at this;exact this
 have M:Hid _:=hD;have E:=fun (W:World) (h:aU W)=>rC [] [[]] (bO (by simp)) (by simp) W h
 generalize ((16+21*k:Nat):Int)=K at *;clear hD hL hh hk;unfold stV;go_enter func52,ntmps52
 go_wp2_with fail
 refine (C _).mono ?_;rintro e1 w1 ⟨rfl,rfl⟩;go_wp2_with fail
 refine (D.o _ (M.o.on f.o) (B.o.below f.o).base.len).mono ?_;rintro e2 w2 ⟨rfl,hb2⟩;have j:Hid _:=f.o.tm hb2;have s:w2.cell? (a_ w.heap.size 0)=some (.i_ 0):=(hb2.cell (p:=(a_ w.heap.size 0)) (by simp)).trans ((World.cell?_alloc_at _ _ _ _ rfl).trans rfl)
 have t:w2.cell? (a_ w.heap.size 1)=some (.i_ 0):=(hb2.cell (p:=(a_ w.heap.size 1)) (by simp)).trans ((World.cell?_alloc_at _ _ _ _ rfl).trans rfl)
 have z:w2.cell? (a_ w.heap.size 2)=some (.slice none 0 0):=(hb2.cell (p:=(a_ w.heap.size 2)) (by simp)).trans ((World.cell?_alloc_at _ _ _ _ rfl).trans rfl)
 have F:∀i,w2.frozen? (a_ w.heap.size i)=false:=fun i=>(hb2.frozen (p:=(a_ w.heap.size i)) (by simp)).trans (World.frozen?_alloc_at _ _ _ _ rfl)
 have c:w.heap.size<w2.heap.size:=by have:=hb2.size; simp at this; omega
 clear hb2;go_wp2_with fail
 refine (E _ (B.o.below j.o).base.len).mono ?_;rintro e3 w3 ⟨rfl,hwa,hb3⟩;have m:Hid _:=j.o.tm hb3;have H:=(hb3.cell (p:=(a_ w.heap.size 0)) c).trans s;have I:=(hb3.cell (p:=(a_ w.heap.size 1)) c).trans t;have J:=(hb3.cell (p:=(a_ w.heap.size 2)) c).trans z;have L:∀i,w3.frozen? (a_ w.heap.size i)=false:=fun i=>(hb3.frozen (p:=(a_ w.heap.size i)) c).trans (F i);have b:w.heap.size<w3.heap.size:=Fd c hb3.size;have n:=pH w2.heap.size 1 w3 (hwa.2 0 _ rfl) (B.o.below m.o);clear hb3 s t z F c hwa;go_wp2_with fail
 refine n.mono ?_;rintro e4 w4 ⟨rfl,hb4⟩;have G:Hid _:=m.o.tm hb4;have s:=(hb4.cell (p:=(a_ w.heap.size 0)) b).trans H;have t:=(hb4.cell (p:=(a_ w.heap.size 1)) b).trans I;have z:=(hb4.cell (p:=(a_ w.heap.size 2)) b).trans J;have F:∀i,w4.frozen? (a_ w.heap.size i)=false:=fun i=>(hb4.frozen (p:=(a_ w.heap.size i)) b).trans (L i);clear hb4 H I J L n;have o:Hid (Below w.heap.size w (((w4.setCell (a_ w.heap.size 0) (.i_ 0)).setCell (a_ w.heap.size 1) (.i_ 0)).setCell (a_ w.heap.size 2) (.slice none 0 0))):=((G.o.setCell (p:=(a_ w.heap.size 0)) (Fa _) _).setCell (p:=(a_ w.heap.size 1)) (Fa _) _).setCell (p:=(a_ w.heap.size 2)) (Fa _) _;obtain⟨q0,q1,q2⟩:=@bB w4 w.heap.size (.i_ 0) (.i_ 0) (.slice none 0 0) _ _ _ s t z;go_wp2_with fail
 have q:=o.o;clear o;generalize World.setCell _ (a_ w.heap.size 2) _=WW at *;exact bodyPost_ret (v:=.tuple #[.agg (S_ 0 0 none 0 0),.i_ 0]) (by simp[results,results52,go_sem,q0,q1,q2]) rfl ⟨rfl,q⟩
structure SL (w0:World) (g:Nat) (A:AD) (bs:Nat) (st:St) (v:Value) (wr:World):Prop where
 disk:cW wr g A
 libs:aY wr
 z0:wr.cell? ⟨w0.heap.size,0,none⟩=some (.int .i64 0)
 z1:wr.cell? ⟨w0.heap.size,1,none⟩=some (.int .i64 0)
 z2:wr.cell? ⟨w0.heap.size,2,none⟩=some (.slice none 0 0)
 zf:∀i,wr.frozen? ⟨w0.heap.size,i,none⟩=false
 s0:wr.cell? ⟨bs,0,none⟩=some (.int .i64 st.clock)
 s1:wr.cell? ⟨bs,1,none⟩=some (.int .i64 st.next)
 s2:wr.cell? ⟨bs,2,none⟩=some v
 sf:∀i,wr.frozen? ⟨bs,i,none⟩=false
 fam:ah (bs+1) wr v st.fams
 lt:bs<wr.heap.size
 ord:w0.heap.size<bs
 old:g<w0.heap.size
 below:Below w0.heap.size w0 wr
theorem SL.on{w0:World}{g:Nat}{A:AD}{bs:Nat}{st:St}{v:Value}{w w':World}(h:SL w0 g A bs st v w)(hb:Below w.heap.size w w'):SL w0 g A bs st v w':=by
 have f:=h.lt;have k:=h.ord;have c:∀b i,b<w.heap.size->w'.cell? (a_ b i)=w.c_ b i:=fun b i hl=>hb.cell (p:=(a_ b i)) hl;have j:∀b i,b<w.heap.size->w'.frozen? (a_ b i)=w.frozen? (a_ b i):=fun b i hl=>hb.frozen (p:=(a_ b i)) hl
 exact⟨h.disk.on hb,h.libs.below hb,(c _ _ (by omega)).trans h.z0,(c _ _ (by omega)).trans h.z1,(c _ _ (by omega)).trans h.z2,fun i=>(j _ _ (by omega)).trans (h.zf i),(c _ _ f).trans h.s0,(c _ _ f).trans h.s1,(c _ _ f).trans h.s2,fun i=>(j _ _ f).trans (h.sf i),
  ag.below h.fam hb (Fa _),Fd f hb.size,k,h.old,h.below.tm hb⟩
theorem SL.put{w0:World}{bs:Nat}{st st':St}{v':Value}(h:SL w0 g A bs st v w)(hL:aY w0)(hf:ah (bs+1) w v' st'.fams):SL w0 g A bs st' v' (((w.setCell ⟨bs,0,none⟩ (.int .i64 st'.clock)).setCell ⟨bs,1,none⟩ (.int .i64 st'.next)).setCell ⟨bs,2,none⟩ v'):=by
 have k:=h.lt;have b:=h.ord;have m:=h.old;obtain⟨q0,q1,q2⟩:=@bB w bs (.i_ st'.clock) (.i_ st'.next) v' _ _ _ h.s0 h.s1 h.s2
 have c:∀B,B<=bs->Below B w (((w.setCell (a_ bs 0) (.i_ st'.clock)).setCell (a_ bs 1) (.i_ st'.next)).setCell (a_ bs 2) v'):=fun B hB=>
  (((E9 B w).setCell (p:=(a_ bs 0)) hB _).setCell (p:=(a_ bs 1)) hB _).setCell (p:=(a_ bs 2)) hB _
 have f:=c bs (Fa _);have j:=h.below.trans (c w0.heap.size (by omega))
 refine⟨h.disk.below f (by omega),hL.below j,(f.cell (p:=(a_ w0.heap.size 0)) b).trans h.z0,(f.cell (p:=(a_ w0.heap.size 1)) b).trans h.z1,(f.cell (p:=(a_ w0.heap.size 2)) b).trans h.z2,fun i=>(f.frozen (p:=(a_ w0.heap.size i)) b).trans (h.zf i),q0,q1,q2,fun i=>by simp only[World.frozen?_setCell]; exact h.sf i,?_,by simpa using k,b,m,j⟩
 exact ((hf.other (a:=(a_ bs 0)) (Fj _) _).other (a:=(a_ bs 1)) (Fj _) _).other (a:=(a_ bs 2)) (Fj _) _
theorem oo(A:AD)(b s i r:Nat)(st:St):(∃e,A.blk (b+i)=some (s,e)∧slotGo A b s i (r+1) st=slotGo A b s (i+1) r (applyP st e))∨(jn (A.blk (b+i)) s=(zeroE,false)∧slotGo A b s i (r+1) st=none):=by
 cases h:A.blk (b+i) with
 |none=>exact .inr ⟨rfl,by rw[slotGo,h]⟩
 |some p=>
  obtain⟨s',e⟩:=p;by_cases hs:s'=s
  ·subst hs
   exact .inl ⟨e,rfl,by rw[slotGo,h]; simp⟩
  ·exact .inr ⟨by unfold jn; simp only[if_neg hs],by rw[slotGo,h]; simp only[if_neg hs]⟩
theorem nD(g:Nat)(A:AD)(k s:Nat)(c nx:Int)(n:Nat)(hk:k<2)(w:World)(hh:A.head k=some (s,c,nx,n))(hD:cW w g A)(hL:aY w):
 Calls prog 52 #[p_ g 0,.i_ k] w fun r w'=>∃v,r=.returned (.tuple #[stV (slotM A k).1.clock (slotM A k).1.next v,.int .i64 ((slotM A k).2:Nat)])∧ah w.heap.size w' v (slotM A k).1.fams∧Below w.heap.size w w':=by
 obtain⟨q1,q2,q3,q4,q5⟩:=hD.heads k s c nx n hh;have Ef:Hid (∀st,slotGo A (17+21*k) s 0 n ⟨c,nx,[]⟩=some st->slotM A k=(st,s)):=fun st h=>by unfold slotM; rw[hh]; simp only[h]
 have Eg:Hid (slotGo A (17+21*k) s 0 n ⟨c,nx,[]⟩=none->slotM A k=(⟨0,0,[]⟩,0)):=fun h=>by unfold slotM; rw[hh]; simp only[h]
 have J:Hid _:=bA w (.cells (S_ 0 0 none 0 0) 36);have HL:Hid _:=hL;have HD:Hid _:=hD;have HK:Hid _:=hk;have Eh:Hid _:=q1;have Ei:=fun (W:World)=>gI k W hk
 have Ej:Hid (∀W,cW W g A->aU W->Calls prog 111 #[p_ g 0,.i_ ((16+21*k:Nat):Int)] W fun r w'=>r=.returned (.string (bs8 (hdL s c nx n)))∧Below W.heap.size W w'):=fun W hW hl=>by
  have:=hW.readHead k hk hl;rw[hh] at this;exact this
 have R:(hdL s c nx n).length<=5000:=by
  rw[tL];have d1:=ar q1;have d2:=ar q2;have d3:=ar (n:=(n:Int)) ⟨by omega,by omega⟩
  have d4:(Lib.itoa nx).length<=13:=by
   by_cases hx:nx<=1099511627776
   ·exact ar ⟨q3,hx⟩
   ·obtain rfl:nx=1099511627777:=by omega
    decide +kernel
  simp only[List.length_append,List.length_cons];omega
 have T:=fun (W:World) (h:aU W)=>rC (hdL s c nx n) (gC s c nx n) (yV q2.1 q3) R W h
 have Ek:Hid (∀(b:Nat) (W:World),aO W b ((gC s c nx n).map bs8)->Calls prog 110 #[.slice (o_ b 0) 4 4] W fun r w'=>∃b',r=.returned (.slice (o_ b' 0) 4 4)∧zK w' b' [(s:Int),c,nx,n]∧Below W.heap.size W w'):=fun b W hW=>pG s c nx n b 4 W hW (fun m hm=>by
  have G:∀x:Int,okN x->0<=x∧x<=9223372036854775807∧(Lib.itoa x).length<=5000:=fun x hx=>⟨hx.1,by have:=hx.2; omega,by have:=ar hx; omega⟩
  simp only[List.mem_cons,List.not_mem_nil,or_false] at hm;rcases hm with rfl | rfl | rfl | rfl
  ·exact G _ q1
  ·exact G _ q2
  ·refine⟨q3,by omega,?_⟩
   by_cases hx:m<=1099511627776
   ·exact (G _ ⟨q3,hx⟩).2.2
   ·obtain rfl:m=1099511627777:=by omega
    decide +kernel
  ·exact G _ ⟨by omega,by omega⟩)
 have U:Hid _:=q5;rw[show (gC s c nx n).length=4 from rfl] at T
 generalize bs8 (hdL s c nx n)=HT at *;generalize (gC s c nx n).map bs8=WS4 at *;have El:Hid (((16+21*k:Nat):Int)=16+21*k):=by push_cast; rfl
 generalize hKK:((16+21*k:Nat):Int)=K at *;have Em:0<=K∧K<=37:=by omega
 unfold stV;go_enter func52,ntmps52
 go_wp2_with fail
 refine (Ei _).mono ?_;rintro e1 w1 ⟨rfl,rfl⟩;go_wp2_with fail
 refine (Ej.o _ (HD.o.on J.o) (HL.o.below J.o).base.len).mono ?_;rintro e2 w2 ⟨rfl,hb2⟩;have V:Hid _:=J.o.tm hb2;have X:Hid (∀i,w2.c_ w.heap.size i=(w.alloc (.cells (S_ 0 0 none 0 0) 36)).c_ w.heap.size i∧w2.frozen? (a_ w.heap.size i)=false):=fun i=>⟨hb2.cell (p:=(a_ w.heap.size i)) (by simp),(hb2.frozen (p:=(a_ w.heap.size i)) (by simp)).trans (World.frozen?_alloc_at _ _ _ _ rfl)⟩
 have L:w.heap.size<w2.heap.size:=by have:=hb2.size; simp at this; omega
 have H:Hid _:=L;go_wp2_with fail
 refine (T _ (HL.o.below V.o).base.len).mono ?_;rintro e3 w3 ⟨rfl,hwa,hb3⟩;have En:Hid _:=V.o.tm hb3;have Y:Hid (∀i,w3.c_ w.heap.size i=(w.alloc (.cells (S_ 0 0 none 0 0) 36)).c_ w.heap.size i∧w3.frozen? (a_ w.heap.size i)=false):=fun i=>⟨(hb3.cell (p:=(a_ w.heap.size i)) H.o).trans (X.o i).1,(hb3.frozen (p:=(a_ w.heap.size i)) H.o).trans (X.o i).2⟩;have t:Hid _:=Fd L hb3.size;have Eo:=Ek.o w2.heap.size w3 hwa;go_wp2_with fail
 refine Eo.mono ?_;rintro e4 w4 ⟨b,rfl,hna,hb4⟩;have Ep:Hid _:=En.o.tm hb4;have Z:Hid (∀i,w4.c_ w.heap.size i=(w.alloc (.cells (S_ 0 0 none 0 0) 36)).c_ w.heap.size i∧w4.frozen? (a_ w.heap.size i)=false):=fun i=>⟨(hb4.cell (p:=(a_ w.heap.size i)) t.o).trans (Y.o i).1,(hb4.frozen (p:=(a_ w.heap.size i)) t.o).trans (Y.o i).2⟩;have z:Hid _:=Fd t.o hb4.size;have n0:=hna.2 0 _ rfl;have n1:=hna.2 1 _ rfl;have n2:=hna.2 2 _ rfl;have n3:=hna.2 3 _ rfl;have m1:=Lib.cell?_alloc_some (.cells (S_ 0 0 none 0 0) 36) n1;have m2:=Lib.cell?_alloc_some (.cells (S_ 0 0 none 0 0) 36) n2;go_wp2_with fail
 go_region
 go_wp2_with fail
 go_region
 go_wp2_with fail
 have Ed:SL w g A w4.heap.size ⟨c,nx,[]⟩ (.slice none 0 0) (w4.alloc (.cells (S_ c nx none 0 0) 36)).drew.drew:=by
  have M:Below w4.heap.size w4 (w4.alloc (.cells (S_ c nx none 0 0) 36)).drew.drew:=((bA _ _).drew).drew;have N:=Ep.o.tm M;have hc:∀i,(w4.alloc (.cells (S_ c nx none 0 0) 36)).drew.drew.c_ w.heap.size i=(w.alloc (.cells (S_ 0 0 none 0 0) 36)).c_ w.heap.size i:=fun i=>(M.cell (p:=(a_ w.heap.size i)) z.o).trans (Z.o i).1
  exact⟨HD.o.on N,HL.o.below N,(hc 0).trans ((Fb _ _ _ _ rfl).trans rfl),(hc 1).trans ((Fb _ _ _ _ rfl).trans rfl),(hc 2).trans ((Fb _ _ _ _ rfl).trans rfl),fun i=>(M.frozen (p:=(a_ w.heap.size i)) z.o).trans (Z.o i).2,
   (show (w4.alloc (.cells (S_ c nx none 0 0) 36)).c_ w4.heap.size 0=some (.i_ c) from (Fb _ _ _ _ rfl).trans rfl),(show (w4.alloc (.cells (S_ c nx none 0 0) 36)).c_ w4.heap.size 1=some (.i_ nx) from (Fb _ _ _ _ rfl).trans rfl),(show (w4.alloc (.cells (S_ c nx none 0 0) 36)).c_ w4.heap.size 2=some (.slice none 0 0) from (Fb _ _ _ _ rfl).trans rfl),fun i=>(show (w4.alloc (.cells (S_ c nx none 0 0) 36)).frozen? (a_ w4.heap.size i)=false from Ff _ _ _ _ rfl),ah.nil _ _,by show w4.heap.size<(w4.heap.push _).size; simp,z.o,HD.o.lt,N⟩
 have Er:Hid _:=Ed;generalize hW:(w4.alloc (.cells (S_ c nx none 0 0) 36)).drew.drew=W5 at *;generalize w4.heap.size=bs at *;generalize hb17:17+21*k=b17 at *;have B:Hid _:=hb17;have Es:Hid (K+1=(b17:Int)):=by show K+1=(b17:Int); have:=El.o; omega
 have hs9:0<=K∧K<=37:=Em;have C:Hid _:=U.o;go_loopg [39] n (fun gk iv wr=>∃(i:Nat) (st:St) (v:Value),i+gk=n∧iv=.i_ i∧Hid (slotGo A b17 s 0 n ⟨c,nx,[]⟩=slotGo A b17 s i gk st)∧Hid (aP st.fams∧st.fams.length<=i)∧Hid (SL w g A bs st v wr))
 case atStart=>exact⟨0,⟨c,nx,[]⟩,_,by omega,rfl,rfl,⟨List.Pairwise.nil,Fa _⟩,Er⟩
 case round=>
  obtain⟨i,st,v,hj,rfl,HGO,HRI,HSL⟩:=hrel;have HJ:Hid _:=hj;by_cases L:i<n
  ·have EI:(i:Int)<(n:Int):=by omega
   have EJ:(i:Int)<20:=by have:=C.o; omega
   obtain⟨r,hr⟩:∃r,gk=r+1:=⟨gk - 1,by have:=HJ.o; omega⟩
   have HR:Hid _:=hr;have j:=fun (W:World) (hd:cW W g A) (hl:aY W)=>hd.readEv (b17+i) s (by have:=B.o; have:=C.o; have:=HK.o; omega) (by have:=B.o; have:=C.o; have:=HK.o; omega) (by have:=B.o; have:=C.o; have:=HK.o; omega) Eh.o hl
   have Et:Hid (((b17+i:Nat):Int)=K+1+i):=by show ((b17+i:Nat):Int)=K+1+i; rw[Es.o]; push_cast; rfl
   rw[Et.o] at j;rcases oo A b17 s i r st with ⟨e,h1,h2⟩ | ⟨h1,h2⟩
   ·rw[h1] at j
    have Eu:jn (some (s,e)) s=(e,true):=by unfold jn; simp
    rw[Eu] at j;have HM:Hid _:=(HD.o.blks _ _ _ h1).1;have Ew:Hid (slotGo A b17 s 0 n ⟨c,nx,[]⟩=slotGo A b17 s (i+1) r (applyP st e)):=by show _=_; rw[HGO.out,HR.o,h2]
    have Ex:Hid (∀(W:World),ah (bs+1) W v st.fams->Calls prog 19 #[stV st.clock st.next v,evV e] W fun r w'=>∃v',r=.returned (stV (applyP st e).clock (applyP st e).next v')∧ah W.heap.size w' v' (applyP st e).fams∧Below W.heap.size W w'):=fun W hW=>mC st e HM.o hW HRI.out.1 (by have:=HRI.out.2; have:=C.o; omega)
    have Ey:Hid (aP (applyP st e).fams∧(applyP st e).fams.length<=i+1):=⟨eH HRI.out.1,Fe (j3 st e) (by have:=HRI.out.2; omega)⟩
    have Ez:Hid (∀W:World,cG (W.alloc (.cells (E_ e.kind e.fam.id e.fam.client e.fam.subject e.fam.scope e.fam.gen e.fam.made e.fam.used e.fam.request e.fam.dead e.id e.time) 42)) W.heap.size e):=fun W=>bU W e 42 _ rfl;generalize applyP st e=st' at *;obtain⟨kk,⟨f1,f2,f3,f4,f5,f6,f7,f8,f9⟩,ei,et⟩:=e;have D:=Ex.o;unfold evV aX stV at D;unfold evV aX at j;simp only at j D;go_wp2_with fail
    refine (j _ HSL.out.disk HSL.out.libs).mono ?_;rintro e6 w6 ⟨rfl,hb6⟩;have f:Hid _:=(HSL.out.on hb6).on (w':=w6.alloc (.cells (E_ kk f1 f2 f3 f4 f5 f6 f7 f8 f9 ei et) 42)) (bA _ _);have q:=Ez.o w6;have d0:=q.c0; have d1:=q.fam.c0; have d2:=q.fam.c1; have d3:=q.fam.c2; have d4:=q.fam.c3; have d5:=q.fam.c4; have d6:=q.fam.c5; have d7:=q.fam.c6; have d8:=q.fam.c7; have d9:=q.fam.c8; have EA:=q.c10; have EB:=q.c11;simp only at d0 d1 d2 d3 d4 d5 d6 d7 d8 d9 EA EB;have s0:=f.o.s0;have s1:=f.o.s1;have s2:=f.o.s2;have sf:=f.o.sf;go_wp2_with fail
    refine (D _ f.o.fam).mono ?_;rintro e7 w7 ⟨v7,rfl,hf7,hb7⟩;have E:Hid _:=f.o.on hb7;obtain⟨ba,ca,rfl⟩:=ag.slice hf7;have EC:Hid _:=ag.mono hf7 f.o.lt;have ED:Hid _:=E.o.put HL.o EC.o;have s0:=E.o.s0;have s1:=E.o.s1;have s2:=E.o.s2;have sf:=E.o.sf;go_wp2_with fail
    go_roundg r
    case measure=>have:=HR.o; omega
    case rel=>exact⟨i+1,st',_,by have:=HJ.o; have:=HR.o; omega,by go_num,Ew,Ey,ED⟩
   ·rw[h1] at j
    have o:slotM A k=(⟨0,0,[]⟩,0):=Eg.o (by rw[HGO.out,HR.o,h2])
    unfold evV aX zeroE zeroF at j;simp only at j;have EE:Hid _:=o;go_wp2_with fail
    refine (j _ HSL.out.disk HSL.out.libs).mono ?_;rintro e6 w6 ⟨rfl,hb6⟩;have f:Hid _:=(HSL.out.on hb6).on (w':=w6.alloc (.cells (g_ 0 0 0) 42)) (bA _ _);have z0:=f.o.z0;have z1:=f.o.z1;have z2:=f.o.z2;have zf:=f.o.zf;have EF:Hid _:=f.o.below;have O:Hid (Below w.heap.size w ((((w6.alloc (.cells (g_ 0 0 0) 42)).setCell (a_ w.heap.size 0) (.i_ 0)).setCell (a_ w.heap.size 1) (.i_ 0)).setCell (a_ w.heap.size 2) (.slice none 0 0))):=((EF.o.setCell (p:=(a_ w.heap.size 0)) (Fa _) _).setCell (p:=(a_ w.heap.size 1)) (Fa _) _).setCell (p:=(a_ w.heap.size 2)) (Fa _) _;obtain⟨q0,q1,q2⟩:=@bB (w6.alloc (.cells (g_ 0 0 0) 42)) w.heap.size (.i_ 0) (.i_ 0) (.slice none 0 0) _ _ _ z0 z1 z2;go_wp2_with fail
    have F:=O.o;generalize World.setCell _ (a_ w.heap.size 2) _=WW at *;have o:=EE.o;exact bodyPost_ret (v:=.tuple #[.agg (S_ 0 0 none 0 0),.i_ 0]) (by simp[results,results52,go_sem,q0,q1,q2]) rfl ⟨.slice none 0 0,by rw[o]; rfl,by rw[o]; exact ah.nil _ _,F⟩
  ·obtain rfl:i=n:=by have:=HJ.o; omega
   obtain rfl:gk=0:=by have:=HJ.o; omega
   have EG:Hid _:=Ef.o st (by rw[HGO.out]; rfl)
   have z0:=HSL.out.z0;have z1:=HSL.out.z1;have z2:=HSL.out.z2;have zf:=HSL.out.zf;have s0:=HSL.out.s0;have s1:=HSL.out.s1;have s2:=HSL.out.s2;obtain⟨ba,ca,rfl⟩:=ag.slice HSL.out.fam;have O:Hid (Below w.heap.size w (((wr.setCell (a_ w.heap.size 0) (.i_ st.clock)).setCell (a_ w.heap.size 1) (.i_ st.next)).setCell (a_ w.heap.size 2) (.slice ba st.fams.length ca))):=((HSL.out.below.setCell (p:=(a_ w.heap.size 0)) (Fa _) _).setCell (p:=(a_ w.heap.size 1)) (Fa _) _).setCell (p:=(a_ w.heap.size 2)) (Fa _) _
   have EH:Hid (ah w.heap.size (((wr.setCell (a_ w.heap.size 0) (.i_ st.clock)).setCell (a_ w.heap.size 1) (.i_ st.next)).setCell (a_ w.heap.size 2) (.slice ba st.fams.length ca)) (.slice ba st.fams.length ca) st.fams):=ag.mono (((HSL.out.fam.other (a:=(a_ w.heap.size 0)) (Nat.lt_succ_of_lt HSL.out.ord) _).other (a:=(a_ w.heap.size 1)) (Nat.lt_succ_of_lt HSL.out.ord) _).other (a:=(a_ w.heap.size 2)) (Nat.lt_succ_of_lt HSL.out.ord) _) (Nat.le_succ_of_le (Fx HSL.out.ord));obtain⟨q0,q1,q2⟩:=@bB wr w.heap.size (.i_ st.clock) (.i_ st.next) (.slice ba st.fams.length ca) _ _ _ z0 z1 z2;go_wp2_with fail
   have F:=O.o;have Ee:=EH.o;generalize World.setCell _ (a_ w.heap.size 2) _=WW at *;have I:=EG.o;exact bodyPost_ret (v:=.tuple #[.agg (S_ st.clock st.next ba st.fams.length ca),.i_ s]) (by simp[results,results52,go_sem,q0,q1,q2]) rfl ⟨_,by rw[I],by rw[I]; exact Ee,F⟩
end Go.Proofs.YtlailakofhenkabGreatDoor
