import Derived.Test.YtlailakofhenkabGreatDoorB15
set_option maxRecDepth 100000
set_option maxHeartbeats 8000000
namespace Go.Proofs.YtlailakofhenkabGreatDoor
open Go Go.RowKit Ev
def stV (c n:Int) (v:Value):Value:=.agg #[.int .i64 c,.int .i64 n,v]
structure AB (B b:Nat) (c n:Int) (v:Value) (e:E) (w:World):Prop where
 lt:b+2<B
 size:B≤w.heap.size
 s0:w.cell? ⟨b,0,none⟩=some (.int .i64 c)
 s1:w.cell? ⟨b,1,none⟩=some (.int .i64 n)
 s2:w.cell? ⟨b,2,none⟩=some v
 ev:EvAt w (b+1) e
 r0:w.cell? ⟨b+2,0,none⟩=some (.int .i64 0)
 r1:w.cell? ⟨b+2,1,none⟩=some (.int .i64 0)
 r2:w.cell? ⟨b+2,2,none⟩=some (.slice none 0 0)
 fs:∀ i,w.frozen? ⟨b,i,none⟩=false
 fr:∀ i,w.frozen? ⟨b+2,i,none⟩=false
theorem EvAt.onB {B:Nat} {w w':World} {g:Nat} {e:E} (h:EvAt w g e) (hb:Below B w w') (hg:g<B):EvAt w' g e:=
 ⟨Nat.lt_of_lt_of_le h.lt hb.size,(hb.cell (p:=⟨g,0,none⟩) hg).trans h.c0,h.fam.on hb hg,(hb.cell (p:=⟨g,10,none⟩) hg).trans h.c10,(hb.cell (p:=⟨g,11,none⟩) hg).trans h.c11⟩
theorem FamAt.other {w:World} {g o:Nat} {f:Fam} (h:FamAt w g o f) {a:Addr} (ha:a.block≠g) (u:Value):FamAt (w.setCell a u) g o f:=
 famAt_of (fun i x hx=>(World.cell?_setCell_other _ _ _ _ (by intro e; exact ha (congrArg Addr.block e))).trans (h.all i x hx))
theorem EvAt.other {w:World} {g:Nat} {e:E} (h:EvAt w g e) {a:Addr} (ha:a.block≠g) (u:Value):EvAt (w.setCell a u) g e:=by
 have ho:∀ j,(w.setCell a u).cell? ⟨g,j,none⟩=w.cell? ⟨g,j,none⟩:=fun j=>World.cell?_setCell_other _ _ _ _ (by intro e; exact ha (congrArg Addr.block e))
 exact ⟨by simpa using h.lt,(ho 0).trans h.c0,h.fam.other ha u,(ho 10).trans h.c10,(ho 11).trans h.c11⟩
theorem AB.on {B b:Nat} {c n:Int} {v:Value} {e:E} {w w':World} (h:AB B b c n v e w) (hb:Below B w w'):AB B b c n v e w':=by
 have hl:=h.lt;have hc:∀ g j,g<B→w'.cell? ⟨g,j,none⟩=w.cell? ⟨g,j,none⟩:=fun g j hg=>hb.cell (p:=⟨g,j,none⟩) hg;have hf:∀ g j,g<B→w'.frozen? ⟨g,j,none⟩=w.frozen? ⟨g,j,none⟩:=fun g j hg=>hb.frozen (p:=⟨g,j,none⟩) hg
 exact ⟨hl,Nat.le_trans h.size hb.size,(hc _ _ (by omega)).trans h.s0,(hc _ _ (by omega)).trans h.s1,(hc _ _ (by omega)).trans h.s2,h.ev.onB hb (by omega),(hc _ _ (by omega)).trans h.r0,(hc _ _ (by omega)).trans h.r1,(hc _ _ (by omega)).trans h.r2,
  fun i=>(hf _ _ (by omega)).trans (h.fs i),fun i=>(hf _ _ (by omega)).trans (h.fr i)⟩
theorem AB.set2 {B b:Nat} {c n:Int} {v:Value} {e:E} {w:World} (h:AB B b c n v e w) (u:Value):AB B b c n u e (w.setCell ⟨b,2,none⟩ u):=by
 have ho:∀ g j,(g≠b∨j≠2)→(w.setCell ⟨b,2,none⟩ u).cell? ⟨g,j,none⟩=w.cell? ⟨g,j,none⟩:=fun g j hg=>World.cell?_setCell_other _ _ _ _ (by intro e; injection e with e1 e2; rcases hg with hg | hg <;> omega)
 exact ⟨h.lt,by simpa using h.size,(ho _ _ (by omega)).trans h.s0,(ho _ _ (by omega)).trans h.s1,World.cell?_setCell_same _ _ _ h.s2,h.ev.other (by show b≠b+1; omega) u,(ho _ _ (by omega)).trans h.r0,(ho _ _ (by omega)).trans h.r1,(ho _ _ (by omega)).trans h.r2,
  fun i=>by rw [World.frozen?_setCell]; exact h.fs i,fun i=>by rw [World.frozen?_setCell]; exact h.fr i⟩
theorem RowsK.other {k B:Nat} {w:World} {v:Value} {n:Nat} {cs:List Value} (h:RowsK k B w v n cs) {a:Addr} (ha:a.block<B) (u:Value):RowsK k B (w.setCell a u) v n cs:=by
 rcases h with h | ⟨g,c,rfl,hr⟩
 ·exact .inl h
 ·exact .inr ⟨g,c,rfl,hr.block (by simp [World.setCell]) (Below.heap_setCell _ _ _ _ (by have:=hr.new; omega))⟩
theorem three_set {W:World} {g:Nat} {a b c x0 x1 x2:Value} (h0:W.cell? ⟨g,0,none⟩=some x0) (h1:W.cell? ⟨g,1,none⟩=some x1) (h2:W.cell? ⟨g,2,none⟩=some x2) :
 (((W.setCell ⟨g,0,none⟩ a).setCell ⟨g,1,none⟩ b).setCell ⟨g,2,none⟩ c).cell? ⟨g,0,none⟩=some a∧(((W.setCell ⟨g,0,none⟩ a).setCell ⟨g,1,none⟩ b).setCell ⟨g,2,none⟩ c).cell? ⟨g,1,none⟩=some b∧(((W.setCell ⟨g,0,none⟩ a).setCell ⟨g,1,none⟩ b).setCell ⟨g,2,none⟩ c).cell? ⟨g,2,none⟩=some c:=by
 have ho:∀ (V:World) (i j:Nat) (u:Value),i≠j→(V.setCell ⟨g,i,none⟩ u).cell? ⟨g,j,none⟩=V.cell? ⟨g,j,none⟩:=fun V i j u hij=>World.cell?_setCell_other _ _ _ _ (by intro e; injection e with _ e _; exact hij e)
 refine ⟨?_,?_,?_⟩
 ·rw [ho _ _ _ _ (by omega),ho _ _ _ _ (by omega)]
  exact World.cell?_setCell_same _ _ _ h0
 ·rw [ho _ _ _ _ (by omega)]
  exact World.cell?_setCell_same _ _ _ ((ho _ _ _ _ (by omega)).trans h1)
 ·exact World.cell?_setCell_same _ _ _ ((ho _ _ _ _ (by omega)).trans ((ho _ _ _ _ (by omega)).trans h2))
theorem set_other {W:World} {g b i j:Nat} {u x:Value} (h:W.cell? ⟨g,j,none⟩=some x) (hg:b≠g):(W.setCell ⟨b,i,none⟩ u).cell? ⟨g,j,none⟩=some x:=
 (World.cell?_setCell_other _ _ _ _ (by intro e; injection e with e _ _; exact hg e)).trans h
theorem ab_made (w:World) (c n:Int) (v:Value) (e:E):AB (w.heap.size+3) w.heap.size c n v e (((w.alloc (.cells #[.int .i64 c,.int .i64 n,v] 36)).alloc (.cells #[.int .i64 e.kind,.int .i64 e.fam.id,.string e.fam.client,.string e.fam.subject,.string e.fam.scope,.int .i64 e.fam.gen,.int .i64 e.fam.made,.int .i64 e.fam.used,.string e.fam.request,.bool e.fam.dead,.int .i64 e.id,.int .i64 e.time] 42)).alloc (.cells #[.int .i64 0,.int .i64 0,.slice none 0 0] 36)):=by
 refine ⟨by omega,by simp,?_,?_,?_,?_,?_,?_,?_,fun i=>?_,fun i=>World.frozen?_alloc_at _ _ _ _ (by simp)⟩
 ·exact Lib.cell?_alloc_some _ (Lib.cell?_alloc_some _ ((World.cell?_alloc_at _ _ _ _ rfl).trans rfl))
 ·exact Lib.cell?_alloc_some _ (Lib.cell?_alloc_some _ ((World.cell?_alloc_at _ _ _ _ rfl).trans rfl))
 ·exact Lib.cell?_alloc_some _ (Lib.cell?_alloc_some _ ((World.cell?_alloc_at _ _ _ _ rfl).trans rfl))
 ·exact (evAt_made _ e 42 _ (by simp)).on ((Below.refl _ _).alloc (Nat.le_refl _) _)
 ·exact (World.cell?_alloc_at _ _ _ _ (by simp)).trans rfl
 ·exact (World.cell?_alloc_at _ _ _ _ (by simp)).trans rfl
 ·exact (World.cell?_alloc_at _ _ _ _ (by simp)).trans rfl
 ·have h1:∀ (W:World) (o:Obj) (g:Nat),g<W.heap.size→(W.alloc o).frozen? ⟨g,i,none⟩=W.frozen? ⟨g,i,none⟩:=fun W o g hg=>((Below.refl W.heap.size W).alloc (Nat.le_refl _) o).frozen (p:=⟨g,i,none⟩) hg
  rw [h1 _ _ _ (by simp; omega),h1 _ _ _ (by simp)]
  exact World.frozen?_alloc_at _ _ _ _ rfl
theorem apply_1 {B:Nat} {w:World} {v:Value} {l:List Fam} (c n:Int) (f:Fam) (h:Fams B w v l) (hr:Rising l) (hn:l.length≤5000) (hf:0≤f.id∧f.id≤1099511627776) :
 Calls Tryz.prog 19 #[stV c n v,evV ⟨1,f,0,0⟩] w fun r w'=>∃ v',r=.returned (stV c (if n≤f.id then f.id+1 else n) v')∧Fams w.heap.size w' v' (putP l f)∧Below w.heap.size w w':=by
 have hab:=ab_made w c n v ⟨1,f,0,0⟩;have hcl:=fun (W:World) (hf:Fams B W v l)=>clone_fams hf hn;have hpu:=fun (W:World) (v2:Value) (hf:Fams (w.heap.size+3) W v2 l) (hB:w.heap.size+3≤W.heap.size)=>put_is hf hr hn hB f;have HF:Hid (Fams B w v l):=h;clear h hr
 have HB0:Hid (Below w.heap.size w (((w.alloc (.cells #[.int .i64 c,.int .i64 n,v] 36)).alloc (.cells #[.int .i64 1,.int .i64 f.id,.string f.client,.string f.subject,.string f.scope,.int .i64 f.gen,.int .i64 f.made,.int .i64 f.used,.string f.request,.bool f.dead,.int .i64 0,.int .i64 0] 42)).alloc (.cells #[.int .i64 0,.int .i64 0,.slice none 0 0] 36))):=by
  show Below _ _ _
  repeat (first | exact Below.refl _ _ | refine Below.alloc ?_ (by simp; try omega) _)
 have hsz:(((w.alloc (.cells #[.int .i64 c,.int .i64 n,v] 36)).alloc (.cells #[.int .i64 1,.int .i64 f.id,.string f.client,.string f.subject,.string f.scope,.int .i64 f.gen,.int .i64 f.made,.int .i64 f.used,.string f.request,.bool f.dead,.int .i64 0,.int .i64 0] 42)).alloc (.cells #[.int .i64 0,.int .i64 0,.slice none 0 0] 36)).heap.size=w.heap.size+3:=by simp
 obtain ⟨f1,f2,f3,f4,f5,f6,f7,f8,f9⟩:=f;unfold evV evCs stV;unfold famV famCs at hpu;simp only at *;obtain ⟨hf0,hf1⟩:=hf;go_enter Tryz.func19,Tryz.ntmps19
 go_wp2_with fail
 refine (hcl _ (HF.out.below HB0.out (Nat.le_refl _))).mono ?_;rintro e1 w1 ⟨v1,rfl,hv1,hb1⟩;obtain ⟨base1,cap1,rfl⟩:=hv1.slice;have hab1:=hab.on (hsz ▸ hb1);have HFV:Hid (Fams (w.heap.size+3) w1 (.slice base1 l.length cap1) l):=hsz ▸ hv1;have HB1:Hid (Below w.heap.size w w1):=HB0.out.trans (hb1.mono HB0.out.size);clear hv1 hb1 hab hsz;generalize hb:w.heap.size=b at *;have HWB:Hid (w.heap.size=b):=hb;clear hb;have HAB2:Hid _:=hab1.set2 (.slice base1 l.length cap1);have HFV2:Hid (Fams (b+3) (w1.setCell ⟨b,2,none⟩ (.slice base1 l.length cap1)) (.slice base1 l.length cap1) l):=HFV.out.other (a:=⟨b,2,none⟩) (by show b<b+3; omega) _
 have HB2:Hid (Below b w (w1.setCell ⟨b,2,none⟩ (.slice base1 l.length cap1))):=HB1.out.setCell (p:=⟨b,2,none⟩) (Nat.le_refl _) _;have q2:=hab1.s2;have qf:=hab1.fs 2;have k0:=HAB2.out.ev.c0; have k1:=HAB2.out.ev.fam.c0; have k2:=HAB2.out.ev.fam.c1; have k3:=HAB2.out.ev.fam.c2; have k4:=HAB2.out.ev.fam.c3; have k5:=HAB2.out.ev.fam.c4; have k6:=HAB2.out.ev.fam.c5; have k7:=HAB2.out.ev.fam.c6; have k8:=HAB2.out.ev.fam.c7; have k9:=HAB2.out.ev.fam.c8;have k10:=HAB2.out.s2;simp only at k0 k1 k2 k3 k4 k5 k6 k7 k8 k9 k10;clear hab1;go_wp2_with fail
 refine (hpu _ _ HFV2.out (by simp; have:=HAB2.out.size; simpa using this)).mono ?_
 rintro e3 w3 ⟨v3,rfl,hv3,hb3⟩;obtain ⟨base3,cap3,rfl⟩:=hv3.slice;have hab3:=HAB2.out.on hb3;generalize hpp:putP l ⟨f1,f2,f3,f4,f5,f6,f7,f8,f9⟩=L at *;have HF3:Hid (Fams (b+3) w3 (.slice base3 L.length cap3) L):=hv3;have HB3:Hid (Below b w w3):=HB2.out.trans (hb3.mono (by omega))
 clear hv3 hb3 k0 k1 k2 k3 k4 k5 k6 k7 k8 k9 k10 q2 qf hpu hcl;have s0:=hab3.s0;have s1:=hab3.s1;have s2:=hab3.s2;have k1:=hab3.ev.fam.c0;have fz:=hab3.fs;have fr:∀ i,w3.frozen? ⟨b+1+1,i,none⟩=false:=hab3.fr;have r0:w3.cell? ⟨b+1+1,0,none⟩=_:=hab3.r0;have r1:w3.cell? ⟨b+1+1,1,none⟩=_:=hab3.r1;have r2:w3.cell? ⟨b+1+1,2,none⟩=_:=hab3.r2;simp only at k1;clear hab3;have HSET:Hid (∀ (W:World) (i:Nat) (u:Value),Fams (b+3) W (.slice base3 L.length cap3) L→Fams (b+3) (W.setCell ⟨b,i,none⟩ u) (.slice base3 L.length cap3) L):=fun W i u hw=>hw.other (a:=⟨b,i,none⟩) (by show b<b+3; omega) u
 have HSET2:Hid (∀ (W:World) (i:Nat) (u:Value),Fams (b+3) W (.slice base3 L.length cap3) L→Fams (b+3) (W.setCell ⟨b+1+1,i,none⟩ u) (.slice base3 L.length cap3) L):=fun W i u hw=>hw.other (a:=⟨b+1+1,i,none⟩) (by show b+1+1<b+3; omega) u
 by_cases hnx:n≤f1
 ·have HX:Hid ((if n≤f1 then f1+1 else n)=f1+1):=if_pos hnx
  have hnx2:n≤f1+1:=by omega
  have hnx3:¬ f1+1<n:=by omega
  have hm:max n (f1+1)=f1+1:=Int.max_eq_right hnx2;have HFN:Hid (Fams b (((((w3.setCell ⟨b,2,none⟩ (.slice base3 L.length cap3)).setCell ⟨b,1,none⟩ (.int .i64 (f1+1))).setCell ⟨b+1+1,0,none⟩ (.int .i64 c)).setCell ⟨b+1+1,1,none⟩ (.int .i64 (f1+1))).setCell ⟨b+1+1,2,none⟩ (.slice base3 L.length cap3)) (.slice base3 L.length cap3) L):=RowsK.mono (HSET2.out _ _ _ (HSET2.out _ _ _ (HSET2.out _ _ _ (HSET.out _ _ _ (HSET.out _ _ _ HF3.out))))) (by omega)
  have HBN:Hid (Below b w (((((w3.setCell ⟨b,2,none⟩ (.slice base3 L.length cap3)).setCell ⟨b,1,none⟩ (.int .i64 (f1+1))).setCell ⟨b+1+1,0,none⟩ (.int .i64 c)).setCell ⟨b+1+1,1,none⟩ (.int .i64 (f1+1))).setCell ⟨b+1+1,2,none⟩ (.slice base3 L.length cap3))):=by
   show Below _ _ _
   repeat (first | exact HB3.out | refine Below.setCell ?_ (by simp; try omega) _)
  go_wp2_with fail
  obtain ⟨q0,q1,q2⟩:=@three_set ((w3.setCell ⟨b,2,none⟩ (.slice base3 L.length cap3)).setCell ⟨b,1,none⟩ (.int .i64 (f1+1))) (b+1+1) (.int .i64 c) (.int .i64 (f1+1)) (.slice base3 L.length cap3) _ _ _ (set_other (set_other r0 (by omega)) (by omega)) (set_other (set_other r1 (by omega)) (by omega)) (set_other (set_other r2 (by omega)) (by omega))
  have HFN2:=HFN.out;have HBN2:=HBN.out;clear HFN HBN s0 s1 s2 fz fr r0 r1 r2;generalize World.setCell _ ⟨b+1+1,2,none⟩ _=WW at *;exact bodyPost_ret (v:=.agg #[.int .i64 c,.int .i64 (f1+1),.slice base3 L.length cap3]) (by simp [results,Tryz.results19,go_sem,q0,q1,q2]) rfl ⟨_,rfl,by rw [HWB.out]; first | exact HFN2 | (rw [hpp]; exact HFN2),by rw [HWB.out]; exact HBN2⟩
 ·have HX:Hid ((if n≤f1 then f1+1 else n)=n):=if_neg hnx
  have hnx2:f1+1≤n:=by omega
  have hm:max n (f1+1)=n:=Int.max_eq_left hnx2;have HFN:Hid (Fams b (((((w3.setCell ⟨b,2,none⟩ (.slice base3 L.length cap3)).setCell ⟨b,1,none⟩ (.int .i64 n)).setCell ⟨b+1+1,0,none⟩ (.int .i64 c)).setCell ⟨b+1+1,1,none⟩ (.int .i64 n)).setCell ⟨b+1+1,2,none⟩ (.slice base3 L.length cap3)) (.slice base3 L.length cap3) L):=RowsK.mono (HSET2.out _ _ _ (HSET2.out _ _ _ (HSET2.out _ _ _ (HSET.out _ _ _ (HSET.out _ _ _ HF3.out))))) (by omega)
  have HBN:Hid (Below b w (((((w3.setCell ⟨b,2,none⟩ (.slice base3 L.length cap3)).setCell ⟨b,1,none⟩ (.int .i64 n)).setCell ⟨b+1+1,0,none⟩ (.int .i64 c)).setCell ⟨b+1+1,1,none⟩ (.int .i64 n)).setCell ⟨b+1+1,2,none⟩ (.slice base3 L.length cap3))):=by
   show Below _ _ _
   repeat (first | exact HB3.out | refine Below.setCell ?_ (by simp; try omega) _)
  go_wp2_with fail
  obtain ⟨q0,q1,q2⟩:=@three_set ((w3.setCell ⟨b,2,none⟩ (.slice base3 L.length cap3)).setCell ⟨b,1,none⟩ (.int .i64 n)) (b+1+1) (.int .i64 c) (.int .i64 n) (.slice base3 L.length cap3) _ _ _ (set_other (set_other r0 (by omega)) (by omega)) (set_other (set_other r1 (by omega)) (by omega)) (set_other (set_other r2 (by omega)) (by omega))
  have HFN2:=HFN.out;have HBN2:=HBN.out;clear HFN HBN s0 s1 s2 fz fr r0 r1 r2;generalize World.setCell _ ⟨b+1+1,2,none⟩ _=WW at *;exact bodyPost_ret (v:=.agg #[.int .i64 c,.int .i64 n,.slice base3 L.length cap3]) (by simp [results,Tryz.results19,go_sem,q0,q1,q2]) rfl ⟨_,rfl,by rw [HWB.out]; first | exact HFN2 | (rw [hpp]; exact HFN2),by rw [HWB.out]; exact HBN2⟩
theorem apply_2 {B:Nat} {w:World} {v:Value} {l:List Fam} (c n d:Int) (h:Fams B w v l) (hr:Rising l) (hn:l.length≤5000) :
 Calls Tryz.prog 19 #[stV c n v,evV ⟨2,zeroF,d,0⟩] w fun r w'=>∃ v',r=.returned (stV c n v')∧Fams w.heap.size w' v' (dropP l d)∧Below w.heap.size w w':=by
 have hab:=ab_made w c n v ⟨2,zeroF,d,0⟩;have hcl:=fun (W:World) (hf:Fams B W v l)=>clone_fams hf hn;have hpu:=fun (W:World) (v2:Value) (hf:Fams (w.heap.size+3) W v2 l) (hB:w.heap.size+3≤W.heap.size)=>drop_is hf hr hn hB d;have HF:Hid (Fams B w v l):=h;clear h hr
 have HB0:Hid (Below w.heap.size w (((w.alloc (.cells #[.int .i64 c,.int .i64 n,v] 36)).alloc (.cells #[.int .i64 2,.int .i64 0,.string ⟨#[]⟩,.string ⟨#[]⟩,.string ⟨#[]⟩,.int .i64 0,.int .i64 0,.int .i64 0,.string ⟨#[]⟩,.bool false,.int .i64 d,.int .i64 0] 42)).alloc (.cells #[.int .i64 0,.int .i64 0,.slice none 0 0] 36))):=by
  show Below _ _ _
  repeat (first | exact Below.refl _ _ | refine Below.alloc ?_ (by simp; try omega) _)
 have hsz:(((w.alloc (.cells #[.int .i64 c,.int .i64 n,v] 36)).alloc (.cells #[.int .i64 2,.int .i64 0,.string ⟨#[]⟩,.string ⟨#[]⟩,.string ⟨#[]⟩,.int .i64 0,.int .i64 0,.int .i64 0,.string ⟨#[]⟩,.bool false,.int .i64 d,.int .i64 0] 42)).alloc (.cells #[.int .i64 0,.int .i64 0,.slice none 0 0] 36)).heap.size=w.heap.size+3:=by simp
 unfold evV evCs stV;unfold zeroF at *;simp only at *;go_enter Tryz.func19,Tryz.ntmps19
 go_wp2_with fail
 refine (hcl _ (HF.out.below HB0.out (Nat.le_refl _))).mono ?_;rintro e1 w1 ⟨v1,rfl,hv1,hb1⟩;obtain ⟨base1,cap1,rfl⟩:=hv1.slice;have hab1:=hab.on (hsz ▸ hb1);have HFV:Hid (Fams (w.heap.size+3) w1 (.slice base1 l.length cap1) l):=hsz ▸ hv1;have HB1:Hid (Below w.heap.size w w1):=HB0.out.trans (hb1.mono HB0.out.size);clear hv1 hb1 hab hsz;generalize hb:w.heap.size=b at *;have HWB:Hid (w.heap.size=b):=hb;clear hb;have HAB2:Hid _:=hab1.set2 (.slice base1 l.length cap1);have HFV2:Hid (Fams (b+3) (w1.setCell ⟨b,2,none⟩ (.slice base1 l.length cap1)) (.slice base1 l.length cap1) l):=HFV.out.other (a:=⟨b,2,none⟩) (by show b<b+3; omega) _
 have HB2:Hid (Below b w (w1.setCell ⟨b,2,none⟩ (.slice base1 l.length cap1))):=HB1.out.setCell (p:=⟨b,2,none⟩) (Nat.le_refl _) _;have q2:=hab1.s2;have qf:=hab1.fs 2;have k0:=HAB2.out.ev.c0; have k1:=HAB2.out.ev.fam.c0; have k2:=HAB2.out.ev.fam.c1; have k3:=HAB2.out.ev.fam.c2; have k4:=HAB2.out.ev.fam.c3; have k5:=HAB2.out.ev.fam.c4; have k6:=HAB2.out.ev.fam.c5; have k7:=HAB2.out.ev.fam.c6; have k8:=HAB2.out.ev.fam.c7; have k9:=HAB2.out.ev.c10;have k10:=HAB2.out.s2;simp only at k0 k1 k2 k3 k4 k5 k6 k7 k8 k9 k10;clear hab1;go_wp2_with fail
 refine (hpu _ _ HFV2.out (by simp; have:=HAB2.out.size; simpa using this)).mono ?_
 rintro e3 w3 ⟨v3,rfl,hv3,hb3⟩;obtain ⟨base3,cap3,rfl⟩:=hv3.slice;have hab3:=HAB2.out.on hb3;generalize hpp:dropP l d=L at *;have HF3:Hid (Fams (b+3) w3 (.slice base3 L.length cap3) L):=hv3;have HB3:Hid (Below b w w3):=HB2.out.trans (hb3.mono (by omega))
 clear hv3 hb3 k0 k1 k2 k3 k4 k5 k6 k7 k8 k9 k10 q2 qf hpu hcl;have s0:=hab3.s0;have s1:=hab3.s1;have s2:=hab3.s2;have fz:=hab3.fs;have fr:∀ i,w3.frozen? ⟨b+1+1,i,none⟩=false:=hab3.fr;have r0:w3.cell? ⟨b+1+1,0,none⟩=_:=hab3.r0;have r1:w3.cell? ⟨b+1+1,1,none⟩=_:=hab3.r1;have r2:w3.cell? ⟨b+1+1,2,none⟩=_:=hab3.r2;clear hab3;have HSET:Hid (∀ (W:World) (i:Nat) (u:Value),Fams (b+3) W (.slice base3 L.length cap3) L→Fams (b+3) (W.setCell ⟨b,i,none⟩ u) (.slice base3 L.length cap3) L):=fun W i u hw=>hw.other (a:=⟨b,i,none⟩) (by show b<b+3; omega) u
 have HSET2:Hid (∀ (W:World) (i:Nat) (u:Value),Fams (b+3) W (.slice base3 L.length cap3) L→Fams (b+3) (W.setCell ⟨b+1+1,i,none⟩ u) (.slice base3 L.length cap3) L):=fun W i u hw=>hw.other (a:=⟨b+1+1,i,none⟩) (by show b+1+1<b+3; omega) u
 have HFN:Hid (Fams b ((((w3.setCell ⟨b,2,none⟩ (.slice base3 L.length cap3)).setCell ⟨b+1+1,0,none⟩ (.int .i64 c)).setCell ⟨b+1+1,1,none⟩ (.int .i64 n)).setCell ⟨b+1+1,2,none⟩ (.slice base3 L.length cap3)) (.slice base3 L.length cap3) L):=RowsK.mono (HSET2.out _ _ _ (HSET2.out _ _ _ (HSET2.out _ _ _ (HSET.out _ _ _ HF3.out)))) (by omega)
 have HBN:Hid (Below b w ((((w3.setCell ⟨b,2,none⟩ (.slice base3 L.length cap3)).setCell ⟨b+1+1,0,none⟩ (.int .i64 c)).setCell ⟨b+1+1,1,none⟩ (.int .i64 n)).setCell ⟨b+1+1,2,none⟩ (.slice base3 L.length cap3))):=by
  show Below _ _ _
  repeat (first | exact HB3.out | refine Below.setCell ?_ (by simp; try omega) _)
 go_wp2_with fail
 obtain ⟨q0,q1,q2⟩:=@three_set (w3.setCell ⟨b,2,none⟩ (.slice base3 L.length cap3)) (b+1+1) (.int .i64 c) (.int .i64 n) (.slice base3 L.length cap3) _ _ _ (set_other r0 (by omega)) (set_other r1 (by omega)) (set_other r2 (by omega))
 have HFN2:=HFN.out;have HBN2:=HBN.out;clear HFN HBN s0 s1 s2 fz fr r0 r1 r2;generalize World.setCell _ ⟨b+1+1,2,none⟩ _=WW at *;exact bodyPost_ret (v:=.agg #[.int .i64 c,.int .i64 n,.slice base3 L.length cap3]) (by simp [results,Tryz.results19,go_sem,q0,q1,q2]) rfl ⟨_,rfl,by rw [HWB.out]; first | exact HFN2 | (rw [hpp]; exact HFN2),by rw [HWB.out]; exact HBN2⟩
theorem apply_3 {B:Nat} {w:World} {v:Value} {l:List Fam} (c n d:Int) (h:Fams B w v l) (hn:l.length≤5000) :
 Calls Tryz.prog 19 #[stV c n v,evV ⟨3,zeroF,0,d⟩] w fun r w'=>∃ v',r=.returned (stV d n v')∧Fams w.heap.size w' v' l∧Below w.heap.size w w':=by
 have hab:=ab_made w c n v ⟨3,zeroF,0,d⟩;have hcl:=fun (W:World) (hf:Fams B W v l)=>clone_fams hf hn;have HF:Hid (Fams B w v l):=h;clear h
 have HB0:Hid (Below w.heap.size w (((w.alloc (.cells #[.int .i64 c,.int .i64 n,v] 36)).alloc (.cells #[.int .i64 3,.int .i64 0,.string ⟨#[]⟩,.string ⟨#[]⟩,.string ⟨#[]⟩,.int .i64 0,.int .i64 0,.int .i64 0,.string ⟨#[]⟩,.bool false,.int .i64 0,.int .i64 d] 42)).alloc (.cells #[.int .i64 0,.int .i64 0,.slice none 0 0] 36))):=by
  show Below _ _ _
  repeat (first | exact Below.refl _ _ | refine Below.alloc ?_ (by simp; try omega) _)
 have hsz:(((w.alloc (.cells #[.int .i64 c,.int .i64 n,v] 36)).alloc (.cells #[.int .i64 3,.int .i64 0,.string ⟨#[]⟩,.string ⟨#[]⟩,.string ⟨#[]⟩,.int .i64 0,.int .i64 0,.int .i64 0,.string ⟨#[]⟩,.bool false,.int .i64 0,.int .i64 d] 42)).alloc (.cells #[.int .i64 0,.int .i64 0,.slice none 0 0] 36)).heap.size=w.heap.size+3:=by simp
 unfold evV evCs stV;unfold zeroF at *;simp only at *;go_enter Tryz.func19,Tryz.ntmps19
 go_wp2_with fail
 refine (hcl _ (HF.out.below HB0.out (Nat.le_refl _))).mono ?_;rintro e1 w1 ⟨v1,rfl,hv1,hb1⟩;obtain ⟨base1,cap1,rfl⟩:=hv1.slice;have hab1:=hab.on (hsz ▸ hb1);have HFV:Hid (Fams (w.heap.size+3) w1 (.slice base1 l.length cap1) l):=hsz ▸ hv1;have HB1:Hid (Below w.heap.size w w1):=HB0.out.trans (hb1.mono HB0.out.size);clear hv1 hb1 hab hsz hcl;generalize hb:w.heap.size=b at *;have HWB:Hid (w.heap.size=b):=hb;clear hb;have s0:=hab1.s0;have s1:=hab1.s1;have s2:=hab1.s2;have k0:=hab1.ev.c0;have k1:=hab1.ev.c11;have fz:=hab1.fs;have fr:∀ i,w1.frozen? ⟨b+1+1,i,none⟩=false:=hab1.fr;have r0:w1.cell? ⟨b+1+1,0,none⟩=_:=hab1.r0;have r1:w1.cell? ⟨b+1+1,1,none⟩=_:=hab1.r1;have r2:w1.cell? ⟨b+1+1,2,none⟩=_:=hab1.r2;simp only at k0 k1;clear hab1
 have HSET:Hid (∀ (W:World) (g i:Nat) (u:Value),g<b+3→Fams (b+3) W (.slice base1 l.length cap1) l→Fams (b+3) (W.setCell ⟨g,i,none⟩ u) (.slice base1 l.length cap1) l):=fun W g i u hg hw=>hw.other (a:=⟨g,i,none⟩) hg u
 have HFN:Hid (Fams b (((((w1.setCell ⟨b,2,none⟩ (.slice base1 l.length cap1)).setCell ⟨b,0,none⟩ (.int .i64 d)).setCell ⟨b+1+1,0,none⟩ (.int .i64 d)).setCell ⟨b+1+1,1,none⟩ (.int .i64 n)).setCell ⟨b+1+1,2,none⟩ (.slice base1 l.length cap1)) (.slice base1 l.length cap1) l):=by
  refine RowsK.mono (B:=b+3) ?_ (by omega)
  repeat (first | exact HFV.out | refine HSET.out _ _ _ _ (by omega) ?_)
 have HBN:Hid (Below b w (((((w1.setCell ⟨b,2,none⟩ (.slice base1 l.length cap1)).setCell ⟨b,0,none⟩ (.int .i64 d)).setCell ⟨b+1+1,0,none⟩ (.int .i64 d)).setCell ⟨b+1+1,1,none⟩ (.int .i64 n)).setCell ⟨b+1+1,2,none⟩ (.slice base1 l.length cap1))):=by
  show Below _ _ _
  repeat (first | exact HB1.out | refine Below.setCell ?_ (by simp; try omega) _)
 go_wp2_with fail
 obtain ⟨q0,q1,q2⟩:=@three_set ((w1.setCell ⟨b,2,none⟩ (.slice base1 l.length cap1)).setCell ⟨b,0,none⟩ (.int .i64 d)) (b+1+1) (.int .i64 d) (.int .i64 n) (.slice base1 l.length cap1) _ _ _ (set_other (set_other r0 (by omega)) (by omega)) (set_other (set_other r1 (by omega)) (by omega)) (set_other (set_other r2 (by omega)) (by omega))
 have HFN2:=HFN.out;have HBN2:=HBN.out;clear HFN HBN s0 s1 s2 fz fr r0 r1 r2;generalize World.setCell _ ⟨b+1+1,2,none⟩ _=WW at *;exact bodyPost_ret (v:=.agg #[.int .i64 d,.int .i64 n,.slice base1 l.length cap1]) (by simp [results,Tryz.results19,go_sem,q0,q1,q2]) rfl ⟨_,rfl,by rw [HWB.out]; first | exact HFN2 | (rw [hpp]; exact HFN2),by rw [HWB.out]; exact HBN2⟩
theorem apply_is {B:Nat} {w:World} {v:Value} (s:St) (e:E) (hm:Ev.may e) (h:Fams B w v s.fams) (hr:Rising s.fams) (hn:s.fams.length≤5000) :
 Calls Tryz.prog 19 #[stV s.clock s.next v,evV e] w fun r w'=>∃ v',r=.returned (stV (applyP s e).clock (applyP s e).next v')∧Fams w.heap.size w' v' (applyP s e).fams∧Below w.heap.size w w':=by
 obtain ⟨c,n,l⟩:=s;obtain ⟨k,f,i,t⟩:=e;rcases hm with ⟨hk,hf,hi,ht⟩ | ⟨hk,hf,hi,ht⟩ | ⟨hk,hf,hi,ht⟩ <;> simp only at hk hf hi ht <;> subst hk
 ·subst hi; subst ht
  rw [apply_put _ rfl];exact apply_1 c n f h hr hn hf.1.1
 ·subst hf; subst ht
  rw [apply_drop _ rfl];exact apply_2 c n i h hr hn
 ·subst hf; subst hi
  rw [apply_clock _ rfl];exact apply_3 c n t h hn
def SrcF (b:Nat) (w:World) (v:Value) (l:List Fam):Prop:=(v=.slice none 0 0∧l= [])∨∃ g c,v=.slice (some ⟨g,0,none⟩) l.length c∧g<b∧RowK 9 0 w g c l.length (famsCs l)
theorem srcF_of {B:Nat} {w:World} {v:Value} {l:List Fam} (h:Fams B w v l):SrcF w.heap.size w v l:=by
 rcases h with ⟨rfl,h0,_⟩ | ⟨g,c,rfl,hr⟩
 ·exact .inl ⟨rfl,List.length_eq_zero_iff.1 h0⟩
 ·exact .inr ⟨g,c,rfl,hr.lt,hr.mono (Nat.zero_le _)⟩
theorem SrcF.on {b B:Nat} {w w':World} {v:Value} {l:List Fam} (h:SrcF b w v l) (hb:Below B w w') (hB:b≤B):SrcF b w' v l:=by
 rcases h with h | ⟨g,c,rfl,hg,hr⟩
 ·exact .inl h
 ·exact .inr ⟨g,c,rfl,hg,hr.below hb (by omega)⟩
theorem SrcF.set {b:Nat} {w:World} {v:Value} {l:List Fam} (h:SrcF b w v l) {a:Addr} (ha:b≤a.block) (u:Value):SrcF b (w.setCell a u) v l:=by
 rcases h with h | ⟨g,c,rfl,hg,hr⟩
 ·exact .inl h
 ·exact .inr ⟨g,c,rfl,hg,hr.block (by simp [World.setCell]) (Below.heap_setCell _ _ _ _ (by omega))⟩
theorem SrcF.fam {b:Nat} {w:World} {base:Option Addr} {c:Nat} {l:List Fam} (h:SrcF b w (.slice base l.length c) l) (j:Nat) (hj:j<l.length):∃ g,base=some ⟨g,0,none⟩∧FamAt w g (j*9) l[j]:=by
 rcases h with ⟨_,rfl⟩ | ⟨g,c',e,hg,hr⟩
 ·simp at hj
 ·have hf:Fams 0 w (.slice base l.length c) l:=by rw [e]; exact .inr ⟨g,c',rfl,hr⟩
  obtain ⟨g',e1,_,e2⟩:=hf.fam j hj;exact ⟨g',e1,e2⟩
theorem SrcF.src {b:Nat} {w:World} {v:Value} {l:List Fam} (h:SrcF b w v l):Src Tryz.prog 9 34 v l.length (famsCs l) w:=by
 have hr:RowsK 9 0 w v l.length (famsCs l):=by
  rcases h with ⟨rfl,rfl⟩ | ⟨g,c,rfl,_,hr⟩
  ·exact .inl ⟨rfl,rfl,rfl⟩
  ·exact .inr ⟨g,c,rfl,hr⟩
 exact hr.src Tryz.underlying34
set_option maxHeartbeats 16000000
structure SB (w0:World) (c n:Int) (va vb:Value) (l:List Fam) (w:World):Prop where
 a0:w.cell? ⟨w0.heap.size,0,none⟩=some (.int .i64 c)
 a1:w.cell? ⟨w0.heap.size,1,none⟩=some (.int .i64 n)
 a2:w.cell? ⟨w0.heap.size,2,none⟩=some va
 b0:w.cell? ⟨w0.heap.size+1,0,none⟩=some (.int .i64 c)
 b1:w.cell? ⟨w0.heap.size+1,1,none⟩=some (.int .i64 n)
 b2:w.cell? ⟨w0.heap.size+1,2,none⟩=some vb
 sa:SrcF w0.heap.size w va l
 sb:SrcF w0.heap.size w vb l
 size:w0.heap.size+2≤w.heap.size
 below:Below w0.heap.size w0 w
theorem SB.drew {w0:World} {c n:Int} {va vb:Value} {l:List Fam} {w:World} (h:SB w0 c n va vb l w):SB w0 c n va vb l w.drew:=by
 have hb:Below w.heap.size w w.drew:=(Below.refl _ _).drew;have hs:=h.size
 exact ⟨(hb.cell (p:=⟨_,0,none⟩) (by show w0.heap.size<_; omega)).trans h.a0,(hb.cell (p:=⟨_,1,none⟩) (by show w0.heap.size<_; omega)).trans h.a1,(hb.cell (p:=⟨_,2,none⟩) (by show w0.heap.size<_; omega)).trans h.a2,
  (hb.cell (p:=⟨_,0,none⟩) (by show w0.heap.size+1<_; omega)).trans h.b0,(hb.cell (p:=⟨_,1,none⟩) (by show w0.heap.size+1<_; omega)).trans h.b1,(hb.cell (p:=⟨_,2,none⟩) (by show w0.heap.size+1<_; omega)).trans h.b2,
  h.sa.on hb (by omega),h.sb.on hb (by omega),Nat.le_trans hs hb.size,h.below.trans (hb.mono (by omega))⟩
theorem sb_made {Ba Bb:Nat} (w:World) (c n:Int) (va vb:Value) (l:List Fam) (ha:Fams Ba w va l) (hb:Fams Bb w vb l) (t1 t2:TypeId):SB w c n va vb l ((w.alloc (.cells #[.int .i64 c,.int .i64 n,va] t1)).alloc (.cells #[.int .i64 c,.int .i64 n,vb] t2)):=by
 have hbl:Below w.heap.size w ((w.alloc (.cells #[.int .i64 c,.int .i64 n,va] t1)).alloc (.cells #[.int .i64 c,.int .i64 n,vb] t2)):=by
  repeat (first | exact Below.refl _ _ | refine Below.alloc ?_ (by simp; try omega) _)
 exact ⟨Lib.cell?_alloc_some _ ((World.cell?_alloc_at _ _ _ _ rfl).trans rfl),Lib.cell?_alloc_some _ ((World.cell?_alloc_at _ _ _ _ rfl).trans rfl),Lib.cell?_alloc_some _ ((World.cell?_alloc_at _ _ _ _ rfl).trans rfl),
  (World.cell?_alloc_at _ _ _ _ (by simp)).trans rfl,(World.cell?_alloc_at _ _ _ _ (by simp)).trans rfl,(World.cell?_alloc_at _ _ _ _ (by simp)).trans rfl,(srcF_of ha).on hbl (Nat.le_refl _),(srcF_of hb).on hbl (Nat.le_refl _),by simp,hbl⟩
theorem same_is {Ba Bb:Nat} {w:World} {va vb:Value} {l:List Fam} (c n:Int) (ha:Fams Ba w va l) (hb:Fams Bb w vb l) (hn:l.length≤5000) :
 Calls Tryz.prog 21 #[stV c n va,stV c n vb] w fun r w'=>r=.returned (.bool true)∧Below w.heap.size w w':=by
 have hsb:=sb_made w c n va vb l ha hb 36 36;obtain ⟨basea,capa,rfl⟩:=ha.slice;obtain ⟨baseb,capb,rfl⟩:=hb.slice;clear ha hb;unfold stV;go_enter Tryz.func21,Tryz.ntmps21
 go_wp2_with fail
 go_loopg [30] l.length (fun gk iv wr=>∃ (j:Nat),j+gk=l.length∧iv=.int .i64 j∧Hid (SB w c n (.slice basea l.length capa) (.slice baseb l.length capb) l wr))
 case atStart=>exact ⟨0,by omega,rfl,hsb⟩
 case round=>
  obtain ⟨j,hj,rfl,HR⟩:=hrel;have HJ:Hid (j+gk=l.length):=hj;clear hj hsb;by_cases hlt:j<l.length
  ·have hltI:(j:Int)<(l.length:Int):=by omega
   obtain ⟨ga,rfl,hca⟩:=HR.out.sa.fam j hlt;obtain ⟨gb,rfl,hcb⟩:=HR.out.sb.fam j hlt;generalize l[j]=y at *;obtain ⟨y1,y2,y3,y4,y5,y6,y7,y8,y9⟩:=y;have p0:=hca.c0; have p1:=hca.c1; have p2:=hca.c2; have p3:=hca.c3; have p4:=hca.c4; have p5:=hca.c5; have p6:=hca.c6; have p7:=hca.c7; have p8:=hca.c8;have q0:=hcb.c0; have q1:=hcb.c1; have q2:=hcb.c2; have q3:=hcb.c3; have q4:=hcb.c4; have q5:=hcb.c5; have q6:=hcb.c6; have q7:=hcb.c7; have q8:=hcb.c8;have e2:=HR.out.a2;have f2:=HR.out.b2;simp only at p0 p1 p2 p3 p4 p5 p6 p7 p8 q0 q1 q2 q3 q4 q5 q6 q7 q8;clear hca hcb;go_wp2_with fail
   go_region
   go_wp2_with fail
   go_roundg (gk - 1)
   case measure=>have:=HJ.out; omega
   case rel=>exact ⟨j+1,by have:=HJ.out; omega,by go_num,HR.out.drew⟩
  ·obtain rfl:j=l.length:=by have:=HJ.out; omega
   go_wp2_with fail
   go_ret;exact ⟨rfl,HR.out.below⟩
end Go.Proofs.YtlailakofhenkabGreatDoor
namespace Go.Proofs.YtlailakofhenkabGreatDoor
open Go Go.RowKit Tok Sc Ev
theorem split_is (t:List UInt8) (ws:List Word) (hp:parts 32 t=ws) (hl:t.length≤5000) (W:World) (hL:LenOk W) :
 Calls Tryz.prog 102 #[.string (bs8 t),.string ⟨#[32]⟩] W fun e w'=>e=.returned (.slice (some ⟨W.heap.size,0,none⟩) ws.length ws.length)∧WordsAt w' W.heap.size (ws.map bs8)∧Below W.heap.size W w':=by
 obtain ⟨m,hm⟩:=hL;refine (Tryz.strings_Split (bs8 t) ⟨#[32]⟩ m W (by rw [bsize]; omega) hm (by decide)).mono ?_
 have h1:=parts_split 32 (bs8 t);have h2:=Lib.splitB_all ⟨#[32]⟩ (by decide) 0 _ (bs8 t) rfl
 rw [show (bs8 t).data.toList=t from rfl,hp] at h1
 generalize Lib.splitB ⟨#[32]⟩ 0 (Lib.countB (bs8 t) ⟨#[32]⟩) (bs8 t)=ps at *;generalize Lib.countB (bs8 t) ⟨#[32]⟩=N at *
 have hps:ps=ws.map bs8:=by
  rw [← h1,List.map_map];exact (List.map_id' ps).symm
 rintro e w' ⟨rfl,rfl⟩
 have hn:N+1=ws.length:=by
  have h3:ps.length=ws.length:=by rw [hps,List.length_map]
  omega
 refine ⟨by rw [hn],?_,(Below.refl _ _).alloc (Nat.le_refl _) _⟩
 rw [← hps];exact wordsAt_new W ps _
theorem slotBlock_is (k:Nat) (w:World) (hk:k<2):Calls Tryz.prog 54 #[.int .i64 k] w fun e w'=>e=.returned (.int .i64 ((16+21*k:Nat):Int))∧w'=w:=by
 rcases (show k=0∨k=1 by omega) with rfl | rfl
 ·go_enter Tryz.func54,Tryz.ntmps54
  go_wp2_with fail
  go_ret;exact ⟨rfl,rfl⟩
 ·go_enter Tryz.func54,Tryz.ntmps54
  go_wp2_with fail
  go_ret;exact ⟨rfl,rfl⟩
structure DiskIs (w:World) (g:Nat) (A:AD):Prop where
 disk:∃ F n c l,IsDisk w g F n c l∧EncF tag0 F A
 lt:g<w.heap.size
 blks:∀ k s e,A.blk k=some (s,e)→Ev.may e∧okN s
 heads:∀ k s c nx n,A.head k=some (s,c,nx,n)→okN s∧okN c∧0≤nx∧nx≤1099511627777∧n≤20
theorem DiskIs.below {B:Nat} {w w':World} {g:Nat} {A:AD} (h:DiskIs w g A) (hb:Below B w w') (hg:g<B):DiskIs w' g A:=by
 obtain ⟨F,n,c,l,h1,h2⟩:=h.disk;exact ⟨⟨F,n,c,l,h1.below hb hg,h2⟩,Nat.lt_of_lt_of_le h.lt hb.size,h.blks,h.heads⟩
theorem DiskIs.on {w w':World} {g:Nat} {A:AD} (h:DiskIs w g A) (hb:Below w.heap.size w w'):DiskIs w' g A:=h.below hb h.lt
theorem DiskIs.readHead {w:World} {g:Nat} {A:AD} (h:DiskIs w g A) (k:Nat) (hk:k<2) (hL:LenOk w):Calls Tryz.prog 111 #[.pointer (some ⟨g,0,none⟩),.int .i64 ((16+21*k:Nat):Int)] w fun r w'=>r=.returned (.string (bs8 (txtH (A.head k))))∧Below w.heap.size w w':=by
 obtain ⟨F,n,c,l,h1,h2⟩:=h.disk;refine readBlock_is g F n c l (16+21*k) (txtH (A.head k)) w h1 (by omega) ?_ ?_ hL
 ·rw [h2 _ (by omega),txtAt_head hk]
 ·cases hh:A.head k with
  |none=>simp [txtH]
  |some p=>
   obtain ⟨s,cc,nx,nn⟩:=p;obtain ⟨q1,q2,q3,q4,q5⟩:=h.heads k s cc nx nn hh;unfold txtH;simp only;rw [hdL_is];have d1:=digits13 q1;have d2:=digits13 q2;have d3:=digits13 (n:=(nn:Int)) ⟨by omega,by omega⟩
   have d4:(Lib.itoa nx).length≤13:=by
    by_cases hx:nx≤1099511627776
    ·exact digits13 ⟨q3,hx⟩
    ·obtain rfl:nx=1099511627777:=by omega
     decide +kernel
   simp only [List.length_append,List.length_cons];omega
theorem DiskIs.readEv {w:World} {g:Nat} {A:AD} (h:DiskIs w g A) (k sv:Nat) (hk:k<90) (hk1:k≠16) (hk2:k≠37) (hsv:okN sv) (hL:LibsA w):Calls Tryz.prog 112 #[.pointer (some ⟨g,0,none⟩),.int .i64 k,.int .i64 sv] w fun r w'=>r=.returned (.tuple #[evV (evOf (A.blk k) sv).1,.bool (evOf (A.blk k) sv).2])∧Below w.heap.size w w':=by
 obtain ⟨F,n,c,l,h1,h2⟩:=h.disk;refine readEvent_is g F n c l k sv (A.blk k) w h1 h.lt hk ?_ (fun s e hs=>h.blks k s e hs) hsv hL;rw [h2 _ hk];unfold txtAt;rw [if_neg hk1,if_neg hk2]
theorem readSlot_none (g:Nat) (A:AD) (k:Nat) (hk:k<2) (w:World) (hh:A.head k=none) (hD:DiskIs w g A) (hL:LibsA w) :
 Calls Tryz.prog 52 #[.pointer (some ⟨g,0,none⟩),.int .i64 k] w fun r w'=>r=.returned (.tuple #[stV 0 0 (.slice none 0 0),.int .i64 0])∧Below w.heap.size w w':=by
 have HB0:Hid (Below w.heap.size w (w.alloc (.cells #[.int .i64 0,.int .i64 0,.slice none 0 0] 36))):=(Below.refl _ _).alloc (Nat.le_refl _) _;have HL:Hid (LibsA w):=hL;have hsb:=fun (W:World)=>slotBlock_is k W hk
 have HRH:Hid (∀ W,DiskIs W g A→LenOk W→Calls Tryz.prog 111 #[.pointer (some ⟨g,0,none⟩),.int .i64 ((16+21*k:Nat):Int)] W fun r w'=>r=.returned (.string ⟨#[]⟩)∧Below W.heap.size W w'):=fun W hW hl=>by
  have:=hW.readHead k hk hl;rw [hh] at this;exact this
 have HD:Hid (DiskIs w g A):=hD;have hsp:=fun (W:World) (h:LenOk W)=>split_is [] [[]] (parts_no (by simp)) (by simp) W h
 generalize ((16+21*k:Nat):Int)=K at *;clear hD hL hh hk;unfold stV;go_enter Tryz.func52,Tryz.ntmps52
 go_wp2_with fail
 refine (hsb _).mono ?_;rintro e1 w1 ⟨rfl,rfl⟩;go_wp2_with fail
 refine (HRH.out _ (HD.out.on HB0.out) (HL.out.below HB0.out).base.len).mono ?_;rintro e2 w2 ⟨rfl,hb2⟩;have HB2:Hid (Below w.heap.size w w2):=HB0.out.trans (hb2.mono HB0.out.size);have z0:w2.cell? ⟨w.heap.size,0,none⟩=some (.int .i64 0):=(hb2.cell (p:=⟨w.heap.size,0,none⟩) (by simp)).trans ((World.cell?_alloc_at _ _ _ _ rfl).trans rfl)
 have z1:w2.cell? ⟨w.heap.size,1,none⟩=some (.int .i64 0):=(hb2.cell (p:=⟨w.heap.size,1,none⟩) (by simp)).trans ((World.cell?_alloc_at _ _ _ _ rfl).trans rfl)
 have z2:w2.cell? ⟨w.heap.size,2,none⟩=some (.slice none 0 0):=(hb2.cell (p:=⟨w.heap.size,2,none⟩) (by simp)).trans ((World.cell?_alloc_at _ _ _ _ rfl).trans rfl)
 have zf:∀ i,w2.frozen? ⟨w.heap.size,i,none⟩=false:=fun i=>(hb2.frozen (p:=⟨w.heap.size,i,none⟩) (by simp)).trans (World.frozen?_alloc_at _ _ _ _ rfl)
 have hlt:w.heap.size<w2.heap.size:=by have:=hb2.size; simp at this; omega
 clear hb2;go_wp2_with fail
 refine (hsp _ (HL.out.below HB2.out).base.len).mono ?_;rintro e3 w3 ⟨rfl,hwa,hb3⟩;have HB3:Hid (Below w.heap.size w w3):=HB2.out.trans (hb3.mono HB2.out.size);have y0:=(hb3.cell (p:=⟨w.heap.size,0,none⟩) hlt).trans z0;have y1:=(hb3.cell (p:=⟨w.heap.size,1,none⟩) hlt).trans z1;have y2:=(hb3.cell (p:=⟨w.heap.size,2,none⟩) hlt).trans z2;have yf:∀ i,w3.frozen? ⟨w.heap.size,i,none⟩=false:=fun i=>(hb3.frozen (p:=⟨w.heap.size,i,none⟩) hlt).trans (zf i);have hlt3:w.heap.size<w3.heap.size:=Nat.lt_of_lt_of_le hlt hb3.size;have hnn:=numbers_none w2.heap.size 1 w3 (hwa.2 0 _ rfl) (HL.out.below HB3.out);clear hb3 z0 z1 z2 zf hlt hwa;go_wp2_with fail
 refine hnn.mono ?_;rintro e4 w4 ⟨rfl,hb4⟩;have HB4:Hid (Below w.heap.size w w4):=HB3.out.trans (hb4.mono HB3.out.size);have z0:=(hb4.cell (p:=⟨w.heap.size,0,none⟩) hlt3).trans y0;have z1:=(hb4.cell (p:=⟨w.heap.size,1,none⟩) hlt3).trans y1;have z2:=(hb4.cell (p:=⟨w.heap.size,2,none⟩) hlt3).trans y2;have zf:∀ i,w4.frozen? ⟨w.heap.size,i,none⟩=false:=fun i=>(hb4.frozen (p:=⟨w.heap.size,i,none⟩) hlt3).trans (yf i);clear hb4 y0 y1 y2 yf hnn;have HBF:Hid (Below w.heap.size w (((w4.setCell ⟨w.heap.size,0,none⟩ (.int .i64 0)).setCell ⟨w.heap.size,1,none⟩ (.int .i64 0)).setCell ⟨w.heap.size,2,none⟩ (.slice none 0 0))):=((HB4.out.setCell (p:=⟨w.heap.size,0,none⟩) (Nat.le_refl _) _).setCell (p:=⟨w.heap.size,1,none⟩) (Nat.le_refl _) _).setCell (p:=⟨w.heap.size,2,none⟩) (Nat.le_refl _) _
 obtain ⟨q0,q1,q2⟩:=@three_set w4 w.heap.size (.int .i64 0) (.int .i64 0) (.slice none 0 0) _ _ _ z0 z1 z2;go_wp2_with fail
 have HBF2:=HBF.out;clear HBF;generalize World.setCell _ ⟨w.heap.size,2,none⟩ _=WW at *;exact bodyPost_ret (v:=.tuple #[.agg #[.int .i64 0,.int .i64 0,.slice none 0 0],.int .i64 0]) (by simp [results,Tryz.results52,go_sem,q0,q1,q2]) rfl ⟨rfl,HBF2⟩
end Go.Proofs.YtlailakofhenkabGreatDoor
