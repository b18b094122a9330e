import Derived.Test.YtlailakofhenkabGreatDoorB14
set_option maxRecDepth 100000
set_option maxHeartbeats 16000000
namespace Go.Proofs.YtlailakofhenkabGreatDoor
open Go Go.RowKit Ev
structure af (l:List Nat) (w w':World):Prop where
 os:w'.os=w.os
 tape:w'.tape=w.tape
 output:w'.output=w.output
 size:w.heap.size<=w'.heap.size
 block:∀b,b<w.heap.size->b∉l->w'.heap[b]?=w.heap[b]?
theorem af.refl(l:List Nat)(w:World):af l w w:=⟨rfl,rfl,rfl,Fa _,fun _ _ _=>rfl⟩
theorem af.trans{l:List Nat}{a b c:World}(h:af l a b)(k:af l b c):af l a c:=
 ⟨k.os.trans h.os,k.tape.trans h.tape,k.output.trans h.output,Fe h.size k.size,fun i hi hn=>(k.block i (Fd hi h.size) hn).trans (h.block i hi hn)⟩
variable {W' w w' w0 w6 wr:World}{l:List Nat}
theorem af.mono{l':List Nat}(h:af l w w')(hl:∀x∈l,x∈l'):af l' w w':=⟨h.os,h.tape,h.output,h.size,fun i hi hn=>h.block i hi (fun hx=>hn (hl i hx))⟩
theorem af.of(l:List Nat)(h:Below w.heap.size w w'):af l w w':=⟨h.os,h.tape,h.output,h.size,fun i hi _=>h.block i hi⟩
theorem af.then{a:World}(h:af l a w)(k:Below w.heap.size w w'):af l a w':=h.trans (.of l k)
theorem af.drew{l:List Nat}{a w:World}(h:af l a w):af l a w.drew:=h.then (E9 _ _).drew
theorem af.setCell{l:List Nat}{a w:World}(h:af l a w){p:Addr}(hp:p.block∈l∨a.heap.size<=p.block)(u:Value):af l a (w.setCell p u):=
 ⟨h.os,h.tape,h.output,by simpa using h.size,fun i hi hn=>(Below.heap_setCell w p u i (by rintro rfl; rcases hp with hp | hp; exact hn hp; omega)).trans (h.block i hi hn)⟩
theorem af.grown{g:Nat}(h:w.grownBy w' (some g)):af [g] w w':=by
 obtain⟨h1,h2,h3,h4,h5⟩:=h;exact⟨h1,h2,h3,h4,fun i hi hn=>h5 i hi (by simpa using (fun e:i=g=>hn (by simp[e])))⟩
theorem af.cell{l:List Nat}{w w':World}(h:af l w w'){p:Addr}(hp:p.block<w.heap.size)(hn:p.block∉l):w'.cell? p=w.cell? p:=World.cell?_of_block (w:=w) (h.block p.block hp hn)
theorem af.frozen{l:List Nat}{w w':World}(h:af l w w'){p:Addr}(hp:p.block<w.heap.size)(hn:p.block∉l):w'.frozen? p=w.frozen? p:=World.frozen?_of_block (w:=w) (h.block p.block hp hn)
variable {B b gd gs k lg lg' n sv sv':Nat}
theorem af.below(h:af l w w')(hB:B<=w.heap.size)(hl:∀x∈l,B<=x):Below B w w':=⟨h.os,h.tape,h.output,h.size,fun i hi=>h.block i (by omega) (fun hx=>by have:=hl i hx; omega)⟩
variable {v v':Value}
theorem af.rows{cs:List Value}(h:af l w w')(hr:ag k B w v n cs)(hl:∀x∈l,x<B):ag k B w' v n cs:=by
 rcases hr with h1 | ⟨g,c,h1,h2⟩
 ·exact .inl h1
 ·exact .inr ⟨g,c,h1,h2.block h.size (h.block g h2.lt (fun hx=>by have:=hl g hx; have:=h2.new; omega))⟩
open Tok Sc Tryz RegD
attribute [local go_sem] rA oA
theorem aY.belowB(h:aY w)(hb:Below B w w')(ho:nu B):aY w':=by
 obtain⟨o1,o2,o3,o4⟩:=ho;refine⟨⟨Fd h.base.big hb.size,ic h.base.pow hb yX o3,?_⟩,?_,?_⟩
 ·obtain⟨m,hm⟩:=h.base.len
  exact⟨m,(hb.cell (p:=(a_ 2 0)) o4).trans hm⟩
 ·obtain⟨m,hm,k⟩:=h.syn
  exact⟨m,(hb.cell (p:=(a_ 4 0)) o1).trans hm,k⟩
 ·obtain⟨m,hm,k⟩:=h.rng
  exact⟨m,(hb.cell (p:=(a_ 5 0)) o2).trans hm,k⟩
theorem nu.mono{a:Nat}(h:nu a)(hab:a<=b):nu b:=⟨Fd h.1 hab,Fd h.2.1 hab,Fd h.2.2.1 hab,Fd h.2.2.2 hab⟩
structure aS (w:World) (gs gd:Nat) (dn:Bool) (sv lg:Nat) (st:St) (v:Value):Prop where
 p0:w.cell? ⟨gs,0,none⟩=some (.pointer (some ⟨gd,0,none⟩))
 p1:w.cell? ⟨gs,1,none⟩=some (.bool dn)
 p2:w.cell? ⟨gs,2,none⟩=some (.int .i64 sv)
 p3:w.cell? ⟨gs,3,none⟩=some (.int .i64 lg)
 p4:w.cell? ⟨gs,4,none⟩=some (.int .i64 st.clock)
 p5:w.cell? ⟨gs,5,none⟩=some (.int .i64 st.next)
 p6:w.cell? ⟨gs,6,none⟩=some v
 pf:∀i,w.frozen? ⟨gs,i,none⟩=false
 fam:ah (gs+1) w v st.fams
 lt:gs<w.heap.size
variable {c dn dn':Bool}{st st':St}
theorem aS.on(h:aS w gs gd dn sv lg st v)(hb:Below w.heap.size w w'):aS w' gs gd dn sv lg st v:=by
 have b:∀i,w'.cell? (a_ gs i)=w.c_ gs i:=fun i=>hb.cell (p:=(a_ gs i)) h.lt;exact⟨(b 0).trans h.p0,(b 1).trans h.p1,(b 2).trans h.p2,(b 3).trans h.p3,(b 4).trans h.p4,(b 5).trans h.p5,(b 6).trans h.p6,fun i=>(hb.frozen (p:=(a_ gs i)) h.lt).trans (h.pf i),ag.below h.fam hb (Fa _),Fd h.lt hb.size⟩
theorem al{i j:Nat}{x:Value}(h:w.cell? ⟨b,j,none⟩=some x)(hij:i≠j):(w.setCell ⟨b,i,none⟩ v).cell? ⟨b,j,none⟩=some x:=
 (Fm _ _ _ _ (by intro e; exact hij (congrArg Addr.off e))).trans h
theorem aS.putState(h:aS w gs gd dn sv lg st v)(hf:ah (gs+1) w v' st'.fams):aS (((w.setCell ⟨gs,4,none⟩ (.int .i64 st'.clock)).setCell ⟨gs,5,none⟩ (.int .i64 st'.next)).setCell ⟨gs,6,none⟩ v') gs gd dn sv lg st' v':=by
 refine⟨al (al (al h.p0 (by decide)) (by decide)) (by decide),al (al (al h.p1 (by decide)) (by decide)) (by decide),al (al (al h.p2 (by decide)) (by decide)) (by decide),al (al (al h.p3 (by decide)) (by decide)) (by decide),al (al (World.cell?_setCell_same _ _ _ h.p4) (by decide)) (by decide),al (World.cell?_setCell_same _ _ _ (al h.p5 (by decide))) (by decide),World.cell?_setCell_same _ _ _ (al (al h.p6 (by decide)) (by decide)),fun i=>by simp only[World.frozen?_setCell]; exact h.pf i,?_,by simpa using h.lt⟩
 exact ((hf.other (a:=(a_ gs 4)) (Fj _) _).other (a:=(a_ gs 5)) (Fj _) _).other (a:=(a_ gs 6)) (Fj _) _
theorem aS.putLog(h:aS w gs gd dn sv lg st v):aS (w.setCell ⟨gs,3,none⟩ (.int .i64 lg')) gs gd dn sv lg' st v:=by
 exact⟨al h.p0 (by decide),al h.p1 (by decide),al h.p2 (by decide),World.cell?_setCell_same _ _ _ h.p3,al h.p4 (by decide),al h.p5 (by decide),al h.p6 (by decide),fun i=>by simp only[World.frozen?_setCell]; exact h.pf i,h.fam.other (a:=(a_ gs 3)) (Nat.lt_succ_self _) _,by simpa using h.lt⟩
theorem aS.putSaves(h:aS w gs gd dn sv lg st v):aS (w.setCell ⟨gs,2,none⟩ (.int .i64 sv')) gs gd dn sv' lg st v:=by
 exact⟨al h.p0 (by decide),al h.p1 (by decide),World.cell?_setCell_same _ _ _ h.p2,al h.p3 (by decide),al h.p4 (by decide),al h.p5 (by decide),al h.p6 (by decide),fun i=>by simp only[World.frozen?_setCell]; exact h.pf i,h.fam.other (a:=(a_ gs 2)) (Nat.lt_succ_self _) _,by simpa using h.lt⟩
theorem aS.putDown(h:aS w gs gd dn sv lg st v):aS (w.setCell ⟨gs,1,none⟩ (.bool dn')) gs gd dn' sv lg st v:=by
 exact⟨al h.p0 (by decide),World.cell?_setCell_same _ _ _ h.p1,al h.p2 (by decide),al h.p3 (by decide),al h.p4 (by decide),al h.p5 (by decide),al h.p6 (by decide),fun i=>by simp only[World.frozen?_setCell]; exact h.pf i,h.fam.other (a:=(a_ gs 1)) (Nat.lt_succ_self _) _,by simpa using h.lt⟩
structure LW (w0:World) (gs gd:Nat) (A:AD) (dn:Bool) (sv lg:Nat) (st:St) (v:Value) (w:World):Prop where
 disk:cW w gd A
 libs:aY w
 store:aS w gs gd dn sv lg st v
 ord:gd<gs
 olds:nu gs
 below:Below gs w0 w
theorem LW.on{w0:World}{gs gd:Nat}{A:AD}{dn:Bool}{sv lg:Nat}{st:St}{v:Value}{w w':World}(h:LW w0 gs gd A dn sv lg st v w)(hb:Below w.heap.size w w'):LW w0 gs gd A dn sv lg st v w':=
 ⟨h.disk.on hb,h.libs.below hb,h.store.on hb,h.ord,h.olds,h.below.trans (hb.mono (Fx h.store.lt))⟩
variable {A:AD}
theorem LW.over(h:LW w0 gs gd A dn sv lg st v w)(hb:Below gs w w')(hs:aS w' gs gd dn' sv' lg' st' v'):LW w0 gs gd A dn' sv' lg' st' v' w':=
 ⟨h.disk.below hb h.ord,h.libs.belowB hb h.olds,hs,h.ord,h.olds,h.below.trans hb⟩
theorem gJ(gs i j k:Nat)(a b c:Value)(w:World):Below gs w (((w.setCell ⟨gs,i,none⟩ a).setCell ⟨gs,j,none⟩ b).setCell ⟨gs,k,none⟩ c):=
 (((E9 gs w).setCell (p:=(a_ gs i)) (Fa _) _).setCell (p:=(a_ gs j)) (Fa _) _).setCell (p:=(a_ gs k)) (Fa _) _
theorem jo(gs i:Nat)(a:Value)(w:World):Below gs w (w.setCell ⟨gs,i,none⟩ a):=(E9 gs w).setCell (p:=(a_ gs i)) (Fa _) _
theorem vJ{W:World}(hw:W'.heap=W.heap.push (.cells #[.int .i64 0,.int .i64 0,.string ⟨#[]⟩,.string ⟨#[]⟩,.string ⟨#[]⟩,.int .i64 0,.int .i64 0,.int .i64 0,.string ⟨#[]⟩,.bool false,.int .i64 0,.int .i64 0] 42))(hb:Below W'.heap.size W' w'):cG w' W.heap.size zeroE∧∀i,w'.frozen? ⟨W.heap.size,i,none⟩=false:=by
 have f:W.heap.size<W'.heap.size:=by rw[hw]; simp
 have j:W'.heap[W.heap.size]?=(W.alloc (.cells (g_ 0 0 0) 42)).heap[W.heap.size]?:=by rw[hw]; rfl
 have g:=(hb.block _ f).trans j;have b:=bU W zeroE 42 _ rfl;have c:∀i,w'.cell? (a_ W.heap.size i)=(W.alloc (.cells (g_ 0 0 0) 42)).c_ W.heap.size i:=fun i=>World.cell?_of_block (a:=(a_ W.heap.size i)) g;refine⟨⟨Fd f hb.size,(c _).trans b.c0,?_,(c _).trans b.c10,(c _).trans b.c11⟩,fun i=>(World.frozen?_of_block (a:=(a_ W.heap.size i)) g).trans (Ff _ _ _ _ rfl)⟩;constructor
 ·exact (c _).trans b.fam.c0
 ·exact (c _).trans b.fam.c1
 ·exact (c _).trans b.fam.c2
 ·exact (c _).trans b.fam.c3
 ·exact (c _).trans b.fam.c4
 ·exact (c _).trans b.fam.c5
 ·exact (c _).trans b.fam.c6
 ·exact (c _).trans b.fam.c7
 ·exact (c _).trans b.fam.c8
theorem vK{e:E}(hl:b<w.heap.size)(c0:w.cell? ⟨b,0,none⟩=some (.int .i64 e.kind))(c1:w.cell? ⟨b,1,none⟩=some (.int .i64 e.fam.id))(c2:w.cell? ⟨b,2,none⟩=some (.string e.fam.client))(c3:w.cell? ⟨b,3,none⟩=some (.string e.fam.subject))(c4:w.cell? ⟨b,4,none⟩=some (.string e.fam.scope))(c5:w.cell? ⟨b,5,none⟩=some (.int .i64 e.fam.gen))(c6:w.cell? ⟨b,6,none⟩=some (.int .i64 e.fam.made))(c7:w.cell? ⟨b,7,none⟩=some (.int .i64 e.fam.used))(c8:w.cell? ⟨b,8,none⟩=some (.string e.fam.request))(c9:w.cell? ⟨b,9,none⟩=some (.bool e.fam.dead))(c10:w.cell? ⟨b,10,none⟩=some (.int .i64 e.id))(c11:w.cell? ⟨b,11,none⟩=some (.int .i64 e.time)):cG w b e:=
 ⟨hl,c0,⟨c1,c2,c3,c4,c5,c6,c7,c8,c9⟩,c10,c11⟩
theorem D5(e:E)(hl:LW w0 gs gd A dn sv lg st v wr)(hW:Below wr.heap.size wr W')(hw:W'.heap=wr.heap.push (.cells #[.int .i64 0,.int .i64 0,.string ⟨#[]⟩,.string ⟨#[]⟩,.string ⟨#[]⟩,.int .i64 0,.int .i64 0,.int .i64 0,.string ⟨#[]⟩,.bool false,.int .i64 0,.int .i64 0] 42))(hb:Below W'.heap.size W' w6):
 LW w0 gs gd A dn sv lg st v (w6.setCells wr.heap.size 0 (aX e))∧cG (w6.setCells wr.heap.size 0 (aX e)) wr.heap.size e:=by
 have g:=vJ (W:=wr) hw hb;have c:∀j,j<(aX e).length->(w6.c_ wr.heap.size (0+j)).isSome=true:=lB g.1;have k:=fun (j:Nat) (hj:j<(aX e).length)=>World.cell?_setCells_in wr.heap.size (aX e) 0 w6 c j hj;have f:wr.heap.size<(w6.setCells wr.heap.size 0 (aX e)).heap.size:=Fd g.1.lt (aa (B:=0) (Fo _) _ 0 _).size
 have b:∀(j:Nat) (u:Value),(aX e)[j]?=some u->(w6.setCells wr.heap.size 0 (aX e)).c_ wr.heap.size j=some u:=fun j u hj=>by
  obtain⟨h1,h2⟩:=List.getElem?_eq_some_iff.1 hj
  have:=k j h1;rw[Nat.zero_add,h2] at this;exact this
 exact⟨hl.on ((hW.tm hb).trans (aa (Fa _) _ 0 _)),vK f (b 0 _ rfl) (b 1 _ rfl) (b 2 _ rfl) (b 3 _ rfl) (b 4 _ rfl) (b 5 _ rfl) (b 6 _ rfl) (b 7 _ rfl) (b 8 _ rfl) (b 9 _ rfl) (b 10 _ rfl) (b 11 _ rfl)⟩
theorem D6(e:E)(hl:LW w0 gs gd A dn sv lg st v wr)(hW:Below wr.heap.size wr W')(hb:Below W'.heap.size W' w6)(t:TypeId):
 LW w0 gs gd A dn sv lg st v (w6.alloc (.cells (aX e).toArray t))∧cG (w6.alloc (.cells (aX e).toArray t)) w6.heap.size e:=
 ⟨hl.on ((hW.tm hb).alloc (Fe hW.size hb.size) _),bU w6 e t _ rfl⟩
theorem eW{P:Program}{Q:Exit->Act->World->Prop}{md:Region.Mode}{S:World->Prop}{d:Nat}{l:List Oper}(i j:Nat){oi oj:Oper}{fuel:Nat}{listed:Array Bool}{a:Act}{w:World}(hoi:l[i]?=some oi)(hoj:l[j]?=some oj)(hr:Region.ready md l.toArray listed= [i,j])(h1:∀K':Act->World->Prop,Shut (∀a w,S w->(S w->bF P md l.toArray Q S d fuel (listed.setIfInBounds i true) a w)->K' a w)->if Region.wanted oi (yielded l.toArray a.tmps)=true then Oper.wp P oi a w K' Q else K' (a.put oi.dst undef) w)(h2:∀K':Act->World->Prop,Shut (∀a w,S w->(S w->bF P md l.toArray Q S d fuel (listed.setIfInBounds j true) a w)->K' a w)->if Region.wanted oj (yielded l.toArray a.tmps)=true then Oper.wp P oj a w K' Q else K' (a.put oj.dst undef) w):bF P md l.toArray Q S d (fuel+1) listed a w:=
 ⟨fun h0=>absurd (hr ▸ h0) (by simp),fun x hx=>by
  rw[hr] at hx;rcases (show x=i∨x=j by simpa using hx) with rfl | rfl
  ·exact wpOp_step (RegD.at_list hoi) (fun K' hK=>h1 K' (fun a w hS hW=>hK a w ⟨fun _=>hS,hW hS⟩))
  ·exact wpOp_step (RegD.at_list hoj) (fun K' hK=>h2 K' (fun a w hS hW=>hK a w ⟨fun _=>hS,hW hS⟩))⟩
theorem BO(A:AD)(sv k r:Nat)(st:St):(∃e,A.blk k=some (sv,e)∧dp A sv k (r+1) st=dp A sv (k+1) r (applyP st e))∨(jn (A.blk k) sv=(zeroE,false)∧dp A sv k (r+1) st=(st,k)):=by
 cases h:A.blk k with
 |none=>exact .inr ⟨rfl,by rw[dp,h]⟩
 |some p=>
  obtain⟨s',e⟩:=p;by_cases hs:s'=sv
  ·subst hs
   exact .inl ⟨e,rfl,by rw[dp,h]; simp⟩
  ·exact .inr ⟨by unfold jn; simp only[if_neg hs],by rw[dp,h]; simp only[if_neg hs]⟩
theorem ul(gs gd:Nat)(A:AD)(dn:Bool)(sv:Nat)(st:St)(v:Value)(w:World)(hsv:okN sv)(hr:aP st.fams)(hn:st.fams.length<=20)(h:LW w gs gd A dn sv 0 st v w):
 Calls prog 53 #[p_ gs 0] w fun r w'=>r=.returned (.tuple #[])∧∃v',LW w gs gd A dn sv (dp A sv 0 16 st).2 (dp A sv 0 16 st).1 v' w':=by
 have H0:Hid _:=h;have J:Hid _:=hsv;have L:Hid (aP st.fams∧st.fams.length<=20):=⟨hr,hn⟩;go_enter func53,ntmps53
 go_wp2_with fail;go_loopg [5] 16 (fun gk iv wr=>∃(k:Nat) (s1:St) (v1:Value),k+gk=16∧iv=.i_ k∧Hid (dp A sv 0 16 st=dp A sv k gk s1)∧Hid (aP s1.fams∧s1.fams.length<=20+k)∧Hid (LW w gs gd A dn sv k s1 v1 wr))
 case atStart=>exact⟨0,st,v,rfl,rfl,rfl,L.o,H0⟩
 case round=>
  obtain⟨k,s1,v1,hj,rfl,HGO,HRI,HLW⟩:=hrel;have H:Hid _:=hj;by_cases hlt:k<16
  ·have Ef:(k:Int)<16:=by omega
   obtain⟨r,hr⟩:∃r,gk=r+1:=⟨gk - 1,by have:=H.o; omega⟩
   have I:Hid _:=hr;have j:=fun (W:World) (hw:LW w gs gd A dn sv k s1 v1 W)=>hw.disk.readEv k sv (by omega) (by omega) (by omega) J.o hw.libs
   obtain⟨ba,ca,rfl⟩:=ag.slice HLW.out.store.fam;obtain⟨e,o,heo⟩:∃e o,jn (A.blk k) sv=(e,o):=⟨_,_,rfl⟩;have D:Hid _:=heo;rw[heo] at j;have q:=HLW.out;have f:Hid _:=q;have HE:Hid (∀x:E,x=e->x=e):=fun x h=>h;go_upto_region 3 with fail;go_cut [3,4] from 8 to 21 (fun x y wx=>∃gE,x=p_ gE 0∧y=.bool o∧Hid (LW w gs gd A dn sv k s1 (.slice ba s1.fams.length ca) wx∧cG wx gE e))
   case first=>
    have p0:=q.store.p0;have p2:=q.store.p2;have m0:=Lib.cell?_alloc_some (.cells (g_ 0 0 0) 42) p0;have m2:=Lib.cell?_alloc_some (.cells (g_ 0 0 0) 42) p2;have s:Hid (∀(W' w6:World),Below wr.heap.size wr W'->W'.heap=wr.heap.push (.cells (g_ 0 0 0) 42)->Below W'.heap.size W' w6->LW w gs gd A dn sv k s1 (.slice ba s1.fams.length ca) (w6.setCells wr.heap.size 0 (aX e))∧cG (w6.setCells wr.heap.size 0 (aX e)) wr.heap.size e):=fun W' w6 h1 h2 O=>D5 e f.o h1 h2 O;have t:Hid (∀(W' w6:World),Below wr.heap.size wr W'->Below W'.heap.size W' w6->LW w gs gd A dn sv k s1 (.slice ba s1.fams.length ca) (w6.alloc (.cells (aX e).toArray 42))∧cG (w6.alloc (.cells (aX e).toArray 42)) w6.heap.size e):=fun W' w6 h1 h2=>D6 e f.o h1 h2 _
    obtain⟨kk,⟨f1,f2,f3,f4,f5,f6,f7,f8,f9⟩,ei,et⟩:=e;unfold evV at j;unfold aX at j s t;simp only at j s t;have z:LW w gs gd A dn sv k s1 (.slice ba s1.fams.length ca) wr.drew:=f.o.on (E9 _ _).drew;refine region_ (fun w'=>LW w gs gd A dn sv k s1 (.slice ba s1.fams.length ca) w') 15 z fun hH=>?_;refine an [(0,p_ gs 0),(1,p_ gs 0),(2,p_ gs 0),(3,p_ gd 0),(4,.i_ k),(5,p_ gs 0),(6,p_ gs 0),(7,p_ gs 2),(8,.i_ sv)] hH (fun W hW=>by have a0:=hW.store.p0; have a0:=hW.store.p2;go_simp) ?_;simp only[pA,oA,Act.put,pS1]
    refine eW 9 13 (oi:=?oi9) (oj:=?oi13) ?ha9 ?ha13 ?hr2 ?h9 ?h13
    case ha9=>rfl
    case ha13=>rfl
    case hr2=>kernel_rfl
    case h9=>
     intro K hK;go_simp;go_at_call 112;refine (j _ hH).mono ?_;rintro e6 w6 ⟨rfl,hb6⟩;go_wp2_with fail;have B:LW w gs gd A dn sv k s1 (.slice ba s1.fams.length ca) w6:=hH.on hb6;refine hK.out _ _ B ?_;intro hH;refine an [(10,.tuple #[(.agg (E_ kk f1 f2 f3 f4 f5 f6 f7 f8 f9 ei et)),.bool o]),(11,.agg (E_ kk f1 f2 f3 f4 f5 f6 f7 f8 f9 ei et)),(12,.bool o)] hH (fun W hW=>by go_simp) ?_;simp only[pA,oA,Act.put,pS1]
     refine one_ 13 ?_; intro K hK; go_simp;have m:LW w gs gd A dn sv k s1 (.slice ba s1.fams.length ca) (w6.alloc (.cells (g_ 0 0 0) 42)):=hH.on (bA _ _);refine hK.out _ _ m ?_;intro hH;have c:=t.o _ _ ((E9 _ _).drew) hb6;refine one_ 14 ?_; intro K hK; go_simp;refine hK.out _ _ c.1 ?_;intro hH;refine late_ 15 ?_; intro K hK; go_simp;refine hK.out _ _ ?_;refine done_ ?_;go_wp2_with fail;go_meet
     case rel=>exact⟨_,rfl,rfl,c⟩
    case h13=>
     intro K hK;go_simp;have m:LW w gs gd A dn sv k s1 (.slice ba s1.fams.length ca) (wr.drew.alloc (.cells (g_ 0 0 0) 42)):=hH.on (bA _ _);refine hK.out _ _ m ?_;intro hH;refine one_ 9 ?_; intro K hK; go_simp;go_at_call 112;refine (j _ hH).mono ?_;rintro e6 w6 ⟨rfl,hb6⟩;go_wp2_with fail;have B:LW w gs gd A dn sv k s1 (.slice ba s1.fams.length ca) w6:=hH.on hb6;refine hK.out _ _ B ?_;intro hH;refine an [(10,.tuple #[(.agg (E_ kk f1 f2 f3 f4 f5 f6 f7 f8 f9 ei et)),.bool o]),(11,.agg (E_ kk f1 f2 f3 f4 f5 f6 f7 f8 f9 ei et)),(12,.bool o)] hH (fun W hW=>by go_simp) ?_;simp only[pA,oA,Act.put,pS1]
     have b:=vJ (W:=wr) rfl hb6;have fz:=b.2;have x0:=b.1.c0; have x1:=b.1.fam.c0; have x2:=b.1.fam.c1; have x3:=b.1.fam.c2; have x4:=b.1.fam.c3; have x5:=b.1.fam.c4; have x6:=b.1.fam.c5; have x7:=b.1.fam.c6; have x8:=b.1.fam.c7; have x9:=b.1.fam.c8; have M:=b.1.c10; have N:=b.1.c11;simp only[zeroE,zeroF] at x0 x1 x2 x3 x4 x5 x6 x7 x8 x9 M N;have c:=s.o _ _ (((E9 _ _).drew).alloc (Fa _) _) rfl hb6;refine one_ 14 ?_; intro K hK; go_simp;refine hK.out _ _ c.1 ?_;intro hH;refine late_ 15 ?_; intro K hK; go_simp;refine hK.out _ _ ?_;refine done_ ?_;go_wp2_with fail;go_meet
     case rel=>exact⟨_,rfl,rfl,c⟩
   case rest=>
    obtain⟨gE,rfl,rfl,HCW⟩:=hcut;rcases BO A sv k r s1 with ⟨e',h1,h2⟩ | ⟨h1,h2⟩
    ·have O:jn (some (sv,e')) sv=(e',true):=by unfold jn; simp
     have F:=D.o;rw[h1,O] at F;obtain⟨rfl,rfl⟩:=Prod.mk.inj F;have HM:Hid _:=(f.o.disk.blks _ _ _ h1).1;have R:Hid (dp A sv 0 16 st=dp A sv (k+1) r (applyP s1 e')):=by show _=_; rw[HGO.out,I.o,h2]
     have T:Hid (∀(W:World),ah (gs+1) W (.slice ba s1.fams.length ca) s1.fams->Calls prog 19 #[stV s1.clock s1.next (.slice ba s1.fams.length ca),evV e'] W fun r w'=>∃v',r=.returned (stV (applyP s1 e').clock (applyP s1 e').next v')∧ah W.heap.size w' v' (applyP s1 e').fams∧Below W.heap.size W w'):=fun W hW=>mC s1 e' HM.o hW HRI.out.1 (by have:=HRI.out.2; omega)
     have U:Hid (aP (applyP s1 e').fams∧(applyP s1 e').fams.length<=20+(k+1)):=⟨eH HRI.out.1,Fe (j3 s1 e') (by have:=HRI.out.2; omega)⟩
     generalize applyP s1 e'=st' at *;obtain⟨kk,⟨f1,f2,f3,f4,f5,f6,f7,f8,f9⟩,ei,et⟩:=e';have n:=T.o;unfold evV aX stV at n;simp only at n;go_upto_region 5 with fail;have z:LW w gs gd A dn sv k s1 (.slice ba s1.fams.length ca) wc.drew∧cG wc.drew gE ⟨kk,⟨f1,f2,f3,f4,f5,f6,f7,f8,f9⟩,ei,et⟩:=⟨HCW.out.1.on (E9 _ _).drew,HCW.out.2.on (E9 _ _).drew⟩;refine region_ (fun w'=>LW w gs gd A dn sv k s1 (.slice ba s1.fams.length ca) w'∧cG w' gE ⟨kk,⟨f1,f2,f3,f4,f5,f6,f7,f8,f9⟩,ei,et⟩) 9 z fun hH=>?_;refine an [(0,p_ gs 0),(1,p_ gs 0),(2,p_ gs 0),(3,p_ gs 4),(4,.agg (S_ s1.clock s1.next ba s1.fams.length ca)),(5,.agg (E_ kk f1 f2 f3 f4 f5 f6 f7 f8 f9 ei et))] hH (fun W hW=>by have a4:=hW.1.store.p4; have a5:=hW.1.store.p5; have a6:=hW.1.store.p6; have k0:=hW.2.c0; have k1:=hW.2.fam.c0; have k2:=hW.2.fam.c1; have k3:=hW.2.fam.c2; have k4:=hW.2.fam.c3; have k5:=hW.2.fam.c4; have k6:=hW.2.fam.c5; have k7:=hW.2.fam.c6; have k8:=hW.2.fam.c7; have k9:=hW.2.fam.c8; have V:=hW.2.c10; have X:=hW.2.c11; simp only at k0 k1 k2 k3 k4 k5 k6 k7 k8 k9 V X;go_simp) ?_;simp only[pA,oA,Act.put,pS1]
     refine one_ 6 ?_; intro K hK; go_simp;go_at_call 19;refine (n _ hH.1.store.fam).mono ?_;rintro e7 w7 ⟨v7,rfl,hf7,hb7⟩;obtain⟨b7,c7,rfl⟩:=ag.slice hf7;go_wp2_with fail;have Y:LW w gs gd A dn sv k s1 (.slice ba s1.fams.length ca) w7∧cG w7 gE ⟨kk,⟨f1,f2,f3,f4,f5,f6,f7,f8,f9⟩,ei,et⟩:=⟨hH.1.on hb7,hH.2.on hb7⟩;have Z:ah (gs+1) w7 (.slice b7 st'.fams.length c7) st'.fams:=ag.mono hf7 hH.1.store.lt;refine hK.out _ _ Y ?_;intro hH;refine an [(7,p_ gs 0),(8,p_ gs 4)] hH (fun W hW=>by go_simp) ?_;simp only[pA,oA,Act.put,pS1]
     have G:=hH.1.store.putState Z;have g:Hid _:=hH.1.over (gJ gs 4 5 6 _ _ _ w7) G;have a4:=hH.1.store.p4;have a5:=hH.1.store.p5;have a6:=hH.1.store.p6;have fz:=hH.1.store.pf;refine late_ 9 ?_; intro K hK; go_simp;refine hK.out _ _ ?_;refine done_ ?_;generalize World.setCell _ (a_ gs 6) _=W8 at *;have p3:=g.o.store.p3;have fz:=g.o.store.pf;have Ed:Hid (LW w gs gd A dn sv (k+1) st' (.slice b7 st'.fams.length c7) (W8.setCell (a_ gs 3) (.i_ ((k+1:Nat):Int)))):=g.o.over (jo gs 3 _ W8) g.o.store.putLog;have Ee:Hid (((k+1:Nat):Int)=(k:Int)+1):=by show ((k+1:Nat):Int)=(k:Int)+1; push_cast; rfl
     go_wp2_with fail;go_roundg r
     case measure=>have:=I.o; omega
     case rel=>exact⟨k+1,st',_,by have:=H.o; have:=I.o; omega,by go_num,R,U,Ee.o ▸ Ed⟩
    ·have F:=D.o
     rw[h1] at F;obtain⟨rfl,rfl⟩:=Prod.mk.inj F;have C:Hid (dp A sv 0 16 st=(s1,k)):=by show _=_; rw[HGO.out,I.o,h2]
     go_wp2_with fail;have p:=C.o;exact bodyPost_ret (v:=.tuple #[]) (by simp[results,results53]) rfl ⟨rfl,_,by rw[p]; exact HCW.out.1⟩
  ·obtain rfl:k=16:=by have:=H.o; omega
   obtain rfl:gk=0:=by have:=H.o; omega
   have C:Hid (dp A sv 0 16 st=(s1,16)):=by show _=_; rw[HGO.out]; rfl
   go_wp2_with fail;have p:=C.o;go_end0
   exact⟨rfl,_,by rw[p]; exact HLW.out⟩
theorem rD(A:AD)(b s:Nat):∀(r i m:Nat) (st st':St),slotGo A b s i r st=some st'->aP st.fams->st.fams.length<=m->aP st'.fams∧st'.fams.length<=m+r:=by
 intro r;induction r with
 |zero=>
  intro i m st st' h hr hl;simp only[slotGo,Option.some.injEq] at h;subst h;exact⟨hr,by omega⟩
 |succ r ih=>
  intro i m st st' h hr hl;rcases oo A b s i r st with ⟨e,_,h2⟩ | ⟨_,h2⟩
  ·rw[h2] at h
   have:=ih (i+1) (m+1) _ _ h (eH hr) (Fe (j3 st e) (by omega))
   exact⟨this.1,by omega⟩
  ·rw[h2] at h; cases h
theorem um(h:∀s c nx n,A.head k=some (s,c,nx,n)->n<=20):aP (slotM A k).1.fams∧(slotM A k).1.fams.length<=20:=by
 unfold slotM
 cases hh:A.head k with
 |none=>exact⟨List.Pairwise.nil,Fo _⟩
 |some p=>
  obtain⟨s,c,nx,n⟩:=p;simp only
  cases hs:slotGo A (17+21*k) s 0 n ⟨c,nx,[]⟩ with
  |none=>exact⟨List.Pairwise.nil,Fo _⟩
  |some st=>
   have:=rD A _ s n 0 0 _ _ hs List.Pairwise.nil (Fa _);refine⟨this.1,?_⟩;have h2:=this.2;have h3:=h s c nx n hh;show st.fams.length<=20
   omega
theorem rE(g:Nat)(A:AD)(k:Nat)(hk:k<2)(w:World)(hD:cW w g A)(hL:aY w):
 Calls prog 52 #[p_ g 0,.i_ k] w fun r w'=>∃v,r=.returned (.tuple #[stV (slotM A k).1.clock (slotM A k).1.next v,.int .i64 ((slotM A k).2:Nat)])∧ah w.heap.size w' v (slotM A k).1.fams∧Below w.heap.size w w':=by
 cases hh:A.head k with
 |none=>
  refine (nC g A k hk w hh hD hL).mono ?_;rintro r w' ⟨rfl,hb⟩;have b:slotM A k=(⟨0,0,[]⟩,0):=by unfold slotM; rw[hh]
  exact⟨.slice none 0 0,by rw[b]; rfl,by rw[b]; exact ah.nil _ _,hb⟩
 |some p=>
  obtain⟨s,c,nx,n⟩:=p;exact nD g A k s c nx n hk w hh hD hL
def bestK(A:AD):Nat->St × Nat
 |0=>(⟨0,1,[]⟩,0)
 |k+1=>fP (bestK A k) (slotM A k)
theorem mD{A:AD}(h:∀k s c nx n,A.head k=some (s,c,nx,n)->n<=20):∀k,aP (bestK A k).1.fams∧(bestK A k).1.fams.length<=20
 |0=>⟨List.Pairwise.nil,Fo _⟩
 |k+1=>by
  unfold bestK fP;split
  ·exact um (h k)
  ·exact mD h k
theorem rF(h:∀s c nx n,A.head k=some (s,c,nx,n)->okN s):okN ((slotM A k).2:Nat):=by
 unfold slotM;have z:okN ((0:Nat):Int):=⟨by decide,by decide⟩
 cases hh:A.head k with
 |none=>exact z
 |some p=>
  obtain⟨s,c,nx,n⟩:=p;simp only
  cases slotGo A (17+21*k) s 0 n ⟨c,nx,[]⟩ with
  |none=>exact z
  |some st=>exact h s c nx n hh
theorem rG{A:AD}(h:∀k s c nx n,A.head k=some (s,c,nx,n)->okN s):∀k,okN ((bestK A k).2:Nat)
 |0=>(show okN ((0:Nat):Int) from ⟨by decide,by decide⟩)
 |k+1=>by
  unfold bestK fP;split
  ·exact rF (h k)
  ·exact rG h k
theorem zM(A:AD):jE A=((dp A (bestK A 2).2 0 16 (bestK A 2).1).1,(bestK A 2).2,(dp A (bestK A 2).2 0 16 (bestK A 2).1).2):=rfl
theorem BP(gd:Nat)(A:AD)(w:World)(hD:cW w gd A)(hL:aY w):
 Calls prog 12 #[p_ gd 0] w fun r w'=>∃gs v,r=.returned (.tuple #[.pointer (some ⟨gs,0,none⟩),.nilIface])∧w.heap.size<=gs∧LW w gs gd A false (jE A).2.1 (jE A).2.2 (jE A).1 v w':=by
 have M:Hid _:=mD (fun k s c nx n h=>(hD.heads k s c nx n h).2.2.2.2);have N:Hid _:=rG (fun k s c nx n h=>(hD.heads k s c nx n h).1);have E:Hid (∀k,okN ((slotM A k).2:Nat)):=fun k=>rF (fun s c nx n h=>(hD.heads k s c nx n h).1)
 have t:Hid (LW w w.heap.size gd A false 0 0 ⟨0,1,[]⟩ (.slice none 0 0) (w.alloc (.cells #[p_ gd 0,.bool false,.i_ 0,.i_ 0,.i_ 0,.i_ 1,.slice none 0 0] 111))):=by
  have F:=bA w (.cells #[p_ gd 0,.bool false,.i_ 0,.i_ 0,.i_ 0,.i_ 1,.slice none 0 0] 111);refine⟨hD.on F,hL.below F,⟨?_,?_,?_,?_,?_,?_,?_,fun i=>World.frozen?_alloc_at _ _ _ _ rfl,ah.nil _ _,by simp⟩,hD.lt,vD hL,F⟩ <;> exact (Fb _ _ _ _ rfl).trans rfl
 clear hD hL;go_enter func12,ntmps12
 go_wp2_with fail
 generalize w.alloc _=W0 at *;go_loopg [15] 2 (fun gk iv wr=>∃(k:Nat) (v1:Value),k+gk=2∧iv=.i_ k∧Hid (LW w w.heap.size gd A false (bestK A k).2 0 (bestK A k).1 v1 wr))
 case atStart=>exact⟨0,_,rfl,rfl,t⟩
 case round=>
  obtain⟨k,v1,hj,rfl,HLW⟩:=hrel;have z:Hid _:=hj;clear hj t;by_cases hlt:k<2
  ·have O:(k:Int)<2:=by omega
   have m:=fun (W:World) (hw:LW w w.heap.size gd A false (bestK A k).2 0 (bestK A k).1 v1 W)=>rE gd A k hlt W hw.disk hw.libs;have B:Hid (bestK A (k+1)=fP (bestK A k) (slotM A k)):=rfl;have G:Hid _:=N.o k;have H:Hid _:=E.o k;generalize hBN0:bestK A (k+1)=BN at *;have f:Hid _:=hBN0;clear hBN0;generalize bestK A k=B0 at *;generalize slotM A k=SM at *;obtain⟨bst,bn⟩:=B0;obtain⟨sst,sn⟩:=SM;simp only at m G H;obtain⟨ba,ca,rfl⟩:=ag.slice HLW.out.store.fam;go_wp2_with fail
   refine (m _ HLW.out).mono ?_;rintro e1 w1 ⟨v2,rfl,hf,hb1⟩;obtain⟨b2,c2,rfl⟩:=ag.slice hf;have C:Hid _:=HLW.out.on hb1;have I:Hid _:=ag.mono hf HLW.out.store.lt;clear hf hb1 m HLW;unfold stV;have b:Hid _:=C.o.on (w':=w1.alloc (.cells (S_ sst.clock sst.next b2 sst.fams.length c2) 36)) (bA _ _);have J:Hid (ah (w.heap.size+1) (w1.alloc (.cells (S_ sst.clock sst.next b2 sst.fams.length c2) 36)) (.slice b2 sst.fams.length c2) sst.fams):=ag.below I.o (bA _ _) (Fa _);have p2:=b.o.store.p2;have p4:=b.o.store.p4;have p5:=b.o.store.p5;have p6:=b.o.store.p6;have pf:=b.o.store.pf;by_cases hlts:bn<sn
   ·have L:(bn:Int)<(sn:Int):=by omega
    have o:Hid (BN=(sst,sn)):=by show BN=_; rw[B.o]; unfold fP; simp only[if_pos hlts]
    have g:Hid _:=(b.o.over (gJ w.heap.size 4 5 6 (.i_ sst.clock) (.i_ sst.next) (.slice b2 sst.fams.length c2) _) (b.o.store.putState J.o));have p:Hid _:=g.o.over (jo w.heap.size 2 (.i_ sn) _) (g.o.store.putSaves (sv':=sn));clear hlts;go_wp2_with fail
    go_roundg (gk - 1)
    case measure=>have:=z.o; omega
    case rel=>exact⟨k+1,_,by have:=z.o; omega,by go_num,by rw[f.o,o.o]; exact p.o⟩
   ·have L:¬ (bn:Int)<(sn:Int):=by omega
    have o:Hid (BN=(bst,bn)):=by show BN=_; rw[B.o]; unfold fP; simp only[if_neg hlts]
    clear hlts;go_wp2_with fail
    go_roundg (gk - 1)
    case measure=>have:=z.o; omega
    case rel=>exact⟨k+1,_,by have:=z.o; omega,by go_num,by rw[f.o,o.o]; exact b.o⟩
  ·obtain rfl:k=2:=by have:=z.o; omega
   have j:=fun (W:World) (hw:LW W w.heap.size gd A false (bestK A 2).2 0 (bestK A 2).1 v1 W)=>ul w.heap.size gd A false (bestK A 2).2 (bestK A 2).1 v1 W (N.o 2) (M.o 2).1 (M.o 2).2 hw;have q:Hid (LW wr w.heap.size gd A false (bestK A 2).2 0 (bestK A 2).1 v1 wr):=⟨HLW.out.disk,HLW.out.libs,HLW.out.store,HLW.out.ord,HLW.out.olds,E9 _ _⟩;go_wp2_with fail
   refine (j _ q.o).mono ?_;rintro e2 w2 ⟨rfl,v',hlw⟩
   have D:Hid (LW w w.heap.size gd A false (jE A).2.1 (jE A).2.2 (jE A).1 v' w2):=by
    rw[zM];exact⟨hlw.disk,hlw.libs,hlw.store,hlw.ord,hlw.olds,HLW.out.below.trans hlw.below⟩
   clear hlw j;go_wp2_with fail
   go_ret2;exact⟨_,_,rfl,Fa _,D.o⟩
def offB(c:Bool)(l:Int):Bool:=c && (l == 0)
theorem nE(g:Nat)(F:Int->ByteArray)(n:Int)(c:Bool)(l:Int)(k:Nat)(s:ByteArray)(w:World)(h:ay w g F n c l)(hk:k<90)(hs:s.size<=240)(ho:offB c l=true):Calls prog 116 #[p_ g 0,.i_ k,.string s] w fun e w'=>e=.returned (.iface 47 (.int .i64 14))∧w'=w:=by
 unfold offB at ho;simp only[Bool.and_eq_true,beq_iff_eq] at ho;obtain⟨rfl,rfl⟩:=ho;exact xf g F n k s w h ⟨by omega,by omega⟩ (by omega)
theorem pK(g:Nat)(F:Int->ByteArray)(n:Int)(c:Bool)(l:Int)(k:Nat)(s:ByteArray)(w:World)(h:ay w g F n c l)(hg:g<w.heap.size)(hk:k<90)(hs:s.size<=240)(ho:offB c l=false)(hl:c=true->0<=l∧l<=9223372036854775807)(hn0:0<=n)(hn:n<100000):
 Calls prog 116 #[p_ g 0,.i_ k,.string s] w fun e w'=>e=.returned .nilIface∧(∃l',ay w' g (upd F k s) (n+1) c l'∧(c=true->l'=l - 1))∧w.grownBy w' (some g):=by
 cases c with
 |false=>
  refine (ro g F n l k s w h hg hk (by omega) hn0 hn).mono ?_;rintro e w' ⟨rfl,h1,h2⟩;exact⟨rfl,⟨l,h1,fun hc=>by cases hc⟩,h2⟩
 |true=>
  have b:=hl rfl
  have f:l≠0:=by
   intro e;subst e;simp[offB] at ho
  refine (xg g F n l k s w h (by omega) b.2 hg hk (by omega) hn0 hn).mono ?_;rintro e w' ⟨rfl,h1,h2⟩;exact⟨rfl,⟨_,h1,fun _=>rfl⟩,h2⟩
structure DS (w0:World) (gs gd:Nat) (A:AD) (n:Nat) (c:Bool) (l:Int) (dn:Bool) (sv lg:Nat) (st:St) (v:Value) (w:World):Prop where
 disk:∃F l',ay w gd F (n:Int) c l'∧(c=true->l'=l)∧j4 tag0 F A
 libs:aY w
 err:ErrVar w
 store:aS w gs gd dn sv lg st v
 ord:gd<gs
 olds:nu gd
 oldE:0<gd
 keep:af [gd,gs] w0 w
 was:gs<w0.heap.size
theorem DS.gdlt{l:Int}(h:DS w0 gs gd A n c l dn sv lg st v w):gd<w.heap.size:=Nat.lt_trans h.ord h.store.lt
theorem DS.on{w0:World}{gs gd:Nat}{A:AD}{n:Nat}{c:Bool}{l:Int}{dn:Bool}{sv lg:Nat}{st:St}{v:Value}{w w':World}(h:DS w0 gs gd A n c l dn sv lg st v w)(hb:Below w.heap.size w w'):DS w0 gs gd A n c l dn sv lg st v w':=by
 obtain⟨F,l',h1,h2,h3⟩:=h.disk;exact⟨⟨F,l',h1.below hb h.gdlt,h2,h3⟩,h.libs.below hb,h.err.on hb,h.store.on hb,h.ord,h.olds,h.oldE,h.keep.then hb,h.was⟩
theorem aS.keep(h:aS w gs gd dn sv lg st v)(hk:af [gd] w w')(ho:gd<gs):aS w' gs gd dn sv lg st v:=by
 have c:gs∉ [gd]:=by simp; omega
 have b:∀i,w'.cell? (a_ gs i)=w.c_ gs i:=fun i=>hk.cell (p:=(a_ gs i)) h.lt c;exact⟨(b 0).trans h.p0,(b 1).trans h.p1,(b 2).trans h.p2,(b 3).trans h.p3,(b 4).trans h.p4,(b 5).trans h.p5,(b 6).trans h.p6,fun i=>(hk.frozen (p:=(a_ gs i)) h.lt c).trans (h.pf i),hk.rows h.fam (fun x hx=>by simp at hx; omega),Fd h.lt hk.size⟩
theorem DS.wrote{w0:World}{gs gd:Nat}{A A':AD}{n n':Nat}{c:Bool}{l l1:Int}{dn:Bool}{sv lg:Nat}{st:St}{v:Value}{w w':World}(h:DS w0 gs gd A n c l dn sv lg st v w)(hg:w.grownBy w' (some gd))(hd:∃F l',ay w' gd F (n':Int) c l'∧(c=true->l'=l1)∧j4 tag0 F A'):DS w0 gs gd A' n' c l1 dn sv lg st v w':=by
 have b:=af.grown hg;have f:Below gd w w':=b.below (Nat.le_of_lt h.gdlt) (fun x hx=>by simp at hx; omega)
 refine⟨hd,h.libs.belowB f h.olds,(f.cell (p:=(a_ 0 0)) h.oldE).trans h.err,h.store.keep b h.ord,h.ord,h.olds,h.oldE,h.keep.trans (b.mono (fun x hx=>by simp at hx; simp[hx])),h.was⟩
theorem DS.own{l:Int}(h:DS w0 gs gd A n c l dn sv lg st v w)(hb:Below gs w w')(hk:af [gs] w w')(hs:aS w' gs gd dn' sv' lg' st' v'):DS w0 gs gd A n c l dn' sv' lg' st' v' w':=by
 obtain⟨F,l',h1,h2,h3⟩:=h.disk;exact⟨⟨F,l',h1.below hb h.ord,h2,h3⟩,h.libs.belowB hb (h.olds.mono (Nat.le_of_lt h.ord)),(hb.cell (p:=(a_ 0 0)) (Nat.lt_trans h.oldE h.ord)).trans h.err,hs,h.ord,h.olds,h.oldE,h.keep.trans (hk.mono (fun x hx=>by simp at hx; simp[hx])),h.was⟩
theorem iZ(gs i:Nat)(a:Value)(w:World):af [gs] w (w.setCell ⟨gs,i,none⟩ a):=(af.refl _ w).setCell (p:=(a_ gs i)) (.inl (by simp)) a
theorem DS.putDown{w0:World}{gs gd:Nat}{A:AD}{n:Nat}{c:Bool}{l:Int}{dn:Bool}{sv lg:Nat}{st:St}{v:Value}{w:World}(h:DS w0 gs gd A n c l dn sv lg st v w)(dn':Bool):DS w0 gs gd A n c l dn' sv lg st v (w.setCell ⟨gs,1,none⟩ (.bool dn')):=
 h.own (jo gs 1 _ w) (iZ gs 1 _ w) h.store.putDown
theorem gK(w0:World)(gs gd:Nat)(A:AD)(n:Nat)(c:Bool)(l:Int)(dn:Bool)(sv lg:Nat)(st:St)(v:Value)(k:Nat)(xs:List ByteArray)(b cp:Nat)(w:World)(h:DS w0 gs gd A n c l dn sv lg st v w)(hk:k<90)(hw:aO w b xs)(hx:xs.length<=10)(hc:xs.length<=cp)(hl:(Lib.join (xs.map (·.data.toList)) [32]).length<=220)(ho:offB c l=true):
 Calls prog 56 #[p_ gs 0,.i_ k,.slice (o_ b 0) xs.length cp] w fun r w'=>r=.returned (.iface 47 (.int .i64 14))∧DS w0 gs gd A n c l true sv lg st v w':=by
 obtain⟨T,hT⟩:∃T,T=Lib.join (xs.map (·.data.toList)) [32]:=⟨_,rfl⟩;have f:=vH xs b cp w.drew (show aO w.drew b xs from hw) hx hc (by omega)
 rw[<- hT] at f hl;have g:(bs8 (sealL tag0 T)).size<=240:=by rw[dC,mf jm]; omega
 have j:∀(W:World),DS w0 gs gd A n c l dn sv lg st v W->Calls prog 116 #[p_ gd 0,.i_ k,.string (bs8 (sealL tag0 T))] W fun e w'=>e=.returned (.iface 47 (.i_ 14))∧w'=W:=fun W hW=>by
  obtain⟨F,l',h1,h2,h3⟩:=hW.disk;refine nE gd F n c l' k _ W h1 hk g ?_;unfold offB at ho ⊢
  cases c with
  |false=>cases ho
  |true=>rw[h2 rfl]; exact ho
 generalize bs8 (sealL tag0 T)=X at *;have s:J _:=h;have t:J (xs.length<=cp):=hc;generalize xs.length=XL at *;go_enter func56,ntmps56
 go_upto_region 1 with fail;have m:DS w0 gs gd A n c l dn sv lg st v w.drew:=s.o.on (E9 _ _).drew;refine region_ (fun w'=>DS w0 gs gd A n c l dn sv lg st v w') 7 m fun hH=>?_;refine an [(0,p_ gs 0),(1,p_ gs 0),(2,p_ gs 0),(3,p_ gd 0),(4,.i_ k),(5,.slice (o_ b 0) XL cp)] hH (fun W hW=>by have a0:=hW.store.p0;go_simp) ?_;simp only[pA,oA,Act.put,pS1]
 refine one_ 6 ?_; intro K hK; go_simp;go_at_call 117;refine f.mono ?_;rintro e1 w1 ⟨rfl,hb1⟩;go_wp2_with fail;have o:=hH.on hb1;refine hK.out _ _ o ?_;intro hH;refine late_ 7 ?_; intro K hK; go_simp;go_at_call 116;refine (j _ hH).mono ?_;rintro e2 w2 ⟨rfl,rfl⟩;have q:J _:=hH;go_wp2_with fail;refine hK.out _ _ ?_;refine late_ 8 ?_; intro K hK; go_simp;refine hK.out _ _ ?_;refine done_ ?_;go_wp2_with fail;refine (rk 14 _ q.o.err).mono ?_;rintro e3 w3 ⟨rfl,hb3⟩;have p:J _:=q.o.on hb3;have p1:=p.o.store.p1;have pf:=p.o.store.pf;have z:J _:=p.o.putDown true;go_wp2_with fail;go_ret;exact⟨rfl,z.o⟩
theorem iP(w0:World)(gs gd:Nat)(A A':AD)(n:Nat)(c:Bool)(l:Int)(dn:Bool)(sv lg:Nat)(st:St)(v:Value)(k:Nat)(xs:List ByteArray)(b cp:Nat)(w:World)(h:DS w0 gs gd A n c l dn sv lg st v w)(hk:k<90)(hw:aO w b xs)(hx:xs.length<=10)(hc:xs.length<=cp)(hl:(Lib.join (xs.map (·.data.toList)) [32]).length<=220)(ho:offB c l=false)(hl2:c=true->0<=l∧l<=9223372036854775807)(hn:n<100000)(hE:∀F F':Int->ByteArray,j4 tag0 F A->F' k=bs8 (sealL tag0 (Lib.join (xs.map (·.data.toList)) [32]))->(∀j:Int,j≠k->F' j=F j)->j4 tag0 F' A'):
 Calls prog 56 #[p_ gs 0,.i_ k,.slice (o_ b 0) xs.length cp] w fun r w'=>r=.returned .nilIface∧DS w0 gs gd A' (n+1) c (l - 1) false sv lg st v w':=by
 obtain⟨T,hT⟩:∃T,T=Lib.join (xs.map (·.data.toList)) [32]:=⟨_,rfl⟩;have f:=vH xs b cp w.drew (show aO w.drew b xs from hw) hx hc (by omega)
 rw[<- hT] at f hl hE;have g:(bs8 (sealL tag0 T)).size<=240:=by rw[dC,mf jm]; omega
 have m:∀(W:World),DS w0 gs gd A n c l dn sv lg st v W->Calls prog 116 #[p_ gd 0,.i_ k,.string (bs8 (sealL tag0 T))] W fun e w'=>e=.returned .nilIface∧DS w0 gs gd A' (n+1) c (l - 1) dn sv lg st v w':=fun W hW=>by
  obtain⟨F,l',h1,h2,h3⟩:=hW.disk;refine (pK gd F n c l' k _ W h1 hW.gdlt hk g ?_ ?_ (by omega) (by omega)).mono ?_
  ·unfold offB at ho ⊢
   cases c with
   |false=>rfl
   |true=>rw[h2 rfl]; exact ho
  ·intro hcc
   rw[h2 hcc];exact hl2 hcc
  ·rintro e w' ⟨rfl,⟨l1,q1,q2⟩,q3⟩
   refine⟨rfl,hW.wrote q3 ⟨_,l1,by push_cast; exact q1,fun hcc=>by rw[q2 hcc,h2 hcc],hE F _ h3 (by unfold upd; simp) (fun j hj=>by unfold upd; simp[hj])⟩⟩
 generalize bs8 (sealL tag0 T)=X at *;have s:J _:=h;have t:J (xs.length<=cp):=hc;generalize xs.length=XL at *;go_enter func56,ntmps56
 go_upto_region 1 with fail;have o:DS w0 gs gd A n c l dn sv lg st v w.drew:=s.o.on (E9 _ _).drew;refine region_ (fun w'=>DS w0 gs gd A n c l dn sv lg st v w') 7 o fun hH=>?_;refine an [(0,p_ gs 0),(1,p_ gs 0),(2,p_ gs 0),(3,p_ gd 0),(4,.i_ k),(5,.slice (o_ b 0) XL cp)] hH (fun W hW=>by have a0:=hW.store.p0;go_simp) ?_;simp only[pA,oA,Act.put,pS1]
 refine one_ 6 ?_; intro K hK; go_simp;go_at_call 117;refine f.mono ?_;rintro e1 w1 ⟨rfl,hb1⟩;go_wp2_with fail;have p:=hH.on hb1;refine hK.out _ _ p ?_;intro hH;refine late_ 7 ?_; intro K hK; go_simp;go_at_call 116;refine (m _ hH).mono ?_;rintro e2 w2 ⟨rfl,hds⟩;have z:J _:=hds;go_wp2_with fail;refine hK.out _ _ ?_;refine late_ 8 ?_; intro K hK; go_simp;refine hK.out _ _ ?_;refine done_ ?_;go_wp2_with fail;refine (zy _).mono ?_;rintro e3 w3 ⟨rfl,rfl⟩;have q:J _:=z.o;have p1:=q.o.store.p1;have pf:=q.o.store.pf;have B:J _:=q.o.putDown false;go_wp2_with fail;go_ret;exact⟨rfl,B.o⟩
theorem i9(R:Value)(Q:World->Prop)(w0:World)(gs gd:Nat)(A:AD)(n:Nat)(c:Bool)(l:Int)(dn:Bool)(sv lg:Nat)(st:St)(v:Value)(k s:Nat)(w:World)(h:DS w0 gs gd A n c l dn sv lg st v w)(hg:Ev.dy st)(hs:okN s)(hwr:∀(b:Nat) (W:World),DS w0 gs gd A n c l dn sv lg st v W->aO W b ((gC s st.clock st.next st.fams.length).map bs8)->Calls prog 56 #[p_ gs 0,.i_ k,.slice (o_ b 0) 4 4] W fun r w'=>r=.returned R∧Q w'):
 Calls prog 58 #[p_ gs 0,.i_ k,.i_ s] w fun r w'=>r=.returned R∧Q w':=by
 have t:=fun (W:World) (hW:bv W)=>bQ s W hs.1 (by have:=hs.2; omega) hW
 have z:=fun (W:World) (hW:bv W)=>bQ st.clock W hg.clock.1 (by have:=hg.clock.2; omega) hW
 have B:=fun (W:World) (hW:bv W)=>bQ st.next W (by have:=hg.next0; omega) (by have:=hg.next1; omega) hW
 have C:=fun (W:World) (hW:bv W)=>bQ (st.fams.length:Int) W (by omega) (by have:=hg.len; omega) hW
 obtain⟨ba,ca,rfl⟩:=ag.slice h.store.fam;have D:J _:=h;clear h hg hs;go_enter func58,ntmps58
 go_upto_region 1 with fail;have m:DS w0 gs gd A n c l dn sv lg st (.slice ba st.fams.length ca) w.drew:=D.o.on (E9 _ _).drew;refine region_ (fun w'=>DS w0 gs gd A n c l dn sv lg st (.slice ba st.fams.length ca) w') 24 m fun hH=>?_;clear m;refine an [(0,p_ gs 0),(1,.i_ k),(2,.i_ s),(4,p_ gs 0),(5,p_ gs 0),(6,p_ gs 4),(7,p_ gs 4),(8,.i_ st.clock),(10,p_ gs 0),(11,p_ gs 0),(12,p_ gs 4),(13,p_ gs 5),(14,.i_ st.next),(16,p_ gs 0),(17,p_ gs 0),(18,p_ gs 4),(19,p_ gs 6),(20,.slice ba st.fams.length ca),(21,.i_ st.fams.length)] hH (fun W hW=>by have q:=hW.store.p4; have q:=hW.store.p5; have q:=hW.store.p6;go_simp) ?_;simp only[pA,oA,Act.put,pS1]
 refine one_ 3 ?_; intro K hK; go_simp;go_at_call 57;refine (t _ hH.libs.base).mono ?_;rintro e1 w1 ⟨rfl,hb1⟩;go_wp2_with fail;have o:=hH.on hb1;refine hK.out _ _ o ?_;clear hK hH;intro hH;clear o K;refine one_ 9 ?_; intro K hK; go_simp;go_at_call 57;refine (z _ hH.libs.base).mono ?_;rintro e2 w2 ⟨rfl,hb2⟩;go_wp2_with fail;have p:=hH.on hb2;refine hK.out _ _ p ?_;clear hK hH;intro hH;clear p K;refine one_ 15 ?_; intro K hK; go_simp;go_at_call 57;refine (B _ hH.libs.base).mono ?_;rintro e3 w3 ⟨rfl,hb3⟩;go_wp2_with fail;have f:=hH.on hb3;refine hK.out _ _ f ?_;clear hK hH;intro hH;clear f K;refine one_ 22 ?_; intro K hK; go_simp;go_at_call 57;refine (C _ hH.libs.base).mono ?_;rintro e4 w4 ⟨rfl,hb4⟩;go_wp2_with fail;have g:=hH.on hb4;refine hK.out _ _ g ?_;clear hK hH;intro hH;clear g K;refine one_ 23 ?_; intro K hK; go_simp;have j:=hH.on (w':=w4.alloc (.cells #[.string ⟨(Lib.itoa s).toArray⟩,.string ⟨(Lib.itoa st.clock).toArray⟩,.string ⟨(Lib.itoa st.next).toArray⟩,.string ⟨(Lib.itoa st.fams.length).toArray⟩] 9)) (bA _ _);refine hK.out _ _ j ?_;clear hK hH;intro hH;clear j K;refine late_ 24 ?_; intro K hK; go_simp;go_at_call 56;refine (hwr _ _ hH (bH w4 ((gC s st.clock st.next st.fams.length).map bs8) _)).mono ?_;rintro e5 w5 ⟨rfl,hq⟩;have E:J _:=hq;clear hq hH;go_wp2_with fail
 refine hK.out _ _ ?_;clear hK K;refine late_ 25 ?_; intro K hK; go_simp;refine hK.out _ _ ?_;clear hK K;refine done_ ?_;go_wp2_with fail;go_ret;exact⟨rfl,E.o⟩
end Go.Proofs.YtlailakofhenkabGreatDoor
