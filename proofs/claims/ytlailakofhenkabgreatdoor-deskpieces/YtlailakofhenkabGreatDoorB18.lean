import Derived.Test.YtlailakofhenkabGreatDoorB16
import Derived.Test.YtlailakofhenkabGreatDoorB17
set_option maxRecDepth 100000
set_option maxHeartbeats 16000000
namespace Go.Proofs.YtlailakofhenkabGreatDoor
open Go Go.RowKit Tok Sc Ev
theorem LibsA.belowB {w w':World} {B:Nat} (h:LibsA w) (hb:Below B w w') (ho:Olds B):LibsA w':=by
 obtain ⟨o1,o2,o3,o4⟩:=ho;refine ⟨⟨Nat.lt_of_lt_of_le h.base.big hb.size,tabIsBelowE h.base.pow hb gPowE o3,?_⟩,?_,?_⟩
 ·obtain ⟨m,hm⟩:=h.base.len
  exact ⟨m,(hb.cell (p:=⟨2,0,none⟩) o4).trans hm⟩
 ·obtain ⟨m,hm,k⟩:=h.syn
  exact ⟨m,(hb.cell (p:=⟨4,0,none⟩) o1).trans hm,k⟩
 ·obtain ⟨m,hm,k⟩:=h.rng
  exact ⟨m,(hb.cell (p:=⟨5,0,none⟩) o2).trans hm,k⟩
theorem Olds.mono {a b:Nat} (h:Olds a) (hab:a≤b):Olds b:=⟨Nat.lt_of_lt_of_le h.1 hab,Nat.lt_of_lt_of_le h.2.1 hab,Nat.lt_of_lt_of_le h.2.2.1 hab,Nat.lt_of_lt_of_le h.2.2.2 hab⟩
structure StoreAt (w:World) (gs gd:Nat) (dn:Bool) (sv lg:Nat) (st:St) (v:Value):Prop where
 p0:w.cell? ⟨gs,0,none⟩=some (.pointer (some ⟨gd,0,none⟩))
 p1:w.cell? ⟨gs,1,none⟩=some (.bool dn)
 p2:w.cell? ⟨gs,2,none⟩=some (.int .i64 sv)
 p3:w.cell? ⟨gs,3,none⟩=some (.int .i64 lg)
 p4:w.cell? ⟨gs,4,none⟩=some (.int .i64 st.clock)
 p5:w.cell? ⟨gs,5,none⟩=some (.int .i64 st.next)
 p6:w.cell? ⟨gs,6,none⟩=some v
 pf:∀ i,w.frozen? ⟨gs,i,none⟩=false
 fam:Fams (gs+1) w v st.fams
 lt:gs<w.heap.size
theorem StoreAt.on {w w':World} {gs gd:Nat} {dn:Bool} {sv lg:Nat} {st:St} {v:Value} (h:StoreAt w gs gd dn sv lg st v) (hb:Below w.heap.size w w'):StoreAt w' gs gd dn sv lg st v:=by
 have hc:∀ i,w'.cell? ⟨gs,i,none⟩=w.cell? ⟨gs,i,none⟩:=fun i=>hb.cell (p:=⟨gs,i,none⟩) h.lt;exact ⟨(hc 0).trans h.p0,(hc 1).trans h.p1,(hc 2).trans h.p2,(hc 3).trans h.p3,(hc 4).trans h.p4,(hc 5).trans h.p5,(hc 6).trans h.p6,fun i=>(hb.frozen (p:=⟨gs,i,none⟩) h.lt).trans (h.pf i),RowsK.below h.fam hb (Nat.le_refl _),Nat.lt_of_lt_of_le h.lt hb.size⟩
theorem setO {w:World} {b i j:Nat} {v x:Value} (h:w.cell? ⟨b,j,none⟩=some x) (hij:i≠j):(w.setCell ⟨b,i,none⟩ v).cell? ⟨b,j,none⟩=some x:=
 (World.cell?_setCell_other _ _ _ _ (by intro e; exact hij (congrArg Addr.off e))).trans h
theorem StoreAt.putState {w:World} {gs gd:Nat} {dn:Bool} {sv lg:Nat} {st st':St} {v v':Value} (h:StoreAt w gs gd dn sv lg st v) (hf:Fams (gs+1) w v' st'.fams):StoreAt (((w.setCell ⟨gs,4,none⟩ (.int .i64 st'.clock)).setCell ⟨gs,5,none⟩ (.int .i64 st'.next)).setCell ⟨gs,6,none⟩ v') gs gd dn sv lg st' v':=by
 refine ⟨setO (setO (setO h.p0 (by decide)) (by decide)) (by decide),setO (setO (setO h.p1 (by decide)) (by decide)) (by decide),setO (setO (setO h.p2 (by decide)) (by decide)) (by decide),setO (setO (setO h.p3 (by decide)) (by decide)) (by decide),setO (setO (World.cell?_setCell_same _ _ _ h.p4) (by decide)) (by decide),setO (World.cell?_setCell_same _ _ _ (setO h.p5 (by decide))) (by decide),World.cell?_setCell_same _ _ _ (setO (setO h.p6 (by decide)) (by decide)),fun i=>by simp only [World.frozen?_setCell]; exact h.pf i,?_,by simpa using h.lt⟩
 exact ((hf.other (a:=⟨gs,4,none⟩) (Nat.lt_succ_self _) _).other (a:=⟨gs,5,none⟩) (Nat.lt_succ_self _) _).other (a:=⟨gs,6,none⟩) (Nat.lt_succ_self _) _
theorem StoreAt.putLog {w:World} {gs gd:Nat} {dn:Bool} {sv lg lg':Nat} {st:St} {v:Value} (h:StoreAt w gs gd dn sv lg st v):StoreAt (w.setCell ⟨gs,3,none⟩ (.int .i64 lg')) gs gd dn sv lg' st v:=by
 exact ⟨setO h.p0 (by decide),setO h.p1 (by decide),setO h.p2 (by decide),World.cell?_setCell_same _ _ _ h.p3,setO h.p4 (by decide),setO h.p5 (by decide),setO h.p6 (by decide),fun i=>by simp only [World.frozen?_setCell]; exact h.pf i,h.fam.other (a:=⟨gs,3,none⟩) (Nat.lt_succ_self _) _,by simpa using h.lt⟩
theorem StoreAt.putSaves {w:World} {gs gd:Nat} {dn:Bool} {sv sv' lg:Nat} {st:St} {v:Value} (h:StoreAt w gs gd dn sv lg st v):StoreAt (w.setCell ⟨gs,2,none⟩ (.int .i64 sv')) gs gd dn sv' lg st v:=by
 exact ⟨setO h.p0 (by decide),setO h.p1 (by decide),World.cell?_setCell_same _ _ _ h.p2,setO h.p3 (by decide),setO h.p4 (by decide),setO h.p5 (by decide),setO h.p6 (by decide),fun i=>by simp only [World.frozen?_setCell]; exact h.pf i,h.fam.other (a:=⟨gs,2,none⟩) (Nat.lt_succ_self _) _,by simpa using h.lt⟩
theorem StoreAt.putDown {w:World} {gs gd:Nat} {dn dn':Bool} {sv lg:Nat} {st:St} {v:Value} (h:StoreAt w gs gd dn sv lg st v):StoreAt (w.setCell ⟨gs,1,none⟩ (.bool dn')) gs gd dn' sv lg st v:=by
 exact ⟨setO h.p0 (by decide),World.cell?_setCell_same _ _ _ h.p1,setO h.p2 (by decide),setO h.p3 (by decide),setO h.p4 (by decide),setO h.p5 (by decide),setO h.p6 (by decide),fun i=>by simp only [World.frozen?_setCell]; exact h.pf i,h.fam.other (a:=⟨gs,1,none⟩) (Nat.lt_succ_self _) _,by simpa using h.lt⟩
structure LW (w0:World) (gs gd:Nat) (A:AD) (dn:Bool) (sv lg:Nat) (st:St) (v:Value) (w:World):Prop where
 disk:DiskIs w gd A
 libs:LibsA w
 store:StoreAt w gs gd dn sv lg st v
 ord:gd<gs
 olds:Olds gs
 below:Below gs w0 w
theorem LW.on {w0:World} {gs gd:Nat} {A:AD} {dn:Bool} {sv lg:Nat} {st:St} {v:Value} {w w':World} (h:LW w0 gs gd A dn sv lg st v w) (hb:Below w.heap.size w w'):LW w0 gs gd A dn sv lg st v w':=
 ⟨h.disk.on hb,h.libs.below hb,h.store.on hb,h.ord,h.olds,h.below.trans (hb.mono (Nat.le_of_lt h.store.lt))⟩
theorem LW.over {w0:World} {gs gd:Nat} {A:AD} {dn dn':Bool} {sv sv' lg lg':Nat} {st st':St} {v v':Value} {w w':World} (h:LW w0 gs gd A dn sv lg st v w) (hb:Below gs w w') (hs:StoreAt w' gs gd dn' sv' lg' st' v'):LW w0 gs gd A dn' sv' lg' st' v' w':=
 ⟨h.disk.below hb h.ord,h.libs.belowB hb h.olds,hs,h.ord,h.olds,h.below.trans hb⟩
theorem below3 (gs i j k:Nat) (a b c:Value) (w:World):Below gs w (((w.setCell ⟨gs,i,none⟩ a).setCell ⟨gs,j,none⟩ b).setCell ⟨gs,k,none⟩ c):=
 (((Below.refl gs w).setCell (p:=⟨gs,i,none⟩) (Nat.le_refl _) _).setCell (p:=⟨gs,j,none⟩) (Nat.le_refl _) _).setCell (p:=⟨gs,k,none⟩) (Nat.le_refl _) _
theorem below1 (gs i:Nat) (a:Value) (w:World):Below gs w (w.setCell ⟨gs,i,none⟩ a):=(Below.refl gs w).setCell (p:=⟨gs,i,none⟩) (Nat.le_refl _) _
theorem fresh12 {W W' w':World} (hw:W'.heap=W.heap.push (.cells #[.int .i64 0,.int .i64 0,.string ⟨#[]⟩,.string ⟨#[]⟩,.string ⟨#[]⟩,.int .i64 0,.int .i64 0,.int .i64 0,.string ⟨#[]⟩,.bool false,.int .i64 0,.int .i64 0] 42)) (hb:Below W'.heap.size W' w'):EvAt w' W.heap.size zeroE∧∀ i,w'.frozen? ⟨W.heap.size,i,none⟩=false:=by
 have hlt:W.heap.size<W'.heap.size:=by rw [hw]; simp
 have hbl:W'.heap[W.heap.size]?=(W.alloc (.cells #[.int .i64 0,.int .i64 0,.string ⟨#[]⟩,.string ⟨#[]⟩,.string ⟨#[]⟩,.int .i64 0,.int .i64 0,.int .i64 0,.string ⟨#[]⟩,.bool false,.int .i64 0,.int .i64 0] 42)).heap[W.heap.size]?:=by rw [hw]; rfl
 have hbb:=(hb.block _ hlt).trans hbl;have he:=evAt_made W zeroE 42 _ rfl;have hc:∀ i,w'.cell? ⟨W.heap.size,i,none⟩=(W.alloc (.cells #[.int .i64 0,.int .i64 0,.string ⟨#[]⟩,.string ⟨#[]⟩,.string ⟨#[]⟩,.int .i64 0,.int .i64 0,.int .i64 0,.string ⟨#[]⟩,.bool false,.int .i64 0,.int .i64 0] 42)).cell? ⟨W.heap.size,i,none⟩:=fun i=>World.cell?_of_block (a:=⟨W.heap.size,i,none⟩) hbb;refine ⟨⟨Nat.lt_of_lt_of_le hlt hb.size,(hc _).trans he.c0,?_,(hc _).trans he.c10,(hc _).trans he.c11⟩,fun i=>(World.frozen?_of_block (a:=⟨W.heap.size,i,none⟩) hbb).trans (World.frozen?_alloc_at _ _ _ _ rfl)⟩;constructor
 ·exact (hc _).trans he.fam.c0
 ·exact (hc _).trans he.fam.c1
 ·exact (hc _).trans he.fam.c2
 ·exact (hc _).trans he.fam.c3
 ·exact (hc _).trans he.fam.c4
 ·exact (hc _).trans he.fam.c5
 ·exact (hc _).trans he.fam.c6
 ·exact (hc _).trans he.fam.c7
 ·exact (hc _).trans he.fam.c8
theorem evAt_of {w:World} {b:Nat} {e:E} (hl:b<w.heap.size) (c0:w.cell? ⟨b,0,none⟩=some (.int .i64 e.kind)) (c1:w.cell? ⟨b,1,none⟩=some (.int .i64 e.fam.id)) (c2:w.cell? ⟨b,2,none⟩=some (.string e.fam.client)) (c3:w.cell? ⟨b,3,none⟩=some (.string e.fam.subject)) (c4:w.cell? ⟨b,4,none⟩=some (.string e.fam.scope)) (c5:w.cell? ⟨b,5,none⟩=some (.int .i64 e.fam.gen)) (c6:w.cell? ⟨b,6,none⟩=some (.int .i64 e.fam.made)) (c7:w.cell? ⟨b,7,none⟩=some (.int .i64 e.fam.used)) (c8:w.cell? ⟨b,8,none⟩=some (.string e.fam.request)) (c9:w.cell? ⟨b,9,none⟩=some (.bool e.fam.dead)) (c10:w.cell? ⟨b,10,none⟩=some (.int .i64 e.id)) (c11:w.cell? ⟨b,11,none⟩=some (.int .i64 e.time)):EvAt w b e:=
 ⟨hl,c0,⟨c1,c2,c3,c4,c5,c6,c7,c8,c9⟩,c10,c11⟩
theorem fin1 {w0:World} {gs gd:Nat} {A:AD} {dn:Bool} {sv lg:Nat} {st:St} {v:Value} {wr W' w6:World} (e:E) (hl:LW w0 gs gd A dn sv lg st v wr) (hW:Below wr.heap.size wr W') (hw:W'.heap=wr.heap.push (.cells #[.int .i64 0,.int .i64 0,.string ⟨#[]⟩,.string ⟨#[]⟩,.string ⟨#[]⟩,.int .i64 0,.int .i64 0,.int .i64 0,.string ⟨#[]⟩,.bool false,.int .i64 0,.int .i64 0] 42)) (hb:Below W'.heap.size W' w6) :
 LW w0 gs gd A dn sv lg st v (w6.setCells wr.heap.size 0 (evCs e))∧EvAt (w6.setCells wr.heap.size 0 (evCs e)) wr.heap.size e:=by
 have hf:=fresh12 (W:=wr) hw hb;have hth:∀ j,j<(evCs e).length→(w6.cell? ⟨wr.heap.size,0+j,none⟩).isSome=true:=there12 hf.1;have hq:=fun (j:Nat) (hj:j<(evCs e).length)=>World.cell?_setCells_in wr.heap.size (evCs e) 0 w6 hth j hj;have hlt:wr.heap.size<(w6.setCells wr.heap.size 0 (evCs e)).heap.size:=Nat.lt_of_lt_of_le hf.1.lt (below_setCellsW (B:=0) (Nat.zero_le _) _ 0 _).size
 have hc:∀ (j:Nat) (u:Value),(evCs e)[j]?=some u→(w6.setCells wr.heap.size 0 (evCs e)).cell? ⟨wr.heap.size,j,none⟩=some u:=fun j u hj=>by
  obtain ⟨h1,h2⟩:=List.getElem?_eq_some_iff.1 hj
  have:=hq j h1;rw [Nat.zero_add,h2] at this;exact this
 exact ⟨hl.on ((hW.trans (hb.mono hW.size)).trans (below_setCellsW (Nat.le_refl _) _ 0 _)),evAt_of hlt (hc 0 _ rfl) (hc 1 _ rfl) (hc 2 _ rfl) (hc 3 _ rfl) (hc 4 _ rfl) (hc 5 _ rfl) (hc 6 _ rfl) (hc 7 _ rfl) (hc 8 _ rfl) (hc 9 _ rfl) (hc 10 _ rfl) (hc 11 _ rfl)⟩
theorem fin2 {w0:World} {gs gd:Nat} {A:AD} {dn:Bool} {sv lg:Nat} {st:St} {v:Value} {wr W' w6:World} (e:E) (hl:LW w0 gs gd A dn sv lg st v wr) (hW:Below wr.heap.size wr W') (hb:Below W'.heap.size W' w6) (t:TypeId) :
 LW w0 gs gd A dn sv lg st v (w6.alloc (.cells (evCs e).toArray t))∧EvAt (w6.alloc (.cells (evCs e).toArray t)) w6.heap.size e:=
 ⟨hl.on ((hW.trans (hb.mono hW.size)).alloc (Nat.le_trans hW.size hb.size) _),evAt_made w6 e t _ rfl⟩
theorem wpAnyD_two {P:Program} {Q:Exit→Act→World→Prop} {md:Region.Mode} {S:World→Prop} {d:Nat} {l:List Oper} (i j:Nat) {oi oj:Oper} {fuel:Nat} {listed:Array Bool} {a:Act} {w:World} (hoi:l[i]?=some oi) (hoj:l[j]?=some oj) (hr:Region.ready md l.toArray listed= [i,j])
 (h1:∀ K':Act→World→Prop,Shut (∀ a w,S w→(S w→RegD.wpAnyD P md l.toArray Q S d fuel (listed.setIfInBounds i true) a w)→K' a w)→if Region.wanted oi (yielded l.toArray a.tmps)=true then Oper.wp P oi a w K' Q else K' (a.put oi.dst undef) w)
 (h2:∀ K':Act→World→Prop,Shut (∀ a w,S w→(S w→RegD.wpAnyD P md l.toArray Q S d fuel (listed.setIfInBounds j true) a w)→K' a w)→if Region.wanted oj (yielded l.toArray a.tmps)=true then Oper.wp P oj a w K' Q else K' (a.put oj.dst undef) w):RegD.wpAnyD P md l.toArray Q S d (fuel+1) listed a w:=
 ⟨fun h0=>absurd (hr ▸ h0) (by simp),fun x hx=>by
  rw [hr] at hx;rcases (show x=i∨x=j by simpa using hx) with rfl | rfl
  ·exact wpOp_step (RegD.at_list hoi) (fun K' hK=>h1 K' (fun a w hS hW=>hK a w ⟨fun _=>hS,hW hS⟩))
  ·exact wpOp_step (RegD.at_list hoj) (fun K' hK=>h2 K' (fun a w hS hW=>hK a w ⟨fun _=>hS,hW hS⟩))⟩
theorem logStep (A:AD) (sv k r:Nat) (st:St):(∃ e,A.blk k=some (sv,e)∧logGo A sv k (r+1) st=logGo A sv (k+1) r (applyP st e))∨(evOf (A.blk k) sv=(zeroE,false)∧logGo A sv k (r+1) st=(st,k)):=by
 cases h:A.blk k with
 |none=>exact .inr ⟨rfl,by rw [logGo,h]⟩
 |some p=>
  obtain ⟨s',e⟩:=p;by_cases hs:s'=sv
  ·subst hs
   exact .inl ⟨e,rfl,by rw [logGo,h]; simp⟩
  ·exact .inr ⟨by unfold evOf; simp only [if_neg hs],by rw [logGo,h]; simp only [if_neg hs]⟩
theorem readLog_is (gs gd:Nat) (A:AD) (dn:Bool) (sv:Nat) (st:St) (v:Value) (w:World) (hsv:okN sv) (hr:Rising st.fams) (hn:st.fams.length≤20) (h:LW w gs gd A dn sv 0 st v w) :
 Calls Tryz.prog 53 #[.pointer (some ⟨gs,0,none⟩)] w fun r w'=>r=.returned (.tuple #[])∧∃ v',LW w gs gd A dn sv (logGo A sv 0 16 st).2 (logGo A sv 0 16 st).1 v' w':=by
 have H0:Hid (LW w gs gd A dn sv 0 st v w):=h;have HSV:Hid (okN sv):=hsv;have HR0:Hid (Rising st.fams∧st.fams.length≤20):=⟨hr,hn⟩;clear h hsv hr hn;go_enter Tryz.func53,Tryz.ntmps53
 go_wp2_with fail
 go_loopg [5] 16 (fun gk iv wr=>∃ (k:Nat) (s1:St) (v1:Value),k+gk=16∧iv=.int .i64 k∧Hid (logGo A sv 0 16 st=logGo A sv k gk s1)∧Hid (Rising s1.fams∧s1.fams.length≤20+k)∧Hid (LW w gs gd A dn sv k s1 v1 wr))
 case atStart=>exact ⟨0,st,v,rfl,rfl,rfl,HR0.out,H0⟩
 case round=>
  obtain ⟨k,s1,v1,hj,rfl,HGO,HRI,HLW⟩:=hrel;have HJ:Hid (k+gk=16):=hj;clear hj H0;by_cases hlt:k<16
  ·have hltI:(k:Int)<16:=by omega
   obtain ⟨r,hr⟩:∃ r,gk=r+1:=⟨gk - 1,by have:=HJ.out; omega⟩
   have HR:Hid (gk=r+1):=hr;clear hr;have hre:=fun (W:World) (hw:LW w gs gd A dn sv k s1 v1 W)=>hw.disk.readEv k sv (by omega) (by omega) (by omega) HSV.out hw.libs
   obtain ⟨ba,ca,rfl⟩:=RowsK.slice HLW.out.store.fam;obtain ⟨e,o,heo⟩:∃ e o,evOf (A.blk k) sv=(e,o):=⟨_,_,rfl⟩;have HEO:Hid (evOf (A.blk k) sv=(e,o)):=heo;rw [heo] at hre;clear heo;have hlw:=HLW.out;have HLW2:Hid (LW w gs gd A dn sv k s1 (.slice ba s1.fams.length ca) wr):=hlw;have HE:Hid (∀ x:E,x=e→x=e):=fun x h=>h;go_upto_region 3 with fail
   go_cut [3,4] from 8 to 21 (fun x y wx=>∃ gE,x=.pointer (some ⟨gE,0,none⟩)∧y=.bool o∧Hid (LW w gs gd A dn sv k s1 (.slice ba s1.fams.length ca) wx∧EvAt wx gE e))
   case first=>
    have p0:=hlw.store.p0;have p2:=hlw.store.p2;have m0:=Lib.cell?_alloc_some (.cells #[.int .i64 0,.int .i64 0,.string ⟨#[]⟩,.string ⟨#[]⟩,.string ⟨#[]⟩,.int .i64 0,.int .i64 0,.int .i64 0,.string ⟨#[]⟩,.bool false,.int .i64 0,.int .i64 0] 42) p0;have m2:=Lib.cell?_alloc_some (.cells #[.int .i64 0,.int .i64 0,.string ⟨#[]⟩,.string ⟨#[]⟩,.string ⟨#[]⟩,.int .i64 0,.int .i64 0,.int .i64 0,.string ⟨#[]⟩,.bool false,.int .i64 0,.int .i64 0] 42) p2;clear hlw HLW HE
    have HF1:Hid (∀ (W' w6:World),Below wr.heap.size wr W'→W'.heap=wr.heap.push (.cells #[.int .i64 0,.int .i64 0,.string ⟨#[]⟩,.string ⟨#[]⟩,.string ⟨#[]⟩,.int .i64 0,.int .i64 0,.int .i64 0,.string ⟨#[]⟩,.bool false,.int .i64 0,.int .i64 0] 42)→Below W'.heap.size W' w6→LW w gs gd A dn sv k s1 (.slice ba s1.fams.length ca) (w6.setCells wr.heap.size 0 (evCs e))∧EvAt (w6.setCells wr.heap.size 0 (evCs e)) wr.heap.size e):=fun W' w6 h1 h2 h3=>fin1 e HLW2.out h1 h2 h3;have HF2:Hid (∀ (W' w6:World),Below wr.heap.size wr W'→Below W'.heap.size W' w6→LW w gs gd A dn sv k s1 (.slice ba s1.fams.length ca) (w6.alloc (.cells (evCs e).toArray 42))∧EvAt (w6.alloc (.cells (evCs e).toArray 42)) w6.heap.size e):=fun W' w6 h1 h2=>fin2 e HLW2.out h1 h2 _;obtain ⟨kk,⟨f1,f2,f3,f4,f5,f6,f7,f8,f9⟩,ei,et⟩:=e;unfold evV at hre;unfold evCs at hre HF1 HF2
    simp only at hre HF1 HF2;have hS0:LW w gs gd A dn sv k s1 (.slice ba s1.fams.length ca) wr.drew:=HLW2.out.on (Below.refl _ _).drew;refine RegD.R_ (fun w'=>LW w gs gd A dn sv k s1 (.slice ba s1.fams.length ca) w') 15 (by kernel_rfl) hS0 (fun hH=>?_)
    clear hS0;refine RegD.T_ 0 (v:=.pointer (some ⟨gs,0,none⟩)) rfl (by kernel_rfl) (fun _ _ _ h=>h) (.inl ⟨by rfl,fun W hW=>by go_simp⟩) hH ?_
    simp only [Act.put,pS1,pS2,pS3];refine RegD.T_ 1 (v:=.pointer (some ⟨gs,0,none⟩)) rfl (by kernel_rfl) (fun _ _ _ h=>h) (.inl ⟨by rfl,fun W hW=>by go_simp⟩) hH ?_
    simp only [Act.put,pS1,pS2,pS3];refine RegD.T_ 2 (v:=.pointer (some ⟨gs,0,none⟩)) rfl (by kernel_rfl) (fun _ _ _ h=>h) (.inl ⟨by rfl,fun W hW=>by go_simp⟩) hH ?_
    simp only [Act.put,pS1,pS2,pS3];refine RegD.T_ 3 (v:=.pointer (some ⟨gd,0,none⟩)) rfl (by kernel_rfl) (fun _ _ _ h=>h) (.inl ⟨by rfl,fun W hW=>by have a0:=hW.store.p0; go_simp⟩) hH ?_
    simp only [Act.put,pS1,pS2,pS3];refine RegD.T_ 4 (v:=.int .i64 k) rfl (by kernel_rfl) (fun _ _ _ h=>h) (.inl ⟨by rfl,fun W hW=>by go_simp⟩) hH ?_
    simp only [Act.put,pS1,pS2,pS3];refine RegD.T_ 5 (v:=.pointer (some ⟨gs,0,none⟩)) rfl (by kernel_rfl) (fun _ _ _ h=>h) (.inl ⟨by rfl,fun W hW=>by go_simp⟩) hH ?_
    simp only [Act.put,pS1,pS2,pS3];refine RegD.T_ 6 (v:=.pointer (some ⟨gs,0,none⟩)) rfl (by kernel_rfl) (fun _ _ _ h=>h) (.inl ⟨by rfl,fun W hW=>by go_simp⟩) hH ?_
    simp only [Act.put,pS1,pS2,pS3];refine RegD.T_ 7 (v:=.pointer (some ⟨gs,2,none⟩)) rfl (by kernel_rfl) (fun _ _ _ h=>h) (.inl ⟨by rfl,fun W hW=>by go_simp⟩) hH ?_
    simp only [Act.put,pS1,pS2,pS3];refine RegD.T_ 8 (v:=.int .i64 sv) rfl (by kernel_rfl) (fun _ _ _ h=>h) (.inl ⟨by rfl,fun W hW=>by have a0:=hW.store.p2; go_simp⟩) hH ?_
    simp only [Act.put,pS1,pS2,pS3];refine wpAnyD_two 9 13 (oi:=?oi9) (oj:=?oi13) ?ha9 ?ha13 ?hr2 ?h9 ?h13
    case ha9=>rfl
    case ha13=>rfl
    case hr2=>kernel_rfl
    case h9=>
     intro K hK;go_simp;go_at_call 112
     refine (hre _ hH).mono ?_;rintro e6 w6 ⟨rfl,hb6⟩;go_wp2_with fail
     have hS9:LW w gs gd A dn sv k s1 (.slice ba s1.fams.length ca) w6:=hH.on hb6;refine hK.out _ _ hS9 ?_;clear hK hH;intro hH;clear hS9 K;refine RegD.T_ 10 (v:=(.tuple #[(.agg #[.int .i64 kk,.int .i64 f1,.string f2,.string f3,.string f4,.int .i64 f5,.int .i64 f6,.int .i64 f7,.string f8,.bool f9,.int .i64 ei,.int .i64 et]),.bool o])) rfl (by kernel_rfl) (fun _ _ _ h=>h) (.inl ⟨by rfl,fun W hW=>by go_simp⟩) hH ?_
     simp only [Act.put,pS1,pS2,pS3];refine RegD.T_ 11 (v:=(.agg #[.int .i64 kk,.int .i64 f1,.string f2,.string f3,.string f4,.int .i64 f5,.int .i64 f6,.int .i64 f7,.string f8,.bool f9,.int .i64 ei,.int .i64 et])) rfl (by kernel_rfl) (fun _ _ _ h=>h) (.inl ⟨by rfl,fun W hW=>by go_simp⟩) hH ?_
     simp only [Act.put,pS1,pS2,pS3];refine RegD.T_ 12 (v:=(.bool o)) rfl (by kernel_rfl) (fun _ _ _ h=>h) (.inl ⟨by rfl,fun W hW=>by go_simp⟩) hH ?_
     simp only [Act.put,pS1,pS2,pS3];refine RegD.O_ 13 rfl (by kernel_rfl) ?_; intro K hK; go_simp
     have hS13:LW w gs gd A dn sv k s1 (.slice ba s1.fams.length ca) (w6.alloc (.cells #[.int .i64 0,.int .i64 0,.string ⟨#[]⟩,.string ⟨#[]⟩,.string ⟨#[]⟩,.int .i64 0,.int .i64 0,.int .i64 0,.string ⟨#[]⟩,.bool false,.int .i64 0,.int .i64 0] 42)):=hH.on ((Below.refl _ _).alloc (Nat.le_refl _) _);refine hK.out _ _ hS13 ?_;clear hK hH;intro hH;clear hS13 K;have hfin:=HF2.out _ _ ((Below.refl _ _).drew) hb6;refine RegD.O_ 14 rfl (by kernel_rfl) ?_; intro K hK; go_simp
     refine hK.out _ _ hfin.1 ?_;clear hK hH;intro hH;clear K;refine RegD.L_ 15 rfl (by kernel_rfl) (by kernel_rfl) ?_; intro K hK; go_simp
     refine hK.out _ _ ?_;clear hK K;refine RegD.D_ (by kernel_rfl) ?_ _
     go_wp2_with fail
     go_meet
     case rel=>exact ⟨_,rfl,rfl,hfin⟩
    case h13=>
     intro K hK;go_simp;have hS13:LW w gs gd A dn sv k s1 (.slice ba s1.fams.length ca) (wr.drew.alloc (.cells #[.int .i64 0,.int .i64 0,.string ⟨#[]⟩,.string ⟨#[]⟩,.string ⟨#[]⟩,.int .i64 0,.int .i64 0,.int .i64 0,.string ⟨#[]⟩,.bool false,.int .i64 0,.int .i64 0] 42)):=hH.on ((Below.refl _ _).alloc (Nat.le_refl _) _);refine hK.out _ _ hS13 ?_;clear hK hH;intro hH;clear hS13 K;refine RegD.O_ 9 rfl (by kernel_rfl) ?_; intro K hK; go_simp
     go_at_call 112
     refine (hre _ hH).mono ?_;rintro e6 w6 ⟨rfl,hb6⟩;go_wp2_with fail
     have hS9:LW w gs gd A dn sv k s1 (.slice ba s1.fams.length ca) w6:=hH.on hb6;refine hK.out _ _ hS9 ?_;clear hK hH;intro hH;clear hS9 K;refine RegD.T_ 10 (v:=(.tuple #[(.agg #[.int .i64 kk,.int .i64 f1,.string f2,.string f3,.string f4,.int .i64 f5,.int .i64 f6,.int .i64 f7,.string f8,.bool f9,.int .i64 ei,.int .i64 et]),.bool o])) rfl (by kernel_rfl) (fun _ _ _ h=>h) (.inl ⟨by rfl,fun W hW=>by go_simp⟩) hH ?_
     simp only [Act.put,pS1,pS2,pS3];refine RegD.T_ 11 (v:=(.agg #[.int .i64 kk,.int .i64 f1,.string f2,.string f3,.string f4,.int .i64 f5,.int .i64 f6,.int .i64 f7,.string f8,.bool f9,.int .i64 ei,.int .i64 et])) rfl (by kernel_rfl) (fun _ _ _ h=>h) (.inl ⟨by rfl,fun W hW=>by go_simp⟩) hH ?_
     simp only [Act.put,pS1,pS2,pS3];refine RegD.T_ 12 (v:=(.bool o)) rfl (by kernel_rfl) (fun _ _ _ h=>h) (.inl ⟨by rfl,fun W hW=>by go_simp⟩) hH ?_
     simp only [Act.put,pS1,pS2,pS3];have hfr:=fresh12 (W:=wr) rfl hb6;have fz:=hfr.2;have x0:=hfr.1.c0; have x1:=hfr.1.fam.c0; have x2:=hfr.1.fam.c1; have x3:=hfr.1.fam.c2; have x4:=hfr.1.fam.c3; have x5:=hfr.1.fam.c4; have x6:=hfr.1.fam.c5; have x7:=hfr.1.fam.c6; have x8:=hfr.1.fam.c7; have x9:=hfr.1.fam.c8; have x10:=hfr.1.c10; have x11:=hfr.1.c11;simp only [zeroE,zeroF] at x0 x1 x2 x3 x4 x5 x6 x7 x8 x9 x10 x11;have hfin:=HF1.out _ _ (((Below.refl _ _).drew).alloc (Nat.le_refl _) _) rfl hb6;refine RegD.O_ 14 rfl (by kernel_rfl) ?_; intro K hK; go_simp
     refine hK.out _ _ hfin.1 ?_;clear hK hH;intro hH;clear K;clear x0 x1 x2 x3 x4 x5 x6 x7 x8 x9 x10 x11 fz hfr;refine RegD.L_ 15 rfl (by kernel_rfl) (by kernel_rfl) ?_; intro K hK; go_simp
     refine hK.out _ _ ?_;clear hK K;refine RegD.D_ (by kernel_rfl) ?_ _
     go_wp2_with fail
     go_meet
     case rel=>exact ⟨_,rfl,rfl,hfin⟩
   case rest=>
    obtain ⟨gE,rfl,rfl,HCW⟩:=hcut;rcases logStep A sv k r s1 with ⟨e',h1,h2⟩ | ⟨h1,h2⟩
    ·have h3:evOf (some (sv,e')) sv=(e',true):=by unfold evOf; simp
     have h4:=HEO.out;rw [h1,h3] at h4;obtain ⟨rfl,rfl⟩:=Prod.mk.inj h4;have HM:Hid (Ev.may e'):=(HLW2.out.disk.blks _ _ _ h1).1;have HG2:Hid (logGo A sv 0 16 st=logGo A sv (k+1) r (applyP s1 e')):=by show _=_; rw [HGO.out,HR.out,h2]
     have HAP:Hid (∀ (W:World),Fams (gs+1) W (.slice ba s1.fams.length ca) s1.fams→Calls Tryz.prog 19 #[stV s1.clock s1.next (.slice ba s1.fams.length ca),evV e'] W fun r w'=>∃ v',r=.returned (stV (applyP s1 e').clock (applyP s1 e').next v')∧Fams W.heap.size w' v' (applyP s1 e').fams∧Below W.heap.size W w'):=fun W hW=>apply_is s1 e' HM.out hW HRI.out.1 (by have:=HRI.out.2; omega)
     have HR2:Hid (Rising (applyP s1 e').fams∧(applyP s1 e').fams.length≤20+(k+1)):=⟨rising_apply HRI.out.1,Nat.le_trans (apply_len s1 e') (by have:=HRI.out.2; omega)⟩
     generalize applyP s1 e'=st' at *;clear h1 h2 h3 h4 hre hlw HE HEO HGO HLW HLW2;obtain ⟨kk,⟨f1,f2,f3,f4,f5,f6,f7,f8,f9⟩,ei,et⟩:=e';have HAP2:=HAP.out;unfold evV evCs stV at HAP2;simp only at HAP2;clear HAP;go_upto_region 5 with fail
     have hS0:LW w gs gd A dn sv k s1 (.slice ba s1.fams.length ca) wc.drew∧EvAt wc.drew gE ⟨kk,⟨f1,f2,f3,f4,f5,f6,f7,f8,f9⟩,ei,et⟩:=⟨HCW.out.1.on (Below.refl _ _).drew,HCW.out.2.on (Below.refl _ _).drew⟩;refine RegD.R_ (fun w'=>LW w gs gd A dn sv k s1 (.slice ba s1.fams.length ca) w'∧EvAt w' gE ⟨kk,⟨f1,f2,f3,f4,f5,f6,f7,f8,f9⟩,ei,et⟩) 9 (by kernel_rfl) hS0 (fun hH=>?_)
     clear hS0;refine RegD.T_ 0 (v:=.pointer (some ⟨gs,0,none⟩)) rfl (by kernel_rfl) (fun _ _ _ h=>h) (.inl ⟨by rfl,fun W hW=>by go_simp⟩) hH ?_
     simp only [Act.put,pS1,pS2,pS3];refine RegD.T_ 1 (v:=.pointer (some ⟨gs,0,none⟩)) rfl (by kernel_rfl) (fun _ _ _ h=>h) (.inl ⟨by rfl,fun W hW=>by go_simp⟩) hH ?_
     simp only [Act.put,pS1,pS2,pS3];refine RegD.T_ 2 (v:=.pointer (some ⟨gs,0,none⟩)) rfl (by kernel_rfl) (fun _ _ _ h=>h) (.inl ⟨by rfl,fun W hW=>by go_simp⟩) hH ?_
     simp only [Act.put,pS1,pS2,pS3];refine RegD.T_ 3 (v:=.pointer (some ⟨gs,4,none⟩)) rfl (by kernel_rfl) (fun _ _ _ h=>h) (.inl ⟨by rfl,fun W hW=>by go_simp⟩) hH ?_
     simp only [Act.put,pS1,pS2,pS3];refine RegD.T_ 4 (v:=(.agg #[.int .i64 s1.clock,.int .i64 s1.next,.slice ba s1.fams.length ca])) rfl (by kernel_rfl) (fun _ _ _ h=>h) (.inl ⟨by rfl,fun W hW=>by have a4:=hW.1.store.p4; have a5:=hW.1.store.p5; have a6:=hW.1.store.p6; go_simp⟩) hH ?_
     simp only [Act.put,pS1,pS2,pS3];refine RegD.T_ 5 (v:=(.agg #[.int .i64 kk,.int .i64 f1,.string f2,.string f3,.string f4,.int .i64 f5,.int .i64 f6,.int .i64 f7,.string f8,.bool f9,.int .i64 ei,.int .i64 et])) rfl (by kernel_rfl) (fun _ _ _ h=>h) (.inl ⟨by rfl,fun W hW=>by have k0:=hW.2.c0; have k1:=hW.2.fam.c0; have k2:=hW.2.fam.c1; have k3:=hW.2.fam.c2; have k4:=hW.2.fam.c3; have k5:=hW.2.fam.c4; have k6:=hW.2.fam.c5; have k7:=hW.2.fam.c6; have k8:=hW.2.fam.c7; have k9:=hW.2.fam.c8; have k10:=hW.2.c10; have k11:=hW.2.c11; simp only at k0 k1 k2 k3 k4 k5 k6 k7 k8 k9 k10 k11; go_simp⟩) hH ?_
     simp only [Act.put,pS1,pS2,pS3];refine RegD.O_ 6 rfl (by kernel_rfl) ?_; intro K hK; go_simp
     go_at_call 19
     refine (HAP2 _ hH.1.store.fam).mono ?_;rintro e7 w7 ⟨v7,rfl,hf7,hb7⟩;obtain ⟨b7,c7,rfl⟩:=RowsK.slice hf7;go_wp2_with fail
     have hS6:LW w gs gd A dn sv k s1 (.slice ba s1.fams.length ca) w7∧EvAt w7 gE ⟨kk,⟨f1,f2,f3,f4,f5,f6,f7,f8,f9⟩,ei,et⟩:=⟨hH.1.on hb7,hH.2.on hb7⟩;have hF7:Fams (gs+1) w7 (.slice b7 st'.fams.length c7) st'.fams:=RowsK.mono hf7 hH.1.store.lt;refine hK.out _ _ hS6 ?_;clear hK hH;intro hH;clear hS6 K;refine RegD.T_ 7 (v:=.pointer (some ⟨gs,0,none⟩)) rfl (by kernel_rfl) (fun _ _ _ h=>h) (.inl ⟨by rfl,fun W hW=>by go_simp⟩) hH ?_
     simp only [Act.put,pS1,pS2,pS3];refine RegD.T_ 8 (v:=.pointer (some ⟨gs,4,none⟩)) rfl (by kernel_rfl) (fun _ _ _ h=>h) (.inl ⟨by rfl,fun W hW=>by go_simp⟩) hH ?_
     simp only [Act.put,pS1,pS2,pS3];have hput:=hH.1.store.putState hF7;have HNEW:Hid (LW w gs gd A dn sv k st' (.slice b7 st'.fams.length c7) (((w7.setCell ⟨gs,4,none⟩ (.int .i64 st'.clock)).setCell ⟨gs,5,none⟩ (.int .i64 st'.next)).setCell ⟨gs,6,none⟩ (.slice b7 st'.fams.length c7))):=hH.1.over (below3 gs 4 5 6 _ _ _ w7) hput;have a4:=hH.1.store.p4;have a5:=hH.1.store.p5;have a6:=hH.1.store.p6;have fz:=hH.1.store.pf;clear hH hput hf7 hb7 hF7;refine RegD.L_ 9 rfl (by kernel_rfl) (by kernel_rfl) ?_; intro K hK; go_simp
     refine hK.out _ _ ?_;clear hK K;refine RegD.D_ (by kernel_rfl) ?_ _
     clear a4 a5 a6 fz;generalize World.setCell _ ⟨gs,6,none⟩ _=W8 at *;have p3:=HNEW.out.store.p3;have fz:=HNEW.out.store.pf;have HNL:Hid (LW w gs gd A dn sv (k+1) st' (.slice b7 st'.fams.length c7) (W8.setCell ⟨gs,3,none⟩ (.int .i64 ((k+1:Nat):Int)))):=HNEW.out.over (below1 gs 3 _ W8) HNEW.out.store.putLog;have HKC:Hid (((k+1:Nat):Int)=(k:Int)+1):=by show ((k+1:Nat):Int)=(k:Int)+1; push_cast; rfl
     go_wp2_with fail
     go_roundg r
     case measure=>have:=HR.out; omega
     case rel=>exact ⟨k+1,st',_,by have:=HJ.out; have:=HR.out; omega,by go_num,HG2,HR2,HKC.out ▸ HNL⟩
    ·have h4:=HEO.out
     rw [h1] at h4;obtain ⟨rfl,rfl⟩:=Prod.mk.inj h4;have HMV:Hid (logGo A sv 0 16 st=(s1,k)):=by show _=_; rw [HGO.out,HR.out,h2]
     clear h1 h2 h4 hre hlw HE;go_wp2_with fail
     have HMV2:=HMV.out;exact bodyPost_ret (v:=.tuple #[]) (by simp [results,Tryz.results53]) rfl ⟨rfl,_,by rw [HMV2]; exact HCW.out.1⟩
  ·obtain rfl:k=16:=by have:=HJ.out; omega
   obtain rfl:gk=0:=by have:=HJ.out; omega
   have HMV:Hid (logGo A sv 0 16 st=(s1,16)):=by show _=_; rw [HGO.out]; rfl
   go_wp2_with fail
   have HMV2:=HMV.out;go_end0
   exact ⟨rfl,_,by rw [HMV2]; exact HLW.out⟩
set_option maxHeartbeats 8000000
theorem slotGo_good (A:AD) (b s:Nat):∀ (r i m:Nat) (st st':St),slotGo A b s i r st=some st'→Rising st.fams→st.fams.length≤m→Rising st'.fams∧st'.fams.length≤m+r:=by
 intro r;induction r with
 |zero=>
  intro i m st st' h hr hl;simp only [slotGo,Option.some.injEq] at h;subst h;exact ⟨hr,by omega⟩
 |succ r ih=>
  intro i m st st' h hr hl;rcases evOf_step A b s i r st with ⟨e,_,h2⟩ | ⟨_,h2⟩
  ·rw [h2] at h
   have:=ih (i+1) (m+1) _ _ h (rising_apply hr) (Nat.le_trans (apply_len st e) (by omega))
   exact ⟨this.1,by omega⟩
  ·rw [h2] at h; cases h
theorem slotM_good {A:AD} {k:Nat} (h:∀ s c nx n,A.head k=some (s,c,nx,n)→n≤20):Rising (slotM A k).1.fams∧(slotM A k).1.fams.length≤20:=by
 unfold slotM
 cases hh:A.head k with
 |none=>exact ⟨List.Pairwise.nil,Nat.zero_le _⟩
 |some p=>
  obtain ⟨s,c,nx,n⟩:=p;simp only
  cases hs:slotGo A (17+21*k) s 0 n ⟨c,nx,[]⟩ with
  |none=>exact ⟨List.Pairwise.nil,Nat.zero_le _⟩
  |some st=>
   have:=slotGo_good A _ s n 0 0 _ _ hs List.Pairwise.nil (Nat.le_refl _);refine ⟨this.1,?_⟩;have h2:=this.2;have h3:=h s c nx n hh;show st.fams.length≤20
   omega
theorem readSlot_is (g:Nat) (A:AD) (k:Nat) (hk:k<2) (w:World) (hD:DiskIs w g A) (hL:LibsA w) :
 Calls Tryz.prog 52 #[.pointer (some ⟨g,0,none⟩),.int .i64 k] w fun r w'=>∃ v,r=.returned (.tuple #[stV (slotM A k).1.clock (slotM A k).1.next v,.int .i64 ((slotM A k).2:Nat)])∧Fams w.heap.size w' v (slotM A k).1.fams∧Below w.heap.size w w':=by
 cases hh:A.head k with
 |none=>
  refine (readSlot_none g A k hk w hh hD hL).mono ?_;rintro r w' ⟨rfl,hb⟩;have hm:slotM A k=(⟨0,0,[]⟩,0):=by unfold slotM; rw [hh]
  exact ⟨.slice none 0 0,by rw [hm]; rfl,by rw [hm]; exact Fams.nil _ _,hb⟩
 |some p=>
  obtain ⟨s,c,nx,n⟩:=p;exact readSlot_some g A k s c nx n hk w hh hD hL
def bestK (A:AD):Nat→St × Nat
 |0=>(⟨0,1,[]⟩,0)
 |k+1=>best (bestK A k) (slotM A k)
theorem bestK_good {A:AD} (h:∀ k s c nx n,A.head k=some (s,c,nx,n)→n≤20):∀ k,Rising (bestK A k).1.fams∧(bestK A k).1.fams.length≤20
 |0=>⟨List.Pairwise.nil,Nat.zero_le _⟩
 |k+1=>by
  unfold bestK best;split
  ·exact slotM_good (h k)
  ·exact bestK_good h k
theorem slotM_ok {A:AD} {k:Nat} (h:∀ s c nx n,A.head k=some (s,c,nx,n)→okN s):okN ((slotM A k).2:Nat):=by
 unfold slotM;have z:okN ((0:Nat):Int):=⟨by decide,by decide⟩
 cases hh:A.head k with
 |none=>exact z
 |some p=>
  obtain ⟨s,c,nx,n⟩:=p;simp only
  cases slotGo A (17+21*k) s 0 n ⟨c,nx,[]⟩ with
  |none=>exact z
  |some st=>exact h s c nx n hh
theorem bestK_ok {A:AD} (h:∀ k s c nx n,A.head k=some (s,c,nx,n)→okN s):∀ k,okN ((bestK A k).2:Nat)
 |0=>(show okN ((0:Nat):Int) from ⟨by decide,by decide⟩)
 |k+1=>by
  unfold bestK best;split
  ·exact slotM_ok (h k)
  ·exact bestK_ok h k
theorem openM_is (A:AD):openM A=((logGo A (bestK A 2).2 0 16 (bestK A 2).1).1,(bestK A 2).2,(logGo A (bestK A 2).2 0 16 (bestK A 2).1).2):=rfl
theorem open_is (gd:Nat) (A:AD) (w:World) (hD:DiskIs w gd A) (hL:LibsA w) :
 Calls Tryz.prog 12 #[.pointer (some ⟨gd,0,none⟩)] w fun r w'=>∃ gs v,r=.returned (.tuple #[.pointer (some ⟨gs,0,none⟩),.nilIface])∧w.heap.size≤gs∧LW w gs gd A false (openM A).2.1 (openM A).2.2 (openM A).1 v w':=by
 have HG:Hid (∀ k,Rising (bestK A k).1.fams∧(bestK A k).1.fams.length≤20):=bestK_good (fun k s c nx n h=>(hD.heads k s c nx n h).2.2.2.2);have HK:Hid (∀ k,okN ((bestK A k).2:Nat)):=bestK_ok (fun k s c nx n h=>(hD.heads k s c nx n h).1);have HSO:Hid (∀ k,okN ((slotM A k).2:Nat)):=fun k=>slotM_ok (fun s c nx n h=>(hD.heads k s c nx n h).1)
 have HL0:Hid (LW w w.heap.size gd A false 0 0 ⟨0,1,[]⟩ (.slice none 0 0) (w.alloc (.cells #[.pointer (some ⟨gd,0,none⟩),.bool false,.int .i64 0,.int .i64 0,.int .i64 0,.int .i64 1,.slice none 0 0] 111))):=by
  have hb:Below w.heap.size w (w.alloc (.cells #[.pointer (some ⟨gd,0,none⟩),.bool false,.int .i64 0,.int .i64 0,.int .i64 0,.int .i64 1,.slice none 0 0] 111)):=(Below.refl _ _).alloc (Nat.le_refl _) _;refine ⟨hD.on hb,hL.below hb,⟨?_,?_,?_,?_,?_,?_,?_,fun i=>World.frozen?_alloc_at _ _ _ _ rfl,Fams.nil _ _,by simp⟩,hD.lt,olds_of hL,hb⟩ <;> exact (World.cell?_alloc_at _ _ _ _ rfl).trans rfl
 clear hD hL;go_enter Tryz.func12,Tryz.ntmps12
 go_wp2_with fail
 generalize w.alloc _=W0 at *;go_loopg [15] 2 (fun gk iv wr=>∃ (k:Nat) (v1:Value),k+gk=2∧iv=.int .i64 k∧Hid (LW w w.heap.size gd A false (bestK A k).2 0 (bestK A k).1 v1 wr))
 case atStart=>exact ⟨0,_,rfl,rfl,HL0⟩
 case round=>
  obtain ⟨k,v1,hj,rfl,HLW⟩:=hrel;have HJ:Hid (k+gk=2):=hj;clear hj HL0;by_cases hlt:k<2
  ·have hltI:(k:Int)<2:=by omega
   have hrs:=fun (W:World) (hw:LW w w.heap.size gd A false (bestK A k).2 0 (bestK A k).1 v1 W)=>readSlot_is gd A k hlt W hw.disk hw.libs;have HBK:Hid (bestK A (k+1)=best (bestK A k) (slotM A k)):=rfl;have HO1:Hid (okN ((bestK A k).2:Nat)):=HK.out k;have HO2:Hid (okN ((slotM A k).2:Nat)):=HSO.out k;generalize hBN0:bestK A (k+1)=BN at *;have HBN0:Hid (bestK A (k+1)=BN):=hBN0;clear hBN0;generalize bestK A k=B0 at *;generalize slotM A k=SM at *;obtain ⟨bst,bn⟩:=B0;obtain ⟨sst,sn⟩:=SM;simp only at hrs HO1 HO2;obtain ⟨ba,ca,rfl⟩:=RowsK.slice HLW.out.store.fam;go_wp2_with fail
   refine (hrs _ HLW.out).mono ?_;rintro e1 w1 ⟨v2,rfl,hf,hb1⟩;obtain ⟨b2,c2,rfl⟩:=RowsK.slice hf;have HLW1:Hid _:=HLW.out.on hb1;have HF1:Hid (Fams (w.heap.size+1) w1 (.slice b2 sst.fams.length c2) sst.fams):=RowsK.mono hf HLW.out.store.lt;clear hf hb1 hrs HLW;unfold stV;have HLW2:Hid _:=HLW1.out.on (w':=w1.alloc (.cells #[.int .i64 sst.clock,.int .i64 sst.next,.slice b2 sst.fams.length c2] 36)) ((Below.refl _ _).alloc (Nat.le_refl _) _);have HF2:Hid (Fams (w.heap.size+1) (w1.alloc (.cells #[.int .i64 sst.clock,.int .i64 sst.next,.slice b2 sst.fams.length c2] 36)) (.slice b2 sst.fams.length c2) sst.fams):=RowsK.below HF1.out ((Below.refl _ _).alloc (Nat.le_refl _) _) (Nat.le_refl _);have p2:=HLW2.out.store.p2;have p4:=HLW2.out.store.p4;have p5:=HLW2.out.store.p5;have p6:=HLW2.out.store.p6;have pf:=HLW2.out.store.pf;by_cases hlts:bn<sn
   ·have hsI:(bn:Int)<(sn:Int):=by omega
    have HBN:Hid (BN=(sst,sn)):=by show BN=_; rw [HBK.out]; unfold best; simp only [if_pos hlts]
    have HNEW:Hid _:=(HLW2.out.over (below3 w.heap.size 4 5 6 (.int .i64 sst.clock) (.int .i64 sst.next) (.slice b2 sst.fams.length c2) _) (HLW2.out.store.putState HF2.out));have HNEW2:Hid _:=HNEW.out.over (below1 w.heap.size 2 (.int .i64 sn) _) (HNEW.out.store.putSaves (sv':=sn));clear hlts;go_wp2_with fail
    go_roundg (gk - 1)
    case measure=>have:=HJ.out; omega
    case rel=>exact ⟨k+1,_,by have:=HJ.out; omega,by go_num,by rw [HBN0.out,HBN.out]; exact HNEW2.out⟩
   ·have hsI:¬ (bn:Int)<(sn:Int):=by omega
    have HBN:Hid (BN=(bst,bn)):=by show BN=_; rw [HBK.out]; unfold best; simp only [if_neg hlts]
    clear hlts;go_wp2_with fail
    go_roundg (gk - 1)
    case measure=>have:=HJ.out; omega
    case rel=>exact ⟨k+1,_,by have:=HJ.out; omega,by go_num,by rw [HBN0.out,HBN.out]; exact HLW2.out⟩
  ·obtain rfl:k=2:=by have:=HJ.out; omega
   have hlog:=fun (W:World) (hw:LW W w.heap.size gd A false (bestK A 2).2 0 (bestK A 2).1 v1 W)=>readLog_is w.heap.size gd A false (bestK A 2).2 (bestK A 2).1 v1 W (HK.out 2) (HG.out 2).1 (HG.out 2).2 hw;have HSELF:Hid (LW wr w.heap.size gd A false (bestK A 2).2 0 (bestK A 2).1 v1 wr):=⟨HLW.out.disk,HLW.out.libs,HLW.out.store,HLW.out.ord,HLW.out.olds,Below.refl _ _⟩;go_wp2_with fail
   refine (hlog _ HSELF.out).mono ?_;rintro e2 w2 ⟨rfl,v',hlw⟩
   have HFIN:Hid (LW w w.heap.size gd A false (openM A).2.1 (openM A).2.2 (openM A).1 v' w2):=by
    rw [openM_is];exact ⟨hlw.disk,hlw.libs,hlw.store,hlw.ord,hlw.olds,HLW.out.below.trans hlw.below⟩
   clear hlw hlog;go_wp2_with fail
   go_ret2;exact ⟨_,_,rfl,Nat.le_refl _,HFIN.out⟩
end Go.Proofs.YtlailakofhenkabGreatDoor
