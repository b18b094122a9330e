import Derived.Test.YtlailakofhenkabGreatDoorB23
set_option maxHeartbeats 4000000
set_option maxRecDepth 100000
namespace Go.Proofs.YtlailakofhenkabGreatDoor
open Go.RowKit Tok
def BigsR (n:Nat):Prop:=2<n∧4<n∧5<n
theorem BigsR.le {n m:Nat} (h:BigsR n) (k:n≤m):BigsR m:=⟨Nat.lt_of_lt_of_le h.1 k,Nat.lt_of_lt_of_le h.2.1 k,Nat.lt_of_lt_of_le h.2.2 k⟩
structure LibsR (w:World):Prop where
 base:Libs w
 big:BigsR w.heap.size
 len:∃ m,w.cell? ⟨2,0,none⟩=some (.int .i64 m)
 syn:∃ ev,w.cell? ⟨4,0,none⟩=some ev∧(ev=.nilIface∨∃ te pe,ev=.iface te pe)
 rng:∃ ev,w.cell? ⟨5,0,none⟩=some ev∧(ev=.nilIface∨∃ te pe,ev=.iface te pe)
theorem LibsR.below {B:Nat} {w w':World} (h:LibsR w) (hb:Below B w w') (hB:w.heap.size=B):LibsR w' where
 base:=h.base.below hb (hB ▸ h.base.big)
 big:=h.big.le hb.size
 len:=by
  obtain ⟨m,hm⟩:=h.len;exact ⟨m,(hb.cell (p:=⟨2,0,none⟩) (hB ▸ h.big.1)).trans hm⟩
 syn:=by
  obtain ⟨m,hm,k⟩:=h.syn;exact ⟨m,(hb.cell (p:=⟨4,0,none⟩) (hB ▸ h.big.2.1)).trans hm,k⟩
 rng:=by
  obtain ⟨m,hm,k⟩:=h.rng;exact ⟨m,(hb.cell (p:=⟨5,0,none⟩) (hB ▸ h.big.2.2)).trans hm,k⟩
theorem atoi_yes (s:ByteArray) (v:Int) (w:World) (hs:s.size≤10000) (h:Lib.atoiAll s.data.toList=.ok v):Calls Tryz.prog 181 #[.string s] w fun e w'=>e=.returned (.tuple #[.int .i64 v,.nilIface])∧Below w.heap.size w w':=by
 refine (Tryz.strconv_Atoi_ok s (by omega) v h w).mono ?_
 rintro e w' ⟨rfl,rfl | ⟨t,rfl⟩⟩
 ·exact ⟨rfl,Below.refl _ _⟩
 ·exact ⟨rfl,Joins.below_bytesWorld _ _ _ _ (Nat.le_refl _)⟩
theorem atoi_no (s:ByteArray) (w:World) (hs:s.size≤10000) (hL:LibsR w) (h:∀ v,Lib.atoiAll s.data.toList≠.ok v):Calls Tryz.prog 181 #[.string s] w fun e w'=>∃ v te pe,e=.returned (.tuple #[.int .i64 v,.iface te pe])∧Below w.heap.size w w':=by
 cases hc:Lib.atoiAll s.data.toList with
 |ok v=>exact absurd hc (h v)
 |range=>
  obtain ⟨ev,h1,h2⟩:=hL.rng;refine (Tryz.strconv_Atoi_range s (by omega) hc ev w h1 h2).mono ?_
  rintro e w' ⟨N,rfl,_,_,hb⟩;exact ⟨_,_,_,rfl,hb⟩
 |_=>
  obtain ⟨ev,h1,h2⟩:=hL.syn;refine (Tryz.strconv_Atoi_syntax s (by omega) hc ev w h1 h2).mono ?_
  rintro e w' ⟨N,rfl,_,_,hb⟩;exact ⟨_,_,_,rfl,hb⟩
theorem split_len (c:UInt8) (k:Nat) (l:List UInt8):∀ x∈Lib.splitK [c] 0 k l,x.length≤l.length:=by
 induction k generalizing l with
 |zero=>intro x hx; simp [Lib.splitK] at hx; subst hx; exact Nat.le_refl _
 |succ k ih=>
  rcases nilOr c l with h | ⟨a,b,rfl,h⟩
  ·rw [splitK_no h]; intro x hx; simp at hx; subst hx; exact Nat.le_refl _
  ·rw [splitK_at b h]
   intro x hx;simp only [List.mem_cons] at hx;rcases hx with rfl | hx
   ·simp
   ·have:=ih b x hx
    simp; omega
theorem isHex_is (c:UInt8) (w:World):Calls Tryz.prog 224 #[.int .u8 (c.toNat:Int)] w fun e w'=>e=.returned (.bool (isHexB c))∧w'=w:=by
 have HD:Hid (isHexB c=(decide (48≤c.toNat∧c.toNat≤57) || decide (97≤c.toNat∧c.toNat≤102))):=rfl;generalize c.toNat=n at *;go_enter Tryz.func224,Tryz.ntmps224
 go_wp2_with fail
 all_goals (go_ret; refine ⟨congrArg Ending.returned (congrArg Value.bool ?_),rfl⟩; rw [HD.out,Bool.eq_iff_iff]; simp; try omega)
theorem readNumbers_is (s:ByteArray) (w:World) (hs:s.size≤5000) (hL:LibsR w):Calls Tryz.prog 223 #[.string s] w fun e w'=>Below w.heap.size w w'∧
 ((∃ (ns:List Int) (g cap:Nat),e=.returned (.tuple #[.slice (some ⟨g,0,none⟩) ns.length cap,.bool true])∧Lib.splitK [46] 0 2 s.data.toList=ns.map Lib.itoa∧(∀ n∈ns,okN n)∧RowAt w.heap.size w' g cap ns.length (ns.map (Value.int .i64)))∨
  (e=.returned (.tuple #[.slice none 0 0,.bool false])∧¬ ∃ ns:List Int,Lib.splitK [46] 0 2 s.data.toList=ns.map Lib.itoa∧∀ n∈ns,okN n)):=by
 obtain ⟨m,hm⟩:=hL.len;have HL:Hid (LibsR w):=hL;have hps:=Lib.splitB_data ⟨#[46]⟩ 0 (min 3 (s.size+1) - 1) s
 have e3:Lib.splitK [46] 0 (min 3 (s.size+1) - 1) s.data.toList=Lib.splitK [46] 0 2 s.data.toList:=by
  have:=splitK_three 46 s.data.toList;rwa [show s.data.toList.length=s.size from Array.length_toList] at this
 rw [show (⟨#[46]⟩:ByteArray).data.toList= [46] from rfl,e3] at hps
 have hlenN:=Lib.splitB_length_le ⟨#[46]⟩ 0 (min 3 (s.size+1) - 1) s;have hsp:=Tryz.strings_SplitN s ⟨#[46]⟩ 3 m w (by omega) hm (by decide) (by decide) (by decide)
 generalize hP:Lib.splitB ⟨#[46]⟩ 0 (min 3 (s.size+1) - 1) s=ps at *;have HP:Hid (ps.map (·.data.toList)=Lib.splitK [46] 0 2 s.data.toList):=hps;have hN:ps.length≤min 3 (s.size+1):=by omega
 have hN3:ps.length≤3:=by omega
 generalize min 3 (s.size+1)=N at *;have hmk:=run_make_row' (P:=Tryz.prog) 23 3 (.int .i64 0) 8 Tryz.underlying23 (by kernel_rfl) rfl .i64 .i64 ps.length (by omega) (by omega)
 clear hps e3 hP hL;go_enter Tryz.func223,Tryz.ntmps223
 go_wp2_with fail
 refine hsp.mono ?_;rintro e w1 ⟨rfl,rfl⟩;clear hsp;go_wp2_with fail
 have hw0:Below w.heap.size w ((w.alloc (.cells (Lib.cellsOf ps N) 9)).alloc (.cells (madeCells #[.int .i64 0] ps.length) 3)):=by
  repeat (first | exact Below.refl _ _ | refine Below.alloc ?_ (by simp) _)
 have hcl:∀ i x,ps[i]?=some x→((w.alloc (.cells (Lib.cellsOf ps N) 9)).alloc (.cells (madeCells #[.int .i64 0] ps.length) 3)).cell? ⟨w.heap.size,i,none⟩=some (.string x):=by
  intro i x hx;have hi:=(List.getElem?_eq_some_iff.1 hx).1;rw [World.cell?_alloc_lt _ _ _ (by simp),World.cell?_alloc_new]
  unfold Lib.cellsOf;rw [List.getElem?_toArray,List.getElem?_append_left (by simpa using hi),List.getElem?_map,hx]
  rfl
 have hrow0:RowAt w.heap.size ((w.alloc (.cells (Lib.cellsOf ps N) 9)).alloc (.cells (madeCells #[.int .i64 0] ps.length) 3)) (w.heap.size+1) ps.length ps.length ((List.replicate ps.length (0:Int)).map (Value.int .i64)):=by
  have hmc:(madeCells #[.int .i64 0] ps.length).toList=List.replicate ps.length (.int .i64 0):=toList_madeCells_one _ _
  have hcell:∀ j,j<ps.length→((w.alloc (.cells (Lib.cellsOf ps N) 9)).alloc (.cells (madeCells #[.int .i64 0] ps.length) 3)).cell? ⟨w.heap.size+1,j,none⟩=some (.int .i64 0):=by
   intro j hj;rw [World.cell?_alloc_at _ _ _ _ (by simp)]
   rw [← Array.getElem?_toList,hmc,List.getElem?_replicate,if_pos hj]
  refine ⟨by omega,by simp,by simp,Nat.le_refl _,by unfold maxLen; omega,fun j u hj=>?_,fun j hj=>⟨by rw [hcell j hj]; rfl,World.frozen?_alloc_at _ _ _ _ (by simp)⟩⟩
  have hjl:=(List.getElem?_eq_some_iff.1 hj).1;simp only [List.map_replicate,List.length_replicate] at hjl;rw [List.map_replicate,List.getElem?_replicate,if_pos hjl] at hj;rw [hcell j hjl]; exact hj
 have hsz0:w.heap.size+1<((w.alloc (.cells (Lib.cellsOf ps N) 9)).alloc (.cells (madeCells #[.int .i64 0] ps.length) 3)).heap.size:=by simp
 generalize ((w.alloc (.cells (Lib.cellsOf ps N) 9)).alloc (.cells (madeCells #[.int .i64 0] ps.length) 3))=W at *;clear hmk
 go_loopg [17] ps.length (fun gk iv wr=>∃ (j:Nat) (ns:List Int),j+gk=ps.length∧iv=.int .i64 j∧ns.length=j∧(ps.take j).map (·.data.toList)=ns.map Lib.itoa∧(∀ n∈ns,okN n)∧Below w.heap.size w wr∧
  (∀ i x,ps[i]?=some x→wr.cell? ⟨w.heap.size,i,none⟩=some (.string x))∧w.heap.size+1<wr.heap.size∧RowAt w.heap.size wr (w.heap.size+1) ps.length ps.length ((ns ++ List.replicate gk 0).map (Value.int .i64)))
 case atStart=>exact ⟨0,[],by omega,rfl,rfl,by simp,by simp,hw0,hcl,hsz0,by simpa using hrow0⟩
 case round=>
  obtain ⟨j,ns,hk,rfl,hns,hit,hok,hb,hcl,hsz,hrow⟩:=hrel;have HK:Hid (j+gk=ps.length):=hk;have HNS:Hid (ns.length=j):=hns;have HIT:Hid ((ps.take j).map (·.data.toList)=ns.map Lib.itoa):=hit;have HOK:Hid (∀ n∈ns,okN n):=hok;have HB:Hid (Below w.heap.size w wr):=hb;have HCL:Hid (∀ i x,ps[i]?=some x→wr.cell? ⟨w.heap.size,i,none⟩=some (.string x)):=hcl;have HSZ:Hid (w.heap.size+1<wr.heap.size):=hsz;have HROW:Hid (RowAt w.heap.size wr (w.heap.size+1) ps.length ps.length ((ns ++ List.replicate gk 0).map (Value.int .i64))):=hrow;have hjle:j≤ps.length:=by omega
  clear hk hns hit hok hb hcl hsz hrow hw0 hrow0 hsz0;by_cases hj:j<ps.length
  ·obtain ⟨x,hx⟩:∃ x,ps[j]?=some x:=⟨_,List.getElem?_eq_getElem hj⟩
   have HX:Hid (ps[j]?=some x):=hx;have hc:=HCL.out j x hx
   have hxs:x.size≤5000:=by
    have hmem:x.data.toList∈Lib.splitK [46] 0 2 s.data.toList:=by
     rw [← HP.out];exact List.mem_map.2 ⟨x,List.mem_of_getElem? hx,rfl⟩
    have:=split_len 46 2 s.data.toList _ hmem;have e1:x.data.toList.length=x.size:=Array.length_toList;have e2:s.data.toList.length=s.size:=Array.length_toList;omega
   clear hx;have hjI:(j:Int)<(ps.length:Int):=by omega
   have HLr:=HL.out.below HB.out rfl;by_cases hgood:∃ n,okN n∧Lib.itoa n=x.data.toList
   ·obtain ⟨n,hn,hnx⟩:=hgood
    have hat:Lib.atoiAll x.data.toList=.ok n:=by rw [← hnx]; exact atoi_itoa hn.1 (by have:=hn.2; omega)
    obtain rfl:x=⟨(Lib.itoa n).toArray⟩:=bstr hnx.symm;have hd:okB n=true:=okB_t hn;have HN:Hid (okN n):=hn;clear hnx hn;go_wp2_with fail
    refine (atoi_yes _ n _ (by omega) hat).mono ?_
    rintro e w2 ⟨rfl,hb2⟩;have HB2:Hid (Below w.heap.size w w2):=HB.out.trans (hb2.mono HB.out.size);have HBr2:Hid (Below wr.heap.size wr w2):=hb2;clear hb2 hat;go_wp2_with fail
    refine (inBounds_is n _).mono ?_;rintro e w3 ⟨rfl,rfl⟩;rw [hd];go_wp2_with fail
    refine (itoa_is n _ HN.out.1 (by have:=HN.out.2; omega) (HL.out.below HB2.out rfl).base).mono ?_
    rintro e w3 ⟨rfl,hb3⟩;have HB3:Hid (Below w.heap.size w w3):=HB2.out.trans (hb3.mono HB2.out.size);have HBr3:Hid (Below wr.heap.size wr w3):=HBr2.out.trans (hb3.mono HBr2.out.size);clear hb3;have HROW3:Hid (RowAt w.heap.size w3 (w.heap.size+1) ps.length ps.length ((ns ++ List.replicate gk 0).map (Value.int .i64))):=HROW.out.below HBr3.out HSZ.out;have hthere:=HROW3.out.there j hj;obtain ⟨old,hold⟩:=Option.isSome_iff_exists.1 hthere.1;have hfz:=hthere.2;clear hthere;go_wp2_with fail
    go_roundg (gk - 1)
    case measure=>have:=HK.out; omega
    case rel=>
     have hk:=HK.out;have hns:=HNS.out;obtain ⟨g',rfl⟩:∃ g',gk=g'+1:=⟨gk - 1,by omega⟩
     refine ⟨j+1,ns ++ [n],by omega,by go_num,by simp [hns],?_,?_,?_,?_,?_,?_⟩
     ·rw [List.take_add_one,HX.out,List.map_append,HIT.out]; simp
     ·intro y hy
      simp only [List.mem_append,List.mem_singleton] at hy;rcases hy with hy | rfl
      ·exact HOK.out y hy
      ·exact HN.out
     ·exact HB3.out.setCell (p:=⟨w.heap.size+1,j,none⟩) (by simp) _
     ·intro i x hx
      refine (((Below.refl (w.heap.size+1) w3).setCell (p:=⟨w.heap.size+1,j,none⟩) (Nat.le_refl _) _).cell (p:=⟨w.heap.size,i,none⟩) (by simp)).trans ?_
      exact (HBr3.out.cell (p:=⟨w.heap.size,i,none⟩) (by have:=HSZ.out; simp; omega)).trans (HCL.out i x hx)
     ·have h1:=HSZ.out
      have h2:=HBr3.out.size;simp [World.setCell]; omega
     ·have h:=HROW3.out.store hj (.int .i64 n)
      have e1:((ns ++ List.replicate (g'+1) 0).map (Value.int .i64)).set j (.int .i64 n)=((ns ++ [n] ++ List.replicate g' 0).map (Value.int .i64)):=by
       rw [List.map_append,List.set_append_right _ _ (by simp [hns])]
       simp [hns,List.replicate_succ]
      rw [e1] at h;exact h
   ·have HBAD:Hid (¬ ∃ ns:List Int,Lib.splitK [46] 0 2 s.data.toList=ns.map Lib.itoa∧∀ n∈ns,okN n):=by
     rintro ⟨ms,h1,h2⟩;rw [← HP.out] at h1;have h3:(ps.map (·.data.toList))[j]?=(ms.map Lib.itoa)[j]?:=by rw [h1]
     rw [List.getElem?_map,List.getElem?_map,HX.out] at h3
     cases hm2:ms[j]? with
     |none=>rw [hm2] at h3; cases h3
     |some y=>
      rw [hm2] at h3;exact hgood ⟨y,h2 y (List.mem_of_getElem? hm2),(Option.some.inj h3).symm⟩
    by_cases hat:∃ v,Lib.atoiAll x.data.toList=.ok v
    ·obtain ⟨v,hat⟩:=hat
     go_wp2_with fail
     refine (atoi_yes _ v _ (by omega) hat).mono ?_
     rintro e w2 ⟨rfl,hb2⟩;have HB2:Hid (Below w.heap.size w w2):=HB.out.trans (hb2.mono HB.out.size);obtain ⟨hv0,hv1⟩:=Lib.atoiAll_bounds hat;have HV:Hid (0≤v→v≤9223372036854775807):=fun _=>hv1;clear hb2 hat hv0 hv1;by_cases hv:okN v
     ·have hd:okB v=true:=okB_t hv
      have hne:(Lib.itoa v == x.toList)=false:=by
       rw [beq_eq_false_iff_ne,ByteArray.toList_eq];intro he;exact hgood ⟨v,hv,he⟩
      have HN:Hid (okN v):=hv;clear hv hgood;go_wp2_with fail
      refine (inBounds_is v _).mono ?_;rintro e w3 ⟨rfl,rfl⟩;rw [hd];go_wp2_with fail
      refine (itoa_is v _ HN.out.1 (HV.out HN.out.1) (HL.out.below HB2.out rfl).base).mono ?_;rintro e w3 ⟨rfl,hb3⟩;have HB3:Hid (Below w.heap.size w w3):=HB2.out.trans (hb3.mono HB2.out.size);clear hb3;go_wp2_with fail
      go_ret2;exact ⟨HB3.out,.inr ⟨rfl,HBAD.out⟩⟩
     ·have hd:okB v=false:=okB_f hv
      clear hv hgood;go_wp2_with fail
      refine (inBounds_is v _).mono ?_;rintro e w3 ⟨rfl,rfl⟩;rw [hd];go_wp2_with fail
      go_ret2;exact ⟨HB2.out,.inr ⟨rfl,HBAD.out⟩⟩
    ·have hat':∀ v,Lib.atoiAll x.data.toList≠.ok v:=fun v h=>hat ⟨v,h⟩
     clear hgood hat;go_wp2_with fail
     refine (atoi_no _ _ (by omega) HLr hat').mono ?_
     rintro e w2 ⟨v,te,pe,rfl,hb2⟩;have HB2:Hid (Below w.heap.size w w2):=HB.out.trans (hb2.mono HB.out.size);clear hb2 hat';go_wp2_with fail
     go_ret2;exact ⟨HB2.out,.inr ⟨rfl,HBAD.out⟩⟩
  ·obtain rfl:j=ps.length:=by omega
   go_wp2_with fail
   go_ret2;refine ⟨HB.out,.inl ⟨ns,w.heap.size+1,ps.length,?_,?_,HOK.out,?_⟩⟩
   ·rw [HNS.out]; rfl
   ·rw [← HP.out,← HIT.out,List.take_of_length_le (Nat.le_refl _)]
   ·have h:=HROW.out
    have e0:gk=0:=by have:=HK.out; omega
    rw [e0,List.replicate_zero,List.append_nil] at h;rw [HNS.out];exact h
theorem split_of2 {l x y:List UInt8} (h:Lib.splitK [46] 0 2 l= [x,y]):l=x ++ 46::y:=by
 rcases nilOr 46 l with hn | ⟨a,b,rfl,hn⟩
 ·rw [splitK_no hn] at h; simp at h
 ·rw [splitK_at b hn] at h
  rcases nilOr 46 b with hm | ⟨c,d,rfl,hm⟩
  ·rw [splitK_no hm] at h; simp at h; rw [h.1,h.2]
  ·rw [splitK_at d hm] at h; simp [Lib.splitK] at h
theorem split_of3 {l x y z:List UInt8} (h:Lib.splitK [46] 0 2 l= [x,y,z]):l=x ++ 46::(y ++ 46::z):=by
 rcases nilOr 46 l with hn | ⟨a,b,rfl,hn⟩
 ·rw [splitK_no hn] at h; simp at h
 ·rw [splitK_at b hn] at h
  rcases nilOr 46 b with hm | ⟨c,d,rfl,hm⟩
  ·rw [splitK_no hm] at h; simp at h
  ·rw [splitK_at d hm] at h; simp [Lib.splitK] at h; rw [h.1,h.2.1,h.2.2]
theorem split_two {x y:List UInt8} (hx:46∉x) (hy:46∉y):Lib.splitK [46] 0 2 (x ++ 46::y)= [x,y]:=by
 rw [splitK_at y hx,splitK_no hy]
theorem split_three {x y z:List UInt8} (hx:46∉x) (hy:46∉y):Lib.splitK [46] 0 2 (x ++ 46::(y ++ 46::z))= [x,y,z]:=by
 rw [splitK_at _ hx,splitK_at _ hy]; rfl
theorem body_must {t:T} (h:may t):∃ (letter b:List UInt8) (ns:List Int),body t=letter ++ 46::b∧(46:UInt8)∉letter∧Lib.splitK [46] 0 2 b=ns.map Lib.itoa∧(∀ n∈ns,okN n)∧((letter= [114]∧ns.length=2)∨(letter= [97]∧ns.length=3)):=by
 obtain ⟨k,f,g,e⟩:=t;obtain ⟨hk,hf,hg⟩:=h;simp only at hk hf hg;rcases hk with ⟨rfl,rfl⟩ | ⟨rfl,he⟩
 ·refine ⟨[114],Lib.itoa f ++ 46::Lib.itoa g,[f,g],rfl,by simp,?_,by simp [hf,hg],.inl ⟨rfl,rfl⟩⟩
  exact split_two (itoa_nodot hf.1) (itoa_nodot hg.1)
 ·refine ⟨[97],Lib.itoa f ++ 46::(Lib.itoa g ++ 46::Lib.itoa e),[f,g,e],?_,by simp,?_,by simp [hf,hg,he],.inr ⟨rfl,rfl⟩⟩
  ·unfold body; rw [if_neg (by simp)]; rfl
  ·exact split_three (itoa_nodot hf.1) (itoa_nodot hg.1)
theorem itoa_map_inj:∀ {a b:List Int},(∀ n∈a,okN n)→(∀ n∈b,okN n)→a.map Lib.itoa=b.map Lib.itoa→a=b
 |[],[],_,_,_=>rfl
 |[],_::_,_,_,h=>by simp at h
 |_::_,[],_,_,h=>by simp at h
 |x::a,y::b,ha,hb,h=>by
  simp only [List.map_cons,List.cons.injEq] at h;have hx:=ha x (by simp)
  have hy:=hb y (by simp)
  rw [itoa_inj hx.1 (by have:=hx.2; omega) hy.1 (by have:=hy.2; omega) h.1,itoa_map_inj (fun n hn=>ha n (by simp [hn])) (fun n hn=>hb n (by simp [hn])) h.2]
theorem body_cut {s:List UInt8} {t:T} (h:may t) (he:body t=s):∃ ns:List Int,Lib.splitK [46] 0 2 (Lib.cut s [46]).2.1=ns.map Lib.itoa∧(∀ n∈ns,okN n)∧(((Lib.cut s [46]).1= [114]∧ns.length=2)∨((Lib.cut s [46]).1= [97]∧ns.length=3)):=by
 obtain ⟨letter,b,ns,e,hl,h1,h2,h3⟩:=body_must h;rw [← he,e,cut_at b hl];exact ⟨ns,h1,h2,h3⟩
theorem cut_back {s:List UInt8} (h:(Lib.cut s [46]).2.1≠ []):s=(Lib.cut s [46]).1 ++ 46::(Lib.cut s [46]).2.1:=by
 rcases nilOr 46 s with hn | ⟨a,b,rfl,hn⟩
 ·rw [cut_no hn] at h; simp at h
 ·rw [cut_at b hn]
theorem isTag_is (s:ByteArray) (w:World) (_hs:s.size≤5000):Calls Tryz.prog 144 #[.string s] w fun e w'=>e=.returned (.bool (hex16B s.data.toList))∧w'=w:=by
 have hlen:s.data.toList.length=s.size:=Array.length_toList;by_cases h16:s.size=16
 ·have HALL:Hid (∀ k (h:k<s.size),s.data.toList.take (k+1)=s.data.toList.take k ++ [s[k]]):=fun k h=>by rw [List.take_succ_eq_append_getElem (by simpa using h)]; rfl
  have HBAD:Hid (∀ k (h:k<s.size),¬ isHex s[k]→hex16B s.data.toList=false):=fun k h hn=>hex16B_f (fun hh=>hn (hh.2 _ (by
   show s.data[k]∈s.data.toList
   exact Array.mem_toList_iff.2 (Array.getElem_mem h))))
  have HGOOD:Hid ((∀ b∈s.data.toList.take 16,isHex b)→hex16B s.data.toList=true):=fun h=>hex16B_t ⟨by rw [hlen,h16],by rwa [List.take_of_length_le (by omega)] at h⟩
  have HLEN:Hid (s.data.toList.length=s.size):=hlen;have HSZ:Hid (s.size=16):=h16;clear hlen;go_enter Tryz.func144,Tryz.ntmps144
  go_wp2_with fail
  go_loopg [9] 16 (fun gk i wr=>∃ k:Nat,k+gk=16∧i=.int .i64 k∧(∀ b∈s.data.toList.take k,isHex b)∧wr=w)
  case atStart=>exact ⟨0,by omega,rfl,by simp,rfl⟩
  case round=>
   obtain ⟨k,hk,rfl,hall,rfl⟩:=hrel;have HK:Hid (k+gk=16):=hk;have hk16:k≤16:=by omega
   have HA:Hid (∀ b∈s.data.toList.take k,isHex b):=hall;clear hk hall;by_cases hlt:k<16
   ·have hks:k<s.size:=by omega
    by_cases hx:isHex s[k]
    ·have hd:isHexB s[k]=true:=isHexB_t hx
     have HX:Hid (isHex s[k]):=hx;clear hx;go_wp2_with fail
     refine (isHex_is _ _).mono ?_;rintro e w' ⟨rfl,rfl⟩;rw [hd];go_wp2_with fail
     go_roundg (gk - 1)
     case measure=>have:=HK.out; omega
     case rel=>
      refine ⟨k+1,by have:=HK.out; omega,by go_num,?_,rfl⟩
      rw [HALL.out k hks];intro b hb;simp only [List.mem_append,List.mem_singleton] at hb;rcases hb with hb | rfl
      ·exact HA.out b hb
      ·exact HX.out
    ·have hd:isHexB s[k]=false:=isHexB_f hx
     have HX:=HBAD.out k hks hx;have HX:Hid (hex16B s.data.toList=false):=HX;clear hx;go_wp2_with fail
     refine (isHex_is _ _).mono ?_;rintro e w' ⟨rfl,rfl⟩;rw [hd];go_wp2_with fail
     go_ret;exact ⟨by rw [HX.out]; rfl,rfl⟩
   ·obtain rfl:k=16:=by omega
    go_wp2_with fail
    go_ret;exact ⟨by rw [HGOOD.out HA.out]; rfl,rfl⟩
 ·have hd:hex16B s.data.toList=false:=hex16B_f (fun h=>h16 (by rw [← hlen]; exact h.1))
  have hne:¬ (s.size:Int)=16:=by omega
  clear h16;go_enter Tryz.func144,Tryz.ntmps144
  go_wp2_with fail
  go_ret;exact ⟨by rw [hd]; rfl,rfl⟩
theorem list2 {α:Type} {l:List α} (h:l.length=2):∃ x y,l= [x,y]:=by
 match l,h with
 |[x,y],_=>exact ⟨x,y,rfl⟩
theorem list3 {α:Type} {l:List α} (h:l.length=3):∃ x y z,l= [x,y,z]:=by
 match l,h with
 |[x,y,z],_=>exact ⟨x,y,z,rfl⟩
theorem bcell {W w1:World} (hb:Below W.heap.size W w1):(∀ b o,b<W.heap.size→w1.cell? ⟨b,o,none⟩=W.cell? ⟨b,o,none⟩)∧(∀ b o,b<W.heap.size→w1.frozen? ⟨b,o,none⟩=W.frozen? ⟨b,o,none⟩):=
 ⟨fun b o h=>hb.cell (p:=⟨b,o,none⟩) h,fun b o h=>hb.frozen (p:=⟨b,o,none⟩) h⟩
theorem readBody_is (s:ByteArray) (w:World) (hs:s.size≤5000) (hL:LibsR w):Calls Tryz.prog 143 #[.string s] w fun e w'=>Below w.heap.size w w'∧
 ((∃ t,e=.returned (.tuple #[tokV t,.bool true])∧may t∧body t=s.data.toList)∨(e=.returned (.tuple #[tokV zero,.bool false])∧∀ t,may t→body t≠s.data.toList)):=by
 have HL:Hid (LibsR w):=hL;have HCB:Hid ((Lib.cut s.data.toList [46]).2.1≠ []→s.data.toList=(Lib.cut s.data.toList [46]).1 ++ 46::(Lib.cut s.data.toList [46]).2.1):=cut_back;have HNO:Hid (∀ t,may t→body t=s.data.toList→∃ ns:List Int,Lib.splitK [46] 0 2 (Lib.cut s.data.toList [46]).2.1=ns.map Lib.itoa∧(∀ n∈ns,okN n)∧(((Lib.cut s.data.toList [46]).1= [114]∧ns.length=2)∨((Lib.cut s.data.toList [46]).1= [97]∧ns.length=3))):=fun t h1 h2=>body_cut h1 h2
 have hrl:(Lib.cut s.data.toList [46]).2.1.length≤s.data.toList.length:=by
  rcases nilOr 46 s.data.toList with hn | ⟨a,b,e,hn⟩
  ·rw [cut_no hn]; simp
  ·rw [e,cut_at b hn]; simp; omega
 rw [show s.data.toList.length=s.size from Array.length_toList] at hrl
 have hB0:Below w.heap.size w (w.alloc (.cells #[.int .i64 0,.int .i64 0,.int .i64 0,.int .i64 0] 142)):=(Below.refl _ _).alloc (Nat.le_refl _) _;have hLW:=hL.below hB0 rfl;obtain ⟨m,hm⟩:=hLW.len;have hcut:=Tryz.strings_Cut s ⟨#[46]⟩ m _ (by omega) hm
 rw [show (⟨#[46]⟩:ByteArray).data.toList= [46] from rfl] at hcut
 have HB0:Hid (Below w.heap.size w (w.alloc (.cells #[.int .i64 0,.int .i64 0,.int .i64 0,.int .i64 0] 142))):=hB0;have HLW:Hid (LibsR (w.alloc (.cells #[.int .i64 0,.int .i64 0,.int .i64 0,.int .i64 0] 142))):=hLW;generalize (Lib.cut s.data.toList [46]).1=L at *;generalize (Lib.cut s.data.toList [46]).2.1=R at *;generalize (Lib.cut s.data.toList [46]).2.2=F at *;clear hL hB0 hLW hm;go_enter Tryz.func143,Tryz.ntmps143
 go_wp2_with fail
 refine hcut.mono ?_;rintro e w1 ⟨rfl,d1,rfl⟩;have HB1:Hid (Below w.heap.size w (World.drewN (w.alloc (.cells #[.int .i64 0,.int .i64 0,.int .i64 0,.int .i64 0] 142)) d1)):=below_drewN HB0.out d1;have hLW1:=HL.out.below HB1.out rfl;clear hcut;go_wp2_with fail
 refine (readNumbers_is ⟨R.toArray⟩ _ (by simp [ByteArray.size]; omega) hLW1).mono ?_
 rintro e w2 ⟨hb2,⟨ns,g,cap,rfl,hsp,hok,hrow⟩ | ⟨rfl,hbad⟩⟩
 ·obtain ⟨hc,hf⟩:=bcell hb2
  have HB2:Hid (Below w.heap.size w w2):=HB1.out.trans (hb2.mono HB1.out.size);have hz:w.heap.size+1≤w2.heap.size:=by have:=hb2.size; simp at this; omega
  clear hb2 hLW1
  have HNB:Hid (¬ ((L= [114]∧ns.length=2)∨(L= [97]∧ns.length=3))→∀ t,may t→body t≠s.data.toList):=by
   intro hn t ht he;obtain ⟨ns',e1,e2,e3⟩:=HNO.out t ht he;obtain rfl:=itoa_map_inj e2 hok (e1.symm.trans hsp);exact hn e3
  have HRB:Hid (s.data.toList=L ++ 46::R∨R= []):=by
   by_cases h:R= []
   ·exact .inr h
   ·exact .inl (HCB.out h)
  by_cases h1:L= [114]∧ns.length=2
  ·obtain ⟨rfl,hl⟩:=h1
   obtain ⟨x,y,rfl⟩:=list2 hl;have c0:=hrow.holds 0 _ rfl;have c1:=hrow.holds 1 _ rfl
   have HR:Hid (s.data.toList=body ⟨1,x,y,0⟩∧may ⟨1,x,y,0⟩):=by
    have e:=split_of2 hsp;refine ⟨?_,.inl ⟨rfl,rfl⟩,hok x (by simp),hok y (by simp)⟩
    rcases HRB.out with h | h
    ·rw [h,show R=_ from e]; rfl
    ·subst h; simp at e
   clear hsp hok hrow hl HRB HNB HNO HCB;go_wp2_with fail
   go_region
   go_wp2_with fail
   exact bodyPost_ret (v:=.tuple #[tokV ⟨1,x,y,0⟩,.bool true]) (by simp [results,Tryz.results143,go_sem,tokV,hc]) rfl ⟨((((HB2.out.setCell (Nat.le_refl _) _).setCell (Nat.le_refl _) _).setCell (Nat.le_refl _) _).setCell (Nat.le_refl _) _).drew,.inl ⟨_,rfl,HR.out.2,HR.out.1.symm⟩⟩
  ·by_cases h2:L= [97]∧ns.length=3
   ·obtain ⟨rfl,hl⟩:=h2
    obtain ⟨x,y,z,rfl⟩:=list3 hl;have c0:=hrow.holds 0 _ rfl;have c1:=hrow.holds 1 _ rfl;have c2:=hrow.holds 2 _ rfl
    have HR:Hid (s.data.toList=body ⟨2,x,y,z⟩∧may ⟨2,x,y,z⟩):=by
     have e:=split_of3 hsp;refine ⟨?_,.inr ⟨rfl,hok z (by simp)⟩,hok x (by simp),hok y (by simp)⟩
     rcases HRB.out with h | h
     ·rw [h,show R=_ from e]; rfl
     ·subst h; simp at e
    clear hsp hok hrow hl HRB HNB HNO HCB h1;go_wp2_with fail
    go_region
    go_wp2_with fail
    exact bodyPost_ret (v:=.tuple #[tokV ⟨2,x,y,z⟩,.bool true]) (by simp [results,Tryz.results143,go_sem,tokV,hc]) rfl ⟨((((HB2.out.setCell (Nat.le_refl _) _).setCell (Nat.le_refl _) _).setCell (Nat.le_refl _) _).setCell (Nat.le_refl _) _).drew,.inl ⟨_,rfl,HR.out.2,HR.out.1.symm⟩⟩
   ·have HX:Hid (∀ t,may t→body t≠s.data.toList):=HNB.out (fun h=>h.elim h1 h2)
    clear hsp hok hrow HRB HNB HNO HCB;go_wp2_with fail
    all_goals try (exfalso; simp_all; omega)
    all_goals
     exact bodyPost_ret (v:=.tuple #[tokV zero,.bool false]) (by simp [results,Tryz.results143,go_sem,tokV,zero,hc]) rfl ⟨((((HB2.out).setCell (Nat.le_refl _) _).setCell (Nat.le_refl _) _).setCell (Nat.le_refl _) _).setCell (Nat.le_refl _) _,.inr ⟨rfl,HX.out⟩⟩
 ·obtain ⟨hc,hf⟩:=bcell hb2
  have HB2:Hid (Below w.heap.size w w2):=HB1.out.trans (hb2.mono HB1.out.size);have hz:w.heap.size+1≤w2.heap.size:=by have:=hb2.size; simp at this; omega
  have HX:Hid (∀ t,may t→body t≠s.data.toList):=by
   intro t ht he;obtain ⟨ns',e1,e2,e3⟩:=HNO.out t ht he;exact hbad ⟨ns',e1,e2⟩
  clear hb2 hbad HNO HCB hLW1;go_wp2_with fail
  exact bodyPost_ret (v:=.tuple #[tokV zero,.bool false]) (by simp [results,Tryz.results143,go_sem,tokV,zero,hc]) rfl ⟨((((HB2.out).setCell (Nat.le_refl _) _).setCell (Nat.le_refl _) _).setCell (Nat.le_refl _) _).setCell (Nat.le_refl _) _,.inr ⟨rfl,HX.out⟩⟩
theorem ext_list (s:ByteArray) (i j:Nat):(s.extract i j).data.toList=(s.data.toList.drop i).take (j - i):=by
 simp
def errN:Nat→Int
 |0=>0
 |1=>3
 |_=>5
def errP:Nat→Value
 |0=>.nilIface
 |1=>.iface 47 (.int .i64 3)
 |_=>.iface 47 (.int .i64 5)
theorem readP_is (key:Int) (s:ByteArray) (w:World) (hs:s.size≤5000) (hL:LibsR w):Calls Tryz.prog 91 #[.int .i64 key,.string s] w fun e w'=>Below w.heap.size w w'∧
 ∃ t n,Out (tag key) s.data.toList t n∧e=.returned (.tuple #[tokV t,errP n]):=by
 have HL:Hid (LibsR w):=hL;have hB0:Below w.heap.size w (w.alloc (.cells #[.int .i64 0,.int .i64 0,.int .i64 0,.int .i64 0] 142)):=(Below.refl _ _).alloc (Nat.le_refl _) _;have HB0:Hid (Below w.heap.size w (w.alloc (.cells #[.int .i64 0,.int .i64 0,.int .i64 0,.int .i64 0] 142))):=hB0;have HLW:Hid (LibsR (w.alloc (.cells #[.int .i64 0,.int .i64 0,.int .i64 0,.int .i64 0] 142))):=hL.below hB0 rfl;clear hL hB0;have hlen:s.data.toList.length=s.size:=Array.length_toList;rcases lastOr 46 s.data.toList with hno | ⟨a,b,hab,hb⟩
 ·have hlast:=last_no hno
  have HF:Hid (∀ t tag,¬ Tok.Form s.data.toList t tag):=by
   intro t tag h;apply hno
   rw [h.2.2]; simp
  clear hno hlen;go_enter Tryz.func91,Tryz.ntmps91
  go_wp2_with fail
  refine (Tryz.strings_LastIndex_one s ⟨#[46]⟩ rfl (by omega) _).mono ?_
  rintro e w1 ⟨rfl,rfl⟩;have hl2:Lib.lastIndexByte s (((⟨#[46]⟩:ByteArray)[0]'(by decide)).toNat:Int)=-1:=hlast
  rw [hl2];clear hl2 hlast;go_wp2_with fail
  exact bodyPost_ret (v:=.tuple #[tokV zero,.iface 47 (.int .i64 3)]) (by simp [results,Tryz.results91,go_sem,tokV,zero]) rfl ⟨HB0.out,zero,1,Out.form HF.out,rfl⟩
 ·have hlast:=last_at hab hb
  have hsz:a.length+(b.length+1)=s.size:=by rw [← hlen,hab]; simp
  have HAB:Hid (s.data.toList=a ++ 46::b):=hab;have hx1:s.extract 0 a.length=⟨a.toArray⟩:=bstr (by rw [ext_list,hab]; simp)
  have hx2:s.extract (a.length+1) s.size=⟨b.toArray⟩:=bstr (by rw [ext_list,hab,← hsz,show a.length+(b.length+1) - (a.length+1)=b.length by omega]; simp)
  have HX1:Hid (s.extract 0 a.length=⟨a.toArray⟩):=hx1;have HX2:Hid (s.extract (a.length+1) s.size=⟨b.toArray⟩):=hx2;clear hx1 hx2;have HNB:Hid ((46:UInt8)∉b):=hb;clear hab hb;go_enter Tryz.func91,Tryz.ntmps91
  go_wp2_with fail
  refine (Tryz.strings_LastIndex_one s ⟨#[46]⟩ rfl (by omega) _).mono ?_
  rintro e w1 ⟨rfl,rfl⟩;have hl2:Lib.lastIndexByte s (((⟨#[46]⟩:ByteArray)[0]'(by decide)).toNat:Int)=a.length:=hlast
  rw [hl2];clear hl2 hlast;go_wp2_with fail
  go_region
  rw [HX1.out,HX2.out];have HB1:Hid (Below w.heap.size w ((w.alloc (.cells #[.int .i64 0,.int .i64 0,.int .i64 0,.int .i64 0] 142)).drew)):=HB0.out.drew;have hL1:=HL.out.below HB1.out rfl;go_wp2_with fail
  refine (readBody_is ⟨a.toArray⟩ _ (by simp [ByteArray.size]; omega) hL1).mono ?_
  rintro e w2 ⟨hb2,⟨t,rfl,htm,htb⟩ | ⟨rfl,hbad⟩⟩
  ·obtain ⟨hc,hf⟩:=bcell hb2
   have HB2:Hid (Below w.heap.size w w2):=HB1.out.trans (hb2.mono HB1.out.size);have hz:w.heap.size<w2.heap.size:=by have:=hb2.size; simp at this; omega
   have hz':w.heap.size≠w2.heap.size:=by omega
   have hz1:w.heap.size<w2.heap.size+1:=by omega
   clear hb2 hL1;unfold tokV;simp only;go_wp2_with fail
   have HF:Hid (∀ t' tag',Tok.Form s.data.toList t' tag'→t'=t∧tag'=b):=by
    intro t' tag' h;have e:=HAB.out.symm.trans h.2.2;obtain ⟨e1,e2⟩:=part_last e HNB.out (hex16_nodot h.2.1);exact ⟨body_inj h.1 htm (by rw [← e1,htb]),e2.symm⟩
   have HM:Hid (may t):=htm;have HTB:Hid (body t=a):=htb;clear htm htb;refine (isTag_is ⟨b.toArray⟩ _ (by simp [ByteArray.size]; omega)).mono ?_
   rintro e w3 ⟨rfl,rfl⟩;by_cases hx:hex16 b
   ·have hd:hex16B (⟨b.toArray⟩:ByteArray).data.toList=true:=hex16B_t hx
    rw [hd];have HX:Hid (hex16 b):=hx;clear hd hx;go_wp2_with fail
    refine (macTag_list key a _ (by omega)).mono ?_
    rintro e w4 ⟨rfl,hb4⟩;obtain ⟨hc4,hf4⟩:=bcell hb4;have HB4:Hid (Below w.heap.size w w4):=(HB2.out.alloc HB2.out.size _).trans (hb4.mono (Nat.le_trans HB2.out.size (by simp)))
    have hz4:w2.heap.size<w4.heap.size:=by have:=hb4.size; simp at this; omega
    clear hb4;go_wp2_with fail
    refine (same_any ⟨b.toArray⟩ ⟨(tag key a).toArray⟩ _ (by simp [ByteArray.size]; omega) (by simp [ByteArray.size,tag_len])).mono ?_
    rintro e w5 ⟨rfl,d5,rfl⟩;by_cases hg:b=tag key a
    ·have hd:decide ((⟨b.toArray⟩:ByteArray).data.toList=(⟨(tag key a).toArray⟩:ByteArray).data.toList)=true:=decide_eq_true hg
     rw [hd];have HG:Hid (Out (tag key) s.data.toList t 0):=Out.good t b ⟨HM.out,HX.out,by rw [HAB.out,HTB.out]⟩ (by rw [HTB.out]; exact hg)
     clear hd hg;go_wp2_with fail
     exact bodyPost_ret (v:=.tuple #[tokV t,.nilIface]) (by simp [results,Tryz.results91,go_sem,tokV,hc4,hc,hz,hz1]) rfl ⟨(((((below_drewN HB4.out _).setCell (Nat.le_refl _) _).setCell (Nat.le_refl _) _).setCell (Nat.le_refl _) _).setCell (Nat.le_refl _) _),t,0,HG.out,rfl⟩
    ·have hd:decide ((⟨b.toArray⟩:ByteArray).data.toList=(⟨(tag key a).toArray⟩:ByteArray).data.toList)=false:=decide_eq_false hg
     rw [hd];have HG:Hid (Out (tag key) s.data.toList zero 2):=Out.name t b ⟨HM.out,HX.out,by rw [HAB.out,HTB.out]⟩ (by rw [HTB.out]; exact hg)
     clear hd hg;go_wp2_with fail
     exact bodyPost_ret (v:=.tuple #[tokV zero,.iface 47 (.int .i64 5)]) (by simp [results,Tryz.results91,go_sem,tokV,zero,hc4,hc,hz,hz1]) rfl ⟨(((((below_drewN HB4.out _).setCell (Nat.le_refl _) _).setCell (Nat.le_refl _) _).setCell (Nat.le_refl _) _).setCell (Nat.le_refl _) _),zero,2,HG.out,rfl⟩
   ·have hd:hex16B (⟨b.toArray⟩:ByteArray).data.toList=false:=hex16B_f hx
    rw [hd];have HG:Hid (Out (tag key) s.data.toList zero 1):=Out.form (fun t' tag' h=>hx ((HF.out t' tag' h).2 ▸ h.2.1));clear hd hx;go_wp2_with fail
    exact bodyPost_ret (v:=.tuple #[tokV zero,.iface 47 (.int .i64 3)]) (by simp [results,Tryz.results91,go_sem,tokV,zero,hc,hz]) rfl ⟨((((HB2.out.setCell (Nat.le_refl _) _).setCell (Nat.le_refl _) _).setCell (Nat.le_refl _) _).setCell (Nat.le_refl _) _).alloc (by simpa using HB2.out.size) _,zero,1,HG.out,rfl⟩
  ·obtain ⟨hc,hf⟩:=bcell hb2
   have HB2:Hid (Below w.heap.size w w2):=HB1.out.trans (hb2.mono HB1.out.size);have hz:w.heap.size<w2.heap.size:=by have:=hb2.size; simp at this; omega
   have hz':w.heap.size≠w2.heap.size:=by omega
   have hz1:w.heap.size<w2.heap.size+1:=by omega
   clear hb2 hL1;unfold tokV zero;simp only;go_wp2_with fail
   have HG:Hid (Out (tag key) s.data.toList zero 1):=Out.form (fun t' tag' h=>by
    have e:=HAB.out.symm.trans h.2.2;obtain ⟨e1,e2⟩:=part_last e HNB.out (hex16_nodot h.2.1);exact hbad t' h.1 e1.symm)
   clear hbad;exact bodyPost_ret (v:=.tuple #[tokV zero,.iface 47 (.int .i64 3)]) (by simp [results,Tryz.results91,go_sem,tokV,zero,hc,hz]) rfl ⟨((((HB2.out.setCell (Nat.le_refl _) _).setCell (Nat.le_refl _) _).setCell (Nat.le_refl _) _).setCell (Nat.le_refl _) _).alloc (by simpa using HB2.out.size) _,zero,1,HG.out,rfl⟩
end Go.Proofs.YtlailakofhenkabGreatDoor
