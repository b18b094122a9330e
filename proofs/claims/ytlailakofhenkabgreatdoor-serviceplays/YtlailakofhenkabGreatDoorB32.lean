import Derived.Test.YtlailakofhenkabGreatDoorB31
set_option maxRecDepth 100000
set_option maxHeartbeats 4000000
namespace Go.Proofs.YtlailakofhenkabGreatDoor
open Go.RowKit Tok
theorem atoi_any (s:ByteArray) (w:World) (hs:s.size≤10000) (hL:LibsR w):Calls Tryz.prog 181 #[.string s] w fun e w'=>∃ v err,e=.returned (.tuple #[.int .i64 v,err])∧Below w.heap.size w w'∧∀ m,okN m→s.data.toList=Lib.itoa m→v=m:=by
 by_cases h:∃ v,Lib.atoiAll s.data.toList=.ok v
 ·obtain ⟨v,h⟩:=h
  refine (atoi_yes s v w hs h).mono ?_;rintro e w' ⟨rfl,hb⟩;refine ⟨v,_,rfl,hb,fun m hm he=>?_⟩;rw [he,atoi_itoa hm.1 (by have:=hm.2; omega)] at h
  injection h with h;exact h.symm
 ·refine (atoi_no s w hs hL (fun v hv=>h ⟨v,hv⟩)).mono ?_
  rintro e w' ⟨v,te,pe,rfl,hb⟩;refine ⟨v,_,rfl,hb,fun m hm he=>absurd ⟨m,?_⟩ h⟩;rw [he,atoi_itoa hm.1 (by have:=hm.2; omega)]
theorem Three.put0 {ps:List ByteArray} {n0 n1 n2 v:Int} {x:ByteArray} (h:Three (ps.map (·.data.toList)) 0 n0 n1 n2) (hx:ps[0]?=some x) (hv:∀ m,okN m→x.data.toList=Lib.itoa m→v=m):Three (ps.map (·.data.toList)) 1 v n1 n2:=by
 intro j m hj hm he;by_cases hjj:j=0
 ·subst hjj
  rw [List.getElem?_map,hx] at he
  have:=hv m hm (Option.some.inj he);simp [this]
 ·have:=h j m (by omega) hm he
  simp_all
theorem Three.put1 {ps:List ByteArray} {n0 n1 n2 v:Int} {x:ByteArray} (h:Three (ps.map (·.data.toList)) 1 n0 n1 n2) (hx:ps[1]?=some x) (hv:∀ m,okN m→x.data.toList=Lib.itoa m→v=m):Three (ps.map (·.data.toList)) 2 n0 v n2:=by
 intro j m hj hm he;by_cases hjj:j=1
 ·subst hjj
  rw [List.getElem?_map,hx] at he
  have:=hv m hm (Option.some.inj he);simp [this]
 ·have:=h j m (by omega) hm he
  simp_all
theorem Three.put2 {ps:List ByteArray} {n0 n1 n2 v:Int} {x:ByteArray} (h:Three (ps.map (·.data.toList)) 2 n0 n1 n2) (hx:ps[2]?=some x) (hv:∀ m,okN m→x.data.toList=Lib.itoa m→v=m):Three (ps.map (·.data.toList)) 3 n0 n1 v:=by
 intro j m hj hm he;by_cases hjj:j=2
 ·subst hjj
  rw [List.getElem?_map,hx] at he
  have:=hv m hm (Option.some.inj he);simp [this]
 ·have:=h j m (by omega) hm he
  simp_all
theorem Three.past {ws:List (List UInt8)} {n0 n1 n2:Int} {j:Nat} (h:Three ws j n0 n1 n2) (hj:3≤j):Three ws (j+1) n0 n1 n2:=by
 intro i m hi hm he;by_cases hij:i=j
 ·exact ⟨fun h=>by omega,fun h=>by omega,fun h=>by omega⟩
 ·exact h i m (by omega) hm he
structure RW (w:World) (ps:List ByteArray) (n0 n1 n2:Int) (wr:World):Prop where
 below:Below w.heap.size w wr
 size:w.heap.size+1+1<wr.heap.size
 words:∀ j x,ps[j]?=some x→wr.cell? ⟨w.heap.size+1,1+j,none⟩=some (.string x)
 c0:wr.cell? ⟨w.heap.size+1+1,0,none⟩=some (.int .i64 n0)
 c1:wr.cell? ⟨w.heap.size+1+1,1,none⟩=some (.int .i64 n1)
 c2:wr.cell? ⟨w.heap.size+1+1,2,none⟩=some (.int .i64 n2)
 cf:∀ i,wr.frozen? ⟨w.heap.size+1+1,i,none⟩=false
 b0:wr.cell? ⟨w.heap.size,0,none⟩=some (.int .i64 0)
 b1:wr.cell? ⟨w.heap.size,1,none⟩=some (.int .i64 0)
 b2:wr.cell? ⟨w.heap.size,2,none⟩=some (.int .i64 0)
 b3:wr.cell? ⟨w.heap.size,3,none⟩=some (.int .i64 0)
 bf:∀ i,wr.frozen? ⟨w.heap.size,i,none⟩=false
theorem RW.on {w:World} {ps:List ByteArray} {n0 n1 n2:Int} {wr w':World} (h:RW w ps n0 n1 n2 wr) (hb:Below wr.heap.size wr w'):RW w ps n0 n1 n2 w':=by
 have hs:=h.size;have hc:∀ b i,b<wr.heap.size→w'.cell? ⟨b,i,none⟩=wr.cell? ⟨b,i,none⟩:=fun b i hl=>hb.cell (p:=⟨b,i,none⟩) hl;have hf:∀ b i,b<wr.heap.size→w'.frozen? ⟨b,i,none⟩=wr.frozen? ⟨b,i,none⟩:=fun b i hl=>hb.frozen (p:=⟨b,i,none⟩) hl
 exact ⟨h.below.trans (hb.mono h.below.size),Nat.lt_of_lt_of_le h.size hb.size,fun j x hx=>by rw [hc _ _ (by omega)]; exact h.words j x hx,by rw [hc _ _ (by omega)]; exact h.c0,by rw [hc _ _ (by omega)]; exact h.c1,by rw [hc _ _ (by omega)]; exact h.c2,fun i=>by rw [hf _ _ (by omega)]; exact h.cf i,
  by rw [hc _ _ (by omega)]; exact h.b0,by rw [hc _ _ (by omega)]; exact h.b1,by rw [hc _ _ (by omega)]; exact h.b2,by rw [hc _ _ (by omega)]; exact h.b3,fun i=>by rw [hf _ _ (by omega)]; exact h.bf i⟩
theorem RW.put0 {w:World} {ps:List ByteArray} {n0 n1 n2:Int} {wr:World} (h:RW w ps n0 n1 n2 wr) (v:Int):RW w ps v n1 n2 (wr.setCell ⟨w.heap.size+1+1,0,none⟩ (.int .i64 v)):=by
 have ho:∀ a:Addr,a≠⟨w.heap.size+1+1,0,none⟩→(wr.setCell ⟨w.heap.size+1+1,0,none⟩ (.int .i64 v)).cell? a=wr.cell? a:=fun a ha=>World.cell?_setCell_other _ _ _ _ (Ne.symm ha)
 exact ⟨h.below.setCell (by simp; omega) _,by simpa using h.size,fun j x hx=>(ho _ (by simp)).trans (h.words j x hx),World.cell?_setCell_same _ _ _ h.c0,(ho _ (by simp)).trans h.c1,(ho _ (by simp)).trans h.c2,
  fun i=>by simpa using h.cf i,(ho _ (by simp)).trans h.b0,(ho _ (by simp)).trans h.b1,(ho _ (by simp)).trans h.b2,(ho _ (by simp)).trans h.b3,fun i=>by simpa using h.bf i⟩
theorem RW.put1 {w:World} {ps:List ByteArray} {n0 n1 n2:Int} {wr:World} (h:RW w ps n0 n1 n2 wr) (v:Int):RW w ps n0 v n2 (wr.setCell ⟨w.heap.size+1+1,1,none⟩ (.int .i64 v)):=by
 have ho:∀ a:Addr,a≠⟨w.heap.size+1+1,1,none⟩→(wr.setCell ⟨w.heap.size+1+1,1,none⟩ (.int .i64 v)).cell? a=wr.cell? a:=fun a ha=>World.cell?_setCell_other _ _ _ _ (Ne.symm ha)
 exact ⟨h.below.setCell (by simp; omega) _,by simpa using h.size,fun j x hx=>(ho _ (by simp)).trans (h.words j x hx),(ho _ (by simp)).trans h.c0,World.cell?_setCell_same _ _ _ h.c1,(ho _ (by simp)).trans h.c2,
  fun i=>by simpa using h.cf i,(ho _ (by simp)).trans h.b0,(ho _ (by simp)).trans h.b1,(ho _ (by simp)).trans h.b2,(ho _ (by simp)).trans h.b3,fun i=>by simpa using h.bf i⟩
theorem RW.put2 {w:World} {ps:List ByteArray} {n0 n1 n2:Int} {wr:World} (h:RW w ps n0 n1 n2 wr) (v:Int):RW w ps n0 n1 v (wr.setCell ⟨w.heap.size+1+1,2,none⟩ (.int .i64 v)):=by
 have ho:∀ a:Addr,a≠⟨w.heap.size+1+1,2,none⟩→(wr.setCell ⟨w.heap.size+1+1,2,none⟩ (.int .i64 v)).cell? a=wr.cell? a:=fun a ha=>World.cell?_setCell_other _ _ _ _ (Ne.symm ha)
 exact ⟨h.below.setCell (by simp; omega) _,by simpa using h.size,fun j x hx=>(ho _ (by simp)).trans (h.words j x hx),(ho _ (by simp)).trans h.c0,(ho _ (by simp)).trans h.c1,World.cell?_setCell_same _ _ _ h.c2,
  fun i=>by simpa using h.cf i,(ho _ (by simp)).trans h.b0,(ho _ (by simp)).trans h.b1,(ho _ (by simp)).trans h.b2,(ho _ (by simp)).trans h.b3,fun i=>by simpa using h.bf i⟩
theorem rw_start (w:World) (p0:ByteArray) (ps:List ByteArray) (tw tn:TypeId):RW w ps 0 0 0 (((w.alloc (.cells #[.int .i64 0,.int .i64 0,.int .i64 0,.int .i64 0] 137)).alloc (.cells ((p0::ps).map Value.string).toArray tw)).alloc (.cells #[.int .i64 0,.int .i64 0,.int .i64 0] tn)) where
 below:=by repeat (first | exact Below.refl _ _ | refine Below.alloc ?_ (by simp; try omega) _)
 size:=by simp
 words:=by
  intro j x hx;rw [World.cell?_alloc_lt _ _ _ (by simp),World.cell?_alloc_at _ _ _ _ (by simp)]
  simp [Nat.add_comm 1 j,hx]
 c0:=by rw [World.cell?_alloc_at _ _ _ _ (by simp)]; rfl
 c1:=by rw [World.cell?_alloc_at _ _ _ _ (by simp)]; rfl
 c2:=by rw [World.cell?_alloc_at _ _ _ _ (by simp)]; rfl
 cf:=fun i=>by rw [World.frozen?_alloc_at _ _ _ _ (by simp)]
 b0:=by rw [World.cell?_alloc_lt _ _ _ (by simp; omega),World.cell?_alloc_lt _ _ _ (by simp),World.cell?_alloc_new]; rfl
 b1:=by rw [World.cell?_alloc_lt _ _ _ (by simp; omega),World.cell?_alloc_lt _ _ _ (by simp),World.cell?_alloc_new]; rfl
 b2:=by rw [World.cell?_alloc_lt _ _ _ (by simp; omega),World.cell?_alloc_lt _ _ _ (by simp),World.cell?_alloc_new]; rfl
 b3:=by rw [World.cell?_alloc_lt _ _ _ (by simp; omega),World.cell?_alloc_lt _ _ _ (by simp),World.cell?_alloc_new]; rfl
 bf:=fun i=>by rw [World.frozen?_alloc_past _ _ _ (by simp; omega),World.frozen?_alloc_past _ _ _ (by simp),World.frozen?_alloc_at _ _ _ _ rfl]
theorem quiet_bodyR {W:World} (t:T) (ht:may t) (hL:Libs W):∀ d os,Calls Tryz.prog 133 #[tokV t] (Go.Sort.grow (redrawn W d) os) fun e w''=>e=.returned (.string ⟨(body t).toArray⟩)∧∃ p:Regrown,w''=Go.Sort.grow (redrawn W p.d) p.os:=
 fun d os=>Calls.regrown_of (bodyR_is t _ ht (hL.below (below_regrown W d os) hL.big))
theorem readR_is (key:Int) (s:ByteArray) (w:World) (hs:s.size≤5000) (hL:LibsR w):Calls Tryz.prog 131 #[.int .i64 key,.string s] w fun e w'=>Below w.heap.size w w'∧
 ∃ t n,Out (tag key) s.data.toList t n∧e=.returned (.tuple #[tokV t,.int .i64 (errN n)]):=by
 have HL:Hid (LibsR w):=hL;have hB0:Below w.heap.size w (w.alloc (.cells #[.int .i64 0,.int .i64 0,.int .i64 0,.int .i64 0] 137)):=(Below.refl _ _).alloc (Nat.le_refl _) _;have HB0:Hid (Below w.heap.size w (w.alloc (.cells #[.int .i64 0,.int .i64 0,.int .i64 0,.int .i64 0] 137))):=hB0;have HLW:Hid (LibsR (w.alloc (.cells #[.int .i64 0,.int .i64 0,.int .i64 0,.int .i64 0] 137))):=hL.below hB0 rfl;clear hL hB0;have hlen:s.data.toList.length=s.size:=Array.length_toList;rcases lastOr 46 s.data.toList with hno | ⟨a,b,hab,hb⟩
 ·have hlast:=last_no hno
  have HF:Hid (∀ t tag,¬ Tok.Form s.data.toList t tag):=by
   intro t tag h;apply hno
   rw [h.2.2]; simp
  clear hno hlen;go_enter Tryz.func131,Tryz.ntmps131
  go_wp2_with fail
  refine (Tryz.strings_LastIndexByte s 46 (by omega) _).mono ?_
  rintro e w1 ⟨rfl,rfl⟩;have hl2:Lib.lastIndexByte s 46=-1:=hlast;rw [hl2];clear hl2 hlast;go_wp2_with fail
  exact bodyPost_ret (v:=.tuple #[tokV zero,.int .i64 3]) (by simp [results,Tryz.results131,go_sem,tokV,zero]) rfl ⟨HB0.out,zero,1,Out.form HF.out,rfl⟩
 ·have hlast:=last_at hab hb
  have hsz:a.length+(b.length+1)=s.size:=by rw [← hlen,hab]; simp
  have HAB:Hid (s.data.toList=a ++ 46::b):=hab;have hx1:s.extract 0 a.length=⟨a.toArray⟩:=bstr (by rw [ext_list,hab]; simp)
  have hx2:s.extract (a.length+1) s.size=⟨b.toArray⟩:=bstr (by rw [ext_list,hab,← hsz,show a.length+(b.length+1) - (a.length+1)=b.length by omega]; simp)
  have HX1:Hid (s.extract 0 a.length=⟨a.toArray⟩):=hx1;have HX2:Hid (s.extract (a.length+1) s.size=⟨b.toArray⟩):=hx2;have HNB:Hid ((46:UInt8)∉b):=hb
  have HF:Hid (∀ t' tag',Tok.Form s.data.toList t' tag'→body t'=a∧tag'=b):=by
   intro t' tag' h;have e:=hab.symm.trans h.2.2;obtain ⟨e1,e2⟩:=part_last e hb (hex16_nodot h.2.1);exact ⟨e1.symm,e2.symm⟩
  clear hx1 hab hb;by_cases h16:b.length=16
  ·have hlb:(↑(⟨b.toArray⟩:ByteArray).size:Int)=16:=by simp [ByteArray.size,h16]
   go_enter Tryz.func131,Tryz.ntmps131
   go_wp2_with fail
   refine (Tryz.strings_LastIndexByte s 46 (by omega) _).mono ?_
   rintro e w1 ⟨rfl,rfl⟩;have hl2:Lib.lastIndexByte s 46=a.length:=hlast;rw [hl2];clear hl2 hlast;go_wp2_with fail
   have HB16:Hid (b.length=16):=h16;have HALL:Hid (∀ k (h:k<b.length),b.take (k+1)=b.take k ++ [b[k]]):=fun k h=>by rw [List.take_succ_eq_append_getElem h]
   have hb16:¬ b.length<16:=by omega
   clear hlb h16;go_loopg [30] 16 (fun gk i wr=>∃ k:Nat,k+gk=16∧i=.int .i64 k∧(∀ x∈b.take k,isHex x)∧wr=w.alloc (.cells #[.int .i64 0,.int .i64 0,.int .i64 0,.int .i64 0] 137))
   case atStart=>exact ⟨0,by omega,rfl,by simp,rfl⟩
   case round=>
    obtain ⟨k,hk,rfl,hall,rfl⟩:=hrel;have HK:Hid (k+gk=16):=hk;have hk16:k≤16:=by omega
    have HA:Hid (∀ x∈b.take k,isHex x):=hall;clear hk hall;by_cases hlt:k<16
    ·have hkb:k<b.length:=by omega
     go_wp2_with fail
     have HKK:Hid (({ data:=b.toArray }:ByteArray)[k]'(by simpa [ByteArray.size] using hkb)=b[k]):=by show b.toArray[k]=b[k]; simp
     by_cases hx:isHex b[k]
     ·have hge:0≤Lib.indexByte hexs b[k]:=(hexs_is _).2 hx
      have HX:Hid (isHex b[k]):=hx;clear hx;refine (Tryz.strings_IndexByte _ _ _).mono ?_;rintro e w' ⟨rfl,rfl⟩;rw [HKK.out,show Lib.indexByte (⟨#[48,49,50,51,52,53,54,55,56,57,97,98,99,100,101,102]⟩:ByteArray).data.toList (((b[k].toNat:Nat):Int).toNat.toUInt8)=Lib.indexByte hexs b[k] by simp [hexs]]
      generalize Lib.indexByte hexs b[k]=q at *;go_wp2_with fail
      go_roundg (gk - 1)
      case measure=>have:=HK.out; omega
      case rel=>
       refine ⟨k+1,by have:=HK.out; omega,by go_num,?_,rfl⟩
       rw [HALL.out k hkb];intro x hxm;simp only [List.mem_append,List.mem_singleton] at hxm;rcases hxm with hxm | rfl
       ·exact HA.out x hxm
       ·exact HX.out
     ·have hge:Lib.indexByte hexs b[k]<0:=by have:=mt (hexs_is _).1 hx; omega
      have HG:Hid (Out (tag key) s.data.toList zero 1):=Out.form (fun t' tag' h=>hx (by
       have e:=(HF.out t' tag' h).2;subst e;exact h.2.1.2 _ (List.getElem_mem _)))
      clear hx;refine (Tryz.strings_IndexByte _ _ _).mono ?_;rintro e w' ⟨rfl,rfl⟩;rw [HKK.out,show Lib.indexByte (⟨#[48,49,50,51,52,53,54,55,56,57,97,98,99,100,101,102]⟩:ByteArray).data.toList (((b[k].toNat:Nat):Int).toNat.toUInt8)=Lib.indexByte hexs b[k] by simp [hexs]]
      generalize Lib.indexByte hexs b[k]=q at *;go_wp2_with fail
      exact bodyPost_ret (v:=.tuple #[tokV zero,.int .i64 3]) (by simp [results,Tryz.results131,go_sem,tokV,zero]) rfl ⟨HB0.out,zero,1,HG.out,rfl⟩
    ·obtain rfl:k=16:=by omega
     go_wp2_with fail
     rw [HX1.out];have HHX:Hid (hex16 b):=⟨HB16.out,by have h:=HA.out; rwa [List.take_of_length_le (by have:=HB16.out; omega)] at h⟩
     obtain ⟨m,hm⟩:=HLW.out.len;have hsp:=Tryz.strings_Split ⟨a.toArray⟩ ⟨#[46]⟩ m _ (by simp [ByteArray.size]; omega) hm (by decide)
     have hpl:=Lib.splitB_all ⟨#[46]⟩ (by decide) 0 _ ⟨a.toArray⟩ rfl
     have hpp:=parts_split 46 ⟨a.toArray⟩;have hcb:Lib.countB ⟨a.toArray⟩ ⟨#[46]⟩≤5000:=Nat.le_trans (Lib.countB_le ⟨#[46]⟩ (by decide) _ ⟨a.toArray⟩ (Nat.le_refl _)) (by simp [ByteArray.size]; omega)
     generalize Lib.splitB ⟨#[46]⟩ 0 (Lib.countB ⟨a.toArray⟩ ⟨#[46]⟩) ⟨a.toArray⟩=ps at *;generalize Lib.countB ⟨a.toArray⟩ ⟨#[46]⟩=L at *
     obtain ⟨p0,ps,rfl⟩:∃ p0 ps',ps=p0::ps':=by
      cases ps with
      |nil=>simp at hpl
      |cons p0 ps'=>exact ⟨p0,ps',rfl⟩
     have hL:ps.length=L:=by simpa using hpl
     have HP:Hid (parts 46 a=p0.data.toList::ps.map (·.data.toList)):=by show parts 46 a=_; simpa using hpp.symm
     clear hpl hpp hm HA hk16 hlt;refine hsp.mono ?_;rintro e w2 ⟨rfl,rfl⟩;clear hsp;have HLEN:Hid (ps.length=L):=hL
     have HPB:Hid (∀ (j:Nat) (x:ByteArray),ps[j]?=some x→x.size≤5000):=by
      intro j x hx;have hm:x.data.toList∈parts 46 a:=by rw [HP.out]; exact List.mem_cons_of_mem _ (List.mem_map.2 ⟨x,List.mem_of_getElem? hx,rfl⟩)
      have h1:=split_len 46 _ a _ hm;simp at h1
      omega
     clear hL;by_cases hL0:L=0
     all_goals
      go_wp2_with fail
      go_loopg [47] L (fun gk i wr=>∃ (j:Nat) (n0 n1 n2:Int),j+gk=L∧i=.int .i64 j∧Three (ps.map (·.data.toList)) j n0 n1 n2∧RW w ps n0 n1 n2 wr)
      case atStart=>exact ⟨0,0,0,0,by omega,rfl,fun j m hj=>absurd hj (by omega),rw_start w p0 ps _ _⟩
      case round=>
       obtain ⟨j,n0,n1,n2,hj,rfl,h3,hrw⟩:=hrel;have HJ:Hid (j+gk=L):=hj;have hjL:j≤L:=by omega
       have H3:Hid (Three (ps.map (·.data.toList)) j n0 n1 n2):=h3;have HRW:Hid (RW w ps n0 n1 n2 wr):=hrw;have hLr:=HL.out.below hrw.below rfl;have hsz:=hrw.size;clear hj h3 ;by_cases hlt:j<L
       ·first
        |(exfalso; omega)
        |obtain ⟨x,hx⟩:∃ x,ps[j]?=some x:=⟨_,List.getElem?_eq_getElem (by rw [HLEN.out]; exact hlt)⟩
         have hcx:=hrw.words j x hx;have hxs:=HPB.out j x hx;have HX:Hid (ps[j]?=some x):=hx;clear hrw hx;rcases (show j=0∨j=1∨j=2∨3≤j by omega) with rfl | rfl | rfl | h3j
         ·go_wp2_with fail
          refine (atoi_any x _ (by omega) hLr).mono ?_
          rintro e w3 ⟨v,err,rfl,hb3,hv⟩;have hrw3:=HRW.out.on hb3;have HRW3:Hid (RW w ps n0 n1 n2 w3):=hrw3;have HV:Hid (∀ m,okN m→x.data.toList=Lib.itoa m→v=m):=hv;have hcc:=hrw3.c0;have hff:=hrw3.cf 0;clear hb3 hv hrw3 hcx;go_wp2_with fail
          go_roundg (gk - 1)
          case measure=>have:=HJ.out; omega
          case rel=>exact ⟨1,v,n1,n2,by have:=HJ.out; omega,by go_num,Three.put0 H3.out HX.out HV.out,HRW3.out.put0 v⟩
         ·go_wp2_with fail
          refine (atoi_any x _ (by omega) hLr).mono ?_
          rintro e w3 ⟨v,err,rfl,hb3,hv⟩;have hrw3:=HRW.out.on hb3;have HRW3:Hid (RW w ps n0 n1 n2 w3):=hrw3;have HV:Hid (∀ m,okN m→x.data.toList=Lib.itoa m→v=m):=hv;have hcc:=hrw3.c1;have hff:=hrw3.cf 1;clear hb3 hv hrw3 hcx;go_wp2_with fail
          go_roundg (gk - 1)
          case measure=>have:=HJ.out; omega
          case rel=>exact ⟨2,n0,v,n2,by have:=HJ.out; omega,by go_num,Three.put1 H3.out HX.out HV.out,HRW3.out.put1 v⟩
         ·go_wp2_with fail
          refine (atoi_any x _ (by omega) hLr).mono ?_
          rintro e w3 ⟨v,err,rfl,hb3,hv⟩;have hrw3:=HRW.out.on hb3;have HRW3:Hid (RW w ps n0 n1 n2 w3):=hrw3;have HV:Hid (∀ m,okN m→x.data.toList=Lib.itoa m→v=m):=hv;have hcc:=hrw3.c2;have hff:=hrw3.cf 2;clear hb3 hv hrw3 hcx;go_wp2_with fail
          go_roundg (gk - 1)
          case measure=>have:=HJ.out; omega
          case rel=>exact ⟨3,n0,n1,v,by have:=HJ.out; omega,by go_num,Three.put2 H3.out HX.out HV.out,HRW3.out.put2 v⟩
         ·have h3j':¬ j<3:=by omega
          go_wp2_with fail
          go_roundg (gk - 1)
          case measure=>have:=HJ.out; omega
          case rel=>exact ⟨j+1,n0,n1,n2,by have:=HJ.out; omega,by go_num,Three.past H3.out h3j,HRW.out⟩
       ·have hjL2:¬ j<L:=hlt
        have HT:Hid (∀ t,may t→body t=a→t=⟨1,n0,n1,0⟩∨t=⟨2,n0,n1,n2⟩):=by
         intro t ht hb;refine three_body HP.out ?_ ht hb;rw [List.length_map,HLEN.out,show L=j by omega]
         exact H3.out
        clear hrw;go_wp2_with fail
        clear hcb hlt hjL hjL2 hLr hsz;have hi1:(a.length:Int)≤(s.size:Int):=by omega
        have hi2:a.length≤s.size:=by omega
        go_loopg [13] 2 (fun gk i wr=>∃ kd:Nat,kd+gk=3∧1≤kd∧i=.int .i64 kd∧RW w ps n0 n1 n2 wr∧(2≤kd→¬ (may ⟨1,n0,n1,0⟩∧body ⟨1,n0,n1,0⟩=a))∧(3≤kd→¬ (may ⟨2,n0,n1,n2⟩∧body ⟨2,n0,n1,n2⟩=a)))
        case atStart=>exact ⟨1,by omega,by omega,rfl,HRW.out,fun h=>by omega,fun h=>by omega⟩
        case round=>
         obtain ⟨kd,hkd,hk1,rfl,hrw,hno1,hno2⟩:=hrel;have HKD:Hid (kd+gk=3):=hkd;have HR:Hid (RW w ps n0 n1 n2 wr):=hrw;have HN1:Hid (2≤kd→¬ (may ⟨1,n0,n1,0⟩∧body ⟨1,n0,n1,0⟩=a)):=hno1;have HN2:Hid (3≤kd→¬ (may ⟨2,n0,n1,n2⟩∧body ⟨2,n0,n1,n2⟩=a)):=hno2;have hcs:=hrw.c0;have hcs1:=hrw.c1;have hcs2:=hrw.c2;have hsz:=hrw.size;clear hno1 hno2;rcases (show kd=1∨kd=2∨kd=3 by omega) with rfl | rfl | rfl
         ·clear hkd hk1 hrw
          have hbx:BoxAt wr.heap.size ⟨1,n0,n1,0⟩ (wr.alloc (.cells #[.int .i64 1,.int .i64 n0,.int .i64 n1,.int .i64 0] 137)):=BoxAt.made wr ⟨1,n0,n1,0⟩ 137;have hbl:Below wr.heap.size wr (wr.alloc (.cells #[.int .i64 1,.int .i64 n0,.int .i64 n1,.int .i64 0] 137)):=(Below.refl wr.heap.size wr).alloc (Nat.le_refl _) _;by_cases hm:may ⟨1,n0,n1,0⟩
          ·go_wp2_with fail
           refine (writeR_yes key ⟨1,n0,n1,0⟩ _ hm (HL.out.below (HR.out.on hbl).below rfl).base).mono ?_;rintro e w3 ⟨rfl,hb3⟩;have hr3:=(HR.out.on hbl).on hb3;have hx3:=hbx.on hb3 hbx.lt;have HR3:Hid (RW w ps n0 n1 n2 w3):=hr3;have k0:=cell_regrown hx3.c0;have k1:=cell_regrown hx3.c1;have k2:=cell_regrown hx3.c2;have k3:=cell_regrown hx3.c3;have HX3:Hid (BoxAt wr.heap.size ⟨1,n0,n1,0⟩ w3):=hx3;have cB:=quiet_bodyR ⟨1,n0,n1,0⟩ hm (HL.out.below hr3.below rfl).base;have HM:Hid (may ⟨1,n0,n1,0⟩):=hm;clear hbx hbl hb3 hr3 hx3 hm;unfold tokV at cB;simp only at k0 k1 k2 k3 cB;go_wp2_with fail
           refine wp_region_quiet_below mixed (by kernel_rfl) ?_
           repeat (quiet_step (first | exact cB _ _))
           refine wpQuiet_nil ?_;intro W2 hw';obtain ⟨⟨dq,osq⟩,hw''⟩:=hw';have hb2:=below_regrown w3 dq osq;rw [← hw''] at hb2;have HR2:Hid (RW w ps n0 n1 n2 W2):=HR3.out.on hb2;have HXB:Hid (BoxAt wr.heap.size ⟨1,n0,n1,0⟩ W2):=HX3.out.on hb2 HX3.out.lt;clear hw'' cB k0 k1 k2 k3 hb2;have q0:=HR2.out.b0;have q1:=HR2.out.b1;have q2:=HR2.out.b2;have q3:=HR2.out.b3;have f0:=HR2.out.bf 0;have f1:=HR2.out.bf 1;have f2:=HR2.out.bf 2;have f3:=HR2.out.bf 3;go_wp2_with fail
           ·have HB:Hid (body ⟨1,n0,n1,0⟩=a):=by
             have hh:=‹(body ⟨1,n0,n1,0⟩ == (s.extract 0 a.length).toList)=true›;rw [HX1.out,ByteArray.toList_eq] at hh;show _=a
             exact beq_iff_eq.1 hh
            rw [HX1.out];refine (refTag_list key a _ (by omega) (HL.out.below HR2.out.below rfl).base).mono ?_
            rintro e w4 ⟨rfl,hb4⟩;have hr4:=HR2.out.on hb4;have hx4:=HXB.out.on hb4 HXB.out.lt;have HR4:Hid (RW w ps n0 n1 n2 w4):=hr4;have HX4:Hid (BoxAt wr.heap.size ⟨1,n0,n1,0⟩ w4):=hx4;clear hb4 q0 q1 q2 q3 f0 f1 f2 f3;have q0:=hr4.b0;have q1:=hr4.b1;have q2:=hr4.b2;have q3:=hr4.b3;have f0:=hr4.bf 0;have f1:=hr4.bf 1;have f2:=hr4.bf 2;have f3:=hr4.bf 3;have x0:=hx4.c0;have x1:=hx4.c1;have x2:=hx4.c2;have x3:=hx4.c3;simp only at x0 x1 x2 x3;clear hr4 hx4;go_wp2_with fail
            ·rename_i hh
             have hg:¬ b=tag key a:=by simpa using hh
             have HG:Hid (Out (tag key) s.data.toList zero 2):=Out.name _ b ⟨HM.out,HHX.out,by rw [HAB.out,HB.out]⟩ (by rw [HB.out]; exact hg)
             exact bodyPost_ret (v:=.tuple #[tokV zero,.int .i64 5]) (by simp [results,Tryz.results131,go_sem,tokV,zero,q0,q1,q2,q3]) rfl ⟨(((HR4.out.below.setCell (Nat.le_refl _) _).setCell (Nat.le_refl _) _).setCell (Nat.le_refl _) _).setCell (Nat.le_refl _) _,zero,2,HG.out,rfl⟩
            ·rename_i hh
             have hg:b=tag key a:=by simpa using hh
             have HG:Hid (Out (tag key) s.data.toList ⟨1,n0,n1,0⟩ 0):=Out.good _ b ⟨HM.out,HHX.out,by rw [HAB.out,HB.out]⟩ (by rw [HB.out]; exact hg)
             exact bodyPost_ret (v:=.tuple #[tokV ⟨1,n0,n1,0⟩,.int .i64 0]) (by simp [results,Tryz.results131,go_sem,tokV,q0,q1,q2,q3]) rfl ⟨(((HR4.out.below.setCell (Nat.le_refl _) _).setCell (Nat.le_refl _) _).setCell (Nat.le_refl _) _).setCell (Nat.le_refl _) _,⟨1,n0,n1,0⟩,0,HG.out,rfl⟩
           ·have HB:Hid (¬ body ⟨1,n0,n1,0⟩=a):=by
             have hh:=‹(body ⟨1,n0,n1,0⟩ == (s.extract 0 a.length).toList)=false›;rw [HX1.out,ByteArray.toList_eq] at hh;show ¬ _=a
             exact beq_eq_false_iff_ne.1 hh
            go_roundg (gk - 1)
            case measure=>have:=HKD.out; omega
            case rel=>exact ⟨2,by have:=HKD.out; omega,by omega,by go_num,HR2.out,fun _ h=>HB.out h.2,fun h=>by omega⟩
          ·go_wp2_with fail
           refine (writeR_no key ⟨1,n0,n1,0⟩ _ hm).mono ?_;rintro e w3 ⟨rfl,hb3⟩;have hr3:=(HR.out.on hbl).on hb3;have HR3:Hid (RW w ps n0 n1 n2 w3):=hr3;have HM:Hid (¬ may ⟨1,n0,n1,0⟩):=hm;clear hbx hbl hb3 hr3 hm;go_wp2_with fail
           refine wp_region_quiet_below mixed (by kernel_rfl) ?_
           repeat (quiet_step (fail))
           refine wpQuiet_nil ?_;intro W2 hw';obtain ⟨⟨dq,osq⟩,hw''⟩:=hw';have hb2:=below_regrown w3 dq osq;rw [← hw''] at hb2;have HR2:Hid (RW w ps n0 n1 n2 W2):=HR3.out.on hb2;clear hw'' hb2;go_wp2_with fail
           go_roundg (gk - 1)
           case measure=>have:=HKD.out; omega
           case rel=>exact ⟨2,by have:=HKD.out; omega,by omega,by go_num,HR2.out,fun _ h=>HM.out h.1,fun h=>by omega⟩
         ·clear hkd hk1 hrw
          have hbx:BoxAt wr.heap.size ⟨2,n0,n1,n2⟩ (wr.alloc (.cells #[.int .i64 2,.int .i64 n0,.int .i64 n1,.int .i64 n2] 137)):=BoxAt.made wr ⟨2,n0,n1,n2⟩ 137;have hbl:Below wr.heap.size wr (wr.alloc (.cells #[.int .i64 2,.int .i64 n0,.int .i64 n1,.int .i64 n2] 137)):=(Below.refl wr.heap.size wr).alloc (Nat.le_refl _) _;by_cases hm:may ⟨2,n0,n1,n2⟩
          ·go_wp2_with fail
           refine (writeR_yes key ⟨2,n0,n1,n2⟩ _ hm (HL.out.below (HR.out.on hbl).below rfl).base).mono ?_;rintro e w3 ⟨rfl,hb3⟩;have hr3:=(HR.out.on hbl).on hb3;have hx3:=hbx.on hb3 hbx.lt;have HR3:Hid (RW w ps n0 n1 n2 w3):=hr3;have k0:=cell_regrown hx3.c0;have k1:=cell_regrown hx3.c1;have k2:=cell_regrown hx3.c2;have k3:=cell_regrown hx3.c3;have HX3:Hid (BoxAt wr.heap.size ⟨2,n0,n1,n2⟩ w3):=hx3;have cB:=quiet_bodyR ⟨2,n0,n1,n2⟩ hm (HL.out.below hr3.below rfl).base;have HM:Hid (may ⟨2,n0,n1,n2⟩):=hm;clear hbx hbl hb3 hr3 hx3 hm;unfold tokV at cB;simp only at k0 k1 k2 k3 cB;go_wp2_with fail
           refine wp_region_quiet_below mixed (by kernel_rfl) ?_
           repeat (quiet_step (first | exact cB _ _))
           refine wpQuiet_nil ?_;intro W2 hw';obtain ⟨⟨dq,osq⟩,hw''⟩:=hw';have hb2:=below_regrown w3 dq osq;rw [← hw''] at hb2;have HR2:Hid (RW w ps n0 n1 n2 W2):=HR3.out.on hb2;have HXB:Hid (BoxAt wr.heap.size ⟨2,n0,n1,n2⟩ W2):=HX3.out.on hb2 HX3.out.lt;clear hw'' cB k0 k1 k2 k3 hb2;have q0:=HR2.out.b0;have q1:=HR2.out.b1;have q2:=HR2.out.b2;have q3:=HR2.out.b3;have f0:=HR2.out.bf 0;have f1:=HR2.out.bf 1;have f2:=HR2.out.bf 2;have f3:=HR2.out.bf 3;go_wp2_with fail
           ·have HB:Hid (body ⟨2,n0,n1,n2⟩=a):=by
             have hh:=‹(body ⟨2,n0,n1,n2⟩ == (s.extract 0 a.length).toList)=true›;rw [HX1.out,ByteArray.toList_eq] at hh;show _=a
             exact beq_iff_eq.1 hh
            rw [HX1.out];refine (refTag_list key a _ (by omega) (HL.out.below HR2.out.below rfl).base).mono ?_
            rintro e w4 ⟨rfl,hb4⟩;have hr4:=HR2.out.on hb4;have hx4:=HXB.out.on hb4 HXB.out.lt;have HR4:Hid (RW w ps n0 n1 n2 w4):=hr4;have HX4:Hid (BoxAt wr.heap.size ⟨2,n0,n1,n2⟩ w4):=hx4;clear hb4 q0 q1 q2 q3 f0 f1 f2 f3;have q0:=hr4.b0;have q1:=hr4.b1;have q2:=hr4.b2;have q3:=hr4.b3;have f0:=hr4.bf 0;have f1:=hr4.bf 1;have f2:=hr4.bf 2;have f3:=hr4.bf 3;have x0:=hx4.c0;have x1:=hx4.c1;have x2:=hx4.c2;have x3:=hx4.c3;simp only at x0 x1 x2 x3;clear hr4 hx4;go_wp2_with fail
            ·rename_i hh
             have hg:¬ b=tag key a:=by simpa using hh
             have HG:Hid (Out (tag key) s.data.toList zero 2):=Out.name _ b ⟨HM.out,HHX.out,by rw [HAB.out,HB.out]⟩ (by rw [HB.out]; exact hg)
             exact bodyPost_ret (v:=.tuple #[tokV zero,.int .i64 5]) (by simp [results,Tryz.results131,go_sem,tokV,zero,q0,q1,q2,q3]) rfl ⟨(((HR4.out.below.setCell (Nat.le_refl _) _).setCell (Nat.le_refl _) _).setCell (Nat.le_refl _) _).setCell (Nat.le_refl _) _,zero,2,HG.out,rfl⟩
            ·rename_i hh
             have hg:b=tag key a:=by simpa using hh
             have HG:Hid (Out (tag key) s.data.toList ⟨2,n0,n1,n2⟩ 0):=Out.good _ b ⟨HM.out,HHX.out,by rw [HAB.out,HB.out]⟩ (by rw [HB.out]; exact hg)
             exact bodyPost_ret (v:=.tuple #[tokV ⟨2,n0,n1,n2⟩,.int .i64 0]) (by simp [results,Tryz.results131,go_sem,tokV,q0,q1,q2,q3]) rfl ⟨(((HR4.out.below.setCell (Nat.le_refl _) _).setCell (Nat.le_refl _) _).setCell (Nat.le_refl _) _).setCell (Nat.le_refl _) _,⟨2,n0,n1,n2⟩,0,HG.out,rfl⟩
           ·have HB:Hid (¬ body ⟨2,n0,n1,n2⟩=a):=by
             have hh:=‹(body ⟨2,n0,n1,n2⟩ == (s.extract 0 a.length).toList)=false›;rw [HX1.out,ByteArray.toList_eq] at hh;show ¬ _=a
             exact beq_eq_false_iff_ne.1 hh
            go_roundg (gk - 1)
            case measure=>have:=HKD.out; omega
            case rel=>exact ⟨3,by have:=HKD.out; omega,by omega,by go_num,HR2.out,fun _=>HN1.out (by omega),fun _ h=>HB.out h.2⟩
          ·go_wp2_with fail
           refine (writeR_no key ⟨2,n0,n1,n2⟩ _ hm).mono ?_;rintro e w3 ⟨rfl,hb3⟩;have hr3:=(HR.out.on hbl).on hb3;have HR3:Hid (RW w ps n0 n1 n2 w3):=hr3;have HM:Hid (¬ may ⟨2,n0,n1,n2⟩):=hm;clear hbx hbl hb3 hr3 hm;go_wp2_with fail
           refine wp_region_quiet_below mixed (by kernel_rfl) ?_
           repeat (quiet_step (fail))
           refine wpQuiet_nil ?_;intro W2 hw';obtain ⟨⟨dq,osq⟩,hw''⟩:=hw';have hb2:=below_regrown w3 dq osq;rw [← hw''] at hb2;have HR2:Hid (RW w ps n0 n1 n2 W2):=HR3.out.on hb2;clear hw'' hb2;go_wp2_with fail
           go_roundg (gk - 1)
           case measure=>have:=HKD.out; omega
           case rel=>exact ⟨3,by have:=HKD.out; omega,by omega,by go_num,HR2.out,fun _=>HN1.out (by omega),fun _ h=>HM.out h.1⟩
         ·have HG:Hid (Out (tag key) s.data.toList zero 1):=Out.form (fun t' tag' h=>by
           have hb:=(HF.out t' tag' h).1;rcases HT.out t' h.1 hb with rfl | rfl
           ·exact HN1.out (by omega) ⟨h.1,hb⟩
           ·exact HN2.out (by omega) ⟨h.1,hb⟩)
          have q0:=hrw.b0;have q1:=hrw.b1;have q2:=hrw.b2;have q3:=hrw.b3;have f0:=hrw.bf 0;have f1:=hrw.bf 1;have f2:=hrw.bf 2;have f3:=hrw.bf 3;go_wp2_with fail
          exact bodyPost_ret (v:=.tuple #[tokV zero,.int .i64 3]) (by simp [results,Tryz.results131,go_sem,tokV,zero,q0,q1,q2,q3]) rfl ⟨(((hrw.below.setCell (Nat.le_refl _) _).setCell (Nat.le_refl _) _).setCell (Nat.le_refl _) _).setCell (Nat.le_refl _) _,zero,1,HG.out,rfl⟩
  ·have HG:Hid (Out (tag key) s.data.toList zero 1):=Out.form (fun t' tag' h=>h16 ((HF.out t' tag' h).2 ▸ h.2.1.1))
   have hlb:¬ (↑(⟨b.toArray⟩:ByteArray).size:Int)=16:=by simp [ByteArray.size]; omega
   go_enter Tryz.func131,Tryz.ntmps131
   go_wp2_with fail
   refine (Tryz.strings_LastIndexByte s 46 (by omega) _).mono ?_
   rintro e w1 ⟨rfl,rfl⟩;have hl2:Lib.lastIndexByte s 46=a.length:=hlast;rw [hl2];clear hl2 hlast;go_wp2_with fail
   exact bodyPost_ret (v:=.tuple #[tokV zero,.int .i64 3]) (by simp [results,Tryz.results131,go_sem,tokV,zero]) rfl ⟨HB0.out,zero,1,HG.out,rfl⟩
end Go.Proofs.YtlailakofhenkabGreatDoor
