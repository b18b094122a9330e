import Derived.Test.YtlailakofhenkabGreatDoorB5
import Derived.Deep.RegionHeld3
import Derived.Lib.SortBridge
namespace Go.Proofs.YtlailakofhenkabGreatDoor
open Go Go.RowKit Tok Sc Ev
structure WS (w0:World) (g:Nat) (f:Fam) (w':World):Prop where
 libs:LibsE w'
 box:FamAt w' g 0 f
 lt:g<w'.heap.size
 below:Below w0.heap.size w0 w'
theorem WS.on {w0:World} {g:Nat} {f:Fam} {w w':World} (h:WS w0 g f w) (hb:Below w.heap.size w w'):WS w0 g f w':=
 ⟨h.libs.below hb,h.box.on hb h.lt,Nat.lt_of_lt_of_le h.lt hb.size,h.below.trans (hb.mono h.below.size)⟩
theorem ws_all {w0:World} {g:Nat} {f1:Int} {f2 f3 f4:ByteArray} {f5 f6 f7:Int} {f8:ByteArray} {f9:Bool} {w:World} (h:WS w0 g ⟨f1,f2,f3,f4,f5,f6,f7,f8,f9⟩ w):(w.cell? ⟨g,0,none⟩=some (.int .i64 f1)∧w.cell? ⟨g,1,none⟩=some (.string f2)∧w.cell? ⟨g,2,none⟩=some (.string f3)∧w.cell? ⟨g,3,none⟩=some (.string f4)∧w.cell? ⟨g,4,none⟩=some (.int .i64 f5)∧w.cell? ⟨g,5,none⟩=some (.int .i64 f6)∧w.cell? ⟨g,6,none⟩=some (.int .i64 f7)∧w.cell? ⟨g,7,none⟩=some (.string f8)∧w.cell? ⟨g,8,none⟩=some (.bool f9)∧WS w0 g ⟨f1,f2,f3,f4,f5,f6,f7,f8,f9⟩ w):=by
 have b:=h.box;exact ⟨b.c0,b.c1,b.c2,b.c3,b.c4,b.c5,b.c6,b.c7,b.c8,h⟩
theorem ws_keep {w0:World} {g:Nat} {f1:Int} {f2 f3 f4:ByteArray} {f5 f6 f7:Int} {f8:ByteArray} {f9:Bool} {w w':World} (h:(w.cell? ⟨g,0,none⟩=some (.int .i64 f1)∧w.cell? ⟨g,1,none⟩=some (.string f2)∧w.cell? ⟨g,2,none⟩=some (.string f3)∧w.cell? ⟨g,3,none⟩=some (.string f4)∧w.cell? ⟨g,4,none⟩=some (.int .i64 f5)∧w.cell? ⟨g,5,none⟩=some (.int .i64 f6)∧w.cell? ⟨g,6,none⟩=some (.int .i64 f7)∧w.cell? ⟨g,7,none⟩=some (.string f8)∧w.cell? ⟨g,8,none⟩=some (.bool f9)∧WS w0 g ⟨f1,f2,f3,f4,f5,f6,f7,f8,f9⟩ w)) (hb:Below w.heap.size w w'):(w'.cell? ⟨g,0,none⟩=some (.int .i64 f1)∧w'.cell? ⟨g,1,none⟩=some (.string f2)∧w'.cell? ⟨g,2,none⟩=some (.string f3)∧w'.cell? ⟨g,3,none⟩=some (.string f4)∧w'.cell? ⟨g,4,none⟩=some (.int .i64 f5)∧w'.cell? ⟨g,5,none⟩=some (.int .i64 f6)∧w'.cell? ⟨g,6,none⟩=some (.int .i64 f7)∧w'.cell? ⟨g,7,none⟩=some (.string f8)∧w'.cell? ⟨g,8,none⟩=some (.bool f9)∧WS w0 g ⟨f1,f2,f3,f4,f5,f6,f7,f8,f9⟩ w'):=ws_all (h.2.2.2.2.2.2.2.2.2.on hb)
theorem ws_drew {w0:World} {g:Nat} {f1:Int} {f2 f3 f4:ByteArray} {f5 f6 f7:Int} {f8:ByteArray} {f9:Bool} {w:World} (h:WS w0 g ⟨f1,f2,f3,f4,f5,f6,f7,f8,f9⟩ w):(w.drew.cell? ⟨g,0,none⟩=some (.int .i64 f1)∧w.drew.cell? ⟨g,1,none⟩=some (.string f2)∧w.drew.cell? ⟨g,2,none⟩=some (.string f3)∧w.drew.cell? ⟨g,3,none⟩=some (.string f4)∧w.drew.cell? ⟨g,4,none⟩=some (.int .i64 f5)∧w.drew.cell? ⟨g,5,none⟩=some (.int .i64 f6)∧w.drew.cell? ⟨g,6,none⟩=some (.int .i64 f7)∧w.drew.cell? ⟨g,7,none⟩=some (.string f8)∧w.drew.cell? ⟨g,8,none⟩=some (.bool f9)∧WS w0 g ⟨f1,f2,f3,f4,f5,f6,f7,f8,f9⟩ w.drew):=ws_all (h.on (Below.refl _ _).drew)
theorem ws_libs {w0:World} {g:Nat} {f1:Int} {f2 f3 f4:ByteArray} {f5 f6 f7:Int} {f8:ByteArray} {f9:Bool} {w:World} (h:(w.cell? ⟨g,0,none⟩=some (.int .i64 f1)∧w.cell? ⟨g,1,none⟩=some (.string f2)∧w.cell? ⟨g,2,none⟩=some (.string f3)∧w.cell? ⟨g,3,none⟩=some (.string f4)∧w.cell? ⟨g,4,none⟩=some (.int .i64 f5)∧w.cell? ⟨g,5,none⟩=some (.int .i64 f6)∧w.cell? ⟨g,6,none⟩=some (.int .i64 f7)∧w.cell? ⟨g,7,none⟩=some (.string f8)∧w.cell? ⟨g,8,none⟩=some (.bool f9)∧WS w0 g ⟨f1,f2,f3,f4,f5,f6,f7,f8,f9⟩ w)):LibsE w:=h.2.2.2.2.2.2.2.2.2.libs
set_option maxHeartbeats 4000000
set_option maxRecDepth 100000
def inB3 (n a b:Int):Bool:=decide (a≤n) && decide (n≤b)
theorem nm_take (s:ByteArray) (k:Nat) (h:k<s.size):(s.data.toList.take (k+1)).all nmB=((s.data.toList.take k).all nmB && nmB s[k]):=by
 rw [List.take_succ_eq_append_getElem (by simpa using h),List.all_append]
 simp
 rfl
theorem nm_bad {s:ByteArray} {k:Nat} (h:k<s.size) (hb:nmB s[k]=false):nameB s.data.toList=false:=by
 cases hw:nameB s.data.toList with
 |false=>rfl
 |true=>
  have:=(nameB_iff.1 hw).1 s[k] (by
   show s.data[k]∈s.data.toList
   exact Array.mem_toList_iff.2 (Array.getElem_mem h))
  rw [hb] at this
  cases this
theorem nm_full {s:ByteArray} (h:(s.data.toList.take s.size).all nmB=true):nameB s.data.toList=inB3 s.size 1 20:=by
 rw [List.take_of_length_le (by simp)] at h
 unfold nameB inB3;rw [h,Bool.true_and];have hl:s.data.toList.length=s.size:=Array.length_toList;rw [hl,Bool.eq_iff_iff];simp only [Bool.and_eq_true,decide_eq_true_eq];omega
theorem nm_lo {c:UInt8} (h1:97≤c.toNat) (h2:c.toNat≤122):nmB c=true:=nmB_iff.2 (.inl ⟨h1,h2⟩)
theorem nm_di {c:UInt8} (h1:48≤c.toNat) (h2:c.toNat≤57):nmB c=true:=nmB_iff.2 (.inr (.inl ⟨h1,h2⟩))
theorem nm_da {c:UInt8} (h1:c.toNat=45):nmB c=true:=nmB_iff.2 (.inr (.inr h1))
theorem nm_no {c:UInt8} (h:¬ ((97≤c.toNat∧c.toNat≤122)∨(48≤c.toNat∧c.toNat≤57)∨c.toNat=45)):nmB c=false:=Bool.eq_false_iff.2 (fun k=>h (nmB_iff.1 k))
theorem nmB_def (c:UInt8):nmB c=((decide ((97:Int)≤c.toNat) && decide ((c.toNat:Int)≤122)) || (decide ((48:Int)≤c.toNat) && decide ((c.toNat:Int)≤57)) || ((c.toNat:Int) == 45)):=by
 rw [Bool.eq_iff_iff,nmB_iff];simp only [Bool.or_eq_true,Bool.and_eq_true,decide_eq_true_eq,beq_iff_eq];omega
theorem letter_is (c:UInt8) (w:World):Calls Tryz.prog 95 #[.int .u8 c.toNat] w fun e w'=>e=.returned (.bool (nmB c))∧w'=w:=by
 have HD:=nmB_def c;by_cases h1:(97:Int)≤c.toNat
 ·by_cases h2:(c.toNat:Int)≤122
  ·have HL:Hid (nmB c=true):=nm_lo (by omega) (by omega)
   clear HD;go_enter Tryz.func95,Tryz.ntmps95
   go_wp2_with fail
   go_ret;exact ⟨by rw [HL.out]; rfl,rfl⟩
  ·have HL:Hid (nmB c=false):=nm_no (by omega)
   have h3:(48:Int)≤c.toNat:=by omega
   have h4:¬ (c.toNat:Int)≤57:=by omega
   have h5:((c.toNat:Int) == 45)=false:=by rw [beq_eq_false_iff_ne]; omega
   clear HD;go_enter Tryz.func95,Tryz.ntmps95
   go_wp2_with fail
   go_ret;exact ⟨by rw [HL.out]; rfl,rfl⟩
 ·by_cases h3:(48:Int)≤c.toNat
  ·by_cases h4:(c.toNat:Int)≤57
   ·have HL:Hid (nmB c=true):=nm_di (by omega) (by omega)
    clear HD;go_enter Tryz.func95,Tryz.ntmps95
    go_wp2_with fail
    go_ret;exact ⟨by rw [HL.out]; rfl,rfl⟩
   ·have HL:Hid (nmB c=false):=nm_no (by omega)
    have h5:((c.toNat:Int) == 45)=false:=by rw [beq_eq_false_iff_ne]; omega
    clear HD;go_enter Tryz.func95,Tryz.ntmps95
    go_wp2_with fail
    go_ret;exact ⟨by rw [HL.out]; rfl,rfl⟩
  ·by_cases h5:c.toNat=45
   ·have HL:Hid (nmB c=true):=nm_da h5
    have h6:((c.toNat:Int) == 45)=true:=by rw [beq_iff_eq]; omega
    clear HD;go_enter Tryz.func95,Tryz.ntmps95
    go_wp2_with fail
    go_ret;exact ⟨by rw [HL.out]; rfl,rfl⟩
   ·have HL:Hid (nmB c=false):=nm_no (by omega)
    have h6:((c.toNat:Int) == 45)=false:=by rw [beq_eq_false_iff_ne]; omega
    clear HD;go_enter Tryz.func95,Tryz.ntmps95
    go_wp2_with fail
    go_ret;exact ⟨by rw [HL.out]; rfl,rfl⟩
theorem name_is (s:ByteArray) (w:World) (hs:s.size≤1000000):Calls Tryz.prog 47 #[.string s] w fun e w'=>e=.returned (.bool (nameB s.data.toList))∧w'=w:=by
 have HBAD:Hid (∀ k (h:k<s.size),nmB s[k]=false→nameB s.data.toList=false):=fun k h=>nm_bad h;have HT:Hid (∀ k (h:k<s.size),(s.data.toList.take (k+1)).all nmB=((s.data.toList.take k).all nmB && nmB s[k])):=nm_take s;have HF:Hid ((s.data.toList.take s.size).all nmB=true→nameB s.data.toList=inB3 s.size 1 20):=nm_full;have hl:s.data.toList.length=s.size:=Array.length_toList;by_cases h0:s.data.toList= []
 ·have HW:Hid (nameB s.data.toList=false):=by show _=_; rw [h0]; rfl
  have he:s.toList.isEmpty=true:=by rw [ByteArray.toList_eq,h0]; rfl
  clear h0 hl;go_enter Tryz.func47,Tryz.ntmps47
  go_wp2_with fail
  go_ret;exact ⟨by rw [HW.out]; rfl,rfl⟩
 ·have he:s.toList.isEmpty=false:=by rw [ByteArray.toList_eq,List.isEmpty_eq_false_iff]; exact h0
  have hpos:0<s.data.toList.length:=List.length_pos_iff.2 h0;rw [hl] at hpos;by_cases h20:s.size≤20
  ·have h20':(s.size:Int)≤20:=by omega
   have HW1:Hid (inB3 s.size 1 20=true):=by
    show _=_
    unfold inB3;simp only [Bool.and_eq_true,decide_eq_true_eq];omega
   clear h0 hl hpos;go_enter Tryz.func47,Tryz.ntmps47
   go_wp2_with fail
   go_loopg [13] s.size (fun gk i wr=>∃ k:Nat,k+gk=s.size∧i=.int .i64 k∧Hid ((s.data.toList.take k).all nmB=true)∧wr=w)
   case atStart=>exact ⟨0,by omega,rfl,by simp [Hid],rfl⟩
   case round=>
    obtain ⟨k,hk,rfl,HA,rfl⟩:=hrel;have HK:Hid (k+gk=s.size):=hk;have hks:k≤s.size:=by omega
    clear hk;by_cases hlt:k<s.size
    ·have hltI:(k:Int)<(s.size:Int):=by omega
     have HGO:Hid (nmB s[k]=true→(s.data.toList.take (k+1)).all nmB=true):=fun h=>by rw [HT.out k hlt,HA.out,h]; rfl
     have HST:Hid (nmB s[k]=false→nameB s.data.toList=false):=HBAD.out k hlt;go_wp2_with fail
     refine (letter_is s[k] _).mono ?_;rintro e w' ⟨rfl,rfl⟩
     cases hq:nmB s[k] with
     |true=>
      have HL:Hid ((s.data.toList.take (k+1)).all nmB=true):=HGO.out hq;clear hq;go_wp2_with fail
      go_roundg (gk - 1)
      case measure=>have:=HK.out; omega
      case rel=>exact ⟨k+1,by have:=HK.out; omega,by go_num,HL,rfl⟩
     |false=>
      have HW:Hid (nameB s.data.toList=false):=HST.out hq;clear hq;go_wp2_with fail
      go_ret;exact ⟨by rw [HW.out]; rfl,rfl⟩
    ·obtain rfl:k=s.size:=by omega
     have HW:Hid (nameB s.data.toList=true):=(HF.out HA.out).trans HW1.out;go_wp2_with fail
     go_ret;exact ⟨by rw [HW.out]; rfl,rfl⟩
  ·have h20':¬ (s.size:Int)≤20:=by omega
   have h20'':(20:Int)<(s.size:Int):=by omega
   have HW:Hid (nameB s.data.toList=false):=Bool.eq_false_iff.2 (fun h=>by have:=(nameB_iff.1 h).2.2; omega)
   clear h0 hl hpos;go_enter Tryz.func47,Tryz.ntmps47
   go_wp2_with fail
   go_ret;exact ⟨by rw [HW.out]; rfl,rfl⟩
end Go.Proofs.YtlailakofhenkabGreatDoor
namespace Go.Proofs.YtlailakofhenkabGreatDoor
open Go Go.RowKit Ev
def evCs (e:E):List Value:= [.int .i64 e.kind,.int .i64 e.fam.id,.string e.fam.client,.string e.fam.subject,.string e.fam.scope,.int .i64 e.fam.gen,.int .i64 e.fam.made,.int .i64 e.fam.used,.string e.fam.request,.bool e.fam.dead,.int .i64 e.id,.int .i64 e.time]
def evV (e:E):Value:=.agg (evCs e).toArray
structure EvAt (w:World) (g:Nat) (e:E):Prop where
 lt:g<w.heap.size
 c0:w.cell? ⟨g,0,none⟩=some (.int .i64 e.kind)
 fam:FamAt w g 1 e.fam
 c10:w.cell? ⟨g,10,none⟩=some (.int .i64 e.id)
 c11:w.cell? ⟨g,11,none⟩=some (.int .i64 e.time)
theorem EvAt.on {w w':World} {g:Nat} {e:E} (h:EvAt w g e) (hb:Below w.heap.size w w'):EvAt w' g e:=
 ⟨Nat.lt_of_lt_of_le h.lt hb.size,(hb.cell (p:=⟨g,0,none⟩) h.lt).trans h.c0,h.fam.on hb h.lt,(hb.cell (p:=⟨g,10,none⟩) h.lt).trans h.c10,(hb.cell (p:=⟨g,11,none⟩) h.lt).trans h.c11⟩
theorem evAt_made (w:World) (e:E) (t:TypeId) (g:Nat) (hg:g=w.heap.size):EvAt (w.alloc (.cells #[.int .i64 e.kind,.int .i64 e.fam.id,.string e.fam.client,.string e.fam.subject,.string e.fam.scope,.int .i64 e.fam.gen,.int .i64 e.fam.made,.int .i64 e.fam.used,.string e.fam.request,.bool e.fam.dead,.int .i64 e.id,.int .i64 e.time] t)) g e:=
 ⟨by simp [hg],(World.cell?_alloc_at _ _ _ _ hg).trans rfl,by constructor <;> exact (World.cell?_alloc_at _ _ _ _ hg).trans rfl,(World.cell?_alloc_at _ _ _ _ hg).trans rfl,(World.cell?_alloc_at _ _ _ _ hg).trans rfl⟩
end Go.Proofs.YtlailakofhenkabGreatDoor
namespace Go.Proofs.YtlailakofhenkabGreatDoor.Sc
open Go.Lib Tok
end Go.Proofs.YtlailakofhenkabGreatDoor.Sc
namespace Go.Proofs.YtlailakofhenkabGreatDoor
open Go Go.RowKit
theorem wpList_append_words {P:Program} (w:World) {ops:Array Oper} {rest:List Oper} {o:Oper} {a:Act} {Q:Exit→Act→World→Prop}
 (hg:o.guard=none) (s x:Operand) (t:TypeId) (hop:o.op=Op.call { callee:=Callee.builtin Builtin.append,args:=#[s,x],argTypes:=#[t,t] })
 (e:TypeId) (i:TypeInfo) (h1:P.underlying t=some (.slice e)) (h2:P.info? e=some i) (h3:i.zero=some (.string ⟨#[]⟩)) (h4:i.size=1) (h5:i.bytes=16)
 (B:Nat) (v:Value) (xs:List ByteArray) (hs:a.eval s=v) (h:Words B w v xs) (hB:B≤w.heap.size)
 (ad:Addr) (c':Nat) (u:ByteArray) (hx:a.eval x=.slice (some ad) 1 c') (hc:w.cell? ad=some (.string u)) (hn:xs.length≤1000000)
 (hK:∀ v' w',Words B w' v' (xs ++ [u])→Below B w w'→wpList P ops Q rest (a.put o.dst v') w') :
 wpList P ops Q (o::rest) a w:=by
 rcases h with ⟨rfl,rfl⟩ | ⟨g,c,rfl,hr⟩
 ·have hsrc:Src P i.size t (.slice (some ad) 1 c') 1 [.string u] w:=by
   rw [h4];refine Src.ofSlice w h1 ad 1 c' [.string u] rfl (fun j y hj=>?_) (by intro y hy; simp at hy; subst hy; rfl)
   match j,hj with
   |0,hj=>simp at hj; subst hj; simpa [Addr.add] using hc
   |j+1,hj=>simp at hj
  have hrun:=run_append_grow_src w t t o.type e i _ h1 h2 h3 none 0 0 [] (run_firstCells_none w.drew i.size 0 0 0) _ 1 [.string u] hsrc (by omega) (by omega) (by rw [h5]; exact growslice_fits (by omega) (by omega))
  refine Lib.wpList_append_run w hg s x t t hop _ _ hs hx _ _ hrun ?_;have hm:=grownCap_le_maxLen w (0+1) 0 e (by unfold maxLen; omega)
  have hm1:=grownCap_ge w (0+1) 0 e;refine hK _ _ (.inr ⟨_,_,rfl,?_⟩) (((Below.refl B w).drew).alloc (by exact hB) _)
  exact rowAt_new (B:=B) (w:=w.drew) hB [.string u] 1 rfl (.string ⟨#[]⟩) _ e hm hm1
 ·refine wpList_append_row w hg s x t hop e i _ 16 h1 h2 h3 h4 h5 rfl B g xs.length c _ hs hr ad c' (.string u) hx hc rfl (by unfold maxLen; omega) (by omega) (fun g' cc w' hr' hb'=>?_)
  have e1:xs.length+1=(xs ++ [u]).length:=by simp
  rw [e1];refine hK _ _ (.inr ⟨g',cc,rfl,?_⟩) hb';rw [← e1,List.map_append];exact hr'
end Go.Proofs.YtlailakofhenkabGreatDoor
namespace Go.Proofs.YtlailakofhenkabGreatDoor
open Go Go.RowKit Sc
theorem getD_map (xs:List ByteArray) (x:ByteArray) (t:Nat):(xs.map (·.data.toList)).getD t x.data.toList=(xs.getD t x).data.toList:=by
 rw [List.getD_eq_getElem?_getD,List.getD_eq_getElem?_getD,List.getElem?_map]
 cases xs[t]? <;> rfl
theorem mem_bytes {xs:List ByteArray} {x:ByteArray}:x.data.toList∈xs.map (·.data.toList)↔x∈xs:=by
 rw [List.mem_map];constructor
 ·rintro ⟨y,hy,e⟩
  have:y=x:=ByteArray.ext (Array.toList_inj.1 e);exact this ▸ hy
 ·exact fun h=>⟨x,h,rfl⟩
theorem search_is {B:Nat} {w:World} {v:Value} {xs:List ByteArray} (h:Words B w v xs) (hn:xs.length≤5000) (hp:(xs.map (·.data.toList)).Pairwise (·<·)) (x:ByteArray) :
 Calls Tryz.prog 276 #[v,.string x] w fun e w'=>(∃ (k:Nat) (found:Bool),e=.returned (.tuple #[.int .i64 k,.bool found])∧k≤xs.length∧(found=true→x∈xs)∧
  (found=false→x∉xs∧(∀ y∈(xs.map (·.data.toList)).take k,y<x.data.toList)∧(∀ y∈(xs.map (·.data.toList)).drop k,¬ y<x.data.toList)))∧∃ q,w'=w.drewN q:=by
 rcases h with ⟨rfl,rfl⟩ | ⟨g,c,rfl,hr⟩
 ·refine (Any2.slices_BinarySearch_string_empty Tryz.laysNm226 _ _ _ _).mono ?_
  rintro e w' ⟨rfl,rfl⟩;exact ⟨⟨0,false,rfl,Nat.le_refl _,fun h=>(by cases h),fun _=>⟨by simp,by simp,by simp⟩⟩,0,rfl⟩
 ·obtain ⟨k,hk,h1,h2,h3,h4⟩:=place x.data.toList _ hp
  have hkl:k≤xs.length:=by simpa using hk
  have hb:Lib.bsGo (fun t=>Op.bytesLess ((fun j=>xs.getD j x) t).toList x.toList) xs.length 0 xs.length=k:=by
   refine Lib.bsGo_spec _ k (fun t ht=>?_) (fun t ht=>?_) _ _ _ (by omega) (Nat.zero_le _) hkl
   ·have:=h1 t ht
    rw [getD_map] at this;simp only [bytesLess_eq,ByteArray.toList_eq,decide_eq_true_eq];exact this
   ·have:=h2 t ht
    rw [getD_map] at this;simp only [bytesLess_eq,ByteArray.toList_eq,decide_eq_false_iff_not];exact this
  refine (Any2.slices_BinarySearch_string Tryz.laysNm226 g 0 xs.length c (fun j=>xs.getD j x) x w (by omega) (fun j hj=>?_)).mono ?_
  ·rw [Nat.zero_add]
   refine hr.holds j _ ?_;rw [List.getElem?_map,List.getElem?_eq_getElem hj,List.getD_eq_getElem?_getD,List.getElem?_eq_getElem hj];rfl
  ·rintro e w' ⟨rfl,q,rfl⟩
   rw [hb];refine ⟨⟨k,_,rfl,hkl,fun hf=>?_,fun hf=>⟨fun hx=>?_,h3,h4⟩⟩,q,rfl⟩
   ·obtain ⟨hlt,he⟩:=of_decide_eq_true hf
    rw [← he];simp only [List.getD_eq_getElem?_getD,List.getElem?_eq_getElem hlt];exact List.getElem_mem _
   ·have hf:=of_decide_eq_false hf
    have hm:=mem_bytes.2 hx;rw [← List.take_append_drop k (xs.map (·.data.toList)),List.mem_append] at hm;rcases hm with hm | hm
    ·exact lt_irr _ (h3 _ hm)
    ·have hlt:k<xs.length:=by
      have:=List.length_pos_of_mem hm;simp at this
      omega
     apply hf
     refine ⟨hlt,?_⟩;have hge:=h2 k (Nat.le_refl _);rw [getD_map] at hge;have hd:=List.drop_eq_getElem_cons (l:=xs.map (·.data.toList)) (i:=k) (by simpa using hlt)
     rw [hd,List.mem_cons] at hm;simp only [List.getElem_map] at hm hd;have he:(xs.getD k x)=xs[k]:=by rw [List.getD_eq_getElem?_getD,List.getElem?_eq_getElem hlt]; rfl
     rcases hm with hm | hm
     ·rw [he]
      exact (ByteArray.ext (Array.toList_inj.1 hm)).symm
     ·exfalso
      rw [he] at hge;have hp2:=hp;rw [← List.take_append_drop k (xs.map (·.data.toList)),List.pairwise_append] at hp2;have hp3:=hp2.2.1;rw [hd,List.pairwise_cons] at hp3;exact hge (hp3.1 _ hm)
theorem clone_is (s:ByteArray) (w:World) (hs:s.size≤10000):Calls Tryz.prog 191 #[.string s] w fun e w'=>e=.returned (.string s)∧Below w.heap.size w w':=by
 have hc:=Tryz.stringslite_Clone s w (by omega)
 go_enter Tryz.func191,Tryz.ntmps191
 go_wp2_with fail
 refine hc.mono ?_;rintro e w' ⟨rfl,hb⟩;go_wp2_with fail
 go_ret;exact ⟨rfl,hb⟩
theorem Words.slice {B:Nat} {w:World} {v:Value} {xs:List ByteArray} (h:Words B w v xs):∃ base c,v=.slice base xs.length c:=by
 rcases h with ⟨rfl,rfl⟩ | ⟨g,c,rfl,_⟩
 ·exact ⟨none,0,rfl⟩
 ·exact ⟨_,_,rfl⟩
def Seen (s:List UInt8) (xs:List ByteArray):Prop:=xs.length≤6∧∃ pre rest,words s=pre ++ rest∧SetOf (xs.map (·.data.toList)) pre∧(rest= []∨5<xs.length)
theorem unlike_is (s:ByteArray) (w:World) (hs:s.size≤5000) (hL:LenOk w):Calls Tryz.prog 205 #[.string s] w fun e w'=>∃ v xs,e=.returned v∧Words w.heap.size w' v xs∧Below w.heap.size w w'∧Seen s.data.toList xs:=by
 have HL:Hid (LenOk w):=hL;clear hL;have hss:s.data.toList.length=s.size:=Array.length_toList
 obtain ⟨m0,HS,hm0⟩:∃ m0:Bool,Hid (words s.data.toList=left m0 s.data.toList)∧s.toList.isEmpty=!m0:=by
  by_cases h0:s.data.toList= []
  ·exact ⟨false,by show _=_; rw [h0]; rfl,by rw [ByteArray.toList_eq,h0]; rfl⟩
  ·exact ⟨true,by show _=_; rw [words_ne h0]; rfl,by rw [ByteArray.toList_eq,List.isEmpty_eq_false_iff.2 h0]; rfl⟩
 go_enter Tryz.func205,Tryz.ntmps205
 go_wp2_with fail
 go_loopg [0,3,4] (s.size+1) (fun gk sv v mv wr=>∃ (l:List UInt8) (more:Bool) (xs:List ByteArray) (pre:List Word),sv=.string ⟨l.toArray⟩∧mv=.bool more∧Hid (if more then l.length<gk else True)∧l.length≤5000∧Hid (words s.data.toList=pre ++ left more l)∧Hid (SetOf (xs.map (·.data.toList)) pre)∧xs.length≤6∧Hid (Words w.heap.size wr v xs)∧Hid (Below w.heap.size w wr))
 case atStart=>
  refine ⟨s.data.toList,m0,[],[],rfl,by simp,?_,by omega,by simpa [Hid] using HS.out,by simpa [Hid] using setOf_nil,by simp,by show _; exact .inl ⟨rfl,rfl⟩,Below.refl _ _⟩
  show if m0 then _ else _
  cases m0
  ·exact trivial
  ·show s.data.toList.length<s.size+1
   omega
 case round=>
  obtain ⟨l,more,xs,pre,rfl,rfl,HG,hl,HW,HSO,hx6,HV,HB⟩:=hrel;obtain ⟨base,c,rfl⟩:=HV.out.slice;clear hm0
  cases more with
  |false=>
   have HR:Hid (Seen s.data.toList xs):=⟨hx6,pre,[],by rw [HW.out]; rfl,HSO.out,.inl rfl⟩
   go_wp2_with fail
   go_ret;exact ⟨_,xs,rfl,HV.out,HB.out,HR.out⟩
  |true=>
   by_cases h5:xs.length≤5
   ·have HLT:Hid (l.length<gk):=HG.out
    obtain ⟨m,hm⟩:=HL.out.below HB.out;have hcut:=Tryz.strings_Cut ⟨l.toArray⟩ ⟨#[43]⟩ m wr (by rw [bsize]; omega) hm
    rw [blist,show (⟨#[43]⟩:ByteArray).data.toList= [43] from rfl] at hcut
    have hst:=left_step l;have hln:=left_len l;generalize (Lib.cut l [43]).1=a at *;generalize (Lib.cut l [43]).2.1=b at *;generalize (Lib.cut l [43]).2.2=f at *;have HW2:Hid (words s.data.toList=(pre ++ [a]) ++ left f b):=by show _=_; rw [HW.out,hst]; simp
    have HLN:Hid (f=true→b.length+1≤l.length):=hln.2.2;have hal:a.length≤5000:=by have:=hln.1; omega
    have hbl:b.length≤5000:=by have:=hln.2.1; omega
    have hG2:Hid (if f then b.length<gk - 1 else True):=by
     show if f then _ else _
     cases f with
     |false=>exact trivial
     |true=>have:=HLT.out; have:=HLN.out rfl; show b.length<gk - 1; omega
    have HMS:Hid (gk - 1<gk):=by show _<_; have:=HLT.out; omega
    clear hst hln HG HLT HLN HW hm;go_wp2_with fail
    refine hcut.mono ?_;rintro e w1 ⟨rfl,d1,rfl⟩;clear hcut;have HV1:Hid (Words w.heap.size (wr.drewN d1) (.slice base xs.length c) xs):=HV.out.below (below_drewN' (Below.refl _ _) _) (Nat.le_refl _);go_wp2_with fail
    refine (search_is HV1.out (by omega) HSO.out.1 ⟨a.toArray⟩).mono ?_
    rintro e w2 ⟨⟨k,found,rfl,hk,hf1,hf2⟩,d2,rfl⟩;have HV2:Hid (Words w.heap.size (wr.drewN (d1+d2)) (.slice base xs.length c) xs):=HV.out.below (below_drewN' (Below.refl _ _) _) (Nat.le_refl _);have HB2:Hid (Below w.heap.size w (wr.drewN (d1+d2))):=below_drewN' HB.out (d1+d2);clear HV1
    cases found with
    |true=>
     have HSO2:Hid (SetOf (xs.map (·.data.toList)) (pre ++ [a])):=setOf_there HSO.out (mem_bytes.2 (hf1 rfl));clear hf1 hf2;go_wp2_with fail
     go_roundg (gk - 1)
     case measure=>exact HMS.out
     case rel=>exact ⟨b,f,xs,pre ++ [a],rfl,rfl,hG2,hbl,HW2,HSO2,hx6,HV2,HB2⟩
    |false=>
     have HSO2:Hid (SetOf ((xs.take k ++ (⟨a.toArray⟩:ByteArray)::xs.drop k).map (·.data.toList)) (pre ++ [a])):=by
      obtain ⟨g1,g2,g3⟩:=hf2 rfl
      have:=setOf_put (x:=a) (k:=k) HSO.out (fun h=>g1 (mem_bytes.1 h)) g2 g3;simpa [Hid] using this
     clear hf1 hf2;go_wp2_with fail
     refine (clone_is ⟨a.toArray⟩ _ (by rw [bsize]; omega)).mono ?_
     rintro e w3 ⟨rfl,hb3⟩;have HV3:Hid (Words w.heap.size w3 (.slice base xs.length c) xs):=HV2.out.below hb3 (Nat.le_refl _);have HB3:Hid (Below w.heap.size w w3):=HB2.out.trans (hb3.mono HB2.out.size);clear hb3 HV2;go_wp2_with fail
     refine (insert_is HV3.out k hk (by omega) HB3.out.size ⟨a.toArray⟩ 9).mono ?_
     rintro e w4 ⟨v',rfl,hv4,hb4⟩;have HV4:Hid (Words w.heap.size w4 v' (xs.take k ++ (⟨a.toArray⟩:ByteArray)::xs.drop k)):=hv4;have HB4:Hid (Below w.heap.size w w4):=HB3.out.trans hb4;have hx2:(xs.take k ++ (⟨a.toArray⟩:ByteArray)::xs.drop k).length≤6:=by rw [ins_len xs k hk]; omega
     clear hv4 hb4;generalize (xs.take k ++ (⟨a.toArray⟩:ByteArray)::xs.drop k)=ys at *;go_wp2_with fail
     go_roundg (gk - 1)
     case measure=>exact HMS.out
     case rel=>exact ⟨b,f,ys,pre ++ [a],rfl,rfl,hG2,hbl,HW2,HSO2,hx2,HV4,HB4⟩
   ·have HR:Hid (Seen s.data.toList xs):=⟨hx6,pre,_,HW.out,HSO.out,.inr (by omega)⟩
    have h5':¬ (xs.length:Int)≤5:=by omega
    go_wp2_with fail
    go_ret;first | exact ⟨_,rfl,xs,HV.out,HB.out,HR.out⟩ | exact ⟨_,xs,rfl,HV.out,HB.out,HR.out⟩
def errQ:Nat→Value
 |0=>.nilIface
 |n=>.iface 47 (.int .i64 n)
theorem any_long (xs:List ByteArray):(xs.any fun x=>decide (8<x.size))=decide (∃ w∈xs.map (·.data.toList),8<w.length):=by
 rw [Bool.eq_iff_iff,List.any_eq_true,decide_eq_true_iff];constructor
 ·rintro ⟨x,hx,h⟩
  exact ⟨_,List.mem_map.2 ⟨x,hx,rfl⟩,by simpa using h⟩
 ·rintro ⟨w,hw,h⟩
  obtain ⟨x,hx,rfl⟩:=List.mem_map.1 hw;exact ⟨x,hx,by simpa using h⟩
theorem seen_many {s:List UInt8} {xs:List ByteArray} (hf:formedB s=true) (h:Seen s xs) (h5:5<xs.length):Out s [] 4:=by
 obtain ⟨_,pre,rest,e,hs,_⟩:=h;obtain ⟨m,h1,h2⟩:=setOf_grows rest hs;exact .inr (.inr ⟨rfl,rfl,hf,m,by rwa [e],.inl (by simp at h2; omega)⟩)
theorem seen_all {s:List UInt8} {xs:List ByteArray} (h:Seen s xs) (h5:¬ 5<xs.length):SetOf (xs.map (·.data.toList)) (words s):=by
 obtain ⟨_,pre,rest,e,hs,hr⟩:=h;rcases hr with rfl | hr
 ·rw [e,List.append_nil]; exact hs
 ·exact absurd hr h5
theorem seen_long {s:List UInt8} {xs:List ByteArray} (hf:formedB s=true) (h:SetOf (xs.map (·.data.toList)) (words s)) (hl:(xs.any fun x=>decide (8<x.size))=true):Out s [] 4:=by
 rw [any_long,decide_eq_true_iff] at hl;obtain ⟨w,hw,h8⟩:=hl;exact .inr (.inr ⟨rfl,rfl,hf,_,h,.inr ⟨w,(h.2 w).1 hw,h8⟩⟩)
theorem seen_good {s:List UInt8} {xs:List ByteArray} (hf:formedB s=true) (h:SetOf (xs.map (·.data.toList)) (words s)) (h5:¬ 5<xs.length) (hl:(xs.any fun x=>decide (8<x.size))=false):Out s (xs.map (·.data.toList)) 0:=by
 rw [any_long,decide_eq_false_iff_not] at hl
 exact .inl ⟨rfl,hf,h,by simp; omega,fun w hw=>by
  rcases Nat.lt_or_ge 8 w.length with h8 | h8
  ·exact absurd ⟨w,(h.2 w).2 hw,h8⟩ hl
  ·exact h8⟩
theorem contains_long {w:World} {v:Value} {xs:List ByteArray} {B:Nat} (h:Words B w v xs) (hn:xs.length≤5000) :
 Calls Tryz.prog 207 #[v,.func (.func 206) #[] #[]] w fun e w'=>e=.returned (.bool (xs.any fun x=>decide (8<x.size)))∧∃ q,w'=w.drewN q:=by
 rcases h with ⟨rfl,rfl⟩ | ⟨g,c,rfl,hr⟩
 ·refine (Tryz.slices_ContainsFunc_empty_f207 (α:=ByteArray) none 0 _ w).mono ?_
  rintro e w' ⟨rfl,rfl⟩;exact ⟨rfl,0,rfl⟩
 ·refine (Tryz.slices_ContainsFunc_f207 Value.string (fun x=>decide (8<x.size)) 206 #[] (enters_of Tryz.func206 (by kernel_rfl) rfl) g 0 xs.length c xs w (fun W x _=>tooLong_is x W) (Nat.le_refl _) (by omega) (fun j hj=>?_)).mono ?_
  ·rw [Nat.zero_add]
   refine hr.holds j _ ?_;rw [List.getElem?_map,List.getElem?_eq_getElem hj,getElem!_pos xs j hj];rfl
  ·rintro e w' ⟨rfl,q,rfl⟩
   exact ⟨by rw [List.take_of_length_le (Nat.le_refl _)],q,rfl⟩
theorem readS_is (s:ByteArray) (w:World) (hs:s.size≤5000) (hL:LenOk w):Calls Tryz.prog 129 #[.string s] w fun e w'=>∃ v xs n,e=.returned (.tuple #[v,errQ n])∧Out s.data.toList (xs.map (·.data.toList)) n∧Words w.heap.size w' v xs∧Below w.heap.size w w':=by
 have HL:Hid (LenOk w):=hL;clear hL;go_enter Tryz.func129,Tryz.ntmps129
 go_wp2_with fail
 refine (isScope_is s _ hs HL.out).mono ?_;rintro e w1 ⟨rfl,n1,rfl⟩
 cases hf:formedB s.data.toList with
 |false=>
  have HO:Hid (Out s.data.toList (([]:List ByteArray).map (·.data.toList)) 3):=.inr (.inl ⟨rfl,rfl,hf⟩);clear hf;go_wp2_with fail
  exact bodyPost_ret (v:=.tuple #[.slice none 0 0,.iface 47 (.int .i64 3)]) (by simp [results,Tryz.results129,go_sem]) rfl ⟨_,[],3,rfl,HO.out,.inl ⟨rfl,rfl⟩,below_drewN' (Below.refl _ _) _⟩
 |true=>
  have HF:Hid (formedB s.data.toList=true):=hf;clear hf;have HB1:Hid (Below w.heap.size w (w.drewN n1)):=below_drewN' (Below.refl _ _) _;go_wp2_with fail
  refine (unlike_is s _ hs (HL.out.below HB1.out)).mono ?_;rintro e w2 ⟨v,xs,rfl,hv,hb,hseen⟩;have HV:Hid (Words w.heap.size w2 v xs):=hv;have HB2:Hid (Below w.heap.size w w2):=HB1.out.trans hb;have HS:Hid (Seen s.data.toList xs):=hseen;have hx6:xs.length≤6:=hseen.1;clear hv hb hseen HB1;obtain ⟨base,c,rfl⟩:=HV.out.slice;by_cases h5:5<xs.length
  ·have HO:Hid (Out s.data.toList (([]:List ByteArray).map (·.data.toList)) 4):=seen_many HF.out HS.out h5
   go_wp2_with fail
   exact bodyPost_ret (v:=.tuple #[.slice none 0 0,.iface 47 (.int .i64 4)]) (by simp [results,Tryz.results129,go_sem]) rfl ⟨_,[],4,rfl,HO.out,.inl ⟨rfl,rfl⟩,HB2.out⟩
  ·have HSA:Hid (SetOf (xs.map (·.data.toList)) (words s.data.toList)):=seen_all HS.out h5
   have H5:Hid (¬ 5<xs.length):=h5;have h5':(xs.length:Int)≤5:=by omega
   clear h5 HS;go_wp2_with fail
   refine (contains_long HV.out (by omega)).mono ?_
   rintro e w3 ⟨rfl,q,rfl⟩;have HB3:Hid (Below w.heap.size w (w2.drewN q)):=below_drewN' HB2.out q;have HV3:Hid (Words w.heap.size (w2.drewN q) (.slice base xs.length c) xs):=HV.out.below (below_drewN' (Below.refl _ _) _) (Nat.le_refl _)
   cases hl:(xs.any fun x=>decide (8<x.size)) with
   |true=>
    have HO:Hid (Out s.data.toList (([]:List ByteArray).map (·.data.toList)) 4):=seen_long HF.out HSA.out hl;clear hl;go_wp2_with fail
    exact bodyPost_ret (v:=.tuple #[.slice none 0 0,.iface 47 (.int .i64 4)]) (by simp [results,Tryz.results129,go_sem]) rfl ⟨_,[],4,rfl,HO.out,.inl ⟨rfl,rfl⟩,HB3.out⟩
   |false=>
    have HO:Hid (Out s.data.toList (xs.map (·.data.toList)) 0):=seen_good HF.out HSA.out H5.out hl;clear hl;go_wp2_with fail
    exact bodyPost_ret (v:=.tuple #[.slice base xs.length c,.nilIface]) (by simp [results,Tryz.results129,go_sem]) rfl ⟨_,xs,0,rfl,HO.out,HV3.out,HB3.out⟩
end Go.Proofs.YtlailakofhenkabGreatDoor
