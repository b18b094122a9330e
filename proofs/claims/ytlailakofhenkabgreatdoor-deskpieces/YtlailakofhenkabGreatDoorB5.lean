import Derived.Test.YtlailakofhenkabGreatDoorB3
import Derived.Test.YtlailakofhenkabGreatDoorB4
import Derived.Lib.QuietBelow
import Derived.Lib.SmallJoins
import Derived.Test.YtlailakofhenkabGreatDoorB2
namespace Go.Proofs.YtlailakofhenkabGreatDoor
open Go Go.RowKit
theorem insert_is {B:Nat} {w:World} {v:Value} {xs:List ByteArray} (h:Words B w v xs) (i:Nat) (hi:i≤xs.length) (hn:xs.length≤5000) (hB:B≤w.heap.size) (x:ByteArray) (t:TypeId) :
 Calls Tryz.prog 277 #[v,.int .i64 i,.slice (some ⟨w.heap.size,0,none⟩) 1 1] (w.alloc (.cells #[.string x] t)) fun e w'=>∃ v',e=.returned v'∧Words B w' v' (xs.take i ++ x::xs.drop i)∧Below B w w':=by
 have hbW:Below B w (w.alloc (.cells #[.string x] t)):=(Below.refl _ _).alloc hB _
 have hvs:∀ j u,[Value.string x][j]?=some u→(w.alloc (.cells #[.string x] t)).cell? ⟨w.heap.size,0+j,none⟩=some u:=by
  intro j u hj;match j,hj with
  |0,hj=>simp at hj; subst hj; simp
  |j+1,hj=>simp at hj
 have h1v:∀ v∈ [Value.string x],v.oneCell'=true:=by intro v hv; simp at hv; subst hv; rfl
 have h1c:∀ v∈xs.map Value.string,v.oneCell'=true:=by
  intro v hv;obtain ⟨y,_,rfl⟩:=List.mem_map.1 hv;rfl
 have hmap:(xs.take i ++ x::xs.drop i).map Value.string=(xs.map Value.string).take i ++ .string x::(xs.map Value.string).drop i:=by simp
 have hxl:(xs.take i ++ x::xs.drop i).length=xs.length+1:=ins_len xs i hi x;have hcl:(xs.map Value.string).length=xs.length:=by simp
 have hmaxW:xs.length+1≤maxLen:=by unfold maxLen; omega
 rcases h with ⟨rfl,rfl⟩ | ⟨g,c,rfl,hr⟩
 ·obtain rfl:i=0:=by simpa using hi
  refine (Any2.slices_Insert_string_end_grow Tryz.laysNm222 none 0 0 w.heap.size 0 1 1 [] [.string x] _ (by omega) (by omega) (by omega) (by omega) rfl rfl (fun _=>rfl) (fun a ha=>by cases ha) hvs h1v).mono ?_
  rintro e w' ⟨rfl,rfl⟩;refine ⟨_,rfl,.inr ⟨_,_,rfl,?_⟩,(hbW.drew).alloc (by simp; omega) _⟩
  have hg:=grownCap_le_maxLen (w.alloc (.cells #[.string x] t)) (0+1) 0 9 (by unfold maxLen; omega)
  have hg1:=grownCap_ge (w.alloc (.cells #[.string x] t)) (0+1) 0 9;exact rowAt_new (B:=B) (w:=(w.alloc (.cells #[.string x] t)).drew) (by simp; omega) [.string x] 1 rfl (.string ⟨#[]⟩) _ 9 hg hg1
 ·have hrW:RowAt B (w.alloc (.cells #[.string x] t)) g c xs.length (xs.map Value.string):=hr.alloc _
  have hgw:w.heap.size≠g:=by have:=hr.lt; omega
  have hc63:c≤9223372036854775807:=hr.max;have hcs:∀ j v,(xs.map Value.string)[j]?=some v→(w.alloc (.cells #[.string x] t)).cell? ⟨g,0+j,none⟩=some v:=fun j v hj=>by rw [Nat.zero_add]; exact hrW.holds j v hj
  have hg:=grownCap_le_maxLen (w.alloc (.cells #[.string x] t)) (xs.length+1) c 9 hmaxW;have hg1:=grownCap_ge (w.alloc (.cells #[.string x] t)) (xs.length+1) c 9;by_cases hin:i=xs.length
  ·subst hin
   by_cases hroom:xs.length+1≤c
   ·refine (Any2.slices_Insert_string_end_room Tryz.laysNm222 g 0 xs.length c w.heap.size 0 1 1 [.string x] _ (by omega) hroom hc63 rfl (fun j hj=>by rw [Nat.zero_add]; exact (hrW.there _ (by omega)).1) (fun j hj=>by rw [Nat.zero_add]; exact (hrW.there _ (by omega)).2) hvs h1v).mono ?_
    rintro e w' ⟨rfl,rfl⟩;refine ⟨_,rfl,.inr ⟨g,c,by rw [hxl],?_⟩,hbW.trans (below_setCellsW hr.new _ _ _)⟩
    rw [show (xs.take xs.length ++ x::xs.drop xs.length).length=((xs.take xs.length ++ x::xs.drop xs.length).map Value.string).length by simp]
    refine hrW.setCells _ _ (by simp; omega) (by rw [List.length_map,hxl]; omega) (fun j u hj=>?_)
    rw [hmap,ins_get _ _ (by rw [hcl]; omega)] at hj
    refine ⟨fun hh=>?_,fun hh=>?_⟩
    ·have:j=xs.length:=by simp at hh; omega
     subst this;rw [if_neg (by omega),if_pos rfl] at hj
     simpa using hj
    ·simp only [Nat.zero_add,List.length_singleton] at hh
     by_cases hj1:j<xs.length
     ·rw [if_pos hj1] at hj
      exact hrW.holds j u hj
     ·rw [if_neg hj1,if_neg (by omega)] at hj
      have:=(List.getElem?_eq_some_iff.1 hj).1;simp at this
      omega
   ·refine (Any2.slices_Insert_string_end_grow Tryz.laysNm222 (some ⟨g,0,none⟩) xs.length c w.heap.size 0 1 1 (xs.map Value.string) [.string x] _ (by omega) hr.le (by omega) (by omega) hcl rfl (fun h=>by cases h) (fun a ha j u hj=>by
     cases ha
     rw [Addr.add_lit];exact hcs j u hj) hvs h1v).mono ?_
    rintro e w' ⟨rfl,rfl⟩;refine ⟨_,rfl,.inr ⟨_,_,by rw [hxl],?_⟩,(hbW.drew).alloc (by simp; omega) _⟩
    rw [hmap,hxl,show List.take xs.length (xs.map Value.string) ++ Value.string x::List.drop xs.length (xs.map Value.string)=xs.map Value.string ++ [.string x] by
     rw [List.take_of_length_le (by simp),List.drop_of_length_le (by simp)]]
    exact rowAt_new (B:=B) (w:=(w.alloc (.cells #[.string x] t)).drew) (by simp; omega) (xs.map Value.string ++ [.string x]) (xs.length+1) (by simp) (.string ⟨#[]⟩) _ 9 hg hg1
  ·have hlt:i<xs.length:=by omega
   by_cases hroom:xs.length+1≤c
   ·obtain ⟨u0,hu0⟩:=Option.isSome_iff_exists.1 (hrW.there 0 (by omega)).1
    obtain ⟨tB,kB,hsb,hkB,_⟩:=World.shape?_of_cell? hu0;have hsa:(w.alloc (.cells #[.string x] t)).shape? w.heap.size=some (t,1):=by unfold World.shape?; rw [show (w.alloc (.cells #[.string x] t)).heap[w.heap.size]?=some (.cells #[.string x] t) from Array.getElem?_push_size]; rfl
    refine (Any2.slices_Insert_string_shift Tryz.laysNm222 g 0 xs.length c i w.heap.size 0 1 1 (xs.map Value.string) [.string x] _ hlt (by omega) hroom hc63 hgw hcl rfl hcs (fun j hj=>by rw [Nat.zero_add]; exact (hrW.there j (by omega)).1) (fun j hj=>by rw [Nat.zero_add]; exact (hrW.there j (by omega)).2) hvs h1c h1v t tB 1 kB hsa hsb (by simp at hkB; omega) (World.frozen?_alloc_at _ _ _ _ rfl) (World.frozen?_alloc_at _ _ _ _ rfl)).mono ?_
    rintro e w' ⟨rfl,rfl⟩;refine ⟨_,rfl,.inr ⟨g,c,by rw [hxl],?_⟩,(hbW.drew.trans (below_setCellsW hr.new _ _ _)).trans (below_setCellsW hr.new _ _ _)⟩
    rw [show (xs.take i ++ x::xs.drop i).length=((xs.take i ++ x::xs.drop i).map Value.string).length by simp]
    have hmid:RowAt B ((w.alloc (.cells #[.string x] t)).drew.setCells g (0+(i+1)) ((xs.map Value.string).drop i)) g c (((xs.map Value.string).take (i+1)) ++ (xs.map Value.string).drop i).length (((xs.map Value.string).take (i+1)) ++ (xs.map Value.string).drop i):=by
     have hl1:((xs.map Value.string).take (i+1)).length=i+1:=by rw [List.length_take,hcl]; omega
     refine hrW.drew.setCells _ _ (by rw [List.length_drop,hcl]; omega) (by rw [List.length_append,hl1,List.length_drop,hcl]; omega) (fun j u hj=>⟨fun hh=>?_,fun hh=>?_⟩)
     ·rw [List.getElem?_append_right (by omega),hl1] at hj
      rw [show j - (0+(i+1))=j - (i+1) by omega]
      exact hj
     ·by_cases hj1:j<i+1
      ·rw [List.getElem?_append_left (by omega),List.getElem?_take,if_pos hj1] at hj
       exact hrW.drew.holds j u hj
      ·exfalso
       have:=(List.getElem?_eq_some_iff.1 hj).1;rw [List.length_append,hl1] at this;omega
    refine hmid.setCells _ _ (by simp; omega) (by rw [List.length_map,hxl]; omega) (fun j u hj=>?_)
    rw [hmap,ins_get _ _ (by rw [hcl]; omega)] at hj
    have hl1:((xs.map Value.string).take (i+1)).length=i+1:=by rw [List.length_take,hcl]; omega
    refine ⟨fun hh=>?_,fun hh=>?_⟩
    ·have:j=i:=by simp at hh; omega
     subst this;rw [if_neg (by omega),if_pos rfl] at hj
     simpa using hj
    ·simp only [Nat.zero_add,List.length_singleton] at hh
     by_cases hj1:j<i
     ·rw [if_pos hj1] at hj
      refine hmid.holds j u ?_;rw [List.getElem?_append_left (by omega),List.getElem?_take,if_pos (by omega)]
      exact hj
     ·rw [if_neg hj1,if_neg (by omega)] at hj
      refine hmid.holds j u ?_;rw [List.getElem?_append_right (by omega),hl1,List.getElem?_drop,show i+(j - (i+1))=j - 1 by omega]
      exact hj
   ·refine (Any2.slices_Insert_string_grow Tryz.laysNm222 g 0 xs.length c i w.heap.size 0 1 1 (xs.map Value.string) [.string x] _ hlt (by omega) hr.le (by omega) (by omega) hcl rfl hcs hvs h1c h1v).mono ?_
    rintro e w' ⟨rfl,rfl⟩;generalize hW:w.alloc (.cells #[.string x] t)=W at *;have hBW:B≤W.heap.size:=Nat.le_trans hB hbW.size;refine ⟨_,rfl,.inr ⟨_,_,by rw [hxl],?_⟩,(((hbW.alloc hBW _).drew.trans (below_setCellsW hBW _ _ _)).drew).trans (below_setCellsW hBW _ _ _)⟩
    rw [show (xs.take i ++ x::xs.drop i).length=((xs.take i ++ x::xs.drop i).map Value.string).length by simp]
    have hti:((xs.map Value.string).take i).length=i:=by rw [List.length_take,hcl]; omega
    have h0:RowAt B (W.alloc (.cells (((xs.map Value.string).take i).toArray ++ Builtin.zeroCells (Value.string ⟨#[]⟩).cells (xs.length+1 - i) ++ Builtin.zeroCells (Value.string ⟨#[]⟩).cells (grownCap W (xs.length+1) c 9 - (xs.length+1))) 9)) W.heap.size (grownCap W (xs.length+1) c 9) i ((xs.map Value.string).take i):=by
     have hs:(((xs.map Value.string).take i).toArray ++ Builtin.zeroCells (Value.string ⟨#[]⟩).cells (xs.length+1 - i) ++ Builtin.zeroCells (Value.string ⟨#[]⟩).cells (grownCap W (xs.length+1) c 9 - (xs.length+1))).size=grownCap W (xs.length+1) c 9:=by
      rw [Array.size_append,Array.size_append,size_zeroCells,size_zeroCells];simp [Value.cells,hti]
      omega
     refine ⟨hBW,by simp,hti,by omega,hg,fun j u hj=>?_,fun j hj=>⟨?_,World.frozen?_alloc_at _ _ _ _ (by simp)⟩⟩
     ·have hl:=(List.getElem?_eq_some_iff.1 hj).1
      rw [World.cell?_alloc_at _ _ _ _ (by simp),Array.append_assoc,Array.getElem?_append_left (by simpa using hl)]
      simpa using hj
     ·rw [World.cell?_alloc_at _ _ _ _ (by simp),Array.getElem?_eq_getElem (by rw [hs]; exact hj)]
      rfl
    have hmid:RowAt B ((W.alloc (.cells (((xs.map Value.string).take i).toArray ++ Builtin.zeroCells (Value.string ⟨#[]⟩).cells (xs.length+1 - i) ++ Builtin.zeroCells (Value.string ⟨#[]⟩).cells (grownCap W (xs.length+1) c 9 - (xs.length+1))) 9)).drew.setCells W.heap.size i [.string x]).drew W.heap.size (grownCap W (xs.length+1) c 9) ((xs.map Value.string).take i ++ [Value.string x]).length ((xs.map Value.string).take i ++ [Value.string x]):=by
     refine (h0.drew.setCells _ _ (by simp; omega) (by rw [List.length_append,hti]; simp; omega) (fun j u hj=>⟨fun hh=>?_,fun hh=>?_⟩)).drew
     ·have:j=i:=by simp at hh; omega
      subst this;rw [List.getElem?_append_right (by omega),hti] at hj
      exact hj
     ·simp only [List.length_singleton] at hh
      by_cases hj1:j<i
      ·rw [List.getElem?_append_left (by omega)] at hj
       exact h0.drew.holds j u hj
      ·exfalso
       have:=(List.getElem?_eq_some_iff.1 hj).1;rw [List.length_append,hti] at this;simp at this
       omega
    refine hmid.setCells _ _ (by rw [List.length_drop,hcl]; omega) (by rw [List.length_map,hxl]; omega) (fun j u hj=>?_)
    rw [hmap,ins_get _ _ (by rw [hcl]; omega)] at hj
    refine ⟨fun hh=>?_,fun hh=>?_⟩
    ·rw [if_neg (by omega),if_neg (by omega)] at hj
     rw [List.getElem?_drop,show i+(j - (i+1))=j - 1 by omega]
     exact hj
    ·rw [List.length_drop,hcl] at hh
     by_cases hj1:j<i
     ·rw [if_pos hj1] at hj
      refine hmid.holds j u ?_;rw [List.getElem?_append_left (by omega),List.getElem?_take,if_pos (by omega)]
      exact hj
     ·rw [if_neg hj1] at hj
      by_cases hj2:j=i
      ·subst hj2
       rw [if_pos rfl] at hj;refine hmid.holds j u ?_;rw [List.getElem?_append_right (by omega),hti]
       simpa using hj
      ·exfalso
       rw [if_neg hj2] at hj
       have:=(List.getElem?_eq_some_iff.1 hj).1;rw [hcl] at this;omega
end Go.Proofs.YtlailakofhenkabGreatDoor
set_option maxRecDepth 100000
set_option maxHeartbeats 2000000
namespace Go.Proofs.YtlailakofhenkabGreatDoor
open Go Go.RowKit Sc
def LenOk (w:World):Prop:=∃ m,w.cell? ⟨2,0,none⟩=some (.int .i64 m)
theorem LenOk.below {w w':World} (h:LenOk w) (hb:Below w.heap.size w w'):LenOk w':=by
 obtain ⟨m,hm⟩:=h;exact ⟨m,(hb.cell (p:=⟨2,0,none⟩) (World.block_lt_of_cell? _ _ hm)).trans hm⟩
theorem all_take (s:ByteArray) (k:Nat) (h:k<s.size):(s.data.toList.take (k+1)).all lowB=((s.data.toList.take k).all lowB && lowB s[k]):=by
 rw [List.take_succ_eq_append_getElem (by simpa using h),List.all_append]
 simp
 rfl
theorem all_bad {s:ByteArray} {k:Nat} (h:k<s.size) (hb:lowB s[k]=false):wordB s.data.toList=false:=by
 cases hw:wordB s.data.toList with
 |false=>rfl
 |true=>
  have:=(wordB_iff.1 hw).2 s[k] (by
   show s.data[k]∈s.data.toList
   exact Array.mem_toList_iff.2 (Array.getElem_mem h))
  rw [hb] at this
  cases this
theorem word_full {s:ByteArray} (h:(s.data.toList.take s.size).all lowB=true):wordB s.data.toList=!s.data.toList.isEmpty:=by
 rw [List.take_of_length_le (by simp)] at h
 unfold wordB;rw [h]
 cases s.data.toList <;> rfl
theorem isWord_is (s:ByteArray) (w:World) (hs:s.size≤10000):Calls Tryz.prog 275 #[.string s] w fun e w'=>e=.returned (.bool (wordB s.data.toList))∧w'=w:=by
 have HBAD:Hid (∀ k (h:k<s.size),lowB s[k]=false→wordB s.data.toList=false):=fun k h=>all_bad h;have HT:Hid (∀ k (h:k<s.size),(s.data.toList.take (k+1)).all lowB=((s.data.toList.take k).all lowB && lowB s[k])):=all_take s;have HF:Hid ((s.data.toList.take s.size).all lowB=true→wordB s.data.toList=!s.data.toList.isEmpty):=word_full;go_enter Tryz.func275,Tryz.ntmps275
 go_wp2_with fail
 go_loopg [6] s.size (fun gk i wr=>∃ k:Nat,k+gk=s.size∧i=.int .i64 k∧Hid ((s.data.toList.take k).all lowB=true)∧wr=w)
 case atStart=>exact ⟨0,by omega,rfl,by simp [Hid],rfl⟩
 case round=>
  obtain ⟨k,hk,rfl,HA,rfl⟩:=hrel;have HK:Hid (k+gk=s.size):=hk;have hks:k≤s.size:=by omega
  clear hk;by_cases hlt:k<s.size
  ·have hltI:(k:Int)<(s.size:Int):=by omega
   by_cases h1:97≤s[k].toNat
   ·by_cases h2:s[k].toNat≤122
    ·have HL:Hid (lowB s[k]=true):=lowB_t h1 h2
     go_wp2_with fail
     go_roundg (gk - 1)
     case measure=>have:=HK.out; omega
     case rel=>exact ⟨k+1,by have:=HK.out; omega,by go_num,by show _=true; rw [HT.out k hlt,HA.out,HL.out]; rfl,rfl⟩
    ·have HW:Hid (wordB s.data.toList=false):=HBAD.out k hlt (lowB_f (by omega))
     go_wp2_with fail
     go_ret;exact ⟨by rw [HW.out]; rfl,rfl⟩
   ·have HW:Hid (wordB s.data.toList=false):=HBAD.out k hlt (lowB_f (by omega))
    go_wp2_with fail
    go_ret;exact ⟨by rw [HW.out]; rfl,rfl⟩
  ·obtain rfl:k=s.size:=by omega
   have HW:Hid (wordB s.data.toList=!s.data.toList.isEmpty):=HF.out HA.out;go_wp2_with fail
   go_ret;exact ⟨by rw [HW.out,← ByteArray.toList_eq]; rfl,rfl⟩
theorem formed_left {s:List UInt8} (h:s≠ []):formedB s=(left true s).all wordB:=by
 unfold formedB;rw [words_ne h];rfl
theorem blist (l:List UInt8):(⟨l.toArray⟩:ByteArray).data.toList=l:=rfl
theorem bsize (l:List UInt8):(⟨l.toArray⟩:ByteArray).size=l.length:=by simp [ByteArray.size]
theorem bne_list {s:ByteArray} (h:s≠⟨#[]⟩):s.data.toList≠ []:=fun e=>h (by
 apply ByteArray.ext
 exact Array.toList_inj.1 e)
theorem isScope_is (s:ByteArray) (w:World) (hs:s.size≤5000) (hL:LenOk w):Calls Tryz.prog 204 #[.string s] w fun e w'=>e=.returned (.bool (formedB s.data.toList))∧∃ n,w'=w.drewN n:=by
 have HL:Hid (LenOk w):=hL;clear hL;by_cases h0:s=⟨#[]⟩
 ·subst h0
  go_enter Tryz.func204,Tryz.ntmps204
  go_wp2_with fail
  go_ret;exact ⟨rfl,0,rfl⟩
 ·have HS:Hid (formedB s.data.toList=(left true s.data.toList).all wordB):=formed_left (bne_list h0)
  have hne:s.toList.isEmpty=false:=by
   rw [ByteArray.toList_eq,List.isEmpty_eq_false_iff];exact bne_list h0
  clear h0;go_enter Tryz.func204,Tryz.ntmps204
  go_wp2_with fail
  go_loopg [0,3] (s.size+1) (fun gk sv mv wr=>∃ (l:List UInt8) (more:Bool) (n:Nat),sv=.string ⟨l.toArray⟩∧mv=.bool more∧Hid (if more then l.length<gk else True)∧l.length≤5000∧Hid (formedB s.data.toList=(left more l).all wordB)∧wr=w.drewN n)
  case atStart=>exact ⟨s.data.toList,true,0,rfl,rfl,by show s.data.toList.length<s.size+1; simp,by simpa using hs,HS.out,rfl⟩
  case round=>
   obtain ⟨l,more,n,rfl,rfl,HG,hl,HFm,rfl⟩:=hrel
   cases more with
   |false=>
    have HF2:Hid (formedB s.data.toList=true):=HFm.out;go_wp2_with fail
    go_ret;exact ⟨by rw [HF2.out]; rfl,n,rfl⟩
   |true=>
    have HFm2:Hid (formedB s.data.toList=(left true l).all wordB):=HFm.out;have hlt:l.length<gk:=HG.out;have HLT:Hid (l.length<gk):=hlt;obtain ⟨m,hm⟩:=HL.out;have hcut:=Tryz.strings_Cut ⟨l.toArray⟩ ⟨#[43]⟩ m (w.drewN n) (by rw [bsize]; omega) hm
    rw [blist,show (⟨#[43]⟩:ByteArray).data.toList= [43] from rfl] at hcut
    have hst:=left_step l;have hln:=left_len l;generalize (Lib.cut l [43]).1=a at *;generalize (Lib.cut l [43]).2.1=b at *;generalize (Lib.cut l [43]).2.2=f at *;have HST:Hid (left true l=a::left f b):=hst;have HLN:Hid (f=true→b.length+1≤l.length):=hln.2.2;have hal:a.length≤5000:=by have:=hln.1; omega
    have hbl:b.length≤5000:=by have:=hln.2.1; omega
    clear hst hln HG HFm hlt hm;go_wp2_with fail
    refine hcut.mono ?_;rintro e w1 ⟨rfl,d1,rfl⟩;clear hcut;go_wp2_with fail
    refine (isWord_is ⟨a.toArray⟩ _ (by rw [bsize]; omega)).mono ?_
    rintro e w2 ⟨rfl,rfl⟩;rw [blist]
    cases hw:wordB a with
    |false=>
     have HF2:Hid (formedB s.data.toList=false):=by show _=_; rw [HFm2.out,HST.out,List.all_cons,hw]; rfl
     clear hw;go_wp2_with fail
     go_ret;exact ⟨by rw [HF2.out]; rfl,n+d1,rfl⟩
    |true=>
     have HF2:Hid (formedB s.data.toList=(left f b).all wordB):=by show _=_; rw [HFm2.out,HST.out,List.all_cons,hw]; rfl
     clear hw;go_wp2_with fail
     go_roundg (gk - 1)
     case measure=>have:=HLT.out; omega
     case rel=>
      refine ⟨b,f,n+d1,rfl,rfl,?_,hbl,HF2,rfl⟩;show if f then _ else _
      cases f with
      |false=>exact trivial
      |true=>have:=HLT.out; have:=HLN.out rfl; show b.length<gk - 1; omega
theorem tooLong_is (x:ByteArray) (w:World):Calls Tryz.prog 206 #[.string x] w fun e w'=>e=.returned (.bool (decide (8<x.size)))∧∃ q,w'=w.drewN q:=by
 go_enter Tryz.func206,Tryz.ntmps206
 go_wp2_with fail
 go_ret;exact ⟨by congr 2; simp; omega,0,rfl⟩
end Go.Proofs.YtlailakofhenkabGreatDoor
namespace Go.Proofs.YtlailakofhenkabGreatDoor
open Go Go.RowKit Tok
theorem belowGrownE (w:World) (k:Nat) (os:Array Obj):Below w.heap.size w (Go.Sort.grow (w.drewN k) os):=by
 have h:=below_drewN (Below.refl w.heap.size w) k;have hs:(w.drewN k).heap=w.heap:=by simp
 refine ⟨h.os,h.tape,h.output,?_,fun i hi=>?_⟩
 ·show w.heap.size≤((w.drewN k).heap ++ os).size
  rw [hs,Array.size_append]; omega
 ·show ((w.drewN k).heap ++ os)[i]?=w.heap[i]?
  rw [hs,Array.getElem?_append_left hi]
theorem tabIsBelowE {B:Nat} {w w':World} {name:String} {k:IntKind} {zs:List Int} {g:Nat} (h:Lib.TabIs Tryz.prog w name k zs) (hb:Below B w w') (hg:Tryz.prog.globalNamed name=some g) (hB:g<B):Lib.TabIs Tryz.prog w' name k zs:=by
 unfold Lib.TabIs World.var? at *;simp only [hg,Option.bind_some] at h ⊢;rw [hb.block g hB];exact h
theorem gPowE : Tryz.prog.globalNamed "internal/strconv.uint64pow10" = some 3 := by kernel_rfl
structure LibsE (w:World):Prop where
 big:3<w.heap.size
 pow : Lib.TabIs Tryz.prog w "internal/strconv.uint64pow10" .u64 Lib.pow10Tab
 len:LenOk w
theorem LibsE.below {w w':World} (h:LibsE w) (hb:Below w.heap.size w w'):LibsE w':=
 ⟨Nat.lt_of_lt_of_le h.big hb.size,tabIsBelowE h.pow hb gPowE h.big,h.len.below hb⟩
theorem itoaE_is (n:Int) (w:World) (h0:0≤n) (h1:n≤9223372036854775807) (hL:LibsE w):Calls Tryz.prog 57 #[.int .i64 n] w fun e w'=>e=.returned (.string ⟨(Lib.itoa n).toArray⟩)∧Below w.heap.size w w':=by
 refine (Tryz.strconv_Itoa n (by omega) h1 w hL.pow).mono ?_
 rintro e w' ⟨rfl,k,os,rfl⟩;exact ⟨rfl,belowGrownE _ _ _⟩
structure LibsA (w:World):Prop where
 base:LibsE w
 syn:∃ ev,w.cell? ⟨4,0,none⟩=some ev∧(ev=.nilIface∨∃ te pe,ev=.iface te pe)
 rng:∃ ev,w.cell? ⟨5,0,none⟩=some ev∧(ev=.nilIface∨∃ te pe,ev=.iface te pe)
theorem LibsA.below {w w':World} (h:LibsA w) (hb:Below w.heap.size w w'):LibsA w' where
 base:=h.base.below hb
 syn:=by
  obtain ⟨m,hm,k⟩:=h.syn;exact ⟨m,(hb.cell (p:=⟨4,0,none⟩) (World.block_lt_of_cell? _ _ hm)).trans hm,k⟩
 rng:=by
  obtain ⟨m,hm,k⟩:=h.rng;exact ⟨m,(hb.cell (p:=⟨5,0,none⟩) (World.block_lt_of_cell? _ _ hm)).trans hm,k⟩
theorem atoiE_any (s:ByteArray) (w:World) (hs:s.size≤10000) (hL:LibsA w):Calls Tryz.prog 181 #[.string s] w fun e w'=>∃ v err,e=.returned (.tuple #[.int .i64 v,err])∧Below w.heap.size w w'∧∀ m,okN m→s.data.toList=Lib.itoa m→v=m:=by
 cases hc:Lib.atoiAll s.data.toList with
 |ok v=>
  refine (Tryz.strconv_Atoi_ok s (by omega) v hc w).mono ?_
  rintro e w' ⟨rfl,hw⟩;refine ⟨v,_,rfl,?_,fun m hm he=>?_⟩
  ·rcases hw with rfl | ⟨t,rfl⟩
   ·exact Below.refl _ _
   ·exact Joins.below_bytesWorld _ _ _ _ (Nat.le_refl _)
  ·rw [he,atoi_itoa hm.1 (by have:=hm.2; omega)] at hc
   injection hc with hc;exact hc.symm
 |range=>
  obtain ⟨ev,h1,h2⟩:=hL.rng;refine (Tryz.strconv_Atoi_range s (by omega) hc ev w h1 h2).mono ?_
  rintro e w' ⟨N,rfl,_,_,hb⟩;refine ⟨_,_,rfl,hb,fun m hm he=>?_⟩;rw [he,atoi_itoa hm.1 (by have:=hm.2; omega)] at hc
  cases hc
 |_=>
  obtain ⟨ev,h1,h2⟩:=hL.syn;refine (Tryz.strconv_Atoi_syntax s (by omega) hc ev w h1 h2).mono ?_
  rintro e w' ⟨N,rfl,_,_,hb⟩;refine ⟨_,_,rfl,hb,fun m hm he=>?_⟩;rw [he,atoi_itoa hm.1 (by have:=hm.2; omega)] at hc
  cases hc
end Go.Proofs.YtlailakofhenkabGreatDoor
namespace Go.Proofs.YtlailakofhenkabGreatDoor
open Go Go.RowKit
structure RowK (k B:Nat) (w:World) (g c n:Nat) (cs:List Value):Prop where
 new:B≤g
 lt:g<w.heap.size
 len:cs.length=n*k
 le:n≤c
 max:c≤maxLen
 one:∀ u∈cs,u.oneCell'=true
 holds:∀ j u,cs[j]?=some u→w.cell? ⟨g,j,none⟩=some u
 there:∀ j,j<c*k→(w.cell? ⟨g,j,none⟩).isSome=true∧w.frozen? ⟨g,j,none⟩=false
theorem RowK.block {k B:Nat} {w w':World} {g c n:Nat} {cs:List Value} (h:RowK k B w g c n cs) (hs:w.heap.size≤w'.heap.size) (hb:w'.heap[g]?=w.heap[g]?):RowK k B w' g c n cs:=
 ⟨h.new,Nat.lt_of_lt_of_le h.lt hs,h.len,h.le,h.max,h.one,fun j u hj=>(World.cell?_of_block (a:=⟨g,j,none⟩) hb).trans (h.holds j u hj),
  fun j hj=>⟨by rw [World.cell?_of_block (a:=⟨g,j,none⟩) hb]; exact (h.there j hj).1,(World.frozen?_of_block (a:=⟨g,j,none⟩) hb).trans (h.there j hj).2⟩⟩
theorem RowK.below {k B B':Nat} {w w':World} {g c n:Nat} {cs:List Value} (h:RowK k B w g c n cs) (hb:Below B' w w') (hg:g<B'):RowK k B w' g c n cs:=h.block hb.size (hb.block g hg)
theorem RowK.mono {k B B':Nat} {w:World} {g c n:Nat} {cs:List Value} (h:RowK k B w g c n cs) (hB:B'≤B):RowK k B' w g c n cs:={ h with new:=Nat.le_trans hB h.new }
theorem RowK.setCells {k B:Nat} {w:World} {g c n n':Nat} {cs cs':List Value} (h:RowK k B w g c n cs) (o:Nat) (vs:List Value) (ho:o+vs.length≤c*k) (hn:n'≤c) (hl:cs'.length=n'*k) (h1:∀ u∈cs',u.oneCell'=true)
 (hh:∀ j u,cs'[j]?=some u→(o≤j∧j<o+vs.length→vs[j - o]?=some u)∧(¬ (o≤j∧j<o+vs.length)→w.cell? ⟨g,j,none⟩=some u)):RowK k B (w.setCells g o vs) g c n' cs':=by
 have hthere:∀ j,j<vs.length→(w.cell? ⟨g,o+j,none⟩).isSome=true:=fun j hj=>(h.there (o+j) (by omega)).1
 refine ⟨h.new,?_,hl,hn,h.max,h1,fun j u hj=>?_,fun j hj=>⟨?_,?_⟩⟩
 ·have hb:=below_setCellsW (B:=0) (Nat.zero_le g) vs o w
  exact Nat.lt_of_lt_of_le h.lt hb.size
 ·by_cases hin:o≤j∧j<o+vs.length
  ·obtain ⟨d,rfl⟩:∃ d,j=o+d:=⟨j - o,by omega⟩
   have hv:=(hh _ u hj).1 hin;rw [show o+d - o=d by omega] at hv
   have hd:d<vs.length:=(List.getElem?_eq_some_iff.1 hv).1;rw [World.cell?_setCells_in g vs o w hthere d hd,← hv,List.getElem?_eq_getElem hd]
  ·rw [World.cell?_setCells_out g vs o w ⟨g,j,none⟩ (fun _ _=>by show j<o∨o+vs.length≤j; omega)]
   exact (hh _ u hj).2 hin
 ·by_cases hin:o≤j∧j<o+vs.length
  ·obtain ⟨d,rfl⟩:∃ d,j=o+d:=⟨j - o,by omega⟩
   rw [World.cell?_setCells_in g vs o w hthere d (by omega)]
   rfl
  ·rw [World.cell?_setCells_out g vs o w ⟨g,j,none⟩ (fun _ _=>by show j<o∨o+vs.length≤j; omega)]
   exact (h.there j hj).1
 ·rw [World.frozen?_setCells]
  exact (h.there j hj).2
theorem rowK_new {k B:Nat} {w:World} (hB:B≤w.heap.size) (cs:List Value) (n:Nat) (hn:cs.length=n*k) (h1:∀ u∈cs,u.oneCell'=true) (z:Array Value) (hz:z.size=k) (G:Nat) (t:TypeId) (hm:G≤maxLen) (hl:n≤G):RowK k B (w.alloc (.cells (cs.toArray ++ Builtin.zeroCells z (G - n)) t)) w.heap.size G n cs:=by
 have hs:(cs.toArray ++ Builtin.zeroCells z (G - n)).size=G*k:=by
  rw [Array.size_append,size_zeroCells,hz,List.size_toArray,hn,← Nat.add_mul];congr 1
  omega
 refine ⟨hB,by simp,hn,hl,hm,h1,fun j u hj=>?_,fun j hj=>⟨?_,World.frozen?_alloc_at _ _ _ _ (by simp)⟩⟩
 ·have hl:=(List.getElem?_eq_some_iff.1 hj).1
  rw [World.cell?_alloc_at _ _ _ _ (by simp),Array.getElem?_append_left (by simpa using hl)]
  simpa using hj
 ·rw [World.cell?_alloc_at _ _ _ _ (by simp),Array.getElem?_eq_getElem (by rw [hs]; exact hj)]
  rfl
def RowsK (k B:Nat) (w:World) (v:Value) (n:Nat) (cs:List Value):Prop:=
 (v=.slice none 0 0∧n=0∧cs= [])∨∃ g c,v=.slice (some ⟨g,0,none⟩) n c∧RowK k B w g c n cs
theorem RowsK.below {k B B':Nat} {w w':World} {v:Value} {n:Nat} {cs:List Value} (h:RowsK k B w v n cs) (hb:Below B' w w') (hB:w.heap.size≤B'):RowsK k B w' v n cs:=by
 rcases h with h | ⟨g,c,rfl,hr⟩
 ·exact .inl h
 ·exact .inr ⟨g,c,rfl,hr.below hb (Nat.lt_of_lt_of_le hr.lt hB)⟩
theorem RowsK.mono {k B B':Nat} {w:World} {v:Value} {n:Nat} {cs:List Value} (h:RowsK k B w v n cs) (hB:B'≤B):RowsK k B' w v n cs:=by
 rcases h with h | ⟨g,c,rfl,hr⟩
 ·exact .inl h
 ·exact .inr ⟨g,c,rfl,hr.mono hB⟩
theorem RowsK.slice {k B:Nat} {w:World} {v:Value} {n:Nat} {cs:List Value} (h:RowsK k B w v n cs):∃ base c,v=.slice base n c:=by
 rcases h with ⟨rfl,rfl,_⟩ | ⟨g,c,rfl,_⟩
 ·exact ⟨_,_,rfl⟩
 ·exact ⟨_,_,rfl⟩
theorem RowsK.src {k B:Nat} {P:Program} {w:World} {v:Value} {n:Nat} {cs:List Value} (h:RowsK k B w v n cs) {t e:TypeId} (ht:P.underlying t=some (.slice e)):Src P k t v n cs w:=by
 rcases h with ⟨rfl,rfl,rfl⟩ | ⟨g,c,rfl,hr⟩
 ·exact Src.ofNil w ht 0
 ·exact Src.ofSlice w ht ⟨g,0,none⟩ n c cs hr.len (fun j u hj=>by rw [Addr.add_lit,Nat.zero_add]; exact hr.holds j u hj) hr.one
theorem RowsK.first {k B:Nat} {P:Program} {w:World} {v:Value} {n:Nat} {cs:List Value} (h:RowsK k B w v n cs):(Builtin.firstCells k n v).run P w.drew=.ok cs.toArray w.drew:=by
 rcases h with ⟨rfl,rfl,rfl⟩ | ⟨g,c,rfl,hr⟩
 ·exact run_firstCells_none w.drew k 0 0 0
 ·exact run_firstCells_some w.drew k n ⟨g,0,none⟩ n c cs hr.len (fun j u hj=>by rw [Addr.add_lit,Nat.zero_add]; exact hr.holds j u hj)
theorem run_append_rowsK {P:Program} (w:World) (t ty e:TypeId) (i:TypeInfo) (z:Value) (k bytes:Nat) (h1:P.underlying t=some (.slice e)) (h2:P.info? e=some i) (h3:i.zero=some z) (h4:i.size=k) (h5:i.bytes=bytes) (h6:z.cells.size=k)
 (B:Nat) (v:Value) (n:Nat) (cs:List Value) (h:RowsK k B w v n cs) (hB:B≤w.heap.size) (x:Value) (m:Nat) (us:List Value) (hs:Src P k t x m us w) (hb:n+m≤1000000) (hby:bytes≤1000000) :
 ∃ v' w',(Builtin.append_ #[t,t] ty #[v,x]).run P w=.ok v' w'∧RowsK k B w' v' (n+m) (cs ++ us)∧Below B w w'∧(m≠0→v'≠.slice none 0 0):=by
 have hmul:(n+m)*bytes≤1000000*1000000:=Nat.mul_le_mul hb hby
 have hlen:(cs ++ us).length=(n+m)*k:=by
  rw [List.length_append,hs.newsLen,Nat.add_mul];congr 1
  rcases h with ⟨_,rfl,rfl⟩ | ⟨g,c,_,hr⟩
  ·simp
  ·exact hr.len
 have hone:∀ u∈cs ++ us,u.oneCell'=true:=by
  intro u hu;rw [List.mem_append] at hu;rcases hu with hu | hu
  ·rcases h with ⟨_,_,rfl⟩ | ⟨g,c,_,hr⟩
   ·cases hu
   ·exact hr.one u hu
  ·exact hs.one u hu
 have grown:∀ (base:Option Addr) (c:Nat),v=.slice base n c→c<n+m→∃ v' w',(Builtin.append_ #[t,t] ty #[v,x]).run P w=.ok v' w'∧RowsK k B w' v' (n+m) (cs ++ us)∧Below B w w'∧(m≠0→v'≠.slice none 0 0):=by
  intro base c hv hc;have hf:=h.first (P:=P)
  rw [hv] at hf ⊢;subst h4;have hr:=run_append_grow_src w t t ty e i z h1 h2 h3 base n c cs hf x m us hs hc (by omega) (by rw [h5]; exact growslice_fits hc (by omega))
  have hm:=grownCap_le_maxLen w (n+m) c e (by unfold maxLen; omega)
  have hge:=grownCap_ge w (n+m) c e;refine ⟨_,_,hr,.inr ⟨_,_,rfl,?_⟩,((Below.refl B w).drew).alloc hB _,fun _ h=>by cases h⟩
  exact rowK_new (B:=B) (w:=w.drew) hB (cs ++ us) (n+m) hlen hone _ h6 _ e hm hge
 rcases h with ⟨rfl,rfl,rfl⟩ | ⟨g,c,rfl,hr⟩
 ·by_cases hm:m=0
  ·subst hm
   have hu:us= []:=List.eq_nil_of_length_eq_zero (by simpa using hs.newsLen)
   subst hu;refine ⟨.slice none 0 0,w,?_,.inl ⟨rfl,rfl,rfl⟩,Below.refl _ _,fun h=>absurd rfl h⟩;simp [Builtin.append_,run_underlying h1,sizeOf,typeInfo,h2,h4,hs.len,hs.cells]
  ·exact grown none 0 rfl (by omega)
 ·by_cases hc:n+m≤c
  ·have hul:=hs.newsLen
   have hk:n*k+m*k≤c*k:=by rw [← Nat.add_mul]; exact Nat.mul_le_mul_right _ hc
   subst h4;have hrr:=run_append_room_src w t t ty e i h1 h2 g 0 n c x m us hs hc (fun j hj=>by rw [Nat.zero_add]; exact (hr.there _ (by omega)).1) (fun j hj=>by rw [Nat.zero_add]; exact (hr.there _ (by omega)).2)
   rw [Nat.zero_add] at hrr;refine ⟨_,_,hrr,.inr ⟨g,c,rfl,?_⟩,below_setCellsW hr.new us (n*i.size) w,fun _ h=>by cases h⟩
   refine hr.setCells (n*i.size) us (by omega) hc hlen hone (fun j u hj=>⟨fun hin=>?_,fun hout=>?_⟩)
   ·rw [List.getElem?_append_right (by rw [hr.len]; omega),hr.len] at hj
    exact hj
   ·have hjl:=(List.getElem?_eq_some_iff.1 hj).1
    rw [hlen,Nat.add_mul] at hjl;rw [List.getElem?_append_left (by rw [hr.len]; omega)] at hj
    exact hr.holds j u hj
  ·exact grown _ c rfl (by omega)
theorem wpList_append_rowsK {P:Program} (w:World) {ops:Array Oper} {rest:List Oper} {o:Oper} {a:Act} {Q:Exit→Act→World→Prop}
 (hg:o.guard=none) (s x:Operand) (t:TypeId) (hop:o.op=Op.call { callee:=Callee.builtin Builtin.append,args:=#[s,x],argTypes:=#[t,t] })
 (e:TypeId) (i:TypeInfo) (z:Value) (k bytes:Nat) (h1:P.underlying t=some (.slice e)) (h2:P.info? e=some i) (h3:i.zero=some z) (h4:i.size=k) (h5:i.bytes=bytes) (h6:z.cells.size=k)
 (B:Nat) (v:Value) (n:Nat) (cs:List Value) (hs:a.eval s=v) (h:RowsK k B w v n cs) (hB:B≤w.heap.size)
 (y:Value) (m:Nat) (us:List Value) (hx:a.eval x=y) (hsrc:Src P k t y m us w) (hb:n+m≤1000000) (hby:bytes≤1000000)
 (hK:∀ v' w',RowsK k B w' v' (n+m) (cs ++ us)→Below B w w'→(m≠0→v'≠.slice none 0 0)→wpList P ops Q rest (a.put o.dst v') w') :
 wpList P ops Q (o::rest) a w:=by
 obtain ⟨v',w',hr,h7,h8,h9⟩:=run_append_rowsK (P:=P) w t o.type e i z k bytes h1 h2 h3 h4 h5 h6 B v n cs h hB y m us hsrc hb hby;exact Lib.wpList_append_run w hg s x t t hop _ _ hs hx _ _ hr (hK v' w' h7 h8 h9)
theorem run_copy_cellsK {P:Program} (w:World) (dT sT ty elem:TypeId) (k b o dLen dCap:Nat) (a:Addr) (sLen sCap:Nat) (cs:List Value)
 (hu:P.underlying dT=some (.slice elem)) (hs:(P.info? elem).map (·.size)=some k) (hn:cs.length=Nat.min sLen dLen*k)
 (hsrc:∀ j v,cs[j]?=some v→w.cell? (a.add j)=some v) (hc:∀ j,j<cs.length→(w.cell? ⟨b,o+j,none⟩).isSome=true) (hf:∀ j,j<cs.length→w.frozen? ⟨b,o+j,none⟩=false) (h1:∀ v∈cs,v.oneCell'=true) :
 (Builtin.copy_ #[dT,sT] ty #[.slice (some ⟨b,o,none⟩) dLen dCap,.slice (some a) sLen sCap]).run P w=.ok (goInt (Nat.min sLen dLen)) (w.setCells b o cs):=by
 have hl:=run_loadCells_list (P:=P) w a cs hsrc;have hst:=run_storeCells_cells (P:=P) b o cs 0 w (by simpa using hc) (by simpa using hf) h1
 cases hq:P.info? elem with
 |none=>simp [hq] at hs
 |some i=>
  have hi:i.size=k:=by simpa [hq] using hs
  simp [Builtin.copy_,run_underlying hu,Builtin.lenOf,Builtin.firstCells,sizeOf,typeInfo,hq,hi,← hn,hl,hst]
end Go.Proofs.YtlailakofhenkabGreatDoor
namespace Go.Proofs.YtlailakofhenkabGreatDoor
open Go Go.RowKit Ev
def famCs (f:Fam):List Value:= [.int .i64 f.id,.string f.client,.string f.subject,.string f.scope,.int .i64 f.gen,.int .i64 f.made,.int .i64 f.used,.string f.request,.bool f.dead]
def famV (f:Fam):Value:=.agg (famCs f).toArray
theorem famCs_len (f:Fam):(famCs f).length=9:=rfl
theorem famCs_one (f:Fam):∀ u∈famCs f,u.oneCell'=true:=by
 intro u hu;simp only [famCs,List.mem_cons,List.not_mem_nil,or_false] at hu;rcases hu with rfl | rfl | rfl | rfl | rfl | rfl | rfl | rfl | rfl <;> rfl
def famsCs (l:List Fam):List Value:=l.flatMap famCs
theorem famsCs_cons (f:Fam) (l:List Fam):famsCs (f::l)=famCs f ++ famsCs l:=rfl
theorem famsCs_app (l m:List Fam):famsCs (l ++ m)=famsCs l ++ famsCs m:=List.flatMap_append
theorem famsCs_one1 (f:Fam):famsCs [f]=famCs f:=by simp [famsCs]
theorem famsCs_len:∀ l:List Fam,(famsCs l).length=l.length*9
 |[]=>rfl
 |f::l=>by rw [famsCs_cons,List.length_append,famCs_len,famsCs_len l,List.length_cons]; omega
theorem famsCs_at:∀ (l:List Fam) (j i:Nat) (hj:j<l.length),i<9→(famsCs l)[j*9+i]?=(famCs l[j])[i]?
 |f::l,0,i,_,hi=>by
  rw [famsCs_cons,List.getElem?_append_left (by rw [famCs_len]; omega),Nat.zero_mul,Nat.zero_add]
  rfl
 |f::l,j+1,i,hj,hi=>by
  rw [famsCs_cons,List.getElem?_append_right (by rw [famCs_len]; omega),famCs_len,show (j+1)*9+i - 9=j*9+i by omega,famsCs_at l j i (by simpa using hj) hi]
  rfl
theorem famsCs_take (l:List Fam) (i:Nat) (hi:i≤l.length):famsCs (l.take i)=(famsCs l).take (i*9):=by
 have e:famsCs l=famsCs (l.take i) ++ famsCs (l.drop i):=by rw [← famsCs_app,List.take_append_drop]
 have hl:(famsCs (l.take i)).length=i*9:=by rw [famsCs_len,List.length_take]; congr 1; omega
 rw [e,← hl,List.take_left]
theorem famsCs_drop (l:List Fam) (i:Nat) (hi:i≤l.length):famsCs (l.drop i)=(famsCs l).drop (i*9):=by
 have e:famsCs l=famsCs (l.take i) ++ famsCs (l.drop i):=by rw [← famsCs_app,List.take_append_drop]
 have hl:(famsCs (l.take i)).length=i*9:=by rw [famsCs_len,List.length_take]; congr 1; omega
 rw [e,← hl,List.drop_left]
abbrev Fams (B:Nat) (w:World) (v:Value) (l:List Fam):Prop:=RowsK 9 B w v l.length (famsCs l)
theorem Fams.nil (B:Nat) (w:World):Fams B w (.slice none 0 0) []:=.inl ⟨rfl,rfl,rfl⟩
theorem Fams.cell {B:Nat} {w:World} {base:Option Addr} {c:Nat} {l:List Fam} (h:Fams B w (.slice base l.length c) l) (j:Nat) (hj:j<l.length):∃ g,base=some ⟨g,0,none⟩∧g<w.heap.size∧∀ i u,(famCs l[j])[i]?=some u→w.cell? ⟨g,j*9+i,none⟩=some u:=by
 rcases h with ⟨_,h0,_⟩ | ⟨g,c',e,hr⟩
 ·omega
 ·injection e with e _ _
  refine ⟨g,e,hr.lt,fun i u hi=>hr.holds _ _ ?_⟩
  have hi9:i<9:=by
   have:=(List.getElem?_eq_some_iff.1 hi).1;rwa [famCs_len] at this
  rw [famsCs_at l j i hj hi9];exact hi
structure FamAt (w:World) (g o:Nat) (f:Fam):Prop where
 c0:w.cell? ⟨g,o,none⟩=some (.int .i64 f.id)
 c1:w.cell? ⟨g,o+1,none⟩=some (.string f.client)
 c2:w.cell? ⟨g,o+2,none⟩=some (.string f.subject)
 c3:w.cell? ⟨g,o+3,none⟩=some (.string f.scope)
 c4:w.cell? ⟨g,o+4,none⟩=some (.int .i64 f.gen)
 c5:w.cell? ⟨g,o+5,none⟩=some (.int .i64 f.made)
 c6:w.cell? ⟨g,o+6,none⟩=some (.int .i64 f.used)
 c7:w.cell? ⟨g,o+7,none⟩=some (.string f.request)
 c8:w.cell? ⟨g,o+8,none⟩=some (.bool f.dead)
theorem famAt_of {w:World} {g o:Nat} {f:Fam} (h:∀ i u,(famCs f)[i]?=some u→w.cell? ⟨g,o+i,none⟩=some u):FamAt w g o f:=
 ⟨h 0 _ rfl,h 1 _ rfl,h 2 _ rfl,h 3 _ rfl,h 4 _ rfl,h 5 _ rfl,h 6 _ rfl,h 7 _ rfl,h 8 _ rfl⟩
theorem famAt_made (w:World) (f:Fam) (t:TypeId) (g:Nat) (hg:g=w.heap.size):FamAt (w.alloc (.cells #[.int .i64 f.id,.string f.client,.string f.subject,.string f.scope,.int .i64 f.gen,.int .i64 f.made,.int .i64 f.used,.string f.request,.bool f.dead] t)) g 0 f:=by
 constructor <;> exact (World.cell?_alloc_at _ _ _ _ hg).trans rfl
theorem FamAt.all {w:World} {g o:Nat} {f:Fam} (h:FamAt w g o f):∀ i u,(famCs f)[i]?=some u→w.cell? ⟨g,o+i,none⟩=some u:=by
 intro i u hi;match i,hi with
 |0,hi=>cases hi; exact h.c0
 |1,hi=>cases hi; exact h.c1
 |2,hi=>cases hi; exact h.c2
 |3,hi=>cases hi; exact h.c3
 |4,hi=>cases hi; exact h.c4
 |5,hi=>cases hi; exact h.c5
 |6,hi=>cases hi; exact h.c6
 |7,hi=>cases hi; exact h.c7
 |8,hi=>cases hi; exact h.c8
 |i+9,hi=>simp [famCs] at hi
theorem FamAt.on {w w':World} {g o B:Nat} {f:Fam} (h:FamAt w g o f) (hb:Below B w w') (hg:g<B):FamAt w' g o f:=
 famAt_of (fun i u hi=>(hb.cell (p:=⟨g,o+i,none⟩) hg).trans (h.all i u hi))
theorem Fams.fam {B:Nat} {w:World} {base:Option Addr} {c:Nat} {l:List Fam} (h:Fams B w (.slice base l.length c) l) (j:Nat) (hj:j<l.length):∃ g,base=some ⟨g,0,none⟩∧g<w.heap.size∧FamAt w g (j*9) l[j]:=by
 obtain ⟨g,e,hl,hc⟩:=h.cell j hj;exact ⟨g,e,hl,famAt_of hc⟩
end Go.Proofs.YtlailakofhenkabGreatDoor
