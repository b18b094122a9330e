import Derived.Test.YtlailakofhenkabGreatDoorB3
import Derived.Test.YtlailakofhenkabGreatDoorB4
import Derived.Lib.QuietBelow
import Derived.Lib.SmallJoins
import Derived.Deep.RegionHeld3
set_option maxRecDepth 100000
set_option maxHeartbeats 2000000
namespace Go.Proofs.YtlailakofhenkabGreatDoor
open Go Go.RowKit Tryz
variable {B B' c g k n o:Nat}{v:Value}{w w' w0:World}
theorem wI{xs:List ByteArray}(h:aw B w v xs)(i:Nat)(hi:i<=xs.length)(hn:xs.length<=5000)(hB:B<=w.heap.size)(x:ByteArray)(t:TypeId):
 Calls prog 277 #[v,.i_ i,.slice (o_ w.heap.size 0) 1 1] (w.alloc (.cells #[.string x] t)) fun e w'=>∃v',e=.returned v'∧aw B w' v' (xs.take i ++ x::xs.drop i)∧Below B w w':=by
 have o:Below B w (w.alloc (.cells #[.string x] t)):=(E9 _ _).alloc hB _
 have q:∀j u,[Value.string x][j]?=some u->(w.alloc (.cells #[.string x] t)).c_ w.heap.size (0+j)=some u:=by
  intro j u hj;match j,hj with
  |0,hj=>simp at hj; subst hj; simp
  |j+1,hj=>simp at hj
 have r:∀v∈ [Value.string x],v.oneCell'=true:=by intro v hv; simp at hv; subst hv; rfl
 have F:∀v∈xs.map Value.string,v.oneCell'=true:=by
  intro v hv;obtain⟨y,_,rfl⟩:=List.mem_map.1 hv;rfl
 have n:(xs.take i ++ x::xs.drop i).map Value.string=(xs.map Value.string).take i ++ .string x::(xs.map Value.string).drop i:=by simp
 have m:(xs.take i ++ x::xs.drop i).length=xs.length+1:=pp xs i hi x;have b:(xs.map Value.string).length=xs.length:=by simp
 have C:xs.length+1<=maxLen:=by unfold maxLen; omega
 rcases h with ⟨rfl,rfl⟩ | ⟨g,c,rfl,hr⟩
 ·obtain rfl:i=0:=by simpa using hi
  refine (Any2.slices_Insert_string_end_grow laysNm222 none 0 0 w.heap.size 0 1 1 [] [.string x] _ (by omega) (by omega) (by omega) (by omega) rfl rfl (fun _=>rfl) (fun a ha=>by cases ha) q r).mono ?_;rintro e w' ⟨rfl,rfl⟩;refine⟨_,rfl,.inr ⟨_,_,rfl,?_⟩,(o.drew).alloc (by simp; omega) _⟩
  have H:=grownCap_le_maxLen (w.alloc (.cells #[.string x] t)) (0+1) 0 9 (by unfold maxLen; omega)
  have D:=grownCap_ge (w.alloc (.cells #[.string x] t)) (0+1) 0 9;exact iL (B:=B) (w:=(w.alloc (.cells #[.string x] t)).drew) (by simp; omega) [.string x] 1 rfl (.e_) _ 9 H D
 ·have k:aN B (w.alloc (.cells #[.string x] t)) g c xs.length (xs.map Value.string):=hr.alloc _
  have I:w.heap.size≠g:=by have:=hr.lt; omega
  have A:c<=9223372036854775807:=hr.max;have E:∀j v,(xs.map Value.string)[j]?=some v->(w.alloc (.cells #[.string x] t)).c_ g (0+j)=some v:=fun j v hj=>by rw[Nat.zero_add]; exact k.holds j v hj
  have H:=grownCap_le_maxLen (w.alloc (.cells #[.string x] t)) (xs.length+1) c 9 C;have D:=grownCap_ge (w.alloc (.cells #[.string x] t)) (xs.length+1) c 9;by_cases hin:i=xs.length
  ·subst hin
   by_cases hroom:xs.length+1<=c
   ·refine (Any2.slices_Insert_string_end_room laysNm222 g 0 xs.length c w.heap.size 0 1 1 [.string x] _ (by omega) hroom A rfl (fun j hj=>by rw[Nat.zero_add]; exact (k.there _ (by omega)).1) (fun j hj=>by rw[Nat.zero_add]; exact (k.there _ (by omega)).2) q r).mono ?_
    rintro e w' ⟨rfl,rfl⟩;refine⟨_,rfl,.inr ⟨g,c,by rw[m],?_⟩,o.trans (aa hr.new _ _ _)⟩
    rw[show (xs.take xs.length ++ x::xs.drop xs.length).length=((xs.take xs.length ++ x::xs.drop xs.length).map Value.string).length by simp]
    refine k.setCells _ _ (by simp; omega) (by rw[List.length_map,m]; omega) (fun j u hj=>?_)
    rw[n,po _ _ (by rw[b]; omega)] at hj
    refine⟨fun hh=>?_,fun hh=>?_⟩
    ·have:j=xs.length:=by simp at hh; omega
     subst this;rw[if_neg (by omega),if_pos rfl] at hj
     simpa using hj
    ·simp only[Nat.zero_add,List.length_singleton] at hh
     by_cases hj1:j<xs.length
     ·rw[if_pos hj1] at hj
      exact k.holds j u hj
     ·rw[if_neg hj1,if_neg (by omega)] at hj
      have:=(List.getElem?_eq_some_iff.1 hj).1;simp at this
      omega
   ·refine (Any2.slices_Insert_string_end_grow laysNm222 (o_ g 0) xs.length c w.heap.size 0 1 1 (xs.map Value.string) [.string x] _ (by omega) hr.le (by omega) (by omega) b rfl (fun h=>by cases h) (fun a ha j u hj=>by
     cases ha
     rw[Addr.add_lit];exact E j u hj) q r).mono ?_
    rintro e w' ⟨rfl,rfl⟩;refine⟨_,rfl,.inr ⟨_,_,by rw[m],?_⟩,(o.drew).alloc (by simp; omega) _⟩
    rw[n,m,show List.take xs.length (xs.map Value.string) ++ Value.string x::List.drop xs.length (xs.map Value.string)=xs.map Value.string ++ [.string x] by
     rw[List.take_of_length_le (by simp),List.drop_of_length_le (by simp)]]
    exact iL (B:=B) (w:=(w.alloc (.cells #[.string x] t)).drew) (by simp; omega) (xs.map Value.string ++ [.string x]) (xs.length+1) (by simp) (.e_) _ 9 H D
  ·have G:i<xs.length:=by omega
   by_cases hroom:xs.length+1<=c
   ·obtain⟨u0,hu0⟩:=Option.isSome_iff_exists.1 (k.there 0 (by omega)).1
    obtain⟨tB,kB,hsb,hkB,_⟩:=World.shape?_of_cell? hu0;have J:(w.alloc (.cells #[.string x] t)).shape? w.heap.size=some (t,1):=by unfold World.shape?; rw[show (w.alloc (.cells #[.string x] t)).heap[w.heap.size]?=some (.cells #[.string x] t) from Array.getElem?_push_size]; rfl
    refine (Any2.slices_Insert_string_shift laysNm222 g 0 xs.length c i w.heap.size 0 1 1 (xs.map Value.string) [.string x] _ G (by omega) hroom A I b rfl E (fun j hj=>by rw[Nat.zero_add]; exact (k.there j (by omega)).1) (fun j hj=>by rw[Nat.zero_add]; exact (k.there j (by omega)).2) q F r t tB 1 kB J hsb (by simp at hkB; omega) (Ff _ _ _ _ rfl) (Ff _ _ _ _ rfl)).mono ?_
    rintro e w' ⟨rfl,rfl⟩;refine⟨_,rfl,.inr ⟨g,c,by rw[m],?_⟩,(o.drew.trans (aa hr.new _ _ _)).trans (aa hr.new _ _ _)⟩
    rw[show (xs.take i ++ x::xs.drop i).length=((xs.take i ++ x::xs.drop i).map Value.string).length by simp]
    have f:aN B ((w.alloc (.cells #[.string x] t)).drew.setCells g (0+(i+1)) ((xs.map Value.string).drop i)) g c (((xs.map Value.string).take (i+1)) ++ (xs.map Value.string).drop i).length (((xs.map Value.string).take (i+1)) ++ (xs.map Value.string).drop i):=by
     have s:((xs.map Value.string).take (i+1)).length=i+1:=by rw[List.length_take,b]; omega
     refine k.drew.setCells _ _ (by rw[List.length_drop,b]; omega) (by rw[List.length_append,s,List.length_drop,b]; omega) (fun j u hj=>⟨fun hh=>?_,fun hh=>?_⟩)
     ·rw[List.getElem?_append_right (by omega),s] at hj
      rw[show j - (0+(i+1))=j - (i+1) by omega]
      exact hj
     ·by_cases hj1:j<i+1
      ·rw[List.getElem?_append_left (by omega),List.getElem?_take,if_pos hj1] at hj
       exact k.drew.holds j u hj
      ·exfalso
       have:=(List.getElem?_eq_some_iff.1 hj).1;rw[List.length_append,s] at this;omega
    refine f.setCells _ _ (by simp; omega) (by rw[List.length_map,m]; omega) (fun j u hj=>?_)
    rw[n,po _ _ (by rw[b]; omega)] at hj
    have s:((xs.map Value.string).take (i+1)).length=i+1:=by rw[List.length_take,b]; omega
    refine⟨fun hh=>?_,fun hh=>?_⟩
    ·have:j=i:=by simp at hh; omega
     subst this;rw[if_neg (by omega),if_pos rfl] at hj
     simpa using hj
    ·simp only[Nat.zero_add,List.length_singleton] at hh
     by_cases hj1:j<i
     ·rw[if_pos hj1] at hj
      refine f.holds j u ?_;rw[List.getElem?_append_left (by omega),List.getElem?_take,if_pos (by omega)]
      exact hj
     ·rw[if_neg hj1,if_neg (by omega)] at hj
      refine f.holds j u ?_;rw[List.getElem?_append_right (by omega),s,List.getElem?_drop,show i+(j - (i+1))=j - 1 by omega]
      exact hj
   ·refine (Any2.slices_Insert_string_grow laysNm222 g 0 xs.length c i w.heap.size 0 1 1 (xs.map Value.string) [.string x] _ G (by omega) hr.le (by omega) (by omega) b rfl E q F r).mono ?_
    rintro e w' ⟨rfl,rfl⟩;generalize hW:w.alloc _=W at *;have z:B<=W.heap.size:=Fe hB o.size;refine⟨_,rfl,.inr ⟨_,_,by rw[m],?_⟩,(((o.alloc z _).drew.trans (aa z _ _ _)).drew).trans (aa z _ _ _)⟩
    rw[show (xs.take i ++ x::xs.drop i).length=((xs.take i ++ x::xs.drop i).map Value.string).length by simp]
    have p:((xs.map Value.string).take i).length=i:=by rw[List.length_take,b]; omega
    have L:aN B (W.alloc (.cells (((xs.map Value.string).take i).toArray ++ Builtin.zeroCells (Value.string ⟨#[]⟩).cells (xs.length+1 - i) ++ Builtin.zeroCells (Value.string ⟨#[]⟩).cells (grownCap W (xs.length+1) c 9 - (xs.length+1))) 9)) W.heap.size (grownCap W (xs.length+1) c 9) i ((xs.map Value.string).take i):=by
     have M:(((xs.map Value.string).take i).toArray ++ Builtin.zeroCells (Value.string ⟨#[]⟩).cells (xs.length+1 - i) ++ Builtin.zeroCells (Value.string ⟨#[]⟩).cells (grownCap W (xs.length+1) c 9 - (xs.length+1))).size=grownCap W (xs.length+1) c 9:=by
      rw[Array.size_append,Array.size_append,size_zeroCells,size_zeroCells];simp[Value.cells,p]
      omega
     refine⟨z,by simp,p,by omega,H,fun j u hj=>?_,fun j hj=>⟨?_,World.frozen?_alloc_at _ _ _ _ (by simp)⟩⟩
     ·have N:=(List.getElem?_eq_some_iff.1 hj).1
      rw[World.cell?_alloc_at _ _ _ _ (by simp),Array.append_assoc,Array.getElem?_append_left (by simpa using N)]
      simpa using hj
     ·rw[World.cell?_alloc_at _ _ _ _ (by simp),Array.getElem?_eq_getElem (by rw[M]; exact hj)]
      rfl
    have f:aN B ((W.alloc (.cells (((xs.map Value.string).take i).toArray ++ Builtin.zeroCells (Value.string ⟨#[]⟩).cells (xs.length+1 - i) ++ Builtin.zeroCells (Value.string ⟨#[]⟩).cells (grownCap W (xs.length+1) c 9 - (xs.length+1))) 9)).drew.setCells W.heap.size i [.string x]).drew W.heap.size (grownCap W (xs.length+1) c 9) ((xs.map Value.string).take i ++ [Value.string x]).length ((xs.map Value.string).take i ++ [Value.string x]):=by
     refine (L.drew.setCells _ _ (by simp; omega) (by rw[List.length_append,p]; simp; omega) (fun j u hj=>⟨fun hh=>?_,fun hh=>?_⟩)).drew
     ·have:j=i:=by simp at hh; omega
      subst this;rw[List.getElem?_append_right (by omega),p] at hj
      exact hj
     ·simp only[List.length_singleton] at hh
      by_cases hj1:j<i
      ·rw[List.getElem?_append_left (by omega)] at hj
       exact L.drew.holds j u hj
      ·exfalso
       have:=(List.getElem?_eq_some_iff.1 hj).1;rw[List.length_append,p] at this;simp at this
       omega
    refine f.setCells _ _ (by rw[List.length_drop,b]; omega) (by rw[List.length_map,m]; omega) (fun j u hj=>?_)
    rw[n,po _ _ (by rw[b]; omega)] at hj
    refine⟨fun hh=>?_,fun hh=>?_⟩
    ·rw[if_neg (by omega),if_neg (by omega)] at hj
     rw[List.getElem?_drop,show i+(j - (i+1))=j - 1 by omega]
     exact hj
    ·rw[List.length_drop,b] at hh
     by_cases hj1:j<i
     ·rw[if_pos hj1] at hj
      refine f.holds j u ?_;rw[List.getElem?_append_left (by omega),List.getElem?_take,if_pos (by omega)]
      exact hj
     ·rw[if_neg hj1] at hj
      by_cases hj2:j=i
      ·subst hj2
       rw[if_pos rfl] at hj;refine f.holds j u ?_;rw[List.getElem?_append_right (by omega),p]
       simpa using hj
      ·exfalso
       rw[if_neg hj2] at hj
       have:=(List.getElem?_eq_some_iff.1 hj).1;rw[b] at this;omega
open Sc
def aU(w:World):Prop:=∃m,w.cell? ⟨2,0,none⟩=some (.int .i64 m)
theorem aU.below(h:aU w)(hb:Below w.heap.size w w'):aU w':=by
 obtain⟨m,hm⟩:=h;exact⟨m,(hb.cell (p:=(a_ 2 0)) (Fc _ _ hm)).trans hm⟩
theorem yW(s:ByteArray)(k:Nat)(h:k<s.size):(s.data.toList.take (k+1)).all fE=((s.data.toList.take k).all fE && fE s[k]):=by
 rw[List.take_succ_eq_append_getElem (by simpa using h),List.all_append]
 simp
 rfl
variable {f2 f3 f4 f8 s:ByteArray}
theorem Bm(h:k<s.size)(hb:fE s[k]=false):wordB s.data.toList=false:=by
 cases hw:wordB s.data.toList with
 |false=>rfl
 |true=>
  have:=(eK.1 hw).2 s[k] (by
   show s.data[k]∈s.data.toList
   exact Array.mem_toList_iff.2 (Array.getElem_mem h))
  rw[hb] at this
  cases this
theorem wJ(h:(s.data.toList.take s.size).all fE=true):wordB s.data.toList=!s.data.toList.isEmpty:=by
 rw[List.take_of_length_le (by simp)] at h
 unfold wordB;rw[h]
 cases s.data.toList <;> rfl
theorem wK(s:ByteArray)(w:World)(hs:s.size<=10000):Calls prog 275 #[.string s] w fun e w'=>e=.returned (.bool (wordB s.data.toList))∧w'=w:=by
 have b:Hid (∀k (h:k<s.size),fE s[k]=false->wordB s.data.toList=false):=fun k h=>Bm h;have j:Hid _:=yW s;have m:Hid ((s.data.toList.take s.size).all fE=true->wordB s.data.toList=!s.data.toList.isEmpty):=wJ;go_enter func275,ntmps275
 go_wp2_with fail
 go_loopg [6] s.size (fun gk i wr=>∃k:Nat,k+gk=s.size∧i=.i_ k∧Hid ((s.data.toList.take k).all fE=true)∧wr=w)
 case atStart=>exact⟨0,by omega,rfl,by simp[Hid],rfl⟩
 case round=>
  obtain⟨k,hk,rfl,HA,rfl⟩:=hrel;have f:Hid _:=hk;have n:k<=s.size:=by omega
  clear hk;by_cases hlt:k<s.size
  ·have g:(k:Int)<(s.size:Int):=by omega
   by_cases h1:97<=s[k].toNat
   ·by_cases h2:s[k].toNat<=122
    ·have o:Hid _:=yy h1 h2
     go_wp2_with fail
     go_roundg (gk - 1)
     case measure=>have:=f.o; omega
     case rel=>exact⟨k+1,by have:=f.o; omega,by go_num,by show _=true; rw[j.o k hlt,HA.out,o.o]; rfl,rfl⟩
    ·have c:Hid _:=b.o k hlt (pc (by omega))
     go_wp2_with fail
     go_ret;exact⟨by rw[c.o]; rfl,rfl⟩
   ·have c:Hid _:=b.o k hlt (pc (by omega))
    go_wp2_with fail
    go_ret;exact⟨by rw[c.o]; rfl,rfl⟩
  ·obtain rfl:k=s.size:=by omega
   have c:Hid _:=m.o HA.out;go_wp2_with fail
   go_ret;exact⟨by rw[c.o,<- ByteArray.toList_eq]; rfl,rfl⟩
theorem qO{s:List UInt8}(h:s≠ []):bd s=(left true s).all wordB:=by
 unfold bd;rw[gX h];rfl
theorem mg(l:List UInt8):(⟨l.toArray⟩:ByteArray).data.toList=l:=rfl
theorem dC(l:List UInt8):(⟨l.toArray⟩:ByteArray).size=l.length:=by simp[ByteArray.size]
theorem qP(h:s≠⟨#[]⟩):s.data.toList≠ []:=fun e=>h (by
 apply ByteArray.ext
 exact Array.toList_inj.1 e)
theorem tM(s:ByteArray)(w:World)(hs:s.size<=5000)(hL:aU w):Calls prog 204 #[.string s] w fun e w'=>e=.returned (.bool (bd s.data.toList))∧∃n,w'=w.drewN n:=by
 have z:J _:=hL;clear hL;by_cases h0:s=⟨#[]⟩
 ·subst h0
  go_enter func204,ntmps204
  go_wp2_with fail;go_ret;exact⟨rfl,0,rfl⟩
 ·have A:J _:=qO (qP h0)
  have B:s.toList.isEmpty=false:=by
   rw[ByteArray.toList_eq,List.isEmpty_eq_false_iff];exact qP h0
  clear h0;go_enter func204,ntmps204
  go_wp2_with fail;go_loopg [0,3] (s.size+1) (fun gk sv mv wr=>∃(l:List UInt8) (more:Bool) (n:Nat),sv=.string ⟨l.toArray⟩∧mv=.bool more∧Hid (if more then l.length<gk else True)∧l.length<=5000∧Hid (bd s.data.toList=(left more l).all wordB)∧wr=w.drewN n)
  case atStart=>exact⟨s.data.toList,true,0,rfl,rfl,by show s.data.toList.length<s.size+1; simp,by simpa using hs,A.o,rfl⟩
  case round=>
   obtain⟨l,more,n,rfl,rfl,HG,hl,HFm,rfl⟩:=hrel
   cases more with
   |false=>
    have c:J _:=HFm.out;go_wp2_with fail;go_ret;exact⟨by rw[c.o]; rfl,n,rfl⟩
   |true=>
    have k:J _:=HFm.out;have o:l.length<gk:=HG.out;have p:J _:=o;obtain⟨m,hm⟩:=z.o;have g:=strings_Cut ⟨l.toArray⟩ ⟨#[43]⟩ m (w.drewN n) (by rw[dC]; omega) hm
    rw[mg,show (⟨#[43]⟩:ByteArray).data.toList= [43] from rfl] at g
    have q:=nR l;have j:=qG l;generalize (Lib.cut l [43]).1=a at *;generalize (Lib.cut l [43]).2.1=b at *;generalize (Lib.cut l [43]).2.2=f at *;have r:J _:=q;have t:J _:=j.2.2;have C:a.length<=5000:=by have:=j.1; omega
    have v:b.length<=5000:=by have:=j.2.1; omega
    clear q j HG HFm o hm;go_wp2_with fail;refine g.mono ?_;rintro e w1 ⟨rfl,d1,rfl⟩;clear g;go_wp2_with fail;refine (wK ⟨a.toArray⟩ _ (by rw[dC]; omega)).mono ?_
    rintro e w2 ⟨rfl,rfl⟩;rw[mg]
    cases hw:wordB a with
    |false=>
     have c:J (bd s.data.toList=false):=by show _=_; rw[k.o,r.o,List.all_cons,hw]; rfl
     clear hw;go_wp2_with fail;go_ret;exact⟨by rw[c.o]; rfl,n+d1,rfl⟩
    |true=>
     have c:J (bd s.data.toList=(left f b).all wordB):=by show _=_; rw[k.o,r.o,List.all_cons,hw]; rfl
     clear hw;go_wp2_with fail;go_roundg (gk - 1)
     case measure=>have:=p.o; omega
     case rel=>
      refine⟨b,f,n+d1,rfl,rfl,?_,v,c,rfl⟩;show if f then _ else _
      cases f with
      |false=>exact trivial
      |true=>have:=p.o; have:=t.o rfl; show b.length<gk - 1; omega
theorem tN(x:ByteArray)(w:World):Calls prog 206 #[.string x] w fun e w'=>e=.returned (.bool (decide (8<x.size)))∧∃q,w'=w.drewN q:=by
 go_enter func206,ntmps206
 go_wp2_with fail;go_ret;exact⟨by congr 2; simp; omega,0,rfl⟩
open Tok
theorem ib(w:World)(k:Nat)(os:Array Obj):Below w.heap.size w (Go.Sort.grow (w.drewN k) os):=by
 have h:=below_drewN (E9 w.heap.size w) k;have b:(w.drewN k).heap=w.heap:=by simp
 refine⟨h.os,h.tape,h.output,?_,fun i hi=>?_⟩
 ·show w.heap.size<=((w.drewN k).heap ++ os).size
  rw[b,Array.size_append]; omega
 ·show ((w.drewN k).heap ++ os)[i]?=w.heap[i]?
  rw[b,Array.getElem?_append_left hi]
theorem ic{name:String}{k:IntKind}{zs:List Int}(h:Lib.TabIs prog w name k zs)(hb:Below B w w')(hg:prog.globalNamed name=some g)(hB:g<B):Lib.TabIs prog w' name k zs:=by
 unfold Lib.TabIs World.var? at *;simp only[hg,Option.bind_some] at h ⊢;rw[hb.block g hB];exact h
theorem yX: prog.globalNamed "internal/strconv.uint64pow10" = some 3 := by kernel_rfl
structure bv (w:World):Prop where
 big:3<w.heap.size
 pow : Lib.TabIs prog w "internal/strconv.uint64pow10" .u64 Lib.pow10Tab
 len:aU w
theorem bv.below{w w':World}(h:bv w)(hb:Below w.heap.size w w'):bv w':=
 ⟨Fd h.big hb.size,ic h.pow hb yX h.big,h.len.below hb⟩
theorem bQ(n:Int)(w:World)(h0:0<=n)(h1:n<=9223372036854775807)(hL:bv w):Calls prog 57 #[.i_ n] w fun e w'=>e=.returned (.string ⟨(Lib.itoa n).toArray⟩)∧Below w.heap.size w w':=by
 refine (strconv_Itoa n (by omega) h1 w hL.pow).mono ?_;rintro e w' ⟨rfl,k,os,rfl⟩;exact⟨rfl,ib _ _ _⟩
structure aY (w:World):Prop where
 base:bv w
 syn:∃ev,w.cell? ⟨4,0,none⟩=some ev∧(ev=.nilIface∨∃te pe,ev=.iface te pe)
 rng:∃ev,w.cell? ⟨5,0,none⟩=some ev∧(ev=.nilIface∨∃te pe,ev=.iface te pe)
theorem aY.below{w w':World}(h:aY w)(hb:Below w.heap.size w w'):aY w' where
 base:=h.base.below hb
 syn:=by
  obtain⟨m,hm,k⟩:=h.syn;exact⟨m,(hb.cell (p:=(a_ 4 0)) (Fc _ _ hm)).trans hm,k⟩
 rng:=by
  obtain⟨m,hm,k⟩:=h.rng;exact⟨m,(hb.cell (p:=(a_ 5 0)) (Fc _ _ hm)).trans hm,k⟩
theorem wL(s:ByteArray)(w:World)(hs:s.size<=10000)(hL:aY w):Calls prog 181 #[.string s] w fun e w'=>∃v err,e=.returned (.tuple #[.int .i64 v,err])∧Below w.heap.size w w'∧∀m,okN m->s.data.toList=Lib.itoa m->v=m:=by
 cases hc:Lib.atoiAll s.data.toList with
 |ok v=>
  refine (strconv_Atoi_ok s (by omega) v hc w).mono ?_;rintro e w' ⟨rfl,hw⟩;refine⟨v,_,rfl,?_,fun m hm he=>?_⟩
  ·rcases hw with rfl | ⟨t,rfl⟩
   ·exact E9 _ _
   ·exact Joins.below_bytesWorld _ _ _ _ (Fa _)
  ·rw[he,dl hm.1 (by have:=hm.2; omega)] at hc
   injection hc with hc;exact hc.symm
 |range=>
  obtain⟨ev,h1,h2⟩:=hL.rng;refine (strconv_Atoi_range s (by omega) hc ev w h1 h2).mono ?_;rintro e w' ⟨N,rfl,_,_,hb⟩;refine⟨_,_,rfl,hb,fun m hm he=>?_⟩;rw[he,dl hm.1 (by have:=hm.2; omega)] at hc
  cases hc
 |_=>
  obtain⟨ev,h1,h2⟩:=hL.syn;refine (strconv_Atoi_syntax s (by omega) hc ev w h1 h2).mono ?_;rintro e w' ⟨N,rfl,_,_,hb⟩;refine⟨_,_,rfl,hb,fun m hm he=>?_⟩;rw[he,dl hm.1 (by have:=hm.2; omega)] at hc
  cases hc
structure cF (k B:Nat) (w:World) (g c n:Nat) (cs:List Value):Prop where
 new:B<=g
 lt:g<w.heap.size
 len:cs.length=n*k
 le:n<=c
 max:c<=maxLen
 one:∀u∈cs,u.oneCell'=true
 holds:∀j u,cs[j]?=some u->w.cell? ⟨g,j,none⟩=some u
 there:∀j,j<c*k->(w.cell? ⟨g,j,none⟩).isSome=true∧w.frozen? ⟨g,j,none⟩=false
variable {cs:List Value}
theorem cF.block(h:cF k B w g c n cs)(hs:w.heap.size<=w'.heap.size)(hb:w'.heap[g]?=w.heap[g]?):cF k B w' g c n cs:=
 ⟨h.new,Fd h.lt hs,h.len,h.le,h.max,h.one,fun j u hj=>(World.cell?_of_block (a:=(a_ g j)) hb).trans (h.holds j u hj),
  fun j hj=>⟨by rw[World.cell?_of_block (a:=(a_ g j)) hb]; exact (h.there j hj).1,(World.frozen?_of_block (a:=(a_ g j)) hb).trans (h.there j hj).2⟩⟩
theorem cF.below(h:cF k B w g c n cs)(hb:Below B' w w')(hg:g<B'):cF k B w' g c n cs:=h.block hb.size (hb.block g hg)
theorem cF.mono(h:cF k B w g c n cs)(hB:B'<=B):cF k B' w g c n cs:={ h with new:=Fe hB h.new }
theorem cF.setCells{k B:Nat}{w:World}{g c n n':Nat}{cs cs':List Value}(h:cF k B w g c n cs)(o:Nat)(vs:List Value)(ho:o+vs.length<=c*k)(hn:n'<=c)(hl:cs'.length=n'*k)(h1:∀u∈cs',u.oneCell'=true)(hh:∀j u,cs'[j]?=some u->(o<=j∧j<o+vs.length->vs[j - o]?=some u)∧(¬ (o<=j∧j<o+vs.length)->w.cell? ⟨g,j,none⟩=some u)):cF k B (w.setCells g o vs) g c n' cs':=by
 have b:∀j,j<vs.length->(w.c_ g (o+j)).isSome=true:=fun j hj=>(h.there (o+j) (by omega)).1
 refine⟨h.new,?_,hl,hn,h.max,h1,fun j u hj=>?_,fun j hj=>⟨?_,?_⟩⟩
 ·have p:=aa (B:=0) (Fo g) vs o w
  exact Fd h.lt p.size
 ·by_cases hin:o<=j∧j<o+vs.length
  ·obtain⟨d,rfl⟩:∃d,j=o+d:=⟨j - o,by omega⟩
   have f:=(hh _ u hj).1 hin;rw[show o+d - o=d by omega] at f
   have m:d<vs.length:=(List.getElem?_eq_some_iff.1 f).1;rw[World.cell?_setCells_in g vs o w b d m,<- f,List.getElem?_eq_getElem m]
  ·rw[World.cell?_setCells_out g vs o w (a_ g j) (fun _ _=>by show j<o∨o+vs.length<=j; omega)]
   exact (hh _ u hj).2 hin
 ·by_cases hin:o<=j∧j<o+vs.length
  ·obtain⟨d,rfl⟩:∃d,j=o+d:=⟨j - o,by omega⟩
   rw[World.cell?_setCells_in g vs o w b d (by omega)]
   rfl
  ·rw[World.cell?_setCells_out g vs o w (a_ g j) (fun _ _=>by show j<o∨o+vs.length<=j; omega)]
   exact (h.there j hj).1
 ·rw[World.frozen?_setCells]
  exact (h.there j hj).2
theorem yY(hB:B<=w.heap.size)(cs:List Value)(n:Nat)(hn:cs.length=n*k)(h1:∀u∈cs,u.oneCell'=true)(z:Array Value)(hz:z.size=k)(G:Nat)(t:TypeId)(hm:G<=maxLen)(hl:n<=G):cF k B (w.alloc (.cells (cs.toArray ++ Builtin.zeroCells z (G - n)) t)) w.heap.size G n cs:=by
 have b:(cs.toArray ++ Builtin.zeroCells z (G - n)).size=G*k:=by
  rw[Array.size_append,size_zeroCells,hz,List.size_toArray,hn,<- Nat.add_mul];congr 1
  omega
 refine⟨hB,by simp,hn,hl,hm,h1,fun j u hj=>?_,fun j hj=>⟨?_,World.frozen?_alloc_at _ _ _ _ (by simp)⟩⟩
 ·have hl:=(List.getElem?_eq_some_iff.1 hj).1
  rw[World.cell?_alloc_at _ _ _ _ (by simp),Array.getElem?_append_left (by simpa using hl)]
  simpa using hj
 ·rw[World.cell?_alloc_at _ _ _ _ (by simp),Array.getElem?_eq_getElem (by rw[b]; exact hj)]
  rfl
def ag(k B:Nat)(w:World)(v:Value)(n:Nat)(cs:List Value):Prop:=
 (v=.slice none 0 0∧n=0∧cs= [])∨∃g c,v=.slice (some ⟨g,0,none⟩) n c∧cF k B w g c n cs
theorem ag.below{k B B':Nat}{w w':World}{v:Value}{n:Nat}{cs:List Value}(h:ag k B w v n cs)(hb:Below B' w w')(hB:w.heap.size<=B'):ag k B w' v n cs:=by
 rcases h with h | ⟨g,c,rfl,hr⟩
 ·exact .inl h
 ·exact .inr ⟨g,c,rfl,hr.below hb (Fd hr.lt hB)⟩
theorem ag.mono{k B B':Nat}{w:World}{v:Value}{n:Nat}{cs:List Value}(h:ag k B w v n cs)(hB:B'<=B):ag k B' w v n cs:=by
 rcases h with h | ⟨g,c,rfl,hr⟩
 ·exact .inl h
 ·exact .inr ⟨g,c,rfl,hr.mono hB⟩
theorem ag.slice{k B:Nat}{w:World}{v:Value}{n:Nat}{cs:List Value}(h:ag k B w v n cs):∃base c,v=.slice base n c:=by
 rcases h with ⟨rfl,rfl,_⟩ | ⟨g,c,rfl,_⟩
 ·exact⟨_,_,rfl⟩
 ·exact⟨_,_,rfl⟩
variable {P:Program}
theorem ag.src(h:ag k B w v n cs){t e:TypeId}(ht:P.underlying t=some (.slice e)):Src P k t v n cs w:=by
 rcases h with ⟨rfl,rfl,rfl⟩ | ⟨g,c,rfl,hr⟩
 ·exact Src.ofNil w ht 0
 ·exact Src.ofSlice w ht (a_ g 0) n c cs hr.len (fun j u hj=>by rw[Addr.add_lit,Nat.zero_add]; exact hr.holds j u hj) hr.one
theorem ag.first(h:ag k B w v n cs):(Builtin.firstCells k n v).run P w.drew=.ok cs.toArray w.drew:=by
 rcases h with ⟨rfl,rfl,rfl⟩ | ⟨g,c,rfl,hr⟩
 ·exact run_firstCells_none w.drew k 0 0 0
 ·exact run_firstCells_some w.drew k n (a_ g 0) n c cs hr.len (fun j u hj=>by rw[Addr.add_lit,Nat.zero_add]; exact hr.holds j u hj)
theorem j5(w:World)(t ty e:TypeId)(i:TypeInfo)(z:Value)(k bytes:Nat)(h1:P.underlying t=some (.slice e))(h2:P.info? e=some i)(h3:i.zero=some z)(h4:i.size=k)(h5:i.bytes=bytes)(h6:z.cells.size=k)(B:Nat)(v:Value)(n:Nat)(cs:List Value)(h:ag k B w v n cs)(hB:B<=w.heap.size)(x:Value)(m:Nat)(us:List Value)(hs:Src P k t x m us w)(hb:n+m<=1000000)(hby:bytes<=1000000):
 ∃v' w',(Builtin.append_ #[t,t] ty #[v,x]).run P w=.ok v' w'∧ag k B w' v' (n+m) (cs ++ us)∧Below B w w'∧(m≠0->v'≠.slice none 0 0):=by
 have D:(n+m)*bytes<=1000000*1000000:=Nat.mul_le_mul hb hby
 have f:(cs ++ us).length=(n+m)*k:=by
  rw[List.length_append,hs.newsLen,Nat.add_mul];congr 1
  rcases h with ⟨_,rfl,rfl⟩ | ⟨g,c,_,b⟩
  ·simp
  ·exact b.len
 have q:∀u∈cs ++ us,u.oneCell'=true:=by
  intro u p;rw[List.mem_append] at p;rcases p with p | p
  ·rcases h with ⟨_,_,rfl⟩ | ⟨g,c,_,b⟩
   ·cases p
   ·exact b.one u p
  ·exact hs.one u p
 have o:∀(base:Option Addr) (c:Nat),v=.slice base n c->c<n+m->∃v' w',(Builtin.append_ #[t,t] ty #[v,x]).run P w=.ok v' w'∧ag k B w' v' (n+m) (cs ++ us)∧Below B w w'∧(m≠0->v'≠.slice none 0 0):=by
  intro base c hv hc;have E:=h.first (P:=P)
  rw[hv] at E ⊢;subst h4;have b:=run_append_grow_src w t t ty e i z h1 h2 h3 base n c cs E x m us hs hc (by omega) (by rw[h5]; exact growslice_fits hc (by omega))
  have s:=grownCap_le_maxLen w (n+m) c e (by unfold maxLen; omega)
  have A:=grownCap_ge w (n+m) c e;refine⟨_,_,b,.inr ⟨_,_,rfl,?_⟩,((E9 B w).drew).alloc hB _,fun _ h=>by cases h⟩
  exact yY (B:=B) (w:=w.drew) hB (cs ++ us) (n+m) f q _ h6 _ e s A
 rcases h with ⟨rfl,rfl,rfl⟩ | ⟨g,c,rfl,b⟩
 ·by_cases s:m=0
  ·subst s
   have p:us= []:=List.eq_nil_of_length_eq_zero (by simpa using hs.newsLen)
   subst p;refine⟨.slice none 0 0,w,?_,.inl ⟨rfl,rfl,rfl⟩,E9 _ _,fun h=>absurd rfl h⟩;simp[Builtin.append_,run_underlying h1,sizeOf,typeInfo,h2,h4,hs.len,hs.cells]
  ·exact o none 0 rfl (by omega)
 ·by_cases hc:n+m<=c
  ·have F:=hs.newsLen
   have hk:n*k+m*k<=c*k:=by rw[<- Nat.add_mul]; exact Fi _ hc
   subst h4;have r:=run_append_room_src w t t ty e i h1 h2 g 0 n c x m us hs hc (fun j hj=>by rw[Nat.zero_add]; exact (b.there _ (by omega)).1) (fun j hj=>by rw[Nat.zero_add]; exact (b.there _ (by omega)).2)
   rw[Nat.zero_add] at r;refine⟨_,_,r,.inr ⟨g,c,rfl,?_⟩,aa b.new us (n*i.size) w,fun _ h=>by cases h⟩
   refine b.setCells (n*i.size) us (by omega) hc f q (fun j u hj=>⟨fun hin=>?_,fun hout=>?_⟩)
   ·rw[List.getElem?_append_right (by rw[b.len]; omega),b.len] at hj
    exact hj
   ·have C:=(List.getElem?_eq_some_iff.1 hj).1
    rw[f,Nat.add_mul] at C;rw[List.getElem?_append_left (by rw[b.len]; omega)] at hj
    exact b.holds j u hj
  ·exact o _ c rfl (by omega)
theorem bw{P:Program}(w:World){ops:Array Oper}{rest:List Oper}{o:Oper}{a:Act}{Q:Exit->Act->World->Prop}(hg:o.guard=none)(s x:Operand)(t:TypeId)(hop:o.op=Op.call { callee:=Callee.builtin Builtin.append,args:=#[s,x],argTypes:=#[t,t] })(e:TypeId)(i:TypeInfo)(z:Value)(k bytes:Nat)(h1:P.underlying t=some (.slice e))(h2:P.info? e=some i)(h3:i.zero=some z)(h4:i.size=k)(h5:i.bytes=bytes)(h6:z.cells.size=k)(B:Nat)(v:Value)(n:Nat)(cs:List Value)(hs:a.eval s=v)(h:ag k B w v n cs)(hB:B<=w.heap.size)(y:Value)(m:Nat)(us:List Value)(hx:a.eval x=y)(hsrc:Src P k t y m us w)(hb:n+m<=1000000)(hby:bytes<=1000000)(hK:∀v' w',ag k B w' v' (n+m) (cs ++ us)->Below B w w'->(m≠0->v'≠.slice none 0 0)->wpList P ops Q rest (a.put o.dst v') w'):
 wpList P ops Q (o::rest) a w:=by
 obtain⟨v',w',hr,h7,h8,h9⟩:=j5 (P:=P) w t o.type e i z k bytes h1 h2 h3 h4 h5 h6 B v n cs h hB y m us hsrc hb hby;exact Lib.wpList_append_run w hg s x t t hop _ _ hs hx _ _ hr (hK v' w' h7 h8 h9)
theorem dv(w:World)(dT sT ty elem:TypeId)(k b o dLen dCap:Nat)(a:Addr)(sLen sCap:Nat)(cs:List Value)(hu:P.underlying dT=some (.slice elem))(hs:(P.info? elem).map (·.size)=some k)(hn:cs.length=Nat.min sLen dLen*k)(hsrc:∀j v,cs[j]?=some v->w.cell? (a.add j)=some v)(hc:∀j,j<cs.length->(w.cell? ⟨b,o+j,none⟩).isSome=true)(hf:∀j,j<cs.length->w.frozen? ⟨b,o+j,none⟩=false)(h1:∀v∈cs,v.oneCell'=true):
 (Builtin.copy_ #[dT,sT] ty #[.slice (some ⟨b,o,none⟩) dLen dCap,.slice (some a) sLen sCap]).run P w=.ok (goInt (Nat.min sLen dLen)) (w.setCells b o cs):=by
 have f:=run_loadCells_list (P:=P) w a cs hsrc;have c:=run_storeCells_cells (P:=P) b o cs 0 w (by simpa using hc) (by simpa using hf) h1
 cases hq:P.info? elem with
 |none=>simp[hq] at hs
 |some i=>
  have g:i.size=k:=by simpa[hq] using hs
  simp[Builtin.copy_,run_underlying hu,Builtin.lenOf,Builtin.firstCells,sizeOf,typeInfo,hq,g,<- hn,f,c]
open Ev
def ac(f:Fam):List Value:= [.int .i64 f.id,.string f.client,.string f.subject,.string f.scope,.int .i64 f.gen,.int .i64 f.made,.int .i64 f.used,.string f.request,.bool f.dead]
def ap(f:Fam):Value:=.agg (ac f).toArray
theorem bL(f:Fam):(ac f).length=9:=rfl
theorem cy(f:Fam):∀u∈ac f,u.oneCell'=true:=by
 intro u hu;simp only[ac,List.mem_cons,List.not_mem_nil,or_false] at hu;rcases hu with rfl | rfl | rfl | rfl | rfl | rfl | rfl | rfl | rfl <;> rfl
def aq(l:List Fam):List Value:=l.flatMap ac
theorem eu(f:Fam)(l:List Fam):aq (f::l)=ac f ++ aq l:=rfl
theorem cV(l m:List Fam):aq (l ++ m)=aq l ++ aq m:=List.flatMap_append
theorem fx(f:Fam):aq [f]=ac f:=by simp[aq]
theorem dZ:∀l:List Fam,(aq l).length=l.length*9
 |[]=>rfl
 |f::l=>by rw[eu,List.length_append,bL,dZ l,List.length_cons]; omega
theorem tP(l:List Fam):∀u∈aq l,u.oneCell'=true:=by
 intro u hu;obtain⟨f,_,hf⟩:=List.mem_flatMap.1 hu;exact cy f u hf
theorem j6:∀(l:List Fam) (j i:Nat) (hj:j<l.length),i<9->(aq l)[j*9+i]?=(ac l[j])[i]?
 |f::l,0,i,_,hi=>by
  rw[eu,List.getElem?_append_left (by rw[bL]; omega),Nat.zero_mul,Fl]
  rfl
 |f::l,j+1,i,hj,hi=>by
  rw[eu,List.getElem?_append_right (by rw[bL]; omega),bL,show (j+1)*9+i - 9=j*9+i by omega,j6 l j i (by simpa using hj) hi]
  rfl
theorem ig(l:List Fam)(i:Nat)(hi:i<=l.length):aq (l.take i)=(aq l).take (i*9):=by
 have e:aq l=aq (l.take i) ++ aq (l.drop i):=by rw[<- cV,List.take_append_drop]
 have b:(aq (l.take i)).length=i*9:=by rw[dZ,List.length_take]; congr 1; omega
 rw[e,<- b,List.take_left]
theorem ii(l:List Fam)(i:Nat)(hi:i<=l.length):aq (l.drop i)=(aq l).drop (i*9):=by
 have e:aq l=aq (l.take i) ++ aq (l.drop i):=by rw[<- cV,List.take_append_drop]
 have b:(aq (l.take i)).length=i*9:=by rw[dZ,List.length_take]; congr 1; omega
 rw[e,<- b,List.drop_left]
abbrev ah(B:Nat)(w:World)(v:Value)(l:List Fam):Prop:=ag 9 B w v l.length (aq l)
theorem ah.nil(B:Nat)(w:World):ah B w (.slice none 0 0) []:=.inl ⟨rfl,rfl,rfl⟩
theorem ah.cell{B:Nat}{w:World}{base:Option Addr}{c:Nat}{l:List Fam}(h:ah B w (.slice base l.length c) l)(j:Nat)(hj:j<l.length):∃g,base=some ⟨g,0,none⟩∧g<w.heap.size∧∀i u,(ac l[j])[i]?=some u->w.cell? ⟨g,j*9+i,none⟩=some u:=by
 rcases h with ⟨_,h0,_⟩ | ⟨g,c',e,hr⟩
 ·omega
 ·injection e with e _ _
  refine⟨g,e,hr.lt,fun i u hi=>hr.holds _ _ ?_⟩
  have b:i<9:=by
   have:=(List.getElem?_eq_some_iff.1 hi).1;rwa [bL] at this
  rw[j6 l j i hj b];exact hi
structure eF (w:World) (g o:Nat) (f:Fam):Prop where
 c0:w.cell? ⟨g,o,none⟩=some (.int .i64 f.id)
 c1:w.cell? ⟨g,o+1,none⟩=some (.string f.client)
 c2:w.cell? ⟨g,o+2,none⟩=some (.string f.subject)
 c3:w.cell? ⟨g,o+3,none⟩=some (.string f.scope)
 c4:w.cell? ⟨g,o+4,none⟩=some (.int .i64 f.gen)
 c5:w.cell? ⟨g,o+5,none⟩=some (.int .i64 f.made)
 c6:w.cell? ⟨g,o+6,none⟩=some (.int .i64 f.used)
 c7:w.cell? ⟨g,o+7,none⟩=some (.string f.request)
 c8:w.cell? ⟨g,o+8,none⟩=some (.bool f.dead)
variable {f:Fam}
theorem mh(h:∀i u,(ac f)[i]?=some u->w.cell? ⟨g,o+i,none⟩=some u):eF w g o f:=
 ⟨h 0 _ rfl,h 1 _ rfl,h 2 _ rfl,h 3 _ rfl,h 4 _ rfl,h 5 _ rfl,h 6 _ rfl,h 7 _ rfl,h 8 _ rfl⟩
theorem eU(w:World)(f:Fam)(t:TypeId)(g:Nat)(hg:g=w.heap.size):eF (w.alloc (.cells #[.int .i64 f.id,.string f.client,.string f.subject,.string f.scope,.int .i64 f.gen,.int .i64 f.made,.int .i64 f.used,.string f.request,.bool f.dead] t)) g 0 f:=by
 constructor <;> exact (Fb _ _ _ _ hg).trans rfl
theorem eF.all(h:eF w g o f):∀i u,(ac f)[i]?=some u->w.cell? ⟨g,o+i,none⟩=some u:=by
 intro i u hi;match i,hi with
 |0,hi=>cases hi; exact h.c0
 |1,hi=>cases hi; exact h.c1
 |2,hi=>cases hi; exact h.c2
 |3,hi=>cases hi; exact h.c3
 |4,hi=>cases hi; exact h.c4
 |5,hi=>cases hi; exact h.c5
 |6,hi=>cases hi; exact h.c6
 |7,hi=>cases hi; exact h.c7
 |8,hi=>cases hi; exact h.c8
 |i+9,hi=>simp[ac] at hi
theorem eF.on(h:eF w g o f)(hb:Below B w w')(hg:g<B):eF w' g o f:=
 mh (fun i u hi=>(hb.cell (p:=(a_ g (o+i))) hg).trans (h.all i u hi))
theorem ah.fam{base:Option Addr}{l:List Fam}(h:ah B w (.slice base l.length c) l)(j:Nat)(hj:j<l.length):∃g,base=some ⟨g,0,none⟩∧g<w.heap.size∧eF w g (j*9) l[j]:=by
 obtain⟨g,e,hl,hc⟩:=h.cell j hj;exact⟨g,e,hl,mh hc⟩
structure WS (w0:World) (g:Nat) (f:Fam) (w':World):Prop where
 libs:bv w'
 box:eF w' g 0 f
 lt:g<w'.heap.size
 below:Below w0.heap.size w0 w'
theorem WS.on{w0:World}{g:Nat}{f:Fam}{w w':World}(h:WS w0 g f w)(hb:Below w.heap.size w w'):WS w0 g f w':=
 ⟨h.libs.below hb,h.box.on hb h.lt,Fd h.lt hb.size,h.below.tm hb⟩
variable {f1 f5 f6 f7:Int}{f9:Bool}
theorem yZ(h:WS w0 g ⟨f1,f2,f3,f4,f5,f6,f7,f8,f9⟩ w):(w.cell? ⟨g,0,none⟩=some (.int .i64 f1)∧w.cell? ⟨g,1,none⟩=some (.string f2)∧w.cell? ⟨g,2,none⟩=some (.string f3)∧w.cell? ⟨g,3,none⟩=some (.string f4)∧w.cell? ⟨g,4,none⟩=some (.int .i64 f5)∧w.cell? ⟨g,5,none⟩=some (.int .i64 f6)∧w.cell? ⟨g,6,none⟩=some (.int .i64 f7)∧w.cell? ⟨g,7,none⟩=some (.string f8)∧w.cell? ⟨g,8,none⟩=some (.bool f9)∧WS w0 g ⟨f1,f2,f3,f4,f5,f6,f7,f8,f9⟩ w):=by
 have b:=h.box;exact⟨b.c0,b.c1,b.c2,b.c3,b.c4,b.c5,b.c6,b.c7,b.c8,h⟩
theorem ly(h:(w.cell? ⟨g,0,none⟩=some (.int .i64 f1)∧w.cell? ⟨g,1,none⟩=some (.string f2)∧w.cell? ⟨g,2,none⟩=some (.string f3)∧w.cell? ⟨g,3,none⟩=some (.string f4)∧w.cell? ⟨g,4,none⟩=some (.int .i64 f5)∧w.cell? ⟨g,5,none⟩=some (.int .i64 f6)∧w.cell? ⟨g,6,none⟩=some (.int .i64 f7)∧w.cell? ⟨g,7,none⟩=some (.string f8)∧w.cell? ⟨g,8,none⟩=some (.bool f9)∧WS w0 g ⟨f1,f2,f3,f4,f5,f6,f7,f8,f9⟩ w))(hb:Below w.heap.size w w'):(w'.cell? ⟨g,0,none⟩=some (.int .i64 f1)∧w'.cell? ⟨g,1,none⟩=some (.string f2)∧w'.cell? ⟨g,2,none⟩=some (.string f3)∧w'.cell? ⟨g,3,none⟩=some (.string f4)∧w'.cell? ⟨g,4,none⟩=some (.int .i64 f5)∧w'.cell? ⟨g,5,none⟩=some (.int .i64 f6)∧w'.cell? ⟨g,6,none⟩=some (.int .i64 f7)∧w'.cell? ⟨g,7,none⟩=some (.string f8)∧w'.cell? ⟨g,8,none⟩=some (.bool f9)∧WS w0 g ⟨f1,f2,f3,f4,f5,f6,f7,f8,f9⟩ w'):=yZ (h.2.2.2.2.2.2.2.2.2.on hb)
theorem vy(h:WS w0 g ⟨f1,f2,f3,f4,f5,f6,f7,f8,f9⟩ w):(w.drew.cell? ⟨g,0,none⟩=some (.int .i64 f1)∧w.drew.cell? ⟨g,1,none⟩=some (.string f2)∧w.drew.cell? ⟨g,2,none⟩=some (.string f3)∧w.drew.cell? ⟨g,3,none⟩=some (.string f4)∧w.drew.cell? ⟨g,4,none⟩=some (.int .i64 f5)∧w.drew.cell? ⟨g,5,none⟩=some (.int .i64 f6)∧w.drew.cell? ⟨g,6,none⟩=some (.int .i64 f7)∧w.drew.cell? ⟨g,7,none⟩=some (.string f8)∧w.drew.cell? ⟨g,8,none⟩=some (.bool f9)∧WS w0 g ⟨f1,f2,f3,f4,f5,f6,f7,f8,f9⟩ w.drew):=yZ (h.on (E9 _ _).drew)
theorem iM(h:(w.cell? ⟨g,0,none⟩=some (.int .i64 f1)∧w.cell? ⟨g,1,none⟩=some (.string f2)∧w.cell? ⟨g,2,none⟩=some (.string f3)∧w.cell? ⟨g,3,none⟩=some (.string f4)∧w.cell? ⟨g,4,none⟩=some (.int .i64 f5)∧w.cell? ⟨g,5,none⟩=some (.int .i64 f6)∧w.cell? ⟨g,6,none⟩=some (.int .i64 f7)∧w.cell? ⟨g,7,none⟩=some (.string f8)∧w.cell? ⟨g,8,none⟩=some (.bool f9)∧WS w0 g ⟨f1,f2,f3,f4,f5,f6,f7,f8,f9⟩ w)):bv w:=h.2.2.2.2.2.2.2.2.2.libs
end Go.Proofs.YtlailakofhenkabGreatDoor
