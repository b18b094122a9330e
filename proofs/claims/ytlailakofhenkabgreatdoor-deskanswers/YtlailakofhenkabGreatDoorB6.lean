import Derived.Test.YtlailakofhenkabGreatDoorB5
import Derived.Lib.SortBridge
set_option maxHeartbeats 4000000
set_option maxRecDepth 100000
namespace Go.Proofs.YtlailakofhenkabGreatDoor
open Go Go.RowKit Tok Sc Ev Tryz
def j7(n a b:Int):Bool:=decide (a<=n) && decide (n<=b)
theorem za(n a b:Int)(w:World):Calls prog 66 #[.i_ n,.i_ a,.i_ b] w fun e w'=>e=.returned (.bool (j7 n a b))∧w'=w:=by
 by_cases h0:a<=n
 ·by_cases h1:n<=b
  ·have c:Hid (j7 n a b=true):=by simp[Hid,j7,h0,h1]
   go_enter func66,ntmps66
   go_wp2_with fail;go_ret;exact⟨by rw[c.o]; rfl,rfl⟩
  ·have c:Hid (j7 n a b=false):=by simp[Hid,j7,h1]
   go_enter func66,ntmps66
   go_wp2_with fail;go_ret;exact⟨by rw[c.o]; rfl,rfl⟩
 ·have c:Hid (j7 n a b=false):=by simp[Hid,j7,h0]
  go_enter func66,ntmps66
  go_wp2_with fail;go_ret;exact⟨by rw[c.o]; rfl,rfl⟩
theorem vz(s:ByteArray)(k:Nat)(h:k<s.size):(s.data.toList.take (k+1)).all nmB=((s.data.toList.take k).all nmB && nmB s[k]):=by
 rw[List.take_succ_eq_append_getElem (by simpa using h),List.all_append]
 simp
 rfl
variable {s:ByteArray}
theorem zb{k:Nat}(h:k<s.size)(hb:nmB s[k]=false):am s.data.toList=false:=by
 cases hw:am s.data.toList with
 |false=>rfl
 |true=>
  have:=(cx.1 hw).1 s[k] (by
   show s.data[k]∈s.data.toList
   exact Array.mem_toList_iff.2 (Array.getElem_mem h))
  rw[hb] at this
  cases this
theorem vA(h:(s.data.toList.take s.size).all nmB=true):am s.data.toList=j7 s.size 1 20:=by
 rw[List.take_of_length_le (by simp)] at h
 unfold am j7;rw[h,Bool.true_and];have b:s.data.toList.length=s.size:=Fg;rw[b,Bool.eq_iff_iff];simp only[Bool.and_eq_true,decide_eq_true_eq];omega
variable {c:UInt8}
theorem CG(h1:97<=c.toNat)(h2:c.toNat<=122):nmB c=true:=jC.2 (.inl ⟨h1,h2⟩)
theorem CH(h1:48<=c.toNat)(h2:c.toNat<=57):nmB c=true:=jC.2 (.inr (.inl ⟨h1,h2⟩))
theorem CI(h1:c.toNat=45):nmB c=true:=jC.2 (.inr (.inr h1))
theorem nX(h:¬ ((97<=c.toNat∧c.toNat<=122)∨(48<=c.toNat∧c.toNat<=57)∨c.toNat=45)):nmB c=false:=Bool.eq_false_iff.2 (fun k=>h (jC.1 k))
theorem aA(s:ByteArray)(w:World)(hs:s.size<=1000000):Calls prog 67 #[.string s] w fun e w'=>e=.returned (.bool (am s.data.toList))∧w'=w:=by
 have j:Hid (∀k (h:k<s.size),nmB s[k]=false->am s.data.toList=false):=fun k h=>zb h;have z:Hid _:=vz s;have A:Hid ((s.data.toList.take s.size).all nmB=true->am s.data.toList=j7 s.size 1 20):=vA;go_enter func67,ntmps67
 go_wp2_with fail
 go_loopg [7] s.size (fun gk i wr=>∃k:Nat,k+gk=s.size∧i=.i_ k∧Hid ((s.data.toList.take k).all nmB=true)∧wr=w)
 case atStart=>exact⟨0,by omega,rfl,by simp[Hid],rfl⟩
 case round=>
  obtain⟨k,hk,rfl,HA,rfl⟩:=hrel;have g:Hid _:=hk;have B:k<=s.size:=by omega
  clear hk;by_cases hlt:k<s.size
  ·have r:(k:Int)<(s.size:Int):=by omega
   have b:Hid (nmB s[k]=true->(s.data.toList.take (k+1)).all nmB=true):=fun h=>by rw[z.o k hlt,HA.out,h]; rfl
   have c:Hid _:=j.o k hlt;by_cases h1:97<=s[k].toNat
   ·by_cases h2:s[k].toNat<=122
    ·have m:Hid _:=CG h1 h2
     have n:(97:Int)<=s[k].toNat:=by omega
     have o:(s[k].toNat:Int)<=122:=by omega
     go_wp2_with fail
     go_roundg (gk - 1)
     case measure=>have:=g.o; omega
     case rel=>exact⟨k+1,by have:=g.o; omega,by go_num,b.o m.o,rfl⟩
    ·have f:Hid _:=c.o (nX (by omega))
     have t:(48:Int)<=s[k].toNat:=by omega
     have o:¬ (s[k].toNat:Int)<=122:=by omega
     have n:(97:Int)<=s[k].toNat:=by omega
     have v:¬ (s[k].toNat:Int)<=57:=by omega
     have p:((s[k].toNat:Int) == 45)=false:=by rw[beq_eq_false_iff_ne]; omega
     go_wp2_with fail
     go_ret;exact⟨by rw[f.o]; rfl,rfl⟩
   ·by_cases t:48<=s[k].toNat
    ·by_cases v:s[k].toNat<=57
     ·have m:Hid _:=CH t v
      have n:¬ (97:Int)<=s[k].toNat:=by omega
      have o:(48:Int)<=s[k].toNat:=by omega
      have q:(s[k].toNat:Int)<=57:=by omega
      go_wp2_with fail
      go_roundg (gk - 1)
      case measure=>have:=g.o; omega
      case rel=>exact⟨k+1,by have:=g.o; omega,by go_num,b.o m.o,rfl⟩
     ·have f:Hid _:=c.o (nX (by omega))
      have n:¬ (97:Int)<=s[k].toNat:=by omega
      have o:(48:Int)<=s[k].toNat:=by omega
      have q:¬ (s[k].toNat:Int)<=57:=by omega
      have p:((s[k].toNat:Int) == 45)=false:=by rw[beq_eq_false_iff_ne]; omega
      go_wp2_with fail
      go_ret;exact⟨by rw[f.o]; rfl,rfl⟩
    ·by_cases p:s[k].toNat=45
     ·have m:Hid _:=CI p
      have n:¬ (97:Int)<=s[k].toNat:=by omega
      have o:¬ (48:Int)<=s[k].toNat:=by omega
      have q:((s[k].toNat:Int) == 45)=true:=by rw[beq_iff_eq]; omega
      go_wp2_with fail
      go_roundg (gk - 1)
      case measure=>have:=g.o; omega
      case rel=>exact⟨k+1,by have:=g.o; omega,by go_num,b.o m.o,rfl⟩
     ·have f:Hid _:=c.o (nX (by omega))
      have n:¬ (97:Int)<=s[k].toNat:=by omega
      have o:¬ (48:Int)<=s[k].toNat:=by omega
      have q:((s[k].toNat:Int) == 45)=false:=by rw[beq_eq_false_iff_ne]; omega
      go_wp2_with fail
      go_ret;exact⟨by rw[f.o]; rfl,rfl⟩
  ·obtain rfl:k=s.size:=by omega
   have f:Hid _:=A.o HA.out;go_wp2_with fail
   refine (za _ _ _ _).mono ?_;rintro e w' ⟨rfl,rfl⟩;go_wp2_with fail
   go_ret;exact⟨by rw[f.o]; rfl,rfl⟩
theorem Bn(c:UInt8):nmB c=((decide ((97:Int)<=c.toNat) && decide ((c.toNat:Int)<=122)) || (decide ((48:Int)<=c.toNat) && decide ((c.toNat:Int)<=57)) || ((c.toNat:Int) == 45)):=by
 rw[Bool.eq_iff_iff,jC];simp only[Bool.or_eq_true,Bool.and_eq_true,decide_eq_true_eq,beq_iff_eq];omega
theorem wM(c:UInt8)(w:World):Calls prog 95 #[.int .u8 c.toNat] w fun e w'=>e=.returned (.bool (nmB c))∧w'=w:=by
 have f:=Bn c;by_cases h1:(97:Int)<=c.toNat
 ·by_cases h2:(c.toNat:Int)<=122
  ·have b:J (nmB c=true):=CG (by omega) (by omega)
   clear f;go_enter func95,ntmps95
   go_wp2_with fail
   go_ret;exact⟨by rw[b.o]; rfl,rfl⟩
  ·have b:J (nmB c=false):=nX (by omega)
   have j:(48:Int)<=c.toNat:=by omega
   have k:¬ (c.toNat:Int)<=57:=by omega
   have g:((c.toNat:Int) == 45)=false:=by rw[beq_eq_false_iff_ne]; omega
   clear f;go_enter func95,ntmps95
   go_wp2_with fail
   go_ret;exact⟨by rw[b.o]; rfl,rfl⟩
 ·by_cases j:(48:Int)<=c.toNat
  ·by_cases k:(c.toNat:Int)<=57
   ·have b:J (nmB c=true):=CH (by omega) (by omega)
    clear f;go_enter func95,ntmps95
    go_wp2_with fail
    go_ret;exact⟨by rw[b.o]; rfl,rfl⟩
   ·have b:J (nmB c=false):=nX (by omega)
    have g:((c.toNat:Int) == 45)=false:=by rw[beq_eq_false_iff_ne]; omega
    clear f;go_enter func95,ntmps95
    go_wp2_with fail
    go_ret;exact⟨by rw[b.o]; rfl,rfl⟩
  ·by_cases g:c.toNat=45
   ·have b:J (nmB c=true):=CI g
    have m:((c.toNat:Int) == 45)=true:=by rw[beq_iff_eq]; omega
    clear f;go_enter func95,ntmps95
    go_wp2_with fail
    go_ret;exact⟨by rw[b.o]; rfl,rfl⟩
   ·have b:J (nmB c=false):=nX (by omega)
    have m:((c.toNat:Int) == 45)=false:=by rw[beq_eq_false_iff_ne]; omega
    clear f;go_enter func95,ntmps95
    go_wp2_with fail
    go_ret;exact⟨by rw[b.o]; rfl,rfl⟩
theorem da(s:ByteArray)(w:World)(hs:s.size<=1000000):Calls prog 47 #[.string s] w fun e w'=>e=.returned (.bool (am s.data.toList))∧w'=w:=by
 have f:Hid (∀k (h:k<s.size),nmB s[k]=false->am s.data.toList=false):=fun k h=>zb h;have t:Hid _:=vz s;have v:Hid ((s.data.toList.take s.size).all nmB=true->am s.data.toList=j7 s.size 1 20):=vA;have j:s.data.toList.length=s.size:=Fg;by_cases h0:s.data.toList= []
 ·have c:Hid (am s.data.toList=false):=by show _=_; rw[h0]; rfl
  have z:s.toList.isEmpty=true:=by rw[ByteArray.toList_eq,h0]; rfl
  clear h0 j;go_enter func47,ntmps47
  go_wp2_with fail
  go_ret;exact⟨by rw[c.o]; rfl,rfl⟩
 ·have z:s.toList.isEmpty=false:=by rw[ByteArray.toList_eq,List.isEmpty_eq_false_iff]; exact h0
  have b:0<s.data.toList.length:=List.length_pos_iff.2 h0;rw[j] at b;by_cases h20:s.size<=20
  ·have g:(s.size:Int)<=20:=by omega
   have m:Hid (j7 s.size 1 20=true):=by
    show _=_
    unfold j7;simp only[Bool.and_eq_true,decide_eq_true_eq];omega
   clear h0 j b;go_enter func47,ntmps47
   go_wp2_with fail
   go_loopg [13] s.size (fun gk i wr=>∃k:Nat,k+gk=s.size∧i=.i_ k∧Hid ((s.data.toList.take k).all nmB=true)∧wr=w)
   case atStart=>exact⟨0,by omega,rfl,by simp[Hid],rfl⟩
   case round=>
    obtain⟨k,hk,rfl,HA,rfl⟩:=hrel;have q:Hid _:=hk;have A:k<=s.size:=by omega
    clear hk;by_cases hlt:k<s.size
    ·have r:(k:Int)<(s.size:Int):=by omega
     have n:Hid (nmB s[k]=true->(s.data.toList.take (k+1)).all nmB=true):=fun h=>by rw[t.o k hlt,HA.out,h]; rfl
     have o:Hid _:=f.o k hlt;go_wp2_with fail
     refine (wM s[k] _).mono ?_;rintro e w' ⟨rfl,rfl⟩
     cases hq:nmB s[k] with
     |true=>
      have B:Hid _:=n.o hq;clear hq;go_wp2_with fail
      go_roundg (gk - 1)
      case measure=>have:=q.o; omega
      case rel=>exact⟨k+1,by have:=q.o; omega,by go_num,B,rfl⟩
     |false=>
      have c:Hid _:=o.o hq;clear hq;go_wp2_with fail
      go_ret;exact⟨by rw[c.o]; rfl,rfl⟩
    ·obtain rfl:k=s.size:=by omega
     have c:Hid _:=(v.o HA.out).trans m.o;go_wp2_with fail
     go_ret;exact⟨by rw[c.o]; rfl,rfl⟩
  ·have g:¬ (s.size:Int)<=20:=by omega
   have p:(20:Int)<(s.size:Int):=by omega
   have c:Hid (am s.data.toList=false):=Bool.eq_false_iff.2 (fun h=>by have:=(cx.1 h).2.2; omega)
   clear h0 j b;go_enter func47,ntmps47
   go_wp2_with fail
   go_ret;exact⟨by rw[c.o]; rfl,rfl⟩
def aX(e:E):List Value:= [.int .i64 e.kind,.int .i64 e.fam.id,.string e.fam.client,.string e.fam.subject,.string e.fam.scope,.int .i64 e.fam.gen,.int .i64 e.fam.made,.int .i64 e.fam.used,.string e.fam.request,.bool e.fam.dead,.int .i64 e.id,.int .i64 e.time]
def evV(e:E):Value:=.agg (aX e).toArray
structure cG (w:World) (g:Nat) (e:E):Prop where
 lt:g<w.heap.size
 c0:w.cell? ⟨g,0,none⟩=some (.int .i64 e.kind)
 fam:eF w g 1 e.fam
 c10:w.cell? ⟨g,10,none⟩=some (.int .i64 e.id)
 c11:w.cell? ⟨g,11,none⟩=some (.int .i64 e.time)
theorem cG.on{w w':World}{g:Nat}{e:E}(h:cG w g e)(hb:Below w.heap.size w w'):cG w' g e:=
 ⟨Fd h.lt hb.size,(hb.cell (p:=(a_ g 0)) h.lt).trans h.c0,h.fam.on hb h.lt,(hb.cell (p:=(a_ g 10)) h.lt).trans h.c10,(hb.cell (p:=(a_ g 11)) h.lt).trans h.c11⟩
theorem bU(w:World)(e:E)(t:TypeId)(g:Nat)(hg:g=w.heap.size):cG (w.alloc (.cells #[.int .i64 e.kind,.int .i64 e.fam.id,.string e.fam.client,.string e.fam.subject,.string e.fam.scope,.int .i64 e.fam.gen,.int .i64 e.fam.made,.int .i64 e.fam.used,.string e.fam.request,.bool e.fam.dead,.int .i64 e.id,.int .i64 e.time] t)) g e:=
 ⟨by simp[hg],(World.cell?_alloc_at _ _ _ _ hg).trans rfl,by constructor <;> exact (Fb _ _ _ _ hg).trans rfl,(Fb _ _ _ _ hg).trans rfl,(Fb _ _ _ _ hg).trans rfl⟩
end Go.Proofs.YtlailakofhenkabGreatDoor
namespace Go.Proofs.YtlailakofhenkabGreatDoor.Sc
open Go.Lib Tok
structure j8 (s:List UInt8) (i:Nat) (pre:List Word) (cur:Word):Prop where
 rest:(i<=s.length∧parts 43 s=pre ++ parts 43 (cur ++ s.drop i))∨(i=s.length+1∧parts 43 s=pre∧cur= [])
 low:∀c∈cur,fE c=true
 good:∀p∈pre,wordB p=true
 len:cur.length<=i
theorem tQ(s:List UInt8):j8 s 0 [] []:=⟨.inl ⟨Nat.zero_le _,rfl⟩,by simp,by simp,Nat.le_refl _⟩
variable {cur x:Word}{i:Nat}{out pre:List Word}{s:List UInt8}
theorem ij(h:j8 s i pre cur)(hi:i<=s.length):parts 43 s=pre ++ parts 43 (cur ++ s.drop i):=by
 rcases h.rest with h | h
 ·exact h.2
 ·omega
theorem qQ(h:j8 s i pre cur):(43:UInt8)∉cur:=fun hm=>qF (h.low _ hm) rfl
theorem qR(h:j8 s i pre cur)(hi:i<s.length)(hl:fE s[i]=true):j8 s (i+1) pre (cur ++ [s[i]]):=by
 refine⟨.inl ⟨hi,?_⟩,fun c hc=>?_,h.good,by have:=h.len; simp; omega⟩
 ·rw[ij h (by omega),List.append_assoc,List.singleton_append,<- List.drop_eq_getElem_cons hi]
 ·simp only[List.mem_append,List.mem_singleton] at hc
  rcases hc with hc | rfl
  ·exact h.low c hc
  ·exact hl
def qS(s:List UInt8)(i:Nat):Prop:=i=s.length∨∃h:i<s.length,s[i]=43
theorem mi(he:qS s i)(hc:(43:UInt8)∉cur):
 (i=s.length∧parts 43 (cur ++ s.drop i)= [cur])∨(i<s.length∧parts 43 (cur ++ s.drop i)=cur::parts 43 (s.drop (i+1))):=by
 rcases he with rfl | ⟨hi,h43⟩
 ·exact .inl ⟨rfl,by rw[List.drop_length,List.append_nil,bO hc]⟩
 ·exact .inr ⟨hi,by rw[List.drop_eq_getElem_cons hi,h43,bD _ hc]⟩
theorem qT(h:j8 s i pre cur)(hi:i<=s.length)(he:qS s i)(hc:cur≠ []):j8 s (i+1) (pre ++ [cur]) []:=by
 refine⟨?_,by simp,fun p hp=>?_,Nat.zero_le _⟩
 ·rcases mi he (qQ h) with ⟨e,hp⟩ | ⟨e,hp⟩
  ·exact .inr ⟨by omega,by rw[ij h hi,hp],rfl⟩
  ·exact .inl ⟨e,by rw[ij h hi,hp]; simp⟩
 ·simp only[List.mem_append,List.mem_singleton] at hp
  rcases hp with hp | rfl
  ·exact h.good p hp
  ·exact eK.2 ⟨hc,h.low⟩
theorem mj(hs:s≠ []){w:Word}(hw:w∈parts 43 s)(hb:wordB w=false):bd s=false:=by
 cases hf:bd s with
 |false=>rfl
 |true=>
  unfold bd at hf;rw[gX hs,List.all_eq_true] at hf
  have:=hf w hw;rw[hb] at this
  cases this
theorem mm(h:j8 s i pre [])(hs:s≠ [])(hi:i<=s.length)(he:qS s i):bd s=false:=by
 refine mj hs (w:= []) ?_ rfl;rw[ij h hi];rcases mi he (qQ h) with ⟨e,hp⟩ | ⟨e,hp⟩ <;> rw[hp] <;> simp
theorem qU(h:j8 s i pre cur)(hi:i<s.length)(hl:fE s[i]=false)(h43:s[i]≠43):bd s=false:=by
 have b:s[i]∈cur ++ s.drop i:=List.mem_append_right _ (by rw[List.drop_eq_getElem_cons hi]; exact List.mem_cons_self)
 obtain⟨w,hw,hx⟩:=nO h43 _ _ (Fa _) b;refine mj (by intro e; simp[e] at hi) (w:=w) (by rw[ij h (by omega)]; simp[hw]) ?_
 cases hb:wordB w with
 |false=>rfl
 |true=>
  have:=(eK.1 hb).2 _ hx;rw[hl] at this
  cases this
theorem zc(h:j8 s (s.length+1) pre cur)(hs:s≠ []):bd s=true∧words s=pre:=by
 rcases h.rest with h' | h'
 ·omega
 ·have:words s=pre:=by rw[gX hs]; exact h'.2.1
  exact⟨by unfold bd; rw[this]; exact List.all_eq_true.2 h.good,this⟩
def nj(out pre:List Word):Prop:=out.Nodup∧∀x,x∈out↔x∈pre
theorem mn(h:nj out pre)(hx:x∈pre):nj out (pre ++ [x]):=by
 refine⟨h.1,fun y=>?_⟩;rw[h.2 y,List.mem_append,List.mem_singleton];constructor
 ·exact .inl
 ·rintro (h' | rfl)
  ·exact h'
  ·exact hx
theorem qV(h:nj out pre)(hx:x∉pre):nj (out ++ [x]) (pre ++ [x]):=by
 refine⟨?_,fun y=>?_⟩
 ·rw[List.nodup_append]
  refine⟨h.1,by simp,fun a ha b hb=>?_⟩
  simp at hb
  subst hb;rintro rfl;exact hx ((h.2 a).1 ha)
 ·rw[List.mem_append,List.mem_append,h.2 y]
def dU(l:List Word):Bool:=l.any fun x=>decide (8<x.length)
theorem nY(l:List Word)(x:Word):dU (l ++ [x])=(dU l || decide (8<x.length)):=by simp[dU]
theorem ze(hf:bd s=true)(h:nj out (words s)):
 ((dU (words s)=true∨5<out.length)->Out s [] 4)∧(dU (words s)=false->out.length<=5->Out s (out.mergeSort fun x y=>decide (x<=y)) 0):=by
 obtain⟨h1,h2⟩:=tH h.1 h.2;refine⟨fun hb=>.inr (.inr ⟨rfl,rfl,hf,_,h1,?_⟩),fun hl h5=>.inl ⟨rfl,hf,h1,by omega,fun w hw=>?_⟩⟩
 ·rcases hb with hb | hb
  ·right
   simp[dU] at hb
   exact hb
  ·left; omega
 ·simp[dU] at hl
  exact hl w hw
end Go.Proofs.YtlailakofhenkabGreatDoor.Sc
namespace Go.Proofs.YtlailakofhenkabGreatDoor
open Go Go.RowKit Tryz
variable {B:Nat}{w:World}
theorem kJ(hB:B<=w.heap.size)(os:Array Obj):Below B w (Go.Sort.grow w os):=
 ⟨rfl,rfl,rfl,by simp,fun k hk=>Go.Sort.heap_grow_old w os (Nat.lt_of_lt_of_le hk hB)⟩
def em(l:List (List UInt8)):List ByteArray:=l.map fun x=>⟨x.toArray⟩
theorem pq(l:List (List UInt8)):(em l).map (·.data.toList)=l:=by
 unfold em;rw[List.map_map];exact List.map_id' l
variable {v:Value}{xs:List ByteArray}
theorem Bo(h:aw B w v xs)(hn:xs.length<=1000000)(hB:B<=w.heap.size):
 Calls prog 203 #[v] w fun e w'=>e=.returned (.tuple #[])∧aw B w' v (em ((xs.map (·.data.toList)).mergeSort fun x y=>decide (x<=y)))∧Below B w w':=by
 rcases h with ⟨rfl,rfl⟩ | ⟨g,c,rfl,hr⟩
 ·refine (sort_Strings_none none 0 w).mono ?_
  rintro e w' ⟨rfl,rfl⟩;exact⟨rfl,.inl ⟨rfl,by simp[em]⟩,Below.refl _ _⟩
 ·have o:Go.Sort.Holds encStr w g 0 (xs.map (·.data.toList)).toArray:=by
   intro j hj;have f:j<xs.length:=by simpa using hj
   rw[Nat.zero_add];refine⟨?_,(hr.there j (Fd f hr.le)).2⟩;refine hr.holds j _ ?_;rw[List.getElem?_map,List.getElem?_eq_getElem f,getElem!_pos _ j hj];simp[encStr]
  have p:=sort_Strings g 0 c (xs.map (·.data.toList)) w o hr.lt (by simp; omega)
  rw[List.length_map] at p;refine p.mono ?_;rintro e w' ⟨rfl,q,os,rfl⟩;have k:((xs.map (·.data.toList)).mergeSort fun x y=>decide (x<=y)).length=xs.length:=by rw[List.length_mergeSort,List.length_map]
  rw[Lib.sorted_world encStr w g 0 q _ _ os o (by rw[k]; simp)]
  generalize ((xs.map (·.data.toList)).mergeSort fun x y=>decide (x<=y))=ys at *;have m:Below B w ((w.drewN q).setCells g 0 (ys.map encStr)):=(below_drewN' (E9 _ _) q).trans (aa hr.new _ _ _);have n:Below B ((w.drewN q).setCells g 0 (ys.map encStr)) (Go.Sort.grow ((w.drewN q).setCells g 0 (ys.map encStr)) os):=kJ (Fe hB m.size) os;have r:(em ys).length=xs.length:=by simp[em,k]
  have s:(em ys).map Value.string=ys.map encStr:=by
   unfold em;rw[List.map_map];rfl
  refine⟨rfl,.inr ⟨g,c,by rw[r],?_⟩,m.trans n⟩
  rw[r,s]
  have b:=(hr.drewN q).setCells (cs':=ys.map encStr) 0 (ys.map encStr) (by rw[List.length_map,k]; have:=hr.le; omega) (by rw[List.length_map,k]; exact hr.le) (fun j u hj=>⟨fun _=>hj,fun hh=>by
   have:=(List.getElem?_eq_some_iff.1 hj).1;omega⟩)
  rw[List.length_map,k] at b;exact b.below (kJ (Fa _) os) b.lt
theorem bz{P:Program}(w:World){ops:Array Oper}{rest:List Oper}{o:Oper}{a:Act}{Q:Exit->Act->World->Prop}(hg:o.guard=none)(s x:Operand)(t:TypeId)(hop:o.op=Op.call { callee:=Callee.builtin Builtin.append,args:=#[s,x],argTypes:=#[t,t] })(e:TypeId)(i:TypeInfo)(h1:P.underlying t=some (.slice e))(h2:P.info? e=some i)(h3:i.zero=some (.string ⟨#[]⟩))(h4:i.size=1)(h5:i.bytes=16)(B:Nat)(v:Value)(xs:List ByteArray)(hs:a.eval s=v)(h:aw B w v xs)(hB:B<=w.heap.size)(ad:Addr)(c':Nat)(u:ByteArray)(hx:a.eval x=.slice (some ad) 1 c')(hc:w.cell? ad=some (.string u))(hn:xs.length<=1000000)(hK:∀v' w',aw B w' v' (xs ++ [u])->Below B w w'->wpList P ops Q rest (a.put o.dst v') w'):
 wpList P ops Q (o::rest) a w:=by
 rcases h with ⟨rfl,rfl⟩ | ⟨g,c,rfl,hr⟩
 ·have b:Src P i.size t (.slice (some ad) 1 c') 1 [.string u] w:=by
   rw[h4];refine Src.ofSlice w h1 ad 1 c' [.string u] rfl (fun j y hj=>?_) (by intro y hy; simp at hy; subst hy; rfl)
   match j,hj with
   |0,hj=>simp at hj; subst hj; simpa[Addr.add] using hc
   |j+1,hj=>simp at hj
  have f:=run_append_grow_src w t t o.type e i _ h1 h2 h3 none 0 0 [] (run_firstCells_none w.drew i.size 0 0 0) _ 1 [.string u] b (by omega) (by omega) (by rw[h5]; exact growslice_fits (by omega) (by omega))
  refine Lib.wpList_append_run w hg s x t t hop _ _ hs hx _ _ f ?_;have n:=grownCap_le_maxLen w (0+1) 0 e (by unfold maxLen; omega)
  have k:=grownCap_ge w (0+1) 0 e;refine hK _ _ (.inr ⟨_,_,rfl,?_⟩) (((E9 B w).drew).alloc (by exact hB) _)
  exact iL (B:=B) (w:=w.drew) hB [.string u] 1 rfl (.e_) _ e n k
 ·refine dK w hg s x t hop e i _ 16 h1 h2 h3 h4 h5 rfl B g xs.length c _ hs hr ad c' (.string u) hx hc rfl (by unfold maxLen; omega) (by omega) (fun g' cc w' hr' hb'=>?_)
  have m:xs.length+1=(xs ++ [u]).length:=by simp
  rw[m];refine hK _ _ (.inr ⟨g',cc,rfl,?_⟩) hb';rw[<- m,List.map_append];exact hr'
open Sc
theorem mo(xs:List ByteArray)(x:ByteArray)(t:Nat):(xs.map (·.data.toList)).getD t x.data.toList=(xs.getD t x).data.toList:=by
 rw[List.getD_eq_getElem?_getD,List.getD_eq_getElem?_getD,List.getElem?_map]
 cases xs[t]? <;> rfl
theorem fQ{x:ByteArray}:x.data.toList∈xs.map (·.data.toList)↔x∈xs:=by
 rw[List.mem_map];constructor
 ·rintro ⟨y,hy,e⟩
  have:y=x:=ByteArray.ext (Array.toList_inj.1 e);exact this ▸ hy
 ·exact fun h=>⟨x,h,rfl⟩
theorem wN(h:aw B w v xs)(hn:xs.length<=5000)(hp:(xs.map (·.data.toList)).Pairwise (·<·))(x:ByteArray):
 Calls prog 276 #[v,.string x] w fun e w'=>(∃(k:Nat) (found:Bool),e=.returned (.tuple #[.int .i64 k,.bool found])∧k<=xs.length∧(found=true->x∈xs)∧
  (found=false->x∉xs∧(∀y∈(xs.map (·.data.toList)).take k,y<x.data.toList)∧(∀y∈(xs.map (·.data.toList)).drop k,¬ y<x.data.toList)))∧∃q,w'=w.drewN q:=by
 rcases h with ⟨rfl,rfl⟩ | ⟨g,c,rfl,hr⟩
 ·refine (Any2.slices_BinarySearch_string_empty laysNm226 _ _ _ _).mono ?_
  rintro e w' ⟨rfl,rfl⟩;exact⟨⟨0,false,rfl,Nat.le_refl _,fun h=>(by cases h),fun _=>⟨by simp,by simp,by simp⟩⟩,0,rfl⟩
 ·obtain⟨k,hk,h1,h2,h3,h4⟩:=yz x.data.toList _ hp
  have n:k<=xs.length:=by simpa using hk
  have A:Lib.bsGo (fun t=>Op.bytesLess ((fun j=>xs.getD j x) t).toList x.toList) xs.length 0 xs.length=k:=by
   refine Lib.bsGo_spec _ k (fun t ht=>?_) (fun t ht=>?_) _ _ _ (by omega) (Fo _) n
   ·have:=h1 t ht
    rw[mo] at this;simp only[bytesLess_eq,ByteArray.toList_eq,decide_eq_true_eq];exact this
   ·have:=h2 t ht
    rw[mo] at this;simp only[bytesLess_eq,ByteArray.toList_eq,decide_eq_false_iff_not];exact this
  refine (Any2.slices_BinarySearch_string laysNm226 g 0 xs.length c (fun j=>xs.getD j x) x w (by omega) (fun j hj=>?_)).mono ?_
  ·rw[Nat.zero_add]
   refine hr.holds j _ ?_;rw[List.getElem?_map,List.getElem?_eq_getElem hj,List.getD_eq_getElem?_getD,List.getElem?_eq_getElem hj];rfl
  ·rintro e w' ⟨rfl,q,rfl⟩
   rw[A];refine⟨⟨k,_,rfl,n,fun o=>?_,fun o=>⟨fun hx=>?_,h3,h4⟩⟩,q,rfl⟩
   ·obtain⟨f,s⟩:=of_decide_eq_true o
    rw[<- s];simp only[List.getD_eq_getElem?_getD,List.getElem?_eq_getElem f];exact Fw _
   ·have o:=of_decide_eq_false o
    have b:=fQ.2 hx;rw[<- List.take_append_drop k (xs.map (·.data.toList)),List.mem_append] at b;rcases b with b | b
    ·exact jY _ (h3 _ b)
    ·have f:k<xs.length:=by
      have:=List.length_pos_of_mem b;simp at this
      omega
     apply o
     refine⟨f,?_⟩;have m:=h2 k (Fa _);rw[mo] at m;have z:=List.drop_eq_getElem_cons (l:=xs.map (·.data.toList)) (i:=k) (by simpa using f)
     rw[z,List.mem_cons] at b;simp only[List.getElem_map] at b z;have s:(xs.getD k x)=xs[k]:=by rw[List.getD_eq_getElem?_getD,List.getElem?_eq_getElem f]; rfl
     rcases b with b | b
     ·rw[s]
      exact (ByteArray.ext (Array.toList_inj.1 b)).symm
     ·exfalso
      rw[s] at m;have p:=hp;rw[<- List.take_append_drop k (xs.map (·.data.toList)),List.pairwise_append] at p;have r:=p.2.1;rw[z,List.pairwise_cons] at r;exact m (r.1 _ b)
theorem qW(s:ByteArray)(w:World)(hs:s.size<=10000):Calls prog 191 #[.string s] w fun e w'=>e=.returned (.string s)∧Below w.heap.size w w':=by
 have b:=Tryz.stringslite_Clone s w (by omega)
 go_enter func191,ntmps191
 go_wp2_with fail;refine b.mono ?_;rintro e w' ⟨rfl,hb⟩;go_wp2_with fail;go_ret;exact⟨rfl,hb⟩
theorem aw.slice{B:Nat}{w:World}{v:Value}{xs:List ByteArray}(h:aw B w v xs):∃base c,v=.slice base xs.length c:=by
 rcases h with ⟨rfl,rfl⟩ | ⟨g,c,rfl,_⟩
 ·exact⟨none,0,rfl⟩
 ·exact⟨_,_,rfl⟩
def wO(s:List UInt8)(xs:List ByteArray):Prop:=xs.length<=6∧∃pre rest,words s=pre ++ rest∧dI (xs.map (·.data.toList)) pre∧(rest= []∨5<xs.length)
theorem wP(s:ByteArray)(w:World)(hs:s.size<=5000)(hL:aU w):Calls prog 205 #[.string s] w fun e w'=>∃v xs,e=.returned v∧aw w.heap.size w' v xs∧Below w.heap.size w w'∧wO s.data.toList xs:=by
 have L:Hid (aU w):=hL;have M:s.data.toList.length=s.size:=Fg
 obtain⟨m0,HS,hm0⟩:∃m0:Bool,Hid (words s.data.toList=left m0 s.data.toList)∧s.toList.isEmpty=!m0:=by
  by_cases h0:s.data.toList= []
  ·exact⟨false,by show _=_; rw[h0]; rfl,by rw[ByteArray.toList_eq,h0]; rfl⟩
  ·exact⟨true,by show _=_; rw[gX h0]; rfl,by rw[ByteArray.toList_eq,List.isEmpty_eq_false_iff.2 h0]; rfl⟩
 go_enter func205,ntmps205
 go_wp2_with fail
 go_loopg [0,3,4] (s.size+1) (fun gk sv v mv wr=>∃(l:List UInt8) (more:Bool) (xs:List ByteArray) (pre:List Word),sv=.string ⟨l.toArray⟩∧mv=.bool more∧Hid (if more then l.length<gk else True)∧l.length<=5000∧Hid (words s.data.toList=pre ++ left more l)∧Hid (dI (xs.map (·.data.toList)) pre)∧xs.length<=6∧Hid (aw w.heap.size wr v xs)∧Hid (Below w.heap.size w wr))
 case atStart=>
  refine⟨s.data.toList,m0,[],[],rfl,by simp,?_,by omega,by simpa[Hid] using HS.out,by simpa[Hid] using j0,by simp,by show _; exact .inl ⟨rfl,rfl⟩,E9 _ _⟩
  show if m0 then _ else _
  cases m0
  ·exact trivial
  ·show s.data.toList.length<s.size+1
   omega
 case round=>
  obtain⟨l,more,xs,pre,rfl,rfl,HG,hl,HW,HSO,hx6,HV,HB⟩:=hrel;obtain⟨base,c,rfl⟩:=HV.out.slice
  cases more with
  |false=>
   have C:Hid (wO s.data.toList xs):=⟨hx6,pre,[],by rw[HW.out]; rfl,HSO.out,.inl rfl⟩
   go_wp2_with fail
   go_ret;exact⟨_,xs,rfl,HV.out,HB.out,C.o⟩
  |true=>
   by_cases h5:xs.length<=5
   ·have p:Hid (l.length<gk):=HG.out
    obtain⟨m,hm⟩:=L.o.below HB.out;have j:=strings_Cut ⟨l.toArray⟩ ⟨#[43]⟩ m wr (by rw[dC]; omega) hm
    rw[mg,show (⟨#[43]⟩:ByteArray).data.toList= [43] from rfl] at j
    have D:=nR l;have n:=qG l;generalize (Lib.cut l [43]).1=a at *;generalize (Lib.cut l [43]).2.1=b at *;generalize (Lib.cut l [43]).2.2=f at *;have q:Hid (words s.data.toList=(pre ++ [a]) ++ left f b):=by show _=_; rw[HW.out,D]; simp
    have E:Hid _:=n.2.2;have N:a.length<=5000:=by have:=n.1; omega
    have r:b.length<=5000:=by have:=n.2.1; omega
    have t:Hid (if f then b.length<gk - 1 else True):=by
     show if f then _ else _
     cases f with
     |false=>exact trivial
     |true=>have:=p.o; have:=E.o rfl; show b.length<gk - 1; omega
    have z:Hid (gk - 1<gk):=by show _<_; have:=p.o; omega
    go_wp2_with fail
    refine j.mono ?_;rintro e w1 ⟨rfl,d1,rfl⟩;have F:Hid (aw w.heap.size (wr.drewN d1) (.slice base xs.length c) xs):=HV.out.below (below_drewN' (E9 _ _) _) (Fa _);go_wp2_with fail
    refine (wN F.o (by omega) HSO.out.1 ⟨a.toArray⟩).mono ?_
    rintro e w2 ⟨⟨k,found,rfl,hk,hf1,hf2⟩,d2,rfl⟩;have A:Hid (aw w.heap.size (wr.drewN (d1+d2)) (.slice base xs.length c) xs):=HV.out.below (below_drewN' (E9 _ _) _) (Fa _);have o:Hid _:=below_drewN' HB.out (d1+d2)
    cases found with
    |true=>
     have g:Hid _:=kC HSO.out (fQ.2 (hf1 rfl));go_wp2_with fail
     go_roundg (gk - 1)
     case measure=>exact z.o
     case rel=>exact⟨b,f,xs,pre ++ [a],rfl,rfl,t,r,q,g,hx6,A,o⟩
    |false=>
     have g:Hid (dI ((xs.take k ++ (⟨a.toArray⟩:ByteArray)::xs.drop k).map (·.data.toList)) (pre ++ [a])):=by
      obtain⟨g1,g2,g3⟩:=hf2 rfl
      have:=nS (x:=a) (k:=k) HSO.out (fun h=>g1 (fQ.1 h)) g2 g3;simpa[Hid] using this
     go_wp2_with fail
     refine (qW ⟨a.toArray⟩ _ (by rw[dC]; omega)).mono ?_
     rintro e w3 ⟨rfl,hb3⟩;have G:Hid _:=A.o.below hb3 (Fa _);have B:Hid _:=o.o.trans (hb3.mono o.o.size);go_wp2_with fail
     refine (wI G.o k hk (by omega) B.o.size ⟨a.toArray⟩ 9).mono ?_
     rintro e w4 ⟨v',rfl,hv4,hb4⟩;have H:Hid _:=hv4;have I:Hid _:=B.o.trans hb4;have J:(xs.take k ++ (⟨a.toArray⟩:ByteArray)::xs.drop k).length<=6:=by rw[pp xs k hk]; omega
     generalize (xs.take k ++ (⟨a.toArray⟩:ByteArray)::xs.drop k)=ys at *;go_wp2_with fail
     go_roundg (gk - 1)
     case measure=>exact z.o
     case rel=>exact⟨b,f,ys,pre ++ [a],rfl,rfl,t,r,q,g,J,H,I⟩
   ·have C:Hid (wO s.data.toList xs):=⟨hx6,pre,_,HW.out,HSO.out,.inr (by omega)⟩
    have O:¬ (xs.length:Int)<=5:=by omega
    go_wp2_with fail
    go_ret;first | exact⟨_,rfl,xs,HV.out,HB.out,C.o⟩ | exact⟨_,xs,rfl,HV.out,HB.out,C.o⟩
def aB:Nat->Value
 |0=>.nilIface
 |n=>.iface 47 (.int .i64 n)
theorem qX(xs:List ByteArray):(xs.any fun x=>decide (8<x.size))=decide (∃w∈xs.map (·.data.toList),8<w.length):=by
 rw[Bool.eq_iff_iff,List.any_eq_true,decide_eq_true_iff];constructor
 ·rintro ⟨x,hx,h⟩
  exact⟨_,List.mem_map.2 ⟨x,hx,rfl⟩,by simpa using h⟩
 ·rintro ⟨w,hw,h⟩
  obtain⟨x,hx,rfl⟩:=List.mem_map.1 hw;exact⟨x,hx,by simpa using h⟩
variable {s:List UInt8}
theorem wQ(hf:bd s=true)(h:wO s xs)(h5:5<xs.length):Out s [] 4:=by
 obtain⟨_,pre,rest,e,hs,_⟩:=h;obtain⟨m,h1,h2⟩:=ft rest hs;exact .inr (.inr ⟨rfl,rfl,hf,m,by rwa [e],.inl (by simp at h2; omega)⟩)
theorem zg(h:wO s xs)(h5:¬ 5<xs.length):dI (xs.map (·.data.toList)) (words s):=by
 obtain⟨_,pre,rest,e,hs,hr⟩:=h;rcases hr with rfl | hr
 ·rw[e,List.append_nil]; exact hs
 ·exact absurd hr h5
theorem wR(hf:bd s=true)(h:dI (xs.map (·.data.toList)) (words s))(hl:(xs.any fun x=>decide (8<x.size))=true):Out s [] 4:=by
 rw[qX,decide_eq_true_iff] at hl;obtain⟨w,hw,h8⟩:=hl;exact .inr (.inr ⟨rfl,rfl,hf,_,h,.inr ⟨w,(h.2 w).1 hw,h8⟩⟩)
theorem wS(hf:bd s=true)(h:dI (xs.map (·.data.toList)) (words s))(h5:¬ 5<xs.length)(hl:(xs.any fun x=>decide (8<x.size))=false):Out s (xs.map (·.data.toList)) 0:=by
 rw[qX,decide_eq_false_iff_not] at hl
 exact .inl ⟨rfl,hf,h,by simp; omega,fun w hw=>by
  rcases FF 8 w.length with h8 | h8
  ·exact absurd ⟨w,(h.2 w).2 hw,h8⟩ hl
  ·exact h8⟩
theorem nl(h:aw B w v xs)(hn:xs.length<=5000):
 Calls prog 207 #[v,.func (.func 206) #[] #[]] w fun e w'=>e=.returned (.bool (xs.any fun x=>decide (8<x.size)))∧∃q,w'=w.drewN q:=by
 rcases h with ⟨rfl,rfl⟩ | ⟨g,c,rfl,hr⟩
 ·refine (slices_ContainsFunc_empty_f207 (α:=ByteArray) none 0 _ w).mono ?_
  rintro e w' ⟨rfl,rfl⟩;exact⟨rfl,0,rfl⟩
 ·refine (slices_ContainsFunc_f207 Value.string (fun x=>decide (8<x.size)) 206 #[] (enters_of func206 (by kernel_rfl) rfl) g 0 xs.length c xs w (fun W x _=>tN x W) (Fa _) (by omega) (fun j hj=>?_)).mono ?_
  ·rw[Nat.zero_add]
   refine hr.holds j _ ?_;rw[List.getElem?_map,List.getElem?_eq_getElem hj,getElem!_pos xs j hj];rfl
  ·rintro e w' ⟨rfl,q,rfl⟩
   exact⟨by rw[List.take_of_length_le (Nat.le_refl _)],q,rfl⟩
theorem mp(s:ByteArray)(w:World)(hs:s.size<=5000)(hL:aU w):Calls prog 129 #[.string s] w fun e w'=>∃v xs n,e=.returned (.tuple #[v,aB n])∧Out s.data.toList (xs.map (·.data.toList)) n∧aw w.heap.size w' v xs∧Below w.heap.size w w':=by
 have r:J (aU w):=hL;go_enter func129,ntmps129
 go_wp2_with fail
 refine (tM s _ hs r.o).mono ?_;rintro e w1 ⟨rfl,n1,rfl⟩
 cases hf:bd s.data.toList with
 |false=>
  have b:J (Out s.data.toList (([]:List ByteArray).map (·.data.toList)) 3):=.inr (.inl ⟨rfl,rfl,hf⟩);go_wp2_with fail
  exact bodyPost_ret (v:=.tuple #[.slice none 0 0,.iface 47 (.i_ 3)]) (by simp[results,results129,go_sem]) rfl ⟨_,[],3,rfl,b.o,.inl ⟨rfl,rfl⟩,below_drewN' (Below.refl _ _) _⟩
 |true=>
  have m:J (bd s.data.toList=true):=hf;have f:J (Below w.heap.size w (w.drewN n1)):=below_drewN' (E9 _ _) _;go_wp2_with fail
  refine (wP s _ hs (r.o.below f.o)).mono ?_;rintro e w2 ⟨v,xs,rfl,hv,hb,hseen⟩;have o:J (aw w.heap.size w2 v xs):=hv;have g:J (Below w.heap.size w w2):=f.o.trans hb;have t:J (wO s.data.toList xs):=hseen;have z:xs.length<=6:=hseen.1;obtain⟨base,c,rfl⟩:=o.o.slice;by_cases h5:5<xs.length
  ·have b:J (Out s.data.toList (([]:List ByteArray).map (·.data.toList)) 4):=wQ m.o t.o h5
   go_wp2_with fail
   exact bodyPost_ret (v:=.tuple #[.slice none 0 0,.iface 47 (.i_ 4)]) (by simp[results,results129,go_sem]) rfl ⟨_,[],4,rfl,b.o,.inl ⟨rfl,rfl⟩,g.o⟩
  ·have j:J (dI (xs.map (·.data.toList)) (words s.data.toList)):=zg t.o h5
   have A:J (¬ 5<xs.length):=h5;have B:(xs.length:Int)<=5:=by omega
   go_wp2_with fail
   refine (nl o.o (by omega)).mono ?_
   rintro e w3 ⟨rfl,q,rfl⟩;have k:J (Below w.heap.size w (w2.drewN q)):=below_drewN' g.o q;have p:J (aw w.heap.size (w2.drewN q) (.slice base xs.length c) xs):=o.o.below (below_drewN' (E9 _ _) _) (Fa _)
   cases hl:(xs.any fun x=>decide (8<x.size)) with
   |true=>
    have b:J (Out s.data.toList (([]:List ByteArray).map (·.data.toList)) 4):=wR m.o j.o hl;go_wp2_with fail
    exact bodyPost_ret (v:=.tuple #[.slice none 0 0,.iface 47 (.i_ 4)]) (by simp[results,results129,go_sem]) rfl ⟨_,[],4,rfl,b.o,.inl ⟨rfl,rfl⟩,k.o⟩
   |false=>
    have b:J (Out s.data.toList (xs.map (·.data.toList)) 0):=wS m.o j.o A.o hl;go_wp2_with fail
    exact bodyPost_ret (v:=.tuple #[.slice base xs.length c,.nilIface]) (by simp[results,results129,go_sem]) rfl ⟨_,xs,0,rfl,b.o,p.o,k.o⟩
theorem vB(h:aw B w v xs)(hn:(ae (xs.map (·.data.toList))).length<=5000)(hx:xs.length<=5000):
 Calls prog 114 #[v,.string ⟨#[43]⟩] w fun e w'=>e=.returned (.string ⟨(ae (xs.map (·.data.toList))).toArray⟩)∧Below w.heap.size w w':=by
 rcases h with ⟨rfl,rfl⟩ | ⟨g,c,rfl,hr⟩
 ·refine (strings_Join_none none 0 ⟨#[43]⟩ w).mono ?_
  rintro e w' ⟨rfl,rfl⟩;exact⟨rfl,E9 _ _⟩
 ·refine strings_Join g 0 c xs ⟨#[43]⟩ w (fun j x hj=>?_) hr.lt (by omega) hr.le (by show (ae _).length<=_; omega)
  rw[Nat.zero_add];refine hr.holds j _ ?_;rw[List.getElem?_map,hj];rfl
theorem qY{ys:List ByteArray}(h:aw B w v ys)(hn:ys.length<=5000)(x:ByteArray):
 Calls prog 210 #[v,.string x] w fun e w'=>e=.returned (.bool (decide (x.data.toList∈ys.map (·.data.toList))))∧w'=w:=by
 rcases h with ⟨rfl,rfl⟩ | ⟨g,c,rfl,hr⟩
 ·refine (slices_Contains_string_empty none 0 x w).mono ?_
  rintro e w' ⟨rfl,rfl⟩;exact⟨rfl,rfl⟩
 ·refine (slices_Contains_string g 0 ys.length c ys x w (Fa _) (by omega) (fun j hj=>?_)).mono ?_
  ·rw[Nat.zero_add]
   refine hr.holds j _ ?_;rw[List.getElem?_map,List.getElem?_eq_getElem hj,List.getD_eq_getElem?_getD,List.getElem?_eq_getElem hj];rfl
  ·rintro e w' ⟨rfl,rfl⟩
   refine⟨?_,rfl⟩;congr 2
   rw[List.take_of_length_le (Nat.le_refl _),Bool.eq_iff_iff,Lib.containsS_iff,decide_eq_true_iff,fQ]
theorem aV(n:Nat):aB (n+1)=.iface 47 (.int .i64 ((n+1:Nat):Int)):=rfl
theorem j9(s:ByteArray)(w:World)(hs:s.size<=5000)(hL:aU w):Calls prog 71 #[.string s] w fun e w'=>∃l n,e=.returned (.tuple #[.string ⟨(ae l).toArray⟩,aB n])∧Out s.data.toList l n∧Below w.heap.size w w':=by
 have j:Hid (aU w):=hL;clear hL;go_enter func71,ntmps71
 go_wp2_with fail
 refine (mp s _ hs j.o).mono ?_;rintro e w1 ⟨v,xs,n,rfl,ho,hv,hb⟩;have c:Hid (Out s.data.toList (xs.map (·.data.toList)) n):=ho;have k:Hid (aw w.heap.size w1 v xs):=hv;have f:Hid (Below w.heap.size w w1):=hb;have b:=fu ho;have m:xs.length<=5:=by simpa using b.1
 have o:(ae (xs.map (·.data.toList))).length<=5000:=by omega
 clear ho hv hb b
 cases n with
 |succ n=>
  have p:Hid (Out s.data.toList [] (n+1)):=by have:=yA c.o; rw[<- this]; exact c.o
  rw[aV];go_wp2_with fail
  exact bodyPost_ret (v:=.tuple #[.e_,aB (n+1)]) (by simp[results,results71,go_sem,aB]) rfl ⟨[],n+1,rfl,p.o,f.o⟩
 |zero=>
  rw[show aB 0=.nilIface from rfl]
  go_wp2_with fail
  refine (vB k.o o (by omega)).mono ?_
  rintro e w2 ⟨rfl,hb2⟩;have g:Hid (Below w.heap.size w w2):=f.o.trans (hb2.mono f.o.size);clear hb2;generalize hjj:ae (xs.map (·.data.toList))=J at *;have q:Hid (ae (xs.map (·.data.toList))=J):=hjj;clear hjj;go_wp2_with fail
  exact bodyPost_ret (v:=.tuple #[.string ⟨J.toArray⟩,.nilIface]) (by simp[results,results71,go_sem]) rfl ⟨xs.map (·.data.toList),0,by rw[q.o]; rfl,c.o,g.o⟩
theorem zh(xs:List ByteArray)(m:List Word)(k:Nat)(hk:k<xs.length):inB ((xs.map (·.data.toList)).take (k+1)) m=(inB ((xs.map (·.data.toList)).take k) m && decide (xs[k].data.toList∈m)):=by
 unfold inB;rw[List.take_succ_eq_append_getElem (by simpa using hk),List.all_append]
 simp
theorem Bp(xs:List ByteArray)(m:List Word)(k:Nat)(hk:k<xs.length)(h:decide (xs[k].data.toList∈m)=false):inB (xs.map (·.data.toList)) m=false:=by
 cases hb:inB (xs.map (·.data.toList)) m with
 |false=>rfl
 |true=>
  have:=vo.1 hb xs[k].data.toList (fQ.2 (Fw hk));rw[decide_eq_false_iff_not] at h;exact absurd this h
theorem tR(s t:ByteArray)(w:World)(hs:s.size<=5000)(ht:t.size<=5000)(hL:aU w):Calls prog 132 #[.string s,.string t] w fun e w'=>∃r n,e=.returned (.tuple #[.bool r,aB n])∧fp s.data.toList t.data.toList r n∧Below w.heap.size w w':=by
 have F:Hid (aU w):=hL;clear hL;go_enter func132,ntmps132
 go_wp2_with fail
 have m:∀(W:World),Below w.heap.size w W->Calls prog 129 #[.string t] W fun e w'=>∃v xs n,e=.returned (.tuple #[v,aB n])∧Out t.data.toList (xs.map (·.data.toList)) n∧aw w.heap.size w' v xs∧Below W.heap.size W w':=fun W hb=>(mp t W ht (F.o.below hb)).mono (by
  rintro e w' ⟨v,xs,n,h1,h2,h3,h4⟩;exact⟨v,xs,n,h1,h2,h3.mono hb.size,h4⟩)
 obtain⟨l2,k2,HO2⟩:∃l k,Hid (Out t.data.toList l k):=by
  obtain⟨l,k,h⟩:=gY t.data.toList;exact⟨l,k,h⟩
 refine (mp s _ hs F.o).mono ?_;rintro e w1 ⟨v,xs,n,rfl,ho,hv,hb⟩;have A:Hid (Out s.data.toList (xs.map (·.data.toList)) n):=ho;have J:Hid (aw w.heap.size w1 v xs):=hv;have B:Hid (Below w.heap.size w w1):=hb;have L:xs.length<=5:=by simpa using (fu ho).1
 clear ho hv hb
 cases n with
 |succ n=>
  have f:Hid (fp s.data.toList t.data.toList false (n+1)):=⟨_,_,_,_,A.o,HO2.out,.inl ⟨by omega,rfl,rfl⟩⟩
  rw[aV];clear m;go_wp2_with fail
  exact bodyPost_ret (v:=.tuple #[.bool false,aB (n+1)]) (by simp[results,results132,go_sem,aB]) rfl ⟨false,n+1,rfl,f.o,B.o⟩
 |zero=>
  rw[show aB 0=.nilIface from rfl]
  have G:=m w1 B.o;clear m;go_wp2_with fail
  refine G.mono ?_;rintro e w2 ⟨v2,ys,k,rfl,ho2,hv2,hb2⟩;have o:Hid (Out t.data.toList (ys.map (·.data.toList)) k):=ho2;have C:Hid (aw w.heap.size w2 v2 ys):=hv2;have b:Hid (Below w.heap.size w w2):=B.o.trans (hb2.mono B.o.size);have p:Hid (aw w.heap.size w2 v xs):=J.o.below hb2 (Fa _);have M:ys.length<=5:=by simpa using (fu ho2).1
  clear ho2 hv2 hb2 G HO2
  cases k with
  |succ k=>
   have f:Hid (fp s.data.toList t.data.toList false (k+1)):=⟨_,_,_,_,A.o,o.o,.inr (.inl ⟨rfl,by omega,rfl,rfl⟩)⟩
   rw[aV];go_wp2_with fail
   exact bodyPost_ret (v:=.tuple #[.bool false,aB (k+1)]) (by simp[results,results132,go_sem,aB]) rfl ⟨false,k+1,rfl,f.o,b.o⟩
  |zero=>
   rw[show aB 0=.nilIface from rfl]
   have q:Hid (∀r,r=inB (xs.map (·.data.toList)) (ys.map (·.data.toList))->fp s.data.toList t.data.toList r 0):=fun r hr=>⟨_,_,_,_,A.o,o.o,.inr (.inr ⟨rfl,rfl,rfl,hr⟩)⟩;clear A o;obtain⟨base,c,hvv⟩:=p.o.slice
   have z:Hid (0<xs.length->∃g,base=o_ g 0∧aN w.heap.size w2 g c xs.length (xs.map Value.string)):=by
    intro hpos;rcases p.o with ⟨_,rfl⟩ | ⟨g,c',e1,h2⟩
    ·simp at hpos
    ·rw[hvv] at e1
     injection e1 with e1 _ e2;subst e2;exact⟨g,e1,h2⟩
   subst hvv;go_wp2_with fail
   go_loopg [29] xs.length (fun gk iv wr=>∃j:Nat,j+gk=xs.length∧iv=.i_ j∧Hid (inB ((xs.map (·.data.toList)).take j) (ys.map (·.data.toList))=true)∧wr=w2)
   case atStart=>exact⟨0,by omega,rfl,rfl,rfl⟩
   case round=>
    obtain⟨j,hj,rfl,HIN,rfl⟩:=hrel;have H:Hid (j+gk=xs.length):=hj;have N:j<=xs.length:=by omega
    clear hj;by_cases hlt:j<xs.length
    ·obtain⟨g,rfl,hr⟩:=z.o (by omega)
     have D:wr.cell? (a_ g j)=some (.string xs[j]):=hr.holds j _ (by rw[List.getElem?_map,List.getElem?_eq_getElem hlt]; rfl)
     clear hr;have I:(j:Int)<(xs.length:Int):=by omega
     have O:Hid (inB ((xs.map (·.data.toList)).take (j+1)) (ys.map (·.data.toList))=(inB ((xs.map (·.data.toList)).take j) (ys.map (·.data.toList)) && decide (xs[j].data.toList∈ys.map (·.data.toList)))):=zh xs _ j hlt;have R:Hid (decide (xs[j].data.toList∈ys.map (·.data.toList))=false->inB (xs.map (·.data.toList)) (ys.map (·.data.toList))=false):=Bp xs _ j hlt;generalize hx:xs[j]=x at *;clear hx;go_wp2_with fail
     refine (qY C.o (by omega) x).mono ?_
     rintro e w3 ⟨rfl,rfl⟩
     cases hd:decide (x.data.toList∈ys.map (·.data.toList)) with
     |true=>
      have E:Hid (inB ((xs.map (·.data.toList)).take (j+1)) (ys.map (·.data.toList))=true):=by show _=_; rw[O.o,HIN.out,hd]; rfl
      clear hd;go_wp2_with fail
      go_roundg (gk - 1)
      case measure=>have:=H.o; omega
      case rel=>exact⟨j+1,by have:=H.o; omega,by go_num,E,rfl⟩
     |false=>
      have f:Hid (fp s.data.toList t.data.toList false 0):=q.o false (R.o hd).symm;clear hd;go_wp2_with fail
      exact bodyPost_ret (v:=.tuple #[.bool false,.nilIface]) (by simp[results,results132,go_sem]) rfl ⟨false,0,rfl,f.o,b.o⟩
    ·obtain rfl:j=xs.length:=by omega
     have f:Hid (fp s.data.toList t.data.toList true 0):=q.o true (by have:=HIN.out; rw[List.take_of_length_le (by simp)] at this; exact this.symm)
     go_wp2_with fail
     exact bodyPost_ret (v:=.tuple #[.bool true,.nilIface]) (by simp[results,results132,go_sem]) rfl (by first | exact⟨true,0,rfl,f.o,b.o⟩ | exact .inr ⟨0,rfl,f.o,b.o⟩)
end Go.Proofs.YtlailakofhenkabGreatDoor
