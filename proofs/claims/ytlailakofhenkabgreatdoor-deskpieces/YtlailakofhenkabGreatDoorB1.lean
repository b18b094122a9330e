import Derived.Lib.SplitLaws
import Derived.Lib.LastIndexByte
import Derived.Lib.Join
import Derived.Test.YtlailakofhenkabGreatDoorProg
import Derived.JoinedTies
import Derived.WalkSpells
import Derived.WalkLawsBesides
import Derived.Lib.ItoaNum
import Derived.Lib.AtoiAllCases
namespace Go.Proofs.YtlailakofhenkabGreatDoor.Tok
open Go.Lib
theorem nilOr {α:Type} (c:α) (l:List α):c∉l∨∃ a b,l=a ++ c::b∧c∉a:=by
 by_cases h:c∈l
 ·refine .inr ?_
  induction l with
  |nil=>cases h
  |cons x l ih=>
   by_cases hx:c=x
   ·exact ⟨[],l,by simp [hx],by simp⟩
   ·obtain ⟨a,b,rfl,ha⟩:=ih (by simpa [hx] using h)
    exact ⟨x::a,b,rfl,by simp [hx,ha]⟩
 ·exact .inl h
theorem lastOr {α:Type} (c:α) (l:List α):c∉l∨∃ a b,l=a ++ c::b∧c∉b:=by
 rcases nilOr c l.reverse with h | ⟨a,b,h,ha⟩
 ·exact .inl (by simpa using h)
 ·refine .inr ⟨b.reverse,a.reverse,?_,by simpa using ha⟩
  have:=congrArg List.reverse h;simpa using this
theorem part_first {α:Type} {c:α} {a b a' b':List α} (h:a ++ c::b=a' ++ c::b') (ha:c∉a) (ha':c∉a'):a=a'∧b=b':=by
 induction a generalizing a' with
 |nil=>
  cases a' with
  |nil=>simpa using h
  |cons x a'=>simp at h; simp [h.1] at ha'
 |cons x a ih=>
  cases a' with
  |nil=>simp at h; simp [h.1] at ha
  |cons y a'=>
   simp at h ha ha'
   obtain ⟨e1,e2⟩:=ih h.2 ha.2 ha'.2;exact ⟨by rw [h.1,e1],e2⟩
theorem part_last {α:Type} {c:α} {a b a' b':List α} (h:a ++ c::b=a' ++ c::b') (hb:c∉b) (hb':c∉b'):a=a'∧b=b':=by
 have h2:=congrArg List.reverse h;simp only [List.reverse_append,List.reverse_cons,List.append_assoc,List.singleton_append] at h2;obtain ⟨e1,e2⟩:=part_first h2 (by simpa using hb) (by simpa using hb')
 exact ⟨List.reverse_inj.1 e2,List.reverse_inj.1 e1⟩
theorem index_no {c:UInt8} {a:List UInt8} (h:c∉a):index a [c]=-1:=by
 induction a with
 |nil=>rfl
 |cons x a ih=>
  simp at h
  rw [index];have hp:([c]:List UInt8).isPrefixOf (x::a)=false:=by simp [List.isPrefixOf,h.1]
  simp [hp,ih h.2]
theorem index_at {c:UInt8} {a:List UInt8} (b:List UInt8) (h:c∉a):index (a ++ c::b) [c]=a.length:=by
 induction a with
 |nil=>simp [index,List.isPrefixOf]
 |cons x a ih=>
  simp at h
  rw [List.cons_append,index];have hp:([c]:List UInt8).isPrefixOf (x::(a ++ c::b))=false:=by simp [List.isPrefixOf,h.1]
  have hn:((a.length:Int) == -1)=false:=by rw [beq_eq_false_iff_ne]; omega
  simp [hp,ih h.2,hn]
theorem cut_no {c:UInt8} {a:List UInt8} (h:c∉a):cut a [c]=(a,[],false):=by
 unfold cut;rw [index_no h,if_neg (by decide)]
theorem cut_at {c:UInt8} {a:List UInt8} (b:List UInt8) (h:c∉a):cut (a ++ c::b) [c]=(a,b,true):=by
 unfold cut;rw [index_at b h,if_pos (by omega)]
 simp
theorem splitK_no {c:UInt8} {a:List UInt8} (h:c∉a) (k:Nat):splitK [c] 0 k a= [a]:=by
 cases k with
 |zero=>rfl
 |succ k=>rw [splitK,index_no h]; rfl
theorem splitK_at {c:UInt8} {a:List UInt8} (b:List UInt8) (h:c∉a) (k:Nat):splitK [c] 0 (k+1) (a ++ c::b)=a::splitK [c] 0 k b:=by
 rw [splitK,index_at b h,if_neg (by rw [beq_iff_eq]; omega)]
 simp
def parts (c:UInt8) (l:List UInt8):List (List UInt8):=splitK [c] 0 (l.count c) l
theorem parts_no {c:UInt8} {a:List UInt8} (h:c∉a):parts c a= [a]:=splitK_no h _
theorem parts_at {c:UInt8} {a:List UInt8} (b:List UInt8) (h:c∉a):parts c (a ++ c::b)=a::parts c b:=by
 unfold parts;rw [List.count_append,List.count_cons_self,List.count_eq_zero.2 h,Nat.zero_add,splitK_at b h]
theorem parts_split (c:UInt8) (s:ByteArray):(splitB ⟨#[c]⟩ 0 (countB s ⟨#[c]⟩) s).map (·.data.toList)=parts c s.data.toList:=by
 have h:=splitB_data ⟨#[c]⟩ 0 (countB s ⟨#[c]⟩) s;rw [show countB s ⟨#[c]⟩=s.data.toList.count c from count_one c s.data.toList] at h ⊢
 exact h
end Go.Proofs.YtlailakofhenkabGreatDoor.Tok
namespace Go.Proofs.YtlailakofhenkabGreatDoor.Sc
open Go.Lib Tok
abbrev Word:=List UInt8
theorem lt_irr (a:Word):¬ a<a:=List.lt_irrefl a
theorem lt_tr {a b c:Word} (h:a<b) (k:b<c):a<c:=List.lt_trans h k
theorem lt_tot (a b:Word):a<b∨a=b∨b<a:=by
 by_cases h:a<b
 ·exact .inl h
 ·by_cases k:b<a
  ·exact .inr (.inr k)
  ·exact .inr (.inl (List.le_antisymm (by rwa [← List.not_lt]) (by rwa [← List.not_lt])))
theorem rising_eq:∀ {l m:List Word},l.Pairwise (·<·)→m.Pairwise (·<·)→(∀ x,x∈l↔x∈m)→l=m
 |[],[],_,_,_=>rfl
 |[],b::m,_,_,h=>by have:=(h b).2 (by simp); simp at this
 |a::l,[],_,_,h=>by have:=(h a).1 (by simp); simp at this
 |a::l,b::m,hl,hm,h=>by
  rw [List.pairwise_cons] at hl hm
  have hab:a=b:=by
   have h1:=(h a).1 (by simp)
   have h2:=(h b).2 (by simp)
   simp only [List.mem_cons] at h1 h2;rcases h1 with h1 | h1
   ·exact h1
   ·rcases h2 with h2 | h2
    ·exact h2.symm
    ·exact absurd (lt_tr (hl.1 b h2) (hm.1 a h1)) (lt_irr a)
  subst hab;congr 1
  refine rising_eq hl.2 hm.2 (fun x=>?_);constructor
  ·intro hx
   have:=(h x).1 (by simp [hx])
   simp only [List.mem_cons] at this;rcases this with rfl | this
   ·exact absurd (hl.1 x hx) (lt_irr x)
   ·exact this
  ·intro hx
   have:=(h x).2 (by simp [hx])
   simp only [List.mem_cons] at this;rcases this with rfl | this
   ·exact absurd (hm.1 x hx) (lt_irr x)
   ·exact this
def lowB (c:UInt8):Bool:=decide (97≤c.toNat) && decide (c.toNat≤122)
theorem lowB_t {c:UInt8} (h1:97≤c.toNat) (h2:c.toNat≤122):lowB c=true:=by simp [lowB,h1,h2]
theorem lowB_f {c:UInt8} (h:¬ (97≤c.toNat∧c.toNat≤122)):lowB c=false:=by
 cases hb:lowB c with
 |false=>rfl
 |true=>simp [lowB] at hb; exact absurd hb h
theorem low_plus {c:UInt8} (h:lowB c=true):c≠43:=by
 rintro rfl;revert h
 decide
def wordB (w:Word):Bool:=(w != []) && w.all lowB
theorem wordB_iff {w:Word}:wordB w=true↔w≠ []∧∀ c∈w,lowB c=true:=by simp [wordB]
theorem word_plus {w:Word} (h:wordB w=true):(43:UInt8)∉w:=fun hm=>low_plus ((wordB_iff.1 h).2 _ hm) rfl
def words (s:List UInt8):List Word:=if s= [] then [] else parts 43 s
theorem words_ne {s:List UInt8} (h:s≠ []):words s=parts 43 s:=if_neg h
def formedB (s:List UInt8):Bool:=(words s).all wordB
def left (more:Bool) (s:List UInt8):List Word:=if more then parts 43 s else []
theorem left_step (s:List UInt8):left true s=(cut s [43]).1::left (cut s [43]).2.2 (cut s [43]).2.1:=by
 rcases nilOr 43 s with h | ⟨a,b,rfl,h⟩
 ·rw [cut_no h]
  show parts 43 s=s:: []
  rw [parts_no h]
 ·rw [cut_at b h]
  show parts 43 (a ++ 43::b)=a::parts 43 b
  rw [parts_at b h]
theorem left_len (s:List UInt8):(cut s [43]).1.length≤s.length∧(cut s [43]).2.1.length≤s.length∧((cut s [43]).2.2=true→(cut s [43]).2.1.length+1≤s.length):=by
 rcases nilOr 43 s with h | ⟨a,b,rfl,h⟩
 ·rw [cut_no h]; simp
 ·rw [cut_at b h]; simp; omega
def SetOf (l ws:List Word):Prop:=l.Pairwise (·<·)∧∀ x,x∈l↔x∈ws
theorem setOf_inj {l m ws:List Word} (h:SetOf l ws) (k:SetOf m ws):l=m:=
 rising_eq h.1 k.1 (fun x=>(h.2 x).trans (k.2 x).symm)
theorem setOf_nil:SetOf [] []:=⟨.nil,fun _=>Iff.rfl⟩
theorem place (x:Word):∀ (l:List Word),l.Pairwise (·<·)→∃ k,k≤l.length∧(∀ t,t<k→l.getD t x<x)∧(∀ t,k≤t→¬ l.getD t x<x)∧(∀ y∈l.take k,y<x)∧(∀ y∈l.drop k,¬ y<x)
 |[],_=>⟨0,Nat.le_refl _,fun t h=>absurd h (Nat.not_lt_zero _),fun t _=>by simp,by simp,by simp⟩
 |a::l,h=>by
  rw [List.pairwise_cons] at h;by_cases ha:a<x
  ·obtain ⟨k,h1,h2,h3,h4,h5⟩:=place x l h.2
   refine ⟨k+1,by simp; omega,fun t ht=>?_,fun t ht=>?_,fun y hy=>?_,fun y hy=>?_⟩
   ·cases t with
    |zero=>simpa using ha
    |succ t=>simpa using h2 t (by omega)
   ·cases t with
    |zero=>omega
    |succ t=>simpa using h3 t (by omega)
   ·rw [List.take_succ_cons,List.mem_cons] at hy
    rcases hy with rfl | hy
    ·exact ha
    ·exact h4 y hy
   ·exact h5 y (by simpa using hy)
  ·have hall:∀ y∈a::l,¬ y<x:=by
    intro y hy;rw [List.mem_cons] at hy;rcases hy with rfl | hy
    ·exact ha
    ·exact fun hyx=>ha (lt_tr (h.1 y hy) hyx)
   refine ⟨0,Nat.zero_le _,fun t ht=>absurd ht (Nat.not_lt_zero _),fun t _=>?_,by simp,by simpa using hall⟩
   by_cases htl:t<(a::l).length
   ·have e:(a::l).getD t x=(a::l)[t]:=by rw [List.getD_eq_getElem?_getD,List.getElem?_eq_getElem htl]; rfl
    rw [e];exact hall _ (List.getElem_mem _)
   ·have e:(a::l).getD t x=x:=by simp only [List.getD]; rw [List.getElem?_eq_none (by omega)]; rfl
    rw [e];exact lt_irr x
theorem setOf_there {l ws:List Word} {x:Word} (h:SetOf l ws) (hx:x∈l):SetOf l (ws ++ [x]):=by
 refine ⟨h.1,fun y=>?_⟩;rw [List.mem_append,List.mem_singleton,h.2 y];constructor
 ·exact .inl
 ·rintro (h' | rfl)
  ·exact h'
  ·exact (h.2 y).1 hx
theorem setOf_put {l ws:List Word} {x:Word} {k:Nat} (h:SetOf l ws) (hx:x∉l) (h1:∀ y∈l.take k,y<x) (h2:∀ y∈l.drop k,¬ y<x):SetOf (l.take k ++ x::l.drop k) (ws ++ [x]):=by
 constructor
 ·rw [List.pairwise_append,List.pairwise_cons]
  have hp:=h.1;rw [← List.take_append_drop k l,List.pairwise_append] at hp;refine ⟨hp.1,⟨fun y hy=>?_,hp.2.1⟩,fun y hy z hz=>?_⟩
  ·rcases lt_tot x y with hh | rfl | hh
   ·exact hh
   ·exact absurd (List.mem_of_mem_drop hy) hx
   ·exact absurd hh (h2 y hy)
  ·rw [List.mem_cons] at hz
   rcases hz with rfl | hz
   ·exact h1 y hy
   ·exact hp.2.2 y hy z hz
 ·intro y
  rw [List.mem_append,List.mem_cons,List.mem_append,List.mem_singleton,← h.2 y]
  have hm:y∈l↔y∈l.take k∨y∈l.drop k:=by
   rw [← List.mem_append,List.take_append_drop]
  rw [hm];constructor
  ·rintro (h | h | h)
   ·exact .inl (.inl h)
   ·exact .inr h
   ·exact .inl (.inr h)
  ·rintro ((h | h) | h)
   ·exact .inl h
   ·exact .inr (.inr h)
   ·exact .inr (.inl h)
theorem setOf_grows:∀ (rest:List Word) {l ws:List Word},SetOf l ws→∃ m,SetOf m (ws ++ rest)∧l.length≤m.length
 |[],l,ws,h=>⟨l,by rwa [List.append_nil],Nat.le_refl _⟩
 |x::rest,l,ws,h=>by
  by_cases hx:x∈l
  ·obtain ⟨m,h1,h2⟩:=setOf_grows rest (setOf_there h hx)
   exact ⟨m,by simpa using h1,h2⟩
  ·obtain ⟨k,hk,_,_,h4,h5⟩:=place x l h.1
   obtain ⟨m,h1,h2⟩:=setOf_grows rest (setOf_put h hx h4 h5);refine ⟨m,by simpa using h1,Nat.le_trans ?_ h2⟩
   simp
   omega
def Out (s:List UInt8) (l:List Word) (n:Nat):Prop:=
 (n=0∧formedB s=true∧SetOf l (words s)∧l.length≤5∧∀ w∈words s,w.length≤8)∨(n=3∧l= []∧formedB s=false)∨
 (n=4∧l= []∧formedB s=true∧∃ m,SetOf m (words s)∧(5<m.length∨∃ w∈words s,8<w.length))
theorem out_inj {s:List UInt8} {l m:List Word} {n k:Nat} (h:Out s l n) (h':Out s m k):l=m∧n=k:=by
 rcases h with ⟨rfl,hf,hs,h5,h8⟩ | ⟨rfl,rfl,hn⟩ | ⟨rfl,rfl,hf,m1,hs,hb⟩
 ·rcases h' with ⟨rfl,hf',hs',_,_⟩ | ⟨rfl,rfl,hn⟩ | ⟨rfl,rfl,hf',m2,hs',hb⟩
  ·exact ⟨setOf_inj hs hs',rfl⟩
  ·rw [hf] at hn; cases hn
  ·obtain rfl:=setOf_inj hs hs'
   rcases hb with hb | ⟨w,hw,hb⟩
   ·omega
   ·have:=h8 w hw; omega
 ·rcases h' with ⟨rfl,hf',hs',_,_⟩ | ⟨rfl,rfl,hn'⟩ | ⟨rfl,rfl,hf',m2,hs',hb⟩
  ·rw [hf'] at hn; cases hn
  ·exact ⟨rfl,rfl⟩
  ·rw [hf'] at hn; cases hn
 ·rcases h' with ⟨rfl,hf',hs',h5,h8⟩ | ⟨rfl,rfl,hn'⟩ | ⟨rfl,rfl,hf',m2,hs',hb'⟩
  ·obtain rfl:=setOf_inj hs hs'
   rcases hb with hb | ⟨w,hw,hb⟩
   ·omega
   ·have:=h8 w hw; omega
  ·rw [hf] at hn'; cases hn'
  ·exact ⟨rfl,rfl⟩
def joined (l:List Word):List UInt8:=join l [43]
theorem joined_nil:joined []= []:=rfl
theorem joined_one (x:Word):joined [x]=x:=join_one x [43]
theorem joined_two (x y:Word) (l:List Word):joined (x::y::l)=x ++ 43::joined (y::l):=by
 simp [joined,join,List.intercalate,List.intersperse]
theorem joined_len:∀ (l:List Word),(∀ x∈l,x.length≤8)→(joined l).length≤9*l.length
 |[],_=>by simp [joined_nil]
 |[x],h=>by rw [joined_one]; have:=h x (by simp); simp; omega
 |x::y::l,h=>by
  rw [joined_two];have h1:=h x (by simp)
  have h2:=joined_len (y::l) (fun z hz=>h z (by simp [hz]))
  simp at h2 ⊢
  omega
theorem parts_joined:∀ (x:Word) (l:List Word),(∀ y∈x::l,wordB y=true)→parts 43 (joined (x::l))=x::l
 |x,[],h=>by rw [joined_one,parts_no (word_plus (h x (by simp)))]
 |x,y::l,h=>by
  rw [joined_two,parts_at _ (word_plus (h x (by simp))),parts_joined y l (fun z hz=>h z (by simp [hz]))]
theorem joined_ne {x:Word} {l:List Word} (h:∀ y∈x::l,wordB y=true):joined (x::l)≠ []:=by
 have hx:=(wordB_iff.1 (h x (by simp))).1
 cases l with
 |nil=>rwa [joined_one]
 |cons y l=>rw [joined_two]; simp
theorem words_joined (l:List Word) (h:∀ y∈l,wordB y=true):words (joined l)=l:=by
 cases l with
 |nil=>rfl
 |cons x l=>rw [words_ne (joined_ne h),parts_joined x l h]
theorem out_words {s:List UInt8} {l:List Word} (h:Out s l 0):(∀ y∈l,wordB y=true)∧(∀ y∈l,y.length≤8)∧l.length≤5∧l.Pairwise (·<·):=by
 rcases h with ⟨_,hf,hs,h5,h8⟩ | ⟨h,_⟩ | ⟨h,_⟩
 ·refine ⟨fun y hy=>?_,fun y hy=>h8 y ((hs.2 y).1 hy),h5,hs.1⟩
  exact List.all_eq_true.1 hf y ((hs.2 y).1 hy)
 ·cases h
 ·cases h
theorem out_joined {s:List UInt8} {l:List Word} (h:Out s l 0):Out (joined l) l 0:=by
 obtain ⟨h1,h2,h3,h4⟩:=out_words h;have hw:=words_joined l h1;refine .inl ⟨rfl,?_,?_,h3,?_⟩
 ·unfold formedB; rw [hw]; exact List.all_eq_true.2 h1
 ·rw [hw]; exact ⟨h4,fun _=>Iff.rfl⟩
 ·rw [hw]; exact h2
theorem out_no {s:List UInt8} {l:List Word} {n:Nat} (h:Out s l (n+1)):l= []:=by
 rcases h with ⟨h,_⟩ | ⟨_,h,_⟩ | ⟨_,h,_⟩
 ·cases h
 ·exact h
 ·exact h
theorem out_len {s:List UInt8} {l:List Word} {n:Nat} (h:Out s l n):l.length≤5∧(joined l).length≤45:=by
 cases n with
 |zero=>
  obtain ⟨_,h2,h3,_⟩:=out_words h
  have:=joined_len l h2;exact ⟨h3,by omega⟩
 |succ n=>rw [out_no h]; simp [joined_nil]
theorem out_ex (s:List UInt8):∃ l n,Out s l n:=by
 cases hf:formedB s with
 |false=>exact ⟨[],3,.inr (.inl ⟨rfl,rfl,hf⟩)⟩
 |true=>
  obtain ⟨m,h1,_⟩:=setOf_grows (words s) setOf_nil;rw [List.nil_append] at h1;by_cases h5:m.length≤5
  ·by_cases h8:∃ w∈words s,8<w.length
   ·exact ⟨[],4,.inr (.inr ⟨rfl,rfl,hf,m,h1,.inr h8⟩)⟩
   ·refine ⟨m,0,.inl ⟨rfl,hf,h1,h5,fun w hw=>?_⟩⟩
    rcases Nat.lt_or_ge 8 w.length with h | h
    ·exact absurd ⟨w,hw,h⟩ h8
    ·exact h
  ·exact ⟨[],4,.inr (.inr ⟨rfl,rfl,hf,m,h1,.inl (by omega)⟩)⟩
def inB (l m:List Word):Bool:=l.all fun x=>decide (x∈m)
theorem inB_iff {l m:List Word}:inB l m=true↔∀ x∈l,x∈m:=by simp [inB]
def WOut (a b:List UInt8) (r:Bool) (n:Nat):Prop:=
 ∃ l i m k,Out a l i∧Out b m k∧((i≠0∧n=i∧r=false)∨(i=0∧k≠0∧n=k∧r=false)∨(i=0∧k=0∧n=0∧r=inB l m))
theorem wout_inj {a b:List UInt8} {r r':Bool} {n n':Nat} (h:WOut a b r n) (h':WOut a b r' n'):r=r'∧n=n':=by
 obtain ⟨l,i,m,k,h1,h2,h3⟩:=h;obtain ⟨l',i',m',k',h1',h2',h3'⟩:=h';obtain ⟨rfl,rfl⟩:=out_inj h1 h1';obtain ⟨rfl,rfl⟩:=out_inj h2 h2';rcases h3 with ⟨a1,rfl,rfl⟩ | ⟨a1,a2,rfl,rfl⟩ | ⟨a1,a2,rfl,rfl⟩ <;> rcases h3' with ⟨b1,rfl,rfl⟩ | ⟨b1,b2,rfl,rfl⟩ | ⟨b1,b2,rfl,rfl⟩ <;> first | exact ⟨rfl,rfl⟩ | (exfalso; omega)
end Go.Proofs.YtlailakofhenkabGreatDoor.Sc
namespace Go.Proofs.YtlailakofhenkabGreatDoor
open Go.RowKit
namespace Sip
def rl (x k:Int):Int:=bits .or .u64 (IntKind.u64.wrap (x*2 ^ k.toNat)) (x / 2 ^ (64 - k).toNat)
def ad (x y:Int):Int:=IntKind.u64.wrap (x+y)
def xr (x y:Int):Int:=bits .xor .u64 x y
structure St where
 a:Int
 b:Int
 c:Int
 d:Int
def rnd (s:St):St:=
 let a1:=ad s.a s.b
 let b1:=xr (rl s.b 13) a1
 let a2:=rl a1 32
 let c1:=ad s.c s.d
 let d1:=xr (rl s.d 16) c1
 let a3:=ad a2 d1
 let d2:=xr (rl d1 21) a3
 let c2:=ad c1 b1
 let b2:=xr (rl b1 17) c2
 let c3:=rl c2 32
 ⟨a3,b2,c3,d2⟩
def rnds:Nat→St→St
 |0,s=>s
 |n+1,s=>rnd (rnds n s)
theorem wrap_bd (x:Int):0≤IntKind.u64.wrap x∧IntKind.u64.wrap x<18446744073709551616:=by
 rw [IntKind.wrap_u64]; omega
theorem xr_bd (x y:Int):0≤xr x y∧xr x y<18446744073709551616:=wrap_bd _
theorem and63 (k:Int) (k0:0<k) (k1:k<64):bits .and .u64 k 63=k:=by
 obtain ⟨n,rfl⟩:=Int.eq_ofNat_of_zero_le (Int.le_of_lt k0);have h:n<64:=by omega
 revert h
 clear k0 k1;revert n
 decide
def le:List UInt8→Nat
 |[]=>0
 |b::r=>b.toNat+256*le r
theorem le_snoc (l:List UInt8) (b:UInt8):le (l ++ [b])=le l+b.toNat*256 ^ l.length:=by
 induction l with
 |nil=>simp [le]
 |cons c l ih=>simp only [List.cons_append,le,ih,List.length_cons,Nat.pow_succ]; rw [Nat.mul_add,Nat.mul_left_comm,Nat.mul_comm 256 (256 ^ l.length)]; omega
theorem le_lt (l:List UInt8):le l<256 ^ l.length:=by
 induction l with
 |nil=>simp [le]
 |cons c l ih=>
  simp only [le,List.length_cons,Nat.pow_succ]
  have:=c.toNat_lt;omega
def eatS (s:St) (x:Int):St:=
 let t:=rnds 2 ⟨s.a,s.b,s.c,xr s.d x⟩
 ⟨xr t.a x,t.b,t.c,t.d⟩
def start (k0 k1:Int):St:=⟨xr k0 8317987319222330741,xr k1 7237128888997146477,xr k0 7816392313619706465,xr k1 8387220255154660723⟩
def close (s:St):Int:=
 let t:=rnds 4 ⟨s.a,s.b,xr s.c 255,s.d⟩
 xr (xr (xr t.a t.b) t.c) t.d
theorem bits_or_nat (a b:Nat) (ha:a<18446744073709551616) (hb:b<18446744073709551616) :
 bits .or .u64 (a:Int) (b:Int)=((a ||| b:Nat):Int):=by
 have hx:a ||| b<2 ^ 64:=Nat.or_lt_two_pow (by omega) (by omega)
 have h1:(BitVec.ofInt 64 (a:Int)).toNat=a:=by
  rw [BitVec.ofInt_natCast,BitVec.toNat_ofNat]; exact Nat.mod_eq_of_lt (by omega)
 have h2:(BitVec.ofInt 64 (b:Int)).toNat=b:=by
  rw [BitVec.ofInt_natCast,BitVec.toNat_ofNat]; exact Nat.mod_eq_of_lt (by omega)
 show IntKind.u64.wrap ((BitVec.ofInt 64 (a:Int) ||| BitVec.ofInt 64 (b:Int)).toNat:Int)=_
 rw [BitVec.toNat_or,h1,h2,IntKind.wrap_u64];omega
theorem pow8 (k:Nat):(256:Nat) ^ k=2 ^ (8*k):=by rw [Nat.pow_mul]
theorem or_disjoint (a b k:Nat) (ha:a<256 ^ k):a ||| b*256 ^ k=a+b*256 ^ k:=by
 rw [pow8] at *;rw [Nat.or_comm,Nat.mul_comm b,← Nat.two_pow_add_eq_or_of_lt ha,Nat.add_comm]
theorem byte_up (b:UInt8) (k:Nat) (hk:k<8):b.toNat*256 ^ k<18446744073709551616:=by
 have h1:=b.toNat_lt;have h2:(256:Nat) ^ k≤256 ^ 7:=Nat.pow_le_pow_right (by decide) (by omega)
 calc b.toNat*256 ^ k≤255*256 ^ 7:=Nat.mul_le_mul (by omega) h2
  _<_:=by decide
theorem or_step (a:Nat) (b:UInt8) (k:Nat) (ha:a<256 ^ k) (hk:k<8) :
 bits .or .u64 (a:Int) (IntKind.u64.wrap (IntKind.u64.wrap (b.toNat:Int)*2 ^ (8*k)))=((a+b.toNat*256 ^ k:Nat):Int):=by
 have h1:=b.toNat_lt;have h2:=byte_up b k hk;have h3:(256:Nat) ^ k≤256 ^ 7:=Nat.pow_le_pow_right (by decide) (by omega)
 have e1:IntKind.u64.wrap (b.toNat:Int)=(b.toNat:Int):=by rw [IntKind.wrap_u64]; omega
 have e2:(b.toNat:Int)*2 ^ (8*k)=((b.toNat*256 ^ k:Nat):Int):=by rw [pow8]; simp
 have e3:IntKind.u64.wrap ((b.toNat*256 ^ k:Nat):Int)=((b.toNat*256 ^ k:Nat):Int):=by rw [IntKind.wrap_u64]; omega
 have h4:(256:Nat) ^ 7<18446744073709551616:=by decide
 rw [e1,e2,e3,bits_or_nat _ _ (by omega) h2,or_disjoint _ _ _ ha]
end Sip
end Go.Proofs.YtlailakofhenkabGreatDoor
namespace Go.Proofs.YtlailakofhenkabGreatDoor
namespace Hex
def hexc (d:Nat):UInt8:=if d<10 then UInt8.ofNat (48+d) else UInt8.ofNat (87+d)
def hexsN:Nat→Nat→List UInt8
 |0,_=> []
 |k+1,n=>hexsN k (n / 16) ++ [hexc (n % 16)]
theorem hexsN_length (k n:Nat):(hexsN k n).length=k:=by
 induction k generalizing n with
 |zero=>rfl
 |succ k ih=>simp [hexsN,ih]
theorem hexsN_get (k n i:Nat) (hi:i<k):(hexsN k n)[i]?=some (hexc (n / 16 ^ (k - 1 - i) % 16)):=by
 induction k generalizing n i with
 |zero=>omega
 |succ k ih=>
  rw [hexsN];by_cases h:i<k
  ·rw [List.getElem?_append_left (by rw [hexsN_length]; exact h),ih _ _ h,Nat.div_div_eq_div_mul]
   have:16*16 ^ (k - 1 - i)=16 ^ (k+1 - 1 - i):=by
    rw [show k+1 - 1 - i=(k - 1 - i)+1 by omega,Nat.pow_succ,Nat.mul_comm]
   rw [this]
  ·obtain rfl:i=k:=by omega
   rw [List.getElem?_append_right (by rw [hexsN_length]; omega),hexsN_length]
   simp
def rot (n k:Nat):Nat:=n % 16 ^ (16 - k)*16 ^ k+n / 16 ^ (16 - k)
theorem rot_zero (n:Nat) (hn:n<16 ^ 16):rot n 0=n:=by simp [rot,Nat.mod_eq_of_lt hn,Nat.div_eq_of_lt hn]
theorem rot_step (n k:Nat) (hn:n<16 ^ 16) (hk:k<16):rot n k % 16 ^ 15*16+rot n k / 16 ^ 15=rot n (k+1)∧rot n (k+1) % 16=n / 16 ^ (15 - k) % 16:=by
 obtain ⟨A,hA⟩:∃ A,A=16 ^ (15 - k):=⟨_,rfl⟩;obtain ⟨B,hB⟩:∃ B,B=16 ^ k:=⟨_,rfl⟩;have hAB:A*B=16 ^ 15:=by rw [hA,hB,← Nat.pow_add]; congr 1; omega
 have hA16:(16:Nat) ^ (16 - k)=A*16:=by rw [hA,← Nat.pow_succ]; congr 1; omega
 have hB16:(16:Nat) ^ (k+1)=B*16:=by rw [hB,Nat.pow_succ]
 have hA1:(16:Nat) ^ (16 - (k+1))=A:=by rw [hA]; congr 1; omega
 have hApos:0<A:=by rw [hA]; exact Nat.pow_pos (by decide)
 have hBpos:0<B:=by rw [hB]; exact Nat.pow_pos (by decide)
 unfold rot;rw [hA16,hB16,hA1,← hB,← hA];obtain ⟨q,hq⟩:∃ q,q=n / (A*16):=⟨_,rfl⟩;obtain ⟨r1,hr1⟩:∃ r1,r1=n / A % 16:=⟨_,rfl⟩;obtain ⟨r0,hr0⟩:∃ r0,r0=n % A:=⟨_,rfl⟩
 have hdA:n / A=q*16+r1:=by
  rw [hq,hr1,← Nat.div_div_eq_div_mul]; omega
 have hmod:n % (A*16)=r1*A+r0:=by
  rw [Nat.mod_mul,← hr0,← hr1,Nat.mul_comm]; omega
 have hqB:q<B:=by
  rw [hq];refine Nat.div_lt_of_lt_mul ?_
  have:A*16*B=16 ^ 16:=by rw [Nat.mul_right_comm,hAB]
  rw [this]; exact hn
 have hr0A:r0<A:=by rw [hr0]; exact Nat.mod_lt _ hApos
 have hr116:r1<16:=by omega
 have hlow:r0*B+q<16 ^ 15:=by
  rw [← hAB]
  have:(r0+1)*B≤A*B:=Nat.mul_le_mul_right _ hr0A;rw [Nat.add_mul] at this; omega
 have hW:n % (A*16)*B+n / (A*16)=r1*16 ^ 15+(r0*B+q):=by
  rw [hmod,← hq,Nat.add_mul,Nat.mul_assoc,hAB,Nat.add_assoc]
 have h15:0<(16:Nat) ^ 15:=by decide
 rw [hW,← hr0,hdA,Nat.mul_comm r1,Nat.mul_add_mod,Nat.mod_eq_of_lt hlow,Nat.mul_add_div h15,Nat.div_eq_of_lt hlow];have e1:r0*(B*16)=16*(r0*B):=by rw [Nat.mul_comm B 16,Nat.mul_left_comm]
 constructor
 ·rw [e1]; omega
 ·rw [e1]; omega
theorem rl4 (X:Nat) (h:X<16 ^ 16):Sip.rl (X:Int) 4=((X % 16 ^ 15*16+X / 16 ^ 15:Nat):Int):=by
 unfold Sip.rl
 have e1:IntKind.u64.wrap ((X:Int)*2 ^ (4:Int).toNat)=((X % 16 ^ 15*16:Nat):Int):=by
  rw [IntKind.wrap_u64]
  have:(2:Int) ^ (4:Int).toNat=16:=by decide
  rw [this]; omega
 have e2:(X:Int) / 2 ^ (64 - (4:Int)).toNat=((X / 16 ^ 15:Nat):Int):=by
  have:(2:Int) ^ (64 - (4:Int)).toNat=1152921504606846976:=by decide
  rw [this]; omega
 rw [e1,e2,Sip.bits_or_nat _ _ (by omega) (by omega)]
 have hd:X / 16 ^ 15<2 ^ 4:=by omega
 rw [Nat.mul_comm,← Nat.two_pow_add_eq_or_of_lt (i:=4) hd]
theorem rot_lt (n k:Nat) (hn:n<16 ^ 16) (hk:k≤16):rot n k<16 ^ 16:=by
 unfold rot;have hAB:16 ^ (16 - k)*16 ^ k=16 ^ 16:=by rw [← Nat.pow_add]; congr 1; omega
 have h1:n % 16 ^ (16 - k)+1≤16 ^ (16 - k):=Nat.mod_lt _ (Nat.pow_pos (by decide))
 have h2:=Nat.mul_le_mul_right (16 ^ k) h1;have h3:n / 16 ^ (16 - k)<16 ^ k:=Nat.div_lt_of_lt_mul (by rw [hAB]; exact hn)
 rw [hAB,Nat.add_mul] at h2;omega
theorem and15 (X:Nat):bits .and .u64 (X:Int) 15=((X % 16:Nat):Int):=by
 have h2:(BitVec.ofInt 64 (15:Int)).toNat=15:=by decide
 show IntKind.u64.wrap ((BitVec.ofInt 64 (X:Int) &&& BitVec.ofInt 64 15).toNat:Int)=_
 rw [BitVec.toNat_and,h2,IntKind.wrap_u64,show (15:Nat)=2 ^ 4 - 1 from rfl,Nat.and_two_pow_sub_one_eq_mod,BitVec.ofInt_natCast,BitVec.toNat_ofNat]
 omega
end Hex
end Go.Proofs.YtlailakofhenkabGreatDoor
namespace Go.Proofs.YtlailakofhenkabGreatDoor.Tok
open Go.Lib
theorem splitK_three (c:UInt8) (l:List UInt8):splitK [c] 0 (min 3 (l.length+1) - 1) l=splitK [c] 0 2 l:=by
 rcases nilOr c l with h | ⟨a,b,rfl,h⟩
 ·rw [splitK_no h,splitK_no h]
 ·by_cases hl:2≤(a ++ c::b).length
  ·rw [show min 3 ((a ++ c::b).length+1) - 1=2 by omega]
  ·simp at hl
   have ea:a= []:=List.length_eq_zero_iff.1 (by omega)
   have eb:b= []:=List.length_eq_zero_iff.1 (by omega)
   subst ea; subst eb;rw [show min 3 (([] ++ c:: []:List UInt8).length+1) - 1=0+1 by simp,splitK_at _ h,splitK_at _ h,splitK_no (by simp),splitK_no (by simp)]
theorem last_no {s:ByteArray} {c:UInt8} (h:c∉s.data.toList):lastIndexByte s (c.toNat:Int)=-1:=by
 rcases lastIndexByte_spec s (c.toNat:Int) with ⟨e,_⟩ | ⟨i,hi,_,hc,_⟩
 ·exact e
 ·have hi':i<s.data.size:=hi
  rw [getElem!_pos s.data i hi'] at hc
  have:s.data[i]=c:=UInt8.toNat_inj.1 (by omega)
  exact absurd (Array.mem_toList_iff.2 (this ▸ Array.getElem_mem hi')) h
theorem last_at {s:ByteArray} {c:UInt8} {a b:List UInt8} (e:s.data.toList=a ++ c::b) (h:c∉b):lastIndexByte s (c.toNat:Int)=a.length:=by
 have hsz:s.data.size=a.length+(b.length+1):=by rw [← Array.length_toList,e]; simp
 have hget:∀ j,j<s.size→s.data[j]! = (a ++ c::b).getD j 0:=by
  intro j hj;have hj':j<s.data.size:=hj;rw [getElem!_pos s.data j hj',← e,← Array.getElem_toList];rw [List.getD_eq_getElem?_getD,List.getElem?_eq_getElem (by simpa using hj')]; rfl
 have hs:s.size=s.data.size:=rfl;have hat:(a ++ c::b).getD a.length 0=c:=by simp
 have hbehind:∀ j,a.length<j→j<s.size→(a ++ c::b).getD j 0≠c:=by
  intro j h1 h2 he;obtain ⟨t,rfl⟩:∃ t,j=a.length+1+t:=⟨j - a.length - 1,by omega⟩
  rw [List.getD_eq_getElem?_getD,List.getElem?_append_right (by omega),show a.length+1+t - a.length=t+1 by omega,List.getElem?_cons_succ,List.getElem?_eq_getElem (by omega)] at he
  simp at he
  exact h (he ▸ List.getElem_mem _)
 rcases lastIndexByte_spec s (c.toNat:Int) with ⟨_,hn⟩ | ⟨i,hi,he,hc,hn⟩
 ·have:=hn a.length (by omega)
  rw [hget _ (by omega),hat] at this
  exact absurd rfl this
 ·rw [he]
  rw [hget _ hi] at hc;have hc2:(a ++ c::b).getD i 0=c:=UInt8.toNat_inj.1 (by omega)
  rcases Nat.lt_trichotomy i a.length with h1 | h1 | h1
  ·have:=hn a.length h1 (by omega)
   rw [hget _ (by omega),hat] at this
   exact absurd rfl this
  ·rw [h1]
  ·exact absurd hc2 (hbehind i h1 hi)
theorem digit_toNat {d:Nat} (h:d<10):(UInt8.ofNat (48+d)).toNat=48+d:=by
 rw [UInt8.toNat_ofNat']; omega
theorem dec_digits (u:Nat):∀ b∈decDigits u,48≤b.toNat∧b.toNat≤57:=by
 induction u using Nat.strongRecOn with
 |_ u ih=>
  rw [decDigits];split
  ·intro b hb
   simp only [List.mem_singleton] at hb;subst hb;rw [digit_toNat (by assumption)]; omega
  ·intro b hb
   simp only [List.mem_append,List.mem_singleton] at hb;rcases hb with hb | rfl
   ·exact ih (u / 10) (by omega) b hb
   ·rw [digit_toNat (by omega)]; omega
theorem parse_app (l r:List UInt8) (acc a:Nat) (h:parseUint10 acc l=.ok a):parseUint10 acc (l ++ r)=parseUint10 a r:=by
 induction l generalizing acc with
 |nil=>simp only [parseUint10] at h; injection h with h; subst h; rfl
 |cons c l ih=>
  simp only [parseUint10,List.cons_append] at h ⊢;split at h
  ·rename_i h1
   split at h
   ·cases h
   ·rename_i h2
    split at h
    ·cases h
    ·rename_i h3
     rw [if_pos h1,if_neg h2,if_neg h3];exact ih _ h
  ·cases h
theorem parse_dec (u:Nat) (hu:u<18446744073709551616):parseUint10 0 (decDigits u)=.ok u:=by
 induction u using Nat.strongRecOn with
 |_ u ih=>
  rw [decDigits];split
  ·rename_i h
   simp only [parseUint10,digit_toNat h];rw [if_pos (by omega),if_neg (by omega),if_neg (by omega)]
   congr 1; omega
  ·rename_i h
   rw [parse_app _ _ _ _ (ih (u / 10) (by omega) (by omega))]
   simp only [parseUint10,digit_toNat (show u % 10<10 by omega)]
   rw [if_pos (by omega),if_neg (by omega),if_neg (by omega)]
   congr 1; omega
theorem dec_cons (u:Nat):∃ c r,decDigits u=c::r:=by
 cases h:decDigits u with
 |nil=>
  have:=decDigits_length u;have h2:=nDigits_pos u;rw [h] at this; simp at this; omega
 |cons c r=>exact ⟨c,r,rfl⟩
theorem itoa_pos {n:Int} (h:0≤n):itoa n=decDigits n.toNat:=by unfold itoa; rw [if_neg (by omega)]
theorem atoi_itoa {n:Int} (h0:0≤n) (h1:n≤9223372036854775807):atoiAll (itoa n)=.ok n:=by
 rw [itoa_pos h0];obtain ⟨c,r,e⟩:=dec_cons n.toNat;have hd:=dec_digits n.toNat c (by rw [e]; simp)
 rw [e,atoiAll_plain c r (by omega) (by omega),← e]
 unfold parseMag;rw [if_neg (by rw [e]; simp),parse_dec _ (by omega)]
 show (if 9223372036854775808≤n.toNat then NumEnd.range else NumEnd.ok ((n.toNat:Nat):Int))=_
 rw [if_neg (by omega)]
 congr 1; omega
theorem itoa_inj {a b:Int} (ha:0≤a) (ha':a≤9223372036854775807) (hb:0≤b) (hb':b≤9223372036854775807) (h:itoa a=itoa b):a=b:=by
 have h1:=atoi_itoa ha ha';rw [h,atoi_itoa hb hb'] at h1;injection h1 with h1;exact h1.symm
theorem itoa_nodot {n:Int} (h:0≤n):(46:UInt8)∉itoa n:=by
 rw [itoa_pos h];intro hm
 have:=dec_digits _ _ hm;simp at this
def okN (n:Int):Prop:=0≤n∧n≤1099511627776
def okB (n:Int):Bool:=decide (0≤n) && decide (n≤1099511627776)
theorem okB_iff {n:Int}:okB n=true↔okN n:=by simp [okB,okN]
theorem okB_t {n:Int} (h:okN n):okB n=true:=okB_iff.2 h
theorem okB_f {n:Int} (h:¬ okN n):okB n=false:=Bool.eq_false_iff.2 (fun k=>h (okB_iff.1 k))
structure T where
 k:Int
 f:Int
 g:Int
 e:Int
def zero:T:=⟨0,0,0,0⟩
def may (t:T):Prop:=(t.k=1∧t.e=0∨t.k=2∧okN t.e)∧okN t.f∧okN t.g
def mayB (t:T):Bool:=(decide (t.k=1) && decide (t.e=0) || decide (t.k=2) && okB t.e) && (okB t.f && okB t.g)
theorem mayB_iff {t:T}:mayB t=true↔may t:=by simp [mayB,may,okB_iff]
theorem mayB_t {t:T} (h:may t):mayB t=true:=mayB_iff.2 h
theorem mayB_f {t:T} (h:¬ may t):mayB t=false:=Bool.eq_false_iff.2 (fun k=>h (mayB_iff.1 k))
def body (t:T):List UInt8:=if t.k=1 then [114,46] ++ (itoa t.f ++ 46::itoa t.g) else [97,46] ++ (itoa t.f ++ 46::(itoa t.g ++ 46::itoa t.e))
theorem body_inj {t t':T} (h:may t) (h':may t') (hb:body t=body t'):t=t':=by
 obtain ⟨k,f,g,e⟩:=t;obtain ⟨k',f',g',e'⟩:=t';obtain ⟨hk,hf,hg⟩:=h;obtain ⟨hk',hf',hg'⟩:=h';unfold okN at *;simp only at *;unfold body at hb;simp only at hb;rcases hk with ⟨rfl,rfl⟩ | ⟨rfl,he⟩ <;> rcases hk' with ⟨rfl,rfl⟩ | ⟨rfl,he'⟩
 ·rw [if_pos rfl,if_pos rfl,List.append_right_inj] at hb
  obtain ⟨e1,e2⟩:=part_first hb (itoa_nodot hf.1) (itoa_nodot hf'.1);obtain rfl:=itoa_inj hf.1 (by omega) hf'.1 (by omega) e1
  obtain rfl:=itoa_inj hg.1 (by omega) hg'.1 (by omega) e2
  rfl
 ·rw [if_pos rfl,if_neg (by decide)] at hb
  simp at hb
 ·rw [if_pos rfl,if_neg (by decide)] at hb
  simp at hb
 ·rw [if_neg (by decide),if_neg (by decide),List.append_right_inj] at hb
  obtain ⟨e1,e2⟩:=part_first hb (itoa_nodot hf.1) (itoa_nodot hf'.1);obtain ⟨e3,e4⟩:=part_first e2 (itoa_nodot hg.1) (itoa_nodot hg'.1);obtain rfl:=itoa_inj hf.1 (by omega) hf'.1 (by omega) e1
  obtain rfl:=itoa_inj hg.1 (by omega) hg'.1 (by omega) e3
  obtain rfl:=itoa_inj he.1 (by omega) he'.1 (by omega) e4
  rfl
def isHex (b:UInt8):Prop:=48≤b.toNat∧b.toNat≤57∨97≤b.toNat∧b.toNat≤102
def isHexB (b:UInt8):Bool:=decide (48≤b.toNat∧b.toNat≤57) || decide (97≤b.toNat∧b.toNat≤102)
theorem isHexB_iff {b:UInt8}:isHexB b=true↔isHex b:=by simp [isHexB,isHex]
theorem isHexB_t {b:UInt8} (h:isHex b):isHexB b=true:=isHexB_iff.2 h
theorem isHexB_f {b:UInt8} (h:¬ isHex b):isHexB b=false:=Bool.eq_false_iff.2 (fun k=>h (isHexB_iff.1 k))
def hex16 (l:List UInt8):Prop:=l.length=16∧∀ b∈l,isHex b
def hex16B (l:List UInt8):Bool:=decide (l.length=16) && l.all isHexB
theorem hex16B_iff {l:List UInt8}:hex16B l=true↔hex16 l:=by simp [hex16B,hex16,isHexB_iff]
theorem hex16B_t {l:List UInt8} (h:hex16 l):hex16B l=true:=hex16B_iff.2 h
theorem hex16B_f {l:List UInt8} (h:¬ hex16 l):hex16B l=false:=Bool.eq_false_iff.2 (fun k=>h (hex16B_iff.1 k))
theorem hex16_nodot {l:List UInt8} (h:hex16 l):(46:UInt8)∉l:=by
 intro hm
 have:=h.2 _ hm;simp [isHex] at this
theorem hexc_hex (d:Nat) (h:d<16):isHex (Hex.hexc d):=by
 unfold Hex.hexc isHex;split
 ·left; rw [UInt8.toNat_ofNat']; omega
 ·right; rw [UInt8.toNat_ofNat']; omega
theorem hexsN_hex (k n:Nat):∀ b∈Hex.hexsN k n,isHex b:=by
 induction k generalizing n with
 |zero=>intro b hb; cases hb
 |succ k ih=>
  intro b hb;simp only [Hex.hexsN,List.mem_append,List.mem_singleton] at hb;rcases hb with hb | rfl
  ·exact ih _ b hb
  ·exact hexc_hex _ (Nat.mod_lt _ (by decide))
def Form (x:List UInt8) (t:T) (tag:List UInt8):Prop:=may t∧hex16 tag∧x=body t ++ 46::tag
theorem form_inj {x:List UInt8} {t t':T} {g g':List UInt8} (h:Form x t g) (h':Form x t' g'):t=t'∧g=g':=by
 have e:=h.2.2.symm.trans h'.2.2;obtain ⟨e1,e2⟩:=part_last e (hex16_nodot h.2.1) (hex16_nodot h'.2.1);exact ⟨body_inj h.1 h'.1 e1,e2⟩
def Out (tagOf:List UInt8→List UInt8) (x:List UInt8) (t:T) (n:Nat):Prop:=
 (n=0∧∃ tag,Form x t tag∧tag=tagOf (body t))∨(n=1∧t=zero∧∀ t' tag,¬ Form x t' tag)∨(n=2∧t=zero∧∃ t' tag,Form x t' tag∧tag≠tagOf (body t'))
theorem Out.good {tagOf:List UInt8→List UInt8} {x:List UInt8} (t:T) (tag:List UInt8) (h:Form x t tag) (e:tag=tagOf (body t)):Out tagOf x t 0:=.inl ⟨rfl,tag,h,e⟩
theorem Out.form {tagOf:List UInt8→List UInt8} {x:List UInt8} (h:∀ t tag,¬ Form x t tag):Out tagOf x zero 1:=.inr (.inl ⟨rfl,rfl,h⟩)
theorem Out.name {tagOf:List UInt8→List UInt8} {x:List UInt8} (t:T) (tag:List UInt8) (h:Form x t tag) (e:tag≠tagOf (body t)):Out tagOf x zero 2:=.inr (.inr ⟨rfl,rfl,t,tag,h,e⟩)
theorem out_inj {tagOf:List UInt8→List UInt8} {x:List UInt8} {t t':T} {n n':Nat} (h:Out tagOf x t n) (h':Out tagOf x t' n'):t=t'∧n=n':=by
 rcases h with ⟨rfl,tag,hf,he⟩ | ⟨rfl,rfl,hn⟩ | ⟨rfl,rfl,t1,tag,hf,he⟩
 ·rcases h' with ⟨rfl,tag',hf',he'⟩ | ⟨rfl,rfl,hn⟩ | ⟨rfl,rfl,t2,tag',hf',he'⟩
  ·exact ⟨(form_inj hf hf').1,rfl⟩
  ·exact absurd hf (hn _ _)
  ·obtain ⟨rfl,rfl⟩:=form_inj hf hf'
   exact absurd he he'
 ·rcases h' with ⟨rfl,tag',hf',he'⟩ | ⟨rfl,rfl,hn'⟩ | ⟨rfl,rfl,t2,tag',hf',he'⟩
  ·exact absurd hf' (hn _ _)
  ·exact ⟨rfl,rfl⟩
  ·exact absurd hf' (hn _ _)
 ·rcases h' with ⟨rfl,tag',hf',he'⟩ | ⟨rfl,rfl,hn⟩ | ⟨rfl,rfl,t2,tag',hf',he'⟩
  ·obtain ⟨rfl,rfl⟩:=form_inj hf hf'
   exact absurd he' he
  ·exact absurd hf (hn _ _)
  ·exact ⟨rfl,rfl⟩
end Go.Proofs.YtlailakofhenkabGreatDoor.Tok
