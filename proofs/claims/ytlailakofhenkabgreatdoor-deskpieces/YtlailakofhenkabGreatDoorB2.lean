import Derived.Test.YtlailakofhenkabGreatDoorB1
import Derived.Lib.ItoaLen
namespace Go.Proofs.YtlailakofhenkabGreatDoor.Ev
open Go.Lib Tok Sc
structure Fam where
 id:Int
 client:ByteArray
 subject:ByteArray
 scope:ByteArray
 gen:Int
 made:Int
 used:Int
 request:ByteArray
 dead:Bool
structure E where
 kind:Int
 fam:Fam
 id:Int
 time:Int
def zeroF:Fam:=⟨0,⟨#[]⟩,⟨#[]⟩,⟨#[]⟩,0,0,0,⟨#[]⟩,false⟩
def zeroE:E:=⟨0,zeroF,0,0⟩
def nmB (c:UInt8):Bool:=(decide (97≤c.toNat) && decide (c.toNat≤122)) || (decide (48≤c.toNat) && decide (c.toNat≤57)) || decide (c.toNat=45)
theorem nmB_iff {c:UInt8}:nmB c=true↔(97≤c.toNat∧c.toNat≤122)∨(48≤c.toNat∧c.toNat≤57)∨c.toNat=45:=by
 simp [nmB,or_assoc]
def nameB (s:List UInt8):Bool:=s.all nmB && (decide (1≤s.length) && decide (s.length≤20))
theorem nameB_iff {s:List UInt8}:nameB s=true↔(∀ c∈s,nmB c=true)∧1≤s.length∧s.length≤20:=by simp [nameB]
theorem name_no {s:List UInt8} (h:nameB s=true) {c:UInt8} (hc:nmB c=false):c∉s:=fun hm=>by
 have:=(nameB_iff.1 h).1 c hm;rw [hc] at this; cases this
theorem name_ne {s:List UInt8} (h:nameB s=true):s≠ []:=by
 rintro rfl;revert h
 decide
def Lst (s:List UInt8):Prop:=∃ l,Out s l 0∧joined l=s
theorem lst_of {s:List UInt8} {l:List Word} (ho:Out s l 0):Lst s↔joined l=s:=⟨fun ⟨m,h1,h2⟩=>by rw [(out_inj ho h1).1]; exact h2,fun h=>⟨l,ho,h⟩⟩
theorem lst_not {s:List UInt8} {l:List Word} {n:Nat} (ho:Out s l (n+1)):¬ Lst s:=fun ⟨m,h1,_⟩=>by have:=(out_inj ho h1).2; omega
theorem lst_no {s:List UInt8} (h:Lst s) {c:UInt8} (hc:lowB c=false) (h43:c≠43):c∉s:=by
 obtain ⟨l,ho,rfl⟩:=h;have hw:=(out_words ho).1;intro hm
 have:∀ (l:List Word),(∀ y∈l,wordB y=true)→c∉joined l:=by
  intro l;induction l with
  |nil=>intro _ hm; simp [joined_nil] at hm
  |cons x l ih=>
   intro hw hm
   have hx:c∉x:=fun hm=>by
    have:=(wordB_iff.1 (hw x (by simp))).2 c hm
    rw [hc] at this; cases this
   cases l with
   |nil=>rw [joined_one] at hm; exact hx hm
   |cons y l=>
    rw [joined_two,List.mem_append,List.mem_cons] at hm;rcases hm with hm | hm | hm
    ·exact hx hm
    ·exact h43 hm
    ·exact ih (fun z hz=>hw z (by simp [hz])) hm
 exact this l hw hm
theorem joined_len2:∀ (l:List Word),(∀ x∈l,x.length≤8)→(joined l).length+1≤9*l.length+1∧(l≠ []→(joined l).length+1≤9*l.length)
 |[],h=>by simp [joined_nil]
 |[x],h=>by rw [joined_one]; have:=h x (by simp); simp; omega
 |x::y::l,h=>by
  rw [joined_two];have h1:=h x (by simp)
  have h2:=(joined_len2 (y::l) (fun z hz=>h z (by simp [hz]))).2 (by simp)
  simp at h2 ⊢
  omega
theorem lst_len {s:List UInt8} (h:Lst s):s.length≤44:=by
 obtain ⟨l,ho,rfl⟩:=h;obtain ⟨_,h8,h5,_⟩:=out_words ho;by_cases hl:l= []
 ·subst hl; simp [joined_nil]
 ·have:=(joined_len2 l h8).2 hl
  omega
def mayF (f:Fam):Prop:=(okN f.id∧okN f.gen∧okN f.made∧okN f.used)∧nameB f.client.data.toList=true∧nameB f.subject.data.toList=true∧(f.request.data.toList= []∨nameB f.request.data.toList=true)∧Lst f.scope.data.toList
def may (e:E):Prop:=(e.kind=1∧mayF e.fam∧e.id=0∧e.time=0)∨(e.kind=2∧e.fam=zeroF∧okN e.id∧e.time=0)∨(e.kind=3∧e.fam=zeroF∧e.id=0∧okN e.time)
def wordL (s:List UInt8):List UInt8:=if s= [] then [95] else s
def lifeL (d:Bool):List UInt8:=if d then [49] else [48]
def putWs (f:Fam):List Word:= [[112],itoa f.id,f.client.data.toList,f.subject.data.toList,wordL f.scope.data.toList,itoa f.gen,itoa f.made,itoa f.used,wordL f.request.data.toList,lifeL f.dead]
def wordsOf (e:E):List Word:=if e.kind=1 then putWs e.fam else if e.kind=2 then [[100],itoa e.id] else [[99],itoa e.time]
def line (e:E):List UInt8:=join (wordsOf e) [32]
theorem glue_two (c:UInt8) (x y:Word) (l:List Word):join (x::y::l) [c]=x ++ c::join (y::l) [c]:=by
 simp [join,List.intercalate,List.intersperse]
theorem parts_glue {c:UInt8}:∀ (x:Word) (l:List Word),(∀ y∈x::l,c∉y)→parts c (join (x::l) [c])=x::l
 |x,[],h=>by rw [join_one,parts_no (h x (by simp))]
 |x,y::l,h=>by
  rw [glue_two,parts_at _ (h x (by simp)),parts_glue y l (fun z hz=>h z (by simp [hz]))]
theorem splitK_glue {c:UInt8}:∀ (x:Word) (l:List Word) (k:Nat),(∀ y∈x::l,c∉y)→l.length≤k→splitK [c] 0 k (join (x::l) [c])=x::l
 |x,[],k,h,_=>by rw [join_one,splitK_no (h x (by simp))]
 |x,y::l,k,h,hk=>by
  obtain ⟨k,rfl⟩:∃ k',k=k'+1:=⟨k - 1,by simp at hk; omega⟩
  rw [glue_two,splitK_at _ (h x (by simp)),splitK_glue y l k (fun z hz=>h z (by simp [hz])) (by simpa using hk)]
theorem glue_len {c:UInt8}:∀ (x:Word) (l:List Word),l.length≤(join (x::l) [c]).length
 |x,[]=>by simp
 |x,y::l=>by
  rw [glue_two]
  have:=glue_len (c:=c) y l;simp
  omega
theorem wordL_no {s:List UInt8} {c:UInt8} (h:c∉s) (hc:c≠95):c∉wordL s:=by
 unfold wordL;split
 ·simpa using hc
 ·exact h
theorem itoa_no {n:Int} (h:okN n) {c:UInt8} (hc:c.toNat<48):c∉itoa n:=by
 rw [itoa_pos h.1];intro hm
 have:=dec_digits _ _ hm;omega
theorem words_no {e:E} (h:may e):∀ y∈wordsOf e,(32:UInt8)∉y:=by
 unfold wordsOf;rcases h with ⟨hk,⟨⟨h1,h2,h3,h4⟩,hc,hs,hr,hl⟩,_⟩ | ⟨hk,_,hi,_⟩ | ⟨hk,_,_,ht⟩
 ·rw [if_pos hk]
  have q:(32:UInt8).toNat<48:=by decide
  have n1:=name_no hc (c:=32) (by decide)
  have n2:=name_no hs (c:=32) (by decide)
  have n3:(32:UInt8)∉e.fam.request.data.toList:=by
   rcases hr with hr | hr
   ·rw [hr]; simp
   ·exact name_no hr (by decide)
  have n4:=lst_no hl (c:=32) (by decide) (by decide)
  intro y hy;simp only [putWs,List.mem_cons,List.not_mem_nil,or_false] at hy;rcases hy with rfl | rfl | rfl | rfl | rfl | rfl | rfl | rfl | rfl | rfl
  ·decide
  ·exact itoa_no h1 q
  ·exact n1
  ·exact n2
  ·exact wordL_no n4 (by decide)
  ·exact itoa_no h2 q
  ·exact itoa_no h3 q
  ·exact itoa_no h4 q
  ·exact wordL_no n3 (by decide)
  ·cases e.fam.dead <;> decide
 ·rw [if_neg (by omega),if_pos hk]
  intro y hy;simp only [List.mem_cons,List.not_mem_nil,or_false] at hy;rcases hy with rfl | rfl
  ·decide
  ·exact itoa_no hi (by decide)
 ·rw [if_neg (by omega),if_neg (by omega)]
  intro y hy;simp only [List.mem_cons,List.not_mem_nil,or_false] at hy;rcases hy with rfl | rfl
  ·decide
  ·exact itoa_no ht (by decide)
theorem words_cons (e:E):∃ x l,wordsOf e=x::l∧l.length≤9:=by
 unfold wordsOf putWs;split
 ·exact ⟨_,_,rfl,by simp⟩
 ·split
  ·exact ⟨_,_,rfl,by simp⟩
  ·exact ⟨_,_,rfl,by simp⟩
theorem parts_line {e:E} (h:may e):parts 32 (line e)=wordsOf e:=by
 obtain ⟨x,l,hw,_⟩:=words_cons e
 have:=words_no h;unfold line;rw [hw] at this ⊢;exact parts_glue x l this
theorem split_line {e:E} (h:may e):splitK [32] 0 (min 10 ((line e).length+1) - 1) (line e)=wordsOf e:=by
 obtain ⟨x,l,hw,hl⟩:=words_cons e;have hn:=words_no h;unfold line;rw [hw] at hn ⊢
 have:=glue_len (c:=32) x l;exact splitK_glue x l _ hn (by omega)
theorem bytes_eq {x y:ByteArray} (h:x.data.toList=y.data.toList):x=y:=by
 cases x; cases y
 simp at h
 rw [h]
theorem wordL_inj {s t:List UInt8} (hs:(95:UInt8)∉s) (ht:(95:UInt8)∉t) (h:wordL s=wordL t):s=t:=by
 unfold wordL at h;split at h <;> split at h
 ·simp_all
 ·rw [← h] at ht; simp at ht
 ·rw [h] at hs; simp at hs
 ·exact h
theorem no95 {s:List UInt8} (h:s= []∨nameB s=true):(95:UInt8)∉s:=by
 rcases h with h | h
 ·rw [h]; simp
 ·exact name_no h (by decide)
theorem lifeL_inj {a b:Bool} (h:lifeL a=lifeL b):a=b:=by cases a <;> cases b <;> simp_all [lifeL]
theorem itoaN_inj {a b:Int} (ha:okN a) (hb:okN b) (h:itoa a=itoa b):a=b:=by
 have h1:=ha.2;have h2:=hb.2;exact itoa_inj ha.1 (by omega) hb.1 (by omega) h
theorem words_inj {a b:E} (ha:may a) (hb:may b) (h:wordsOf a=wordsOf b):a=b:=by
 obtain ⟨ak,⟨a1,a2,a3,a4,a5,a6,a7,a8,a9⟩,ai,at_⟩:=a;obtain ⟨bk,⟨b1,b2,b3,b4,b5,b6,b7,b8,b9⟩,bi,bt⟩:=b;unfold wordsOf putWs at h;simp only at h;rcases ha with ⟨hk,⟨⟨h1,h2,h3,h4⟩,hc,hs,hr,hl⟩,e1,e2⟩ | ⟨hk,e1,hi,e2⟩ | ⟨hk,e1,e2,ht⟩ <;> rcases hb with ⟨hk',⟨⟨h1',h2',h3',h4'⟩,hc',hs',hr',hl'⟩,e1',e2'⟩ | ⟨hk',e1',hi',e2'⟩ | ⟨hk',e1',e2',ht'⟩ <;> simp only at*<;> subst hk <;> subst hk'
 ·subst e1; subst e2; subst e1'; subst e2'
  rw [if_pos rfl,if_pos rfl] at h;simp only [List.cons.injEq,and_true,true_and] at h;obtain ⟨g1,g2,g3,g4,g5,g6,g7,g8,g9⟩:=h;rw [itoaN_inj h1 h1' g1,bytes_eq g2,bytes_eq g3,bytes_eq (wordL_inj (lst_no hl (by decide) (by decide)) (lst_no hl' (by decide) (by decide)) g4),itoaN_inj h2 h2' g5,itoaN_inj h3 h3' g6,itoaN_inj h4 h4' g7,bytes_eq (wordL_inj (no95 hr) (no95 hr') g8),lifeL_inj g9]
 ·simp at h
 ·simp at h
 ·simp at h
 ·simp at h
  rw [e1,e1',e2,e2',itoaN_inj hi hi' h]
 ·simp at h
 ·simp at h
 ·simp at h
 ·simp at h
  rw [e1,e1',e2,e2',itoaN_inj ht ht' h]
theorem line_inj {a b:E} (ha:may a) (hb:may b) (h:line a=line b):a=b:=
 words_inj ha hb (by rw [← parts_line ha,← parts_line hb,h])
theorem digits13 {n:Int} (h:okN n):(itoa n).length≤13:=by
 rw [itoa_pos h.1,decDigits_length]
 have:=h.2;have h13:n.toNat<10 ^ 13:=by omega
 generalize n.toNat=u at h13
 have key:∀ (k u:Nat),u<10 ^ (k+1)→nDigits u≤k+1:=by
  intro k;induction k with
  |zero=>intro u hu; rw [nDigits_small (by simpa using hu)]; omega
  |succ k ih=>
   intro u hu;by_cases h10:u<10
   ·rw [nDigits_small h10]; omega
   ·rw [nDigits_big h10]
    have:=ih (u / 10) (by rw [Nat.pow_succ] at hu; omega)
    omega
 exact key 12 u h13
theorem wordL_len2 {s:List UInt8} {n:Nat} (h:s.length≤n) (hn:1≤n):(wordL s).length≤n:=by
 unfold wordL;split
 ·simpa using hn
 ·exact h
theorem line_len {e:E} (h:may e):(line e).length≤180:=by
 unfold line wordsOf;rcases h with ⟨hk,⟨⟨h1,h2,h3,h4⟩,hc,hs,hr,hl⟩,_⟩ | ⟨hk,_,hi,_⟩ | ⟨hk,_,_,ht⟩
 ·rw [if_pos hk]
  have l1:=digits13 h1;have l2:=digits13 h2;have l3:=digits13 h3;have l4:=digits13 h4;have l5:=(nameB_iff.1 hc).2.2;have l6:=(nameB_iff.1 hs).2.2
  have l7:e.fam.request.data.toList.length≤20:=by
   rcases hr with hr | hr
   ·rw [hr]; simp
   ·exact (nameB_iff.1 hr).2.2
  have l8:=wordL_len2 l7 (by omega)
  have l9:=wordL_len2 (lst_len hl) (by omega)
  have l10:(lifeL e.fam.dead).length=1:=by cases e.fam.dead <;> rfl
  unfold putWs;simp only [glue_two,join_one,List.length_append,List.length_cons,List.length_nil];omega
 ·rw [if_neg (by omega),if_pos hk]
  have l1:=digits13 hi;simp only [glue_two,join_one,List.length_append,List.length_cons,List.length_nil];omega
 ·rw [if_neg (by omega),if_neg (by omega)]
  have l1:=digits13 ht;simp only [glue_two,join_one,List.length_append,List.length_cons,List.length_nil];omega
def Rising (l:List Fam):Prop:=l.Pairwise (fun a b=>a.id<b.id)
def lows (l:List Fam) (n:Int):List Fam:=l.filter (fun x=>decide (x.id<n))
def highs (l:List Fam) (n:Int):List Fam:=l.filter (fun x=>decide (n<x.id))
def putP (l:List Fam) (f:Fam):List Fam:=lows l f.id ++ f::highs l f.id
def dropP (l:List Fam) (n:Int):List Fam:=l.filter (fun x=>decide (x.id≠n))
structure St where
 clock:Int
 next:Int
 fams:List Fam
def applyP (s:St) (e:E):St:=
 if e.kind=1 then ⟨s.clock,if s.next≤e.fam.id then e.fam.id+1 else s.next,putP s.fams e.fam⟩
 else if e.kind=2 then ⟨s.clock,s.next,dropP s.fams e.id⟩ else ⟨e.time,s.next,s.fams⟩
theorem rising_put {l:List Fam} {f:Fam} (h:Rising l):Rising (putP l f):=by
 unfold putP lows highs;refine List.pairwise_append.2 ⟨h.filter _,List.pairwise_cons.2 ⟨fun y hy=>?_,h.filter _⟩,fun x hx y hy=>?_⟩
 ·simpa using (List.mem_filter.1 hy).2
 ·have h1:x.id<f.id:=by simpa using (List.mem_filter.1 hx).2
  rw [List.mem_cons] at hy;rcases hy with rfl | hy
  ·exact h1
  ·have h2:f.id<y.id:=by simpa using (List.mem_filter.1 hy).2
   omega
theorem rising_drop {l:List Fam} {n:Int} (h:Rising l):Rising (dropP l n):=h.filter _
theorem rising_apply {s:St} {e:E} (h:Rising s.fams):Rising (applyP s e).fams:=by
 unfold applyP;split
 ·exact rising_put h
 ·split
  ·exact rising_drop h
  ·exact h
theorem put_len (l:List Fam) (f:Fam):(putP l f).length≤l.length+1:=by
 unfold putP lows highs;rw [List.length_append,List.length_cons]
 have:∀ l:List Fam,(l.filter (fun x=>decide (x.id<f.id))).length+(l.filter (fun x=>decide (f.id<x.id))).length≤l.length:=by
  intro l;induction l with
  |nil=>simp
  |cons a l ih=>
   rw [List.filter_cons,List.filter_cons];split <;> split <;> rename_i h1 h2 <;> simp at h1 h2 <;> simp <;> omega
 have:=this l;omega
theorem drop_len (l:List Fam) (n:Int):(dropP l n).length≤l.length:=List.length_filter_le _ _
theorem apply_len (s:St) (e:E):(applyP s e).fams.length≤s.fams.length+1:=by
 unfold applyP;split
 ·exact put_len _ _
 ·split
  ·have:=drop_len s.fams e.id; show (dropP s.fams e.id).length≤_; omega
  ·show s.fams.length≤_; omega
def rank (l:List Fam) (n:Int):Nat:=l.countP (fun x=>decide (x.id<n))
theorem rank_le (l:List Fam) (n:Int):rank l n≤l.length:=List.countP_le_length
theorem rank_parts:∀ {l:List Fam} {n:Int},Rising l→lows l n=l.take (rank l n)∧l.drop (rank l n)=l.filter (fun x=>decide (n≤x.id))
 |[],n,_=>by simp [lows,rank]
 |a::l,n,h=>by
  have h':=List.pairwise_cons.1 h;by_cases ha:a.id<n
  ·obtain ⟨h1,h2⟩:=rank_parts (n:=n) h'.2
   have hr:rank (a::l) n=rank l n+1:=List.countP_cons_of_pos (by simpa using ha)
   rw [hr];constructor
   ·unfold lows at h1 ⊢
    rw [List.filter_cons,if_pos (by simpa using ha),h1,List.take_succ_cons]
   ·rw [List.drop_succ_cons,h2,List.filter_cons,if_neg (by simp; omega)]
  ·have hall:∀ x∈a::l,¬ x.id<n:=by
    intro x hx;rw [List.mem_cons] at hx;rcases hx with rfl | hx
    ·exact ha
    ·have:=h'.1 x hx; omega
   have hr:rank (a::l) n=0:=by
    unfold rank;rw [List.countP_eq_zero];intro x hx
    have:=hall x hx;simpa using this
   rw [hr];constructor
   ·unfold lows
    rw [List.take_zero,List.filter_eq_nil_iff];intro x hx
    have:=hall x hx;simpa using this
   ·rw [List.drop_zero]
    exact (List.filter_eq_self.2 (fun x hx=>by have:=hall x hx; simp; omega)).symm
theorem rank_lt {l:List Fam} {n:Int} (h:Rising l) (t:Nat) (ht:t<l.length):t<rank l n↔l[t].id<n:=by
 obtain ⟨h1,h2⟩:=rank_parts (n:=n) h;constructor
 ·intro hlt
  have hm:l[t]∈lows l n:=by
   rw [h1];exact List.mem_take_iff_getElem.2 ⟨t,by omega,rfl⟩
  simpa [lows] using (List.mem_filter.1 hm).2
 ·intro hlt
  rcases Nat.lt_or_ge t (rank l n) with hh | hh
  ·exact hh
  ·have hm:l[t]∈l.drop (rank l n):=List.mem_drop_iff_getElem.2 ⟨t - rank l n,by omega,by congr 1; omega⟩
   rw [h2] at hm
   have:=(List.mem_filter.1 hm).2;simp at this
   omega
theorem highs_of {l:List Fam} {n:Int} (hn:∀ x∈l,x.id≠n):l.filter (fun x=>decide (n≤x.id))=highs l n:=by
 unfold highs;refine List.filter_congr (fun x hx=>?_)
 have:=hn x hx;rw [decide_eq_decide];omega
theorem rank_there {l:List Fam} {n:Int} (h:Rising l) (hr:rank l n<l.length) (hi:l[rank l n].id=n):l=lows l n ++ l[rank l n]::highs l n:=by
 obtain ⟨h1,h2⟩:=rank_parts (n:=n) h;have hd:l.drop (rank l n)=l[rank l n]::l.drop (rank l n+1):=List.drop_eq_getElem_cons hr
 have h3:l.drop (rank l n+1)=highs l n:=by
  have hp:Rising (l.drop (rank l n)):=h.drop;rw [hd] at hp;have hp':=List.pairwise_cons.1 hp
  have h4:(l.drop (rank l n)).filter (fun x=>decide (n<x.id))=l.drop (rank l n+1):=by
   rw [hd,List.filter_cons,if_neg (by simp; omega)]
   refine List.filter_eq_self.2 (fun x hx=>?_)
   have:=hp'.1 x hx;simp
   omega
  rw [← h4,h2,List.filter_filter];unfold highs;refine List.filter_congr (fun x _=>?_);by_cases hx:n<x.id
  ·have hx':n≤x.id:=by omega
   simp [hx,hx']
  ·simp [hx]
 calc l=l.take (rank l n) ++ l.drop (rank l n):=(List.take_append_drop _ _).symm
  _=lows l n ++ l[rank l n]::highs l n:=by rw [h1,hd,h3]
theorem rank_none {l:List Fam} {n:Int} (h:Rising l) (hn:∀ (hr:rank l n<l.length),l[rank l n].id≠n):∀ x∈l,x.id≠n:=by
 intro x hx he;obtain ⟨t,ht,rfl⟩:=List.getElem_of_mem hx;have h1:=(rank_lt (n:=n) h t ht)
 have hge:rank l n≤t:=by
  rcases Nat.lt_or_ge t (rank l n) with hh | hh
  ·have:=h1.1 hh; omega
  ·exact hh
 have hr:rank l n<l.length:=by omega
 have h3:=(rank_lt (n:=n) h _ hr);have h4:=hn hr;rcases Nat.lt_or_ge (rank l n) t with hlt | hle
 ·have:=(List.pairwise_iff_getElem.1 h) (rank l n) t hr ht hlt
  have h5:¬ l[rank l n].id<n:=fun hh=>by have:=h3.2 hh; omega
  omega
 ·have:t=rank l n:=by omega
  subst this;exact h4 he
theorem put_there {l:List Fam} {f:Fam} (h:Rising l) (hr:rank l f.id<l.length) (hi:l[rank l f.id].id=f.id):l.set (rank l f.id) f=putP l f:=by
 have e:=rank_there h hr hi;have hl:(lows l f.id).length=rank l f.id:=by rw [(rank_parts h).1,List.length_take]; omega
 have key:∀ (k:Nat) (a b:List Fam) (x:Fam),a.length=k→l=a ++ x::b→l.set k f=a ++ f::b:=by
  rintro k a b x rfl rfl;simp
 exact key _ _ _ _ hl e
theorem put_new {l:List Fam} {f:Fam} (h:Rising l) (hn:∀ x∈l,x.id≠f.id):l.take (rank l f.id) ++ f::l.drop (rank l f.id)=putP l f:=by
 obtain ⟨h1,h2⟩:=rank_parts (n:=f.id) h;rw [h2,highs_of hn,← h1];rfl
theorem drop_there {l:List Fam} {n:Int} (h:Rising l) (hr:rank l n<l.length) (hi:l[rank l n].id=n):l.take (rank l n) ++ l.drop (rank l n+1)=dropP l n:=by
 have e:=rank_there h hr hi;have hl:(lows l n).length=rank l n:=by rw [(rank_parts h).1,List.length_take]; omega
 have key:∀ (k:Nat) (a b:List Fam) (x:Fam),a.length=k→l=a ++ x::b→(∀ y∈a,y.id≠n)→x.id=n→(∀ y∈b,y.id≠n)→l.take k ++ l.drop (k+1)=dropP l n:=by
  rintro k a b x rfl rfl ha hx hb;unfold dropP;rw [List.filter_append,List.filter_cons,if_neg (by simp [hx]),List.filter_eq_self.2 (fun y hy=>by simpa using ha y hy),List.filter_eq_self.2 (fun y hy=>by simpa using hb y hy)]
  simp
 refine key _ _ _ _ hl e (fun y hy=>?_) hi (fun y hy=>?_)
 ·have:=(List.mem_filter.1 hy).2; simp at this; omega
 ·have:=(List.mem_filter.1 hy).2; simp at this; omega
theorem drop_none {l:List Fam} {n:Int} (hn:∀ x∈l,x.id≠n):l=dropP l n:=
 (List.filter_eq_self.2 (fun x hx=>by simpa using hn x hx)).symm
theorem put_mem {l:List Fam} {f x:Fam}:x∈putP l f↔x∈dropP l f.id ++ [f]:=by
 unfold putP lows highs dropP;rw [List.mem_append,List.mem_cons,List.mem_append,List.mem_singleton,List.mem_filter,List.mem_filter,List.mem_filter];simp only [decide_eq_true_eq];constructor
 ·rintro (⟨h1,h2⟩ | h | ⟨h1,h2⟩)
  ·exact .inl ⟨h1,by omega⟩
  ·exact .inr h
  ·exact .inl ⟨h1,by omega⟩
 ·rintro (⟨h1,h2⟩ | h)
  ·rcases Int.lt_or_lt_of_ne h2 with h3 | h3
   ·exact .inl ⟨h1,h3⟩
   ·exact .inr (.inr ⟨h1,h3⟩)
  ·exact .inr (.inl h)
theorem apply_put {e:E} (s:St) (h:e.kind=1):applyP s e=⟨s.clock,if s.next≤e.fam.id then e.fam.id+1 else s.next,putP s.fams e.fam⟩:=by
 unfold applyP;rw [if_pos h]
theorem apply_drop {e:E} (s:St) (h:e.kind=2):applyP s e=⟨s.clock,s.next,dropP s.fams e.id⟩:=by
 unfold applyP;rw [if_neg (by omega),if_pos h]
theorem apply_clock {e:E} (s:St) (h:e.kind=3):applyP s e=⟨e.time,s.next,s.fams⟩:=by
 unfold applyP;rw [if_neg (by omega),if_neg (by omega)]
structure AD where
 blk:Nat→Option (Nat × E)
 head:Nat→Option (Nat × Int × Int × Nat)
def emptyD:AD:=⟨fun _=>none,fun _=>none⟩
def updN {α:Type} (f:Nat→α) (k:Nat) (v:α):Nat→α:=fun j=>if j=k then v else f j
def putE (f:Fam):E:=⟨1,f,0,0⟩
def slotGo (A:AD) (b s:Nat):Nat→Nat→St→Option St
 |_,0,st=>some st
 |i,r+1,st=>match A.blk (b+i) with
  |some (s',e)=>if s'=s then slotGo A b s (i+1) r (applyP st e) else none
  |none=>none
def slotM (A:AD) (k:Nat):St × Nat:=match A.head k with
 |none=>(⟨0,0,[]⟩,0)
 |some (s,c,nx,n)=>match slotGo A (17+21*k) s 0 n ⟨c,nx,[]⟩ with
  |some st=>(st,s)
  |none=>(⟨0,0,[]⟩,0)
def logGo (A:AD) (sv:Nat):Nat→Nat→St→St × Nat
 |k,0,st=>(st,k)
 |k,r+1,st=>match A.blk k with
  |some (s',e)=>if s'=sv then logGo A sv (k+1) r (applyP st e) else (st,k)
  |none=>(st,k)
def best (a b:St × Nat):St × Nat:=if a.2<b.2 then b else a
def openM (A:AD):St × Nat × Nat:=
 ((logGo A (best (best (⟨0,1,[]⟩,0) (slotM A 0)) (slotM A 1)).2 0 16 (best (best (⟨0,1,[]⟩,0) (slotM A 0)) (slotM A 1)).1).1,(best (best (⟨0,1,[]⟩,0) (slotM A 0)) (slotM A 1)).2,
  (logGo A (best (best (⟨0,1,[]⟩,0) (slotM A 0)) (slotM A 1)).2 0 16 (best (best (⟨0,1,[]⟩,0) (slotM A 0)) (slotM A 1)).1).2)
structure Good (s:St):Prop where
 ris:Rising s.fams
 may:∀ f∈s.fams,mayF f∧f.id<s.next
 clock:okN s.clock
 next0:1≤s.next
 next1:s.next≤1099511627777
 len:s.fams.length≤20
theorem good_zero:Good ⟨0,1,[]⟩:=⟨List.Pairwise.nil,fun f h=>(by cases h),(show (0:Int)≤0∧(0:Int)≤1099511627776 from ⟨by decide,by decide⟩),by decide,by decide,by decide⟩
theorem good_apply {s:St} {e:E} (h:Good s) (he:may e) (hl:(applyP s e).fams.length≤20):Good (applyP s e):=by
 have hr:=rising_apply (e:=e) h.ris;rcases he with ⟨hk,hf,-,-⟩ | ⟨hk,-,hi,-⟩ | ⟨hk,-,-,ht⟩
 ·rw [apply_put s hk] at hr hl ⊢
  have hid:=hf.1.1;have hid2:0≤e.fam.id∧e.fam.id≤1099511627776:=hid;refine ⟨hr,fun f hm=>?_,h.clock,?_,?_,hl⟩
  ·rcases List.mem_append.1 (put_mem.1 hm) with hm | hm
   ·have:=h.may f (List.mem_filter.1 hm).1
    refine ⟨this.1,?_⟩;show f.id<(if s.next≤e.fam.id then e.fam.id+1 else s.next)
    split <;> omega
   ·obtain rfl:=List.mem_singleton.1 hm
    refine ⟨hf,?_⟩;show e.fam.id<(if s.next≤e.fam.id then e.fam.id+1 else s.next)
    split <;> omega
  ·show 1≤(if s.next≤e.fam.id then e.fam.id+1 else s.next)
   have:=h.next0;split <;> omega
  ·show (if s.next≤e.fam.id then e.fam.id+1 else s.next)≤1099511627777
   have:=h.next1;split <;> omega
 ·rw [apply_drop s hk] at hr hl ⊢
  exact ⟨hr,fun f hm=>h.may f (List.mem_filter.1 hm).1,h.clock,h.next0,h.next1,hl⟩
 ·rw [apply_clock s hk] at hr hl ⊢
  exact ⟨hr,h.may,ht,h.next0,h.next1,hl⟩
theorem putP_last {l:List Fam} {f:Fam} (h:∀ x∈l,x.id<f.id):putP l f=l ++ [f]:=by
 unfold putP lows highs;rw [List.filter_eq_self.2 (fun x hx=>by simpa using h x hx),List.filter_eq_nil_iff.2 (fun x hx=>by have:=h x hx; simp; omega)]
theorem slotGo_puts (A:AD) (b s:Nat) (c nx:Int):∀ (rest pre:List Fam) (i:Nat),(∀ (j:Nat) (h:j<rest.length),A.blk (b+(i+j))=some (s,putE rest[j]))→Rising (pre ++ rest)→(∀ f∈rest,f.id<nx)→slotGo A b s i rest.length ⟨c,nx,pre⟩=some ⟨c,nx,pre ++ rest⟩:=by
 intro rest;induction rest with
 |nil=>intro pre i _ _ _; simp [slotGo]
 |cons f rest ih=>
  intro pre i hb hr hn;have h0:=hb 0 (by simp)
  rw [Nat.add_zero] at h0;rw [List.length_cons,slotGo,h0];simp only [List.getElem_cons_zero,if_true];have hlt:∀ x∈pre,x.id<f.id:=fun x hx=>(List.pairwise_append.1 hr).2.2 x hx f (by simp)
  have hap:applyP ⟨c,nx,pre⟩ (putE f)=⟨c,nx,pre ++ [f]⟩:=by
   rw [apply_put _ rfl];show (⟨c,if nx≤f.id then f.id+1 else nx,putP pre f⟩:St)=_
   rw [putP_last hlt,if_neg (by have:=hn f (by simp); omega)]
  rw [hap,ih (pre ++ [f]) (i+1) (fun j hj=>?_) (by simpa using hr) (fun g hg=>hn g (by simp [hg]))]
  ·simp
  ·have:=hb (j+1) (by simpa using hj)
   rw [show i+1+j=i+(j+1) by omega]
   simpa using this
theorem slotGo_congr {A A':AD} {b s:Nat}:∀ (r i:Nat) (st:St),(∀ j,i≤j→j<i+r→A'.blk (b+j)=A.blk (b+j))→slotGo A' b s i r st=slotGo A b s i r st:=by
 intro r;induction r with
 |zero=>intro i st _; rfl
 |succ r ih=>
  intro i st h;rw [slotGo,slotGo,h i (Nat.le_refl _) (by omega)]
  cases A.blk (b+i) with
  |none=>rfl
  |some p=>
   obtain ⟨s',e⟩:=p;by_cases hs:s'=s
   ·simp only [hs,if_true]
    exact ih (i+1) _ (fun j h1 h2=>h j (by omega) (by omega))
   ·simp only [hs,if_false]
theorem logGo_is (A:AD) (sv:Nat):∀ (es:List E) (k r:Nat) (st:St),es.length≤r→(∀ (j:Nat) (h:j<es.length),A.blk (k+j)=some (sv,es[j]))→(es.length<r→∀ s e,A.blk (k+es.length)=some (s,e)→s≠sv)→logGo A sv k r st=(es.foldl applyP st,k+es.length):=by
 intro es;induction es with
 |nil=>
  intro k r st hr hb hn
  cases r with
  |zero=>rfl
  |succ r=>
   rw [logGo];have h0:=hn (by simp)
   simp only [List.length_nil,Nat.add_zero] at h0
   cases hk:A.blk k with
   |none=>rfl
   |some p=>
    obtain ⟨s',e⟩:=p;simp only [if_neg (h0 s' e hk)];rfl
 |cons e es ih=>
  intro k r st hr hb hn
  cases r with
  |zero=>simp at hr
  |succ r=>
   have h0:=hb 0 (by simp)
   rw [Nat.add_zero] at h0;rw [logGo,h0];simp only [List.getElem_cons_zero,if_true];rw [ih (k+1) r (applyP st e) (by simpa using hr) (fun j hj=>?_) (fun hlt s' e' hs=>?_)]
   ·simp only [List.foldl_cons,List.length_cons,Prod.mk.injEq,true_and]; omega
   ·have:=hb (j+1) (by simpa using hj)
    rw [show k+1+j=k+(j+1) by omega]
    simpa using this
   ·refine hn (by simpa using hlt) s' e' ?_
    rw [← hs];congr 1
    simp only [List.length_cons]; omega
structure Inv (A:AD) (st:St) (sv lg:Nat) (b:St) (es:List E):Prop where
 base:(sv=0∧b=⟨0,1,[]⟩∧(∀ k,A.head k=none))∨(0<sv∧slotM A (sv % 2)=(b,sv)∧∀ s c nx n,A.head ((sv+1) % 2)=some (s,c,nx,n)→s<sv)
 len:es.length=lg
 low:lg≤16
 log:∀ (i:Nat) (h:i<es.length),A.blk i=some (sv,es[i])
 past:∀ i,lg≤i→i<16→∀ s e,A.blk i=some (s,e)→s<sv
 good:Good st
 made:st=es.foldl applyP b
 blks:∀ k s e,A.blk k=some (s,e)→Ev.may e∧s≤sv+1
 heads:∀ k s c nx n,A.head k=some (s,c,nx,n)→s≤sv∧okN c∧0≤nx∧nx≤1099511627777∧n≤20
theorem inv_empty:Inv emptyD ⟨0,1,[]⟩ 0 0 ⟨0,1,[]⟩ []:=⟨.inl ⟨rfl,rfl,fun _=>rfl⟩,rfl,by decide,fun i h=>absurd h (Nat.not_lt_zero _),fun i _ _ s e h=>(by cases h),good_zero,rfl,fun k s e h=>(by cases h),fun k s c nx n h=>(by cases h)⟩
theorem slotM_le {A:AD} {k m:Nat} (h:∀ s c nx n,A.head k=some (s,c,nx,n)→s<m):(slotM A k).2=0∨(slotM A k).2<m:=by
 unfold slotM
 cases hh:A.head k with
 |none=>exact .inl rfl
 |some p=>
  obtain ⟨s,c,nx,n⟩:=p;simp only
  cases slotGo A (17+21*k) s 0 n ⟨c,nx,[]⟩ with
  |none=>exact .inl rfl
  |some st=>exact .inr (h s c nx n hh)
theorem inv_best {A:AD} {st b:St} {sv lg:Nat} {es:List E} (h:Inv A st sv lg b es):best (best (⟨0,1,[]⟩,0) (slotM A 0)) (slotM A 1)=(b,sv):=by
 rcases h.base with ⟨rfl,rfl,hn⟩ | ⟨h0,h1,h2⟩
 ·have z:∀ k,slotM A k=(⟨0,0,[]⟩,0):=fun k=>by unfold slotM; rw [hn k]
  rw [z,z]; rfl
 ·have h3:=slotM_le h2
  rcases Nat.mod_two_eq_zero_or_one sv with hm | hm
  ·rw [hm] at h1
   rw [show (sv+1) % 2=1 by omega] at h3
   rw [h1];unfold best;simp only [h0,if_true];rw [if_neg (by omega)]
  ·rw [hm] at h1
   rw [show (sv+1) % 2=0 by omega] at h3
   rw [h1];unfold best;simp only;rw [if_pos];split <;> first | exact h0 | omega
theorem inv_open {A:AD} {st b:St} {sv lg:Nat} {es:List E} (h:Inv A st sv lg b es):openM A=(st,sv,lg):=by
 unfold openM;rw [inv_best h];simp only;rw [logGo_is A sv es 0 16 b (by rw [h.len]; exact h.low) (fun j hj=>by rw [Nat.zero_add]; exact h.log j hj) (fun hlt s e hs=>?_)]
 ·rw [← h.made,Nat.zero_add,h.len]
 ·rw [Nat.zero_add,h.len] at hs
  have:=h.past lg (Nat.le_refl _) (by rw [← h.len]; exact hlt) s e hs
  omega
theorem slotM_congr {A A':AD} {k:Nat} (hh:A'.head k=A.head k) (h:∀ s c nx n,A.head k=some (s,c,nx,n)→n≤20) (hb:∀ j,j<20→A'.blk (17+21*k+j)=A.blk (17+21*k+j)):slotM A' k=slotM A k:=by
 unfold slotM;rw [hh]
 cases hh2:A.head k with
 |none=>rfl
 |some p=>
  obtain ⟨s,c,nx,n⟩:=p;simp only;rw [slotGo_congr n 0 _ (fun j _ hj=>hb j (by have:=h s c nx n hh2; omega))]
theorem inv_add {A:AD} {st b:St} {sv lg:Nat} {es:List E} {e:E} (h:Inv A st sv lg b es) (hlg:lg<16) (he:Ev.may e) (hl:(applyP st e).fams.length≤20) :
 Inv ⟨updN A.blk lg (some (sv,e)),A.head⟩ (applyP st e) sv (lg+1) b (es ++ [e]):=by
 have hhd:∀ k,k<2→slotM ⟨updN A.blk lg (some (sv,e)),A.head⟩ k=slotM A k:=fun k hk=>slotM_congr rfl (fun s c nx n hs=>(h.heads k s c nx n hs).2.2.2.2) (fun j hj=>by show updN A.blk lg _ _=_; unfold updN; rw [if_neg (by omega)])
 refine ⟨?_,by rw [List.length_append,h.len]; rfl,hlg,?_,?_,good_apply h.good he hl,(by rw [List.foldl_append,← h.made]; rfl),?_,h.heads⟩
 ·rcases h.base with h1 | ⟨h0,h1,h2⟩
  ·exact .inl h1
  ·exact .inr ⟨h0,by rw [hhd _ (Nat.mod_lt _ (by decide))]; exact h1,h2⟩
 ·intro i hi
  show updN A.blk lg (some (sv,e)) i=_
  unfold updN;by_cases hil:i=lg
  ·subst hil
   rw [if_pos rfl,List.getElem_append_right (by rw [h.len]; exact Nat.le_refl _)]
   simp
  ·rw [List.length_append,h.len] at hi
   have hi':i<es.length:=by rw [h.len]; simp at hi; omega
   rw [if_neg hil,List.getElem_append_left hi'];exact h.log i hi'
 ·intro i h1 h2 s e' hs
  have hs':updN A.blk lg (some (sv,e)) i=some (s,e'):=hs;unfold updN at hs';rw [if_neg (by omega)] at hs'
  exact h.past i (by omega) h2 s e' hs'
 ·intro k s e' hs
  have hs':updN A.blk lg (some (sv,e)) k=some (s,e'):=hs;unfold updN at hs';split at hs'
  ·obtain ⟨rfl,rfl⟩:=Prod.mk.inj (Option.some.inj hs')
   exact ⟨he,by omega⟩
  ·exact h.blks k s e' hs'
theorem inv_part {A:AD} {st b:St} {sv lg:Nat} {es:List E} {e:E} (h:Inv A st sv lg b es) (i:Nat) (hi:i<20) (he:Ev.may e) :
 Inv ⟨updN A.blk (17+21*((sv+1) % 2)+i) (some (sv+1,e)),A.head⟩ st sv lg b es:=by
 have hm:(sv % 2=0∧(sv+1) % 2=1)∨(sv % 2=1∧(sv+1) % 2=0):=by omega
 have hne:∀ j,j<16→updN A.blk (17+21*((sv+1) % 2)+i) (some (sv+1,e)) j=A.blk j:=fun j hj=>by unfold updN; rw [if_neg (by omega)]
 refine ⟨?_,h.len,h.low,fun j hj=>(hne j (by rw [h.len] at hj; have:=h.low; omega)).trans (h.log j hj),fun j h1 h2 s e' hs=>h.past j h1 h2 s e' ((hne j h2).symm.trans hs),h.good,h.made,?_,h.heads⟩
 ·rcases h.base with h1 | ⟨h0,h1,h2⟩
  ·exact .inl h1
  ·refine .inr ⟨h0,?_,h2⟩
   rw [slotM_congr (A:=A) (A':=⟨updN A.blk (17+21*((sv+1) % 2)+i) (some (sv+1,e)),A.head⟩) rfl (fun s c nx n hs=>(h.heads _ s c nx n hs).2.2.2.2) (fun j hj=>?_)]
   ·exact h1
   ·show updN A.blk _ _ _=_
    unfold updN;rw [if_neg (by omega)]
 ·intro k s e' hs
  have hs':updN A.blk (17+21*((sv+1) % 2)+i) (some (sv+1,e)) k=some (s,e'):=hs;unfold updN at hs';split at hs'
  ·obtain ⟨rfl,rfl⟩:=Prod.mk.inj (Option.some.inj hs')
   exact ⟨he,by omega⟩
  ·exact h.blks k s e' hs'
theorem inv_head {A:AD} {st b:St} {sv lg:Nat} {es:List E} (h:Inv A st sv lg b es) (hp:∀ (j:Nat) (hj:j<st.fams.length),A.blk (17+21*((sv+1) % 2)+j)=some (sv+1,putE st.fams[j])) :
 Inv ⟨A.blk,updN A.head ((sv+1) % 2) (some (sv+1,st.clock,st.next,st.fams.length))⟩ st (sv+1) 0 st []:=by
 have hm:(sv % 2=0∧(sv+1) % 2=1)∨(sv % 2=1∧(sv+1) % 2=0):=by omega
 refine ⟨.inr ⟨by omega,?_,?_⟩,rfl,by decide,fun i hi=>absurd hi (Nat.not_lt_zero _),?_,h.good,rfl,fun k s e hs=>⟨(h.blks k s e hs).1,by have:=(h.blks k s e hs).2; omega⟩,?_⟩
 ·unfold slotM
  have h1:updN A.head ((sv+1) % 2) (some (sv+1,st.clock,st.next,st.fams.length)) ((sv+1) % 2)=some (sv+1,st.clock,st.next,st.fams.length):=by unfold updN; rw [if_pos rfl]
  simp only [h1];rw [slotGo_puts ⟨A.blk,_⟩ _ (sv+1) st.clock st.next st.fams [] 0 (fun j hj=>by simpa using hp j hj) (by simpa using h.good.ris) (fun f hf=>(h.good.may f hf).2)]
  rfl
 ·intro s c nx n hs
  have hs':updN A.head ((sv+1) % 2) (some (sv+1,st.clock,st.next,st.fams.length)) ((sv+1+1) % 2)=some (s,c,nx,n):=hs;unfold updN at hs';rw [if_neg (by omega)] at hs'
  have:=(h.heads _ s c nx n hs').1;omega
 ·intro i _ hi s e hs
  have h1:A.blk i=some (s,e):=hs;by_cases hl:i<lg
  ·have:=h.log i (by rw [h.len]; exact hl)
   rw [h1] at this
   have:=(Prod.mk.inj (Option.some.inj this)).1;omega
  ·have:=h.past i (by omega) hi s e h1
   omega
 ·intro k s c nx n hs
  have hs':updN A.head ((sv+1) % 2) (some (sv+1,st.clock,st.next,st.fams.length)) k=some (s,c,nx,n):=hs;unfold updN at hs';split at hs'
  ·simp only [Option.some.injEq,Prod.mk.injEq] at hs'
   obtain ⟨rfl,rfl,rfl,rfl⟩:=hs';exact ⟨Nat.le_refl _,h.good.clock,by have:=h.good.next0; omega,h.good.next1,h.good.len⟩
  ·have:=h.heads k s c nx n hs'
   exact ⟨by omega,this.2⟩
theorem may_put {f:Fam} (h:mayF f):Ev.may (putE f):=.inl ⟨rfl,h,rfl,rfl⟩
structure TagOk (τ:List UInt8→List UInt8):Prop where
 len:∀ l,(τ l).length=16
 no:∀ l,(32:UInt8)∉τ l
def sealL (τ:List UInt8→List UInt8) (t:List UInt8):List UInt8:=τ t ++ 32::t
def evL (s:Nat) (e:E):List UInt8:=itoa s ++ 32::line e
def hdWs (s:Nat) (c nx:Int) (n:Nat):List Word:= [itoa s,itoa c,itoa nx,itoa n]
def hdL (s:Nat) (c nx:Int) (n:Nat):List UInt8:=join (hdWs s c nx n) [32]
def txtE:Option (Nat × E)→List UInt8
 |none=> []
 |some (s,e)=>evL s e
def txtH:Option (Nat × Int × Int × Nat)→List UInt8
 |none=> []
 |some (s,c,nx,n)=>hdL s c nx n
def inBlock (τ:List UInt8→List UInt8) (t:List UInt8):List UInt8:=if t= [] then [] else sealL τ t
def txtAt (A:AD) (k:Nat):List UInt8:=if k=16 then txtH (A.head 0) else if k=37 then txtH (A.head 1) else txtE (A.blk k)
def EncF (τ:List UInt8→List UInt8) (F:Int→ByteArray) (A:AD):Prop:=∀ k:Nat,k<90→F k=(⟨(inBlock τ (txtAt A k)).toArray⟩:ByteArray)
theorem evL_ne (s:Nat) (e:E):evL s e≠ []:=by unfold evL; simp
theorem hdL_ne (s:Nat) (c nx:Int) (n:Nat):hdL s c nx n≠ []:=by
 unfold hdL hdWs;rw [glue_two]; simp
theorem hdL_is (s:Nat) (c nx:Int) (n:Nat):hdL s c nx n=itoa s ++ 32::(itoa c ++ 32::(itoa nx ++ 32::itoa n)):=by
 unfold hdL hdWs;rw [glue_two,glue_two,glue_two];simp [join]
theorem txtAt_head {A:AD} {sl:Nat} (hs:sl<2):txtAt A (16+21*sl)=txtH (A.head sl):=by
 unfold txtAt;rcases (show sl=0∨sl=1 by omega) with rfl | rfl <;> simp
theorem enc_empty (τ:List UInt8→List UInt8):EncF τ (fun _=>⟨#[]⟩) emptyD:=fun k _=>by
 have:txtAt emptyD k= []:=by unfold txtAt emptyD; simp [txtH,txtE]
 rw [this]; unfold inBlock; rw [if_pos rfl]
theorem enc_blk {τ:List UInt8→List UInt8} {F F':Int→ByteArray} {A:AD} (h:EncF τ F A) (k:Nat) (hk:k≠16∧k≠37) (s:Nat) (e:E) (h1:F' k=(⟨(sealL τ (evL s e)).toArray⟩:ByteArray)) (h2:∀ j:Int,j≠k→F' j=F j):EncF τ F' ⟨updN A.blk k (some (s,e)),A.head⟩:=fun j hj=>by
 by_cases hjk:j=k
 ·subst hjk
  rw [h1]
  have:txtAt ⟨updN A.blk j (some (s,e)),A.head⟩ j=evL s e:=by unfold txtAt updN; rw [if_neg hk.1,if_neg hk.2]; simp [txtE]
  rw [this]; unfold inBlock; rw [if_neg (evL_ne s e)]
 ·rw [h2 j (by omega),h j hj]
  have:txtAt ⟨updN A.blk k (some (s,e)),A.head⟩ j=txtAt A j:=by unfold txtAt updN; simp only [if_neg hjk]
  rw [this]
theorem enc_head {τ:List UInt8→List UInt8} {F F':Int→ByteArray} {A:AD} (h:EncF τ F A) (sl:Nat) (hs:sl<2) (s:Nat) (c nx:Int) (n:Nat) (h1:F' ((16+21*sl:Nat):Int)=(⟨(sealL τ (hdL s c nx n)).toArray⟩:ByteArray)) (h2:∀ j:Int,j≠((16+21*sl:Nat):Int)→F' j=F j):EncF τ F' ⟨A.blk,updN A.head sl (some (s,c,nx,n))⟩:=fun j hj=>by
 by_cases hjk:j=16+21*sl
 ·subst hjk
  rw [h1]
  have:txtAt ⟨A.blk,updN A.head sl (some (s,c,nx,n))⟩ (16+21*sl)=hdL s c nx n:=by rw [txtAt_head hs]; unfold updN; simp [txtH]
  rw [this]; unfold inBlock; rw [if_neg (hdL_ne s c nx n)]
 ·rw [h2 j (by omega),h j hj]
  have:txtAt ⟨A.blk,updN A.head sl (some (s,c,nx,n))⟩ j=txtAt A j:=by
   unfold txtAt updN;rcases (show sl=0∨sl=1 by omega) with rfl | rfl
   ·have h16:j≠16:=by omega
    simp [h16]
   ·have h37:j≠37:=by omega
    simp [h37]
  rw [this]
theorem seal_len {τ:List UInt8→List UInt8} (h:TagOk τ) (t:List UInt8):(sealL τ t).length=t.length+17:=by
 unfold sealL;rw [List.length_append,h.len,List.length_cons]; omega
theorem cut_seal {τ:List UInt8→List UInt8} (h:TagOk τ) (t:List UInt8):cut (sealL τ t) [32]=(τ t,t,true):=cut_at t (h.no t)
theorem cut_ev {s:Nat} (hs:okN s) (e:E):cut (evL s e) [32]=(itoa s,line e,true):=cut_at (line e) (itoa_no hs (by decide))
theorem evL_len {s:Nat} (hs:okN s) {e:E} (he:Ev.may e):(evL s e).length≤194:=by
 have h1:=digits13 hs;have h2:=line_len he;unfold evL;rw [List.length_append,List.length_cons]; omega
theorem hd_no {s:Nat} {c nx:Int} {n:Nat} (h1:0≤c) (h2:0≤nx):∀ y∈hdWs s c nx n,(32:UInt8)∉y:=by
 have hz:∀ {m:Int},0≤m→(32:UInt8)∉itoa m:=fun {m} hm hx=>by
  rw [itoa_pos hm] at hx
  have:=dec_digits _ _ hx;simp at this
 intro y hy;unfold hdWs at hy;simp only [List.mem_cons,List.not_mem_nil,or_false] at hy;rcases hy with rfl | rfl | rfl | rfl
 ·exact hz (by omega)
 ·exact hz h1
 ·exact hz h2
 ·exact hz (by omega)
theorem parts_hd {s:Nat} {c nx:Int} {n:Nat} (h1:0≤c) (h2:0≤nx):parts 32 (hdL s c nx n)=hdWs s c nx n:=parts_glue _ _ (hd_no h1 h2)
theorem hdL_len {s:Nat} {c nx:Int} {n:Nat} (h0:okN s) (h1:okN c) (h2:okN (nx - 1)) (h3:n≤20):(hdL s c nx n).length≤55:=by
 have d1:=digits13 h0;have d2:=digits13 h1;have d3:=digits13 (n:=(n:Int)) ⟨by omega,by omega⟩
 have d4:(itoa nx).length≤13:=by
  by_cases hx:nx≤1099511627776
  ·exact digits13 ⟨by have:=h2.1; omega,hx⟩
  ·obtain rfl:nx=1099511627777:=by have:=h2.2; omega
   decide +kernel
 rw [hdL_is];simp only [List.length_append,List.length_cons];omega
end Go.Proofs.YtlailakofhenkabGreatDoor.Ev
