import Derived.Test.YtlailakofhenkabGreatDoorB1
import Derived.Lib.AtoiAllCases
import Derived.Lib.ItoaLen
namespace Go.Proofs.YtlailakofhenkabGreatDoor.Tok
open Go.Lib
theorem ph(c:UInt8)(l:List UInt8):splitK [c] 0 (min 3 (l.length+1) - 1) l=splitK [c] 0 2 l:=by
 rcases eO c l with h | ⟨a,b,rfl,h⟩
 ·rw[bJ h,bJ h]
 ·by_cases hl:2<=(a ++ c::b).length
  ·rw[show min 3 ((a ++ c::b).length+1) - 1=2 by omega]
  ·simp at hl
   have f:a= []:=List.length_eq_zero_iff.1 (by omega)
   have g:b= []:=List.length_eq_zero_iff.1 (by omega)
   subst f; subst g;rw[show min 3 (([] ++ c:: []:List UInt8).length+1) - 1=0+1 by simp,bK _ h,bK _ h,bJ (by simp),bJ (by simp)]
variable {b c:UInt8}{s:ByteArray}
theorem vp(h:c∉s.data.toList):lastIndexByte s (c.toNat:Int)=-1:=by
 rcases lastIndexByte_spec s (c.toNat:Int) with ⟨e,_⟩ | ⟨i,hi,_,hc,_⟩
 ·exact e
 ·have b:i<s.data.size:=hi
  rw[getElem!_pos s.data i b] at hc
  have:s.data[i]=c:=UInt8.toNat_inj.1 (by omega)
  exact absurd (Array.mem_toList_iff.2 (this ▸ Array.getElem_mem b)) h
theorem last_at{a b:List UInt8}(e:s.data.toList=a ++ c::b)(h:c∉b):lastIndexByte s (c.toNat:Int)=a.length:=by
 have o:s.data.size=a.length+(b.length+1):=by rw[<- Array.length_toList,e]; simp
 have f:∀j,j<s.size->s.data[j]! = (a ++ c::b).getD j 0:=by
  intro j hj;have k:j<s.data.size:=hj;rw[getElem!_pos s.data j k,<- e,<- Array.getElem_toList];rw[List.getD_eq_getElem?_getD,List.getElem?_eq_getElem (by simpa using k)]; rfl
 have hs:s.size=s.data.size:=rfl;have m:(a ++ c::b).getD a.length 0=c:=by simp
 have g:∀j,a.length<j->j<s.size->(a ++ c::b).getD j 0≠c:=by
  intro j h1 h2 he;obtain⟨t,rfl⟩:∃t,j=a.length+1+t:=⟨j - a.length - 1,by omega⟩
  rw[List.getD_eq_getElem?_getD,List.getElem?_append_right (by omega),show a.length+1+t - a.length=t+1 by omega,List.getElem?_cons_succ,List.getElem?_eq_getElem (by omega)] at he
  simp at he
  exact h (he ▸ Fw _)
 rcases lastIndexByte_spec s (c.toNat:Int) with ⟨_,hn⟩ | ⟨i,hi,he,hc,hn⟩
 ·have:=hn a.length (by omega)
  rw[f _ (by omega),m] at this
  exact absurd rfl this
 ·rw[he]
  rw[f _ hi] at hc;have n:(a ++ c::b).getD i 0=c:=UInt8.toNat_inj.1 (by omega)
  rcases Nat.lt_trichotomy i a.length with h1 | h1 | h1
  ·have:=hn a.length h1 (by omega)
   rw[f _ (by omega),m] at this
   exact absurd rfl this
  ·rw[h1]
  ·exact absurd n (g i h1 hi)
theorem fw{d:Nat}(h:d<10):(UInt8.ofNat (48+d)).toNat=48+d:=by
 rw[UInt8.toNat_ofNat']; omega
theorem gw(u:Nat):∀b∈decDigits u,48<=b.toNat∧b.toNat<=57:=by
 induction u using Nat.strongRecOn with
 |_ u ih=>
  rw[decDigits];split
  ·intro b hb
   simp only[List.mem_singleton] at hb;subst hb;rw[fw (by assumption)]; omega
  ·intro b hb
   simp only[List.mem_append,List.mem_singleton] at hb;rcases hb with hb | rfl
   ·exact ih (u / 10) (by omega) b hb
   ·rw[fw (by omega)]; omega
theorem ww(l r:List UInt8)(acc a:Nat)(h:parseUint10 acc l=.ok a):parseUint10 acc (l ++ r)=parseUint10 a r:=by
 induction l generalizing acc with
 |nil=>simp only[parseUint10] at h; injection h with h; subst h; rfl
 |cons c l ih=>
  simp only[parseUint10,List.cons_append] at h ⊢;split at h
  ·rename_i h1
   split at h
   ·cases h
   ·rename_i h2
    split at h
    ·cases h
    ·rename_i h3
     rw[if_pos h1,if_neg h2,if_neg h3];exact ih _ h
  ·cases h
theorem wy(u:Nat)(hu:u<18446744073709551616):parseUint10 0 (decDigits u)=.ok u:=by
 induction u using Nat.strongRecOn with
 |_ u ih=>
  rw[decDigits];split
  ·rename_i h
   simp only[parseUint10,fw h];rw[if_pos (by omega),if_neg (by omega),if_neg (by omega)]
   congr 1; omega
  ·rename_i h
   rw[ww _ _ _ _ (ih (u / 10) (by omega) (by omega))]
   simp only[parseUint10,fw (show u % 10<10 by omega)]
   rw[if_pos (by omega),if_neg (by omega),if_neg (by omega)]
   congr 1; omega
theorem qH(u:Nat):∃c r,decDigits u=c::r:=by
 cases h:decDigits u with
 |nil=>
  have:=decDigits_length u;have h2:=nDigits_pos u;rw[h] at this; simp at this; omega
 |cons c r=>exact⟨c,r,rfl⟩
variable {n:Int}
theorem fN(h:0<=n):itoa n=decDigits n.toNat:=by unfold itoa; rw[if_neg (by omega)]
theorem dl(h0:0<=n)(h1:n<=9223372036854775807):atoiAll (itoa n)=.ok n:=by
 rw[fN h0];obtain⟨c,r,e⟩:=qH n.toNat;have hd:=gw n.toNat c (by rw[e]; simp)
 rw[e,atoiAll_plain c r (by omega) (by omega),<- e]
 unfold parseMag;rw[if_neg (by rw[e]; simp),wy _ (by omega)]
 show (if 9223372036854775808<=n.toNat then NumEnd.range else NumEnd.ok ((n.toNat:Nat):Int))=_
 rw[if_neg (by omega)]
 congr 1; omega
theorem eS{a b:Int}(ha:0<=a)(ha':a<=9223372036854775807)(hb:0<=b)(hb':b<=9223372036854775807)(h:itoa a=itoa b):a=b:=by
 have c:=dl ha ha';rw[h,dl hb hb'] at c;injection c with c;exact c.symm
theorem bg(h:0<=n):(46:UInt8)∉itoa n:=by
 rw[fN h];intro hm
 have:=gw _ _ hm;simp at this
def okN(n:Int):Prop:=0<=n∧n<=1099511627776
def okB(n:Int):Bool:=decide (0<=n) && decide (n<=1099511627776)
theorem cU:okB n=true↔okN n:=by simp[okB,okN]
theorem dt(h:okN n):okB n=true:=cU.2 h
theorem jB(h:¬ okN n):okB n=false:=Bool.eq_false_iff.2 (fun k=>h (cU.1 k))
structure T where
 k:Int
 f:Int
 g:Int
 e:Int
def zero:T:=⟨0,0,0,0⟩
def may(t:T):Prop:=(t.k=1∧t.e=0∨t.k=2∧okN t.e)∧okN t.f∧okN t.g
def mayB(t:T):Bool:=(decide (t.k=1) && decide (t.e=0) || decide (t.k=2) && okB t.e) && (okB t.f && okB t.g)
variable {t t':T}
theorem fO:mayB t=true↔may t:=by simp[mayB,may,cU]
theorem yF(h:may t):mayB t=true:=fO.2 h
theorem CV(h:¬ may t):mayB t=false:=Bool.eq_false_iff.2 (fun k=>h (fO.1 k))
def body(t:T):List UInt8:=if t.k=1 then [114,46] ++ (itoa t.f ++ 46::itoa t.g) else [97,46] ++ (itoa t.f ++ 46::(itoa t.g ++ 46::itoa t.e))
theorem qI(h:may t)(h':may t')(hb:body t=body t'):t=t':=by
 obtain⟨k,f,g,e⟩:=t;obtain⟨k',f',g',e'⟩:=t';obtain⟨hk,hf,hg⟩:=h;obtain⟨hk',hf',hg'⟩:=h';unfold okN at *;simp only at *;unfold body at hb;simp only at hb;rcases hk with ⟨rfl,rfl⟩ | ⟨rfl,he⟩ <;> rcases hk' with ⟨rfl,rfl⟩ | ⟨rfl,he'⟩
 ·rw[if_pos rfl,if_pos rfl,List.append_right_inj] at hb
  obtain⟨e1,e2⟩:=gu hb (bg hf.1) (bg hf'.1);obtain rfl:=eS hf.1 (by omega) hf'.1 (by omega) e1
  obtain rfl:=eS hg.1 (by omega) hg'.1 (by omega) e2
  rfl
 ·rw[if_pos rfl,if_neg (by decide)] at hb
  simp at hb
 ·rw[if_pos rfl,if_neg (by decide)] at hb
  simp at hb
 ·rw[if_neg (by decide),if_neg (by decide),List.append_right_inj] at hb
  obtain⟨e1,e2⟩:=gu hb (bg hf.1) (bg hf'.1);obtain⟨e3,e4⟩:=gu e2 (bg hg.1) (bg hg'.1);obtain rfl:=eS hf.1 (by omega) hf'.1 (by omega) e1
  obtain rfl:=eS hg.1 (by omega) hg'.1 (by omega) e3
  obtain rfl:=eS he.1 (by omega) he'.1 (by omega) e4
  rfl
def dJ(b:UInt8):Prop:=48<=b.toNat∧b.toNat<=57∨97<=b.toNat∧b.toNat<=102
def fF(b:UInt8):Bool:=decide (48<=b.toNat∧b.toNat<=57) || decide (97<=b.toNat∧b.toNat<=102)
theorem gA:fF b=true↔dJ b:=by simp[fF,dJ]
theorem yG(h:dJ b):fF b=true:=gA.2 h
theorem yH(h:¬ dJ b):fF b=false:=Bool.eq_false_iff.2 (fun k=>h (gA.1 k))
def kE(l:List UInt8):Prop:=l.length=16∧∀b∈l,dJ b
def fG(l:List UInt8):Bool:=decide (l.length=16) && l.all fF
variable {l x:List UInt8}
theorem lS:fG l=true↔kE l:=by simp[fG,kE,gA]
theorem qJ(h:kE l):fG l=true:=lS.2 h
theorem lT(h:¬ kE l):fG l=false:=Bool.eq_false_iff.2 (fun k=>h (lS.1 k))
theorem eq(h:kE l):(46:UInt8)∉l:=by
 intro hm
 have:=h.2 _ hm;simp[dJ] at this
theorem yI(d:Nat)(h:d<16):dJ (Hex.hexc d):=by
 unfold Hex.hexc dJ;split
 ·left; rw[UInt8.toNat_ofNat']; omega
 ·right; rw[UInt8.toNat_ofNat']; omega
theorem wz(k n:Nat):∀b∈Hex.cS k n,dJ b:=by
 induction k generalizing n with
 |zero=>intro b hb; cases hb
 |succ k ih=>
  intro b hb;simp only[Hex.cS,List.mem_append,List.mem_singleton] at hb;rcases hb with hb | rfl
  ·exact ih _ b hb
  ·exact yI _ (Nat.mod_lt _ (by decide))
def j1(x:List UInt8)(t:T)(tag:List UInt8):Prop:=may t∧kE tag∧x=body t ++ 46::tag
theorem lU{g g':List UInt8}(h:j1 x t g)(h':j1 x t' g'):t=t'∧g=g':=by
 have e:=h.2.2.symm.trans h'.2.2;obtain⟨e1,e2⟩:=iI e (eq h.2.1) (eq h'.2.1);exact⟨qI h.1 h'.1 e1,e2⟩
def Out(tagOf:List UInt8->List UInt8)(x:List UInt8)(t:T)(n:Nat):Prop:=
 (n=0∧∃tag,j1 x t tag∧tag=tagOf (body t))∨(n=1∧t=zero∧∀t' tag,¬ j1 x t' tag)∨(n=2∧t=zero∧∃t' tag,j1 x t' tag∧tag≠tagOf (body t'))
variable {tagOf:List UInt8->List UInt8}
theorem Out.good(t:T)(tag:List UInt8)(h:j1 x t tag)(e:tag=tagOf (body t)):Out tagOf x t 0:=.inl ⟨rfl,tag,h,e⟩
theorem Out.form(h:∀t tag,¬ j1 x t tag):Out tagOf x zero 1:=.inr (.inl ⟨rfl,rfl,h⟩)
theorem Out.name(t:T)(tag:List UInt8)(h:j1 x t tag)(e:tag≠tagOf (body t)):Out tagOf x zero 2:=.inr (.inr ⟨rfl,rfl,t,tag,h,e⟩)
theorem out_inj{n n':Nat}(h:Out tagOf x t n)(h':Out tagOf x t' n'):t=t'∧n=n':=by
 rcases h with ⟨rfl,tag,hf,he⟩ | ⟨rfl,rfl,hn⟩ | ⟨rfl,rfl,t1,tag,hf,he⟩
 ·rcases h' with ⟨rfl,tag',hf',he'⟩ | ⟨rfl,rfl,hn⟩ | ⟨rfl,rfl,t2,tag',hf',he'⟩
  ·exact⟨(lU hf hf').1,rfl⟩
  ·exact absurd hf (hn _ _)
  ·obtain⟨rfl,rfl⟩:=lU hf hf'
   exact absurd he he'
 ·rcases h' with ⟨rfl,tag',hf',he'⟩ | ⟨rfl,rfl,hn'⟩ | ⟨rfl,rfl,t2,tag',hf',he'⟩
  ·exact absurd hf' (hn _ _)
  ·exact⟨rfl,rfl⟩
  ·exact absurd hf' (hn _ _)
 ·rcases h' with ⟨rfl,tag',hf',he'⟩ | ⟨rfl,rfl,hn⟩ | ⟨rfl,rfl,t2,tag',hf',he'⟩
  ·obtain⟨rfl,rfl⟩:=lU hf hf'
   exact absurd he' he
  ·exact absurd hf (hn _ _)
  ·exact⟨rfl,rfl⟩
end Go.Proofs.YtlailakofhenkabGreatDoor.Tok
namespace Go.Proofs.YtlailakofhenkabGreatDoor.Ev
open Go.Lib Tok Sc
structure Fam where
 id:Int
 client:ByteArray
 subject:ByteArray
 scope:ByteArray
 gen:Int
 made:Int
 used:Int
 request:ByteArray
 dead:Bool
structure E where
 kind:Int
 fam:Fam
 id:Int
 time:Int
def zeroF:Fam:=⟨0,⟨#[]⟩,⟨#[]⟩,⟨#[]⟩,0,0,0,⟨#[]⟩,false⟩
def zeroE:E:=⟨0,zeroF,0,0⟩
def nmB(c:UInt8):Bool:=(decide (97<=c.toNat) && decide (c.toNat<=122)) || (decide (48<=c.toNat) && decide (c.toNat<=57)) || decide (c.toNat=45)
variable {c:UInt8}
theorem jC:nmB c=true↔(97<=c.toNat∧c.toNat<=122)∨(48<=c.toNat∧c.toNat<=57)∨c.toNat=45:=by
 simp[nmB,or_assoc]
def am(s:List UInt8):Bool:=s.all nmB && (decide (1<=s.length) && decide (s.length<=20))
variable {s:List UInt8}
theorem cx:am s=true↔(∀c∈s,nmB c=true)∧1<=s.length∧s.length<=20:=by simp[am]
theorem jD(h:am s=true)(hc:nmB c=false):c∉s:=fun hm=>by
 have:=(cx.1 h).1 c hm;rw[hc] at this; cases this
theorem Bh(h:am s=true):s≠ []:=by
 rintro rfl;revert h
 decide
def Lst(s:List UInt8):Prop:=∃l,Out s l 0∧ae l=s
theorem j2{l:List Word}(ho:Out s l 0):Lst s↔ae l=s:=⟨fun ⟨m,h1,h2⟩=>by rw[(out_inj ho h1).1]; exact h2,fun h=>⟨l,ho,h⟩⟩
theorem pi{l:List Word}{n:Nat}(ho:Out s l (n+1)):¬ Lst s:=fun ⟨m,h1,_⟩=>by have:=(out_inj ho h1).2; omega
theorem pj(h:Lst s)(hc:fE c=false)(h43:c≠43):c∉s:=by
 obtain⟨l,ho,rfl⟩:=h;have b:=(fM ho).1;intro hm
 have:∀(l:List Word),(∀y∈l,wordB y=true)->c∉ae l:=by
  intro l;induction l with
  |nil=>intro _ hm; simp[dx] at hm
  |cons x l ih=>
   intro b hm
   have f:c∉x:=fun hm=>by
    have:=(eK.1 (b x (by simp))).2 c hm
    rw[hc] at this; cases this
   cases l with
   |nil=>rw[eP] at hm; exact f hm
   |cons y l=>
    rw[eQ,List.mem_append,List.mem_cons] at hm;rcases hm with hm | hm | hm
    ·exact f hm
    ·exact h43 hm
    ·exact ih (fun z hz=>b z (by simp[hz])) hm
 exact this l b hm
theorem kF:∀(l:List Word),(∀x∈l,x.length<=8)->(ae l).length+1<=9*l.length+1∧(l≠ []->(ae l).length+1<=9*l.length)
 |[],h=>by simp[dx]
 |[x],h=>by rw[eP]; have:=h x (by simp); simp; omega
 |x::y::l,h=>by
  rw[eQ];have h1:=h x (by simp)
  have b:=(kF (y::l) (fun z hz=>h z (by simp[hz]))).2 (by simp)
  simp at b ⊢
  omega
theorem lw(h:Lst s):s.length<=44:=by
 obtain⟨l,ho,rfl⟩:=h;obtain⟨_,h8,h5,_⟩:=fM ho;by_cases hl:l= []
 ·subst hl; simp[dx]
 ·have:=(kF l h8).2 hl
  omega
def bP(f:Fam):Prop:=(okN f.id∧okN f.gen∧okN f.made∧okN f.used)∧am f.client.data.toList=true∧am f.subject.data.toList=true∧(f.request.data.toList= []∨am f.request.data.toList=true)∧Lst f.scope.data.toList
def may(e:E):Prop:=(e.kind=1∧bP e.fam∧e.id=0∧e.time=0)∨(e.kind=2∧e.fam=zeroF∧okN e.id∧e.time=0)∨(e.kind=3∧e.fam=zeroF∧e.id=0∧okN e.time)
def wordL(s:List UInt8):List UInt8:=if s= [] then [95] else s
def nT(d:Bool):List UInt8:=if d then [49] else [48]
def hU(f:Fam):List Word:= [[112],itoa f.id,f.client.data.toList,f.subject.data.toList,wordL f.scope.data.toList,itoa f.gen,itoa f.made,itoa f.used,wordL f.request.data.toList,nT f.dead]
def aQ(e:E):List Word:=if e.kind=1 then hU e.fam else if e.kind=2 then [[100],itoa e.id] else [[99],itoa e.time]
def line(e:E):List UInt8:=join (aQ e) [32]
theorem bV(c:UInt8)(x y:Word)(l:List Word):join (x::y::l) [c]=x ++ c::join (y::l) [c]:=by
 simp[join,List.intercalate,List.intersperse]
theorem jd{c:UInt8}:∀(x:Word) (l:List Word),(∀y∈x::l,c∉y)->parts c (join (x::l) [c])=x::l
 |x,[],h=>by rw[join_one,bO (h x (by simp))]
 |x,y::l,h=>by
  rw[bV,bD _ (h x (by simp)),jd y l (fun z hz=>h z (by simp[hz]))]
theorem kG{c:UInt8}:∀(x:Word) (l:List Word) (k:Nat),(∀y∈x::l,c∉y)->l.length<=k->splitK [c] 0 k (join (x::l) [c])=x::l
 |x,[],k,h,_=>by rw[join_one,bJ (h x (by simp))]
 |x,y::l,k,h,hk=>by
  obtain⟨k,rfl⟩:∃k',k=k'+1:=⟨k - 1,by simp at hk; omega⟩
  rw[bV,bK _ (h x (by simp)),kG y l k (fun z hz=>h z (by simp[hz])) (by simpa using hk)]
theorem qK{c:UInt8}:∀(x:Word) (l:List Word),l.length<=(join (x::l) [c]).length
 |x,[]=>by simp
 |x,y::l=>by
  rw[bV]
  have:=qK (c:=c) y l;simp
  omega
theorem qL(h:c∉s)(hc:c≠95):c∉wordL s:=by
 unfold wordL;split
 ·simpa using hc
 ·exact h
variable {n:Int}
theorem gB(h:okN n)(hc:c.toNat<48):c∉itoa n:=by
 rw[fN h.1];intro hm
 have:=gw _ _ hm;omega
variable {a e:E}
theorem qM(h:may e):∀y∈aQ e,(32:UInt8)∉y:=by
 unfold aQ;rcases h with ⟨hk,⟨⟨h1,h2,h3,h4⟩,hc,hs,hr,hl⟩,_⟩ | ⟨hk,_,hi,_⟩ | ⟨hk,_,_,ht⟩
 ·rw[if_pos hk]
  have q:(32:UInt8).toNat<48:=by decide
  have b:=jD hc (c:=32) (by decide)
  have f:=jD hs (c:=32) (by decide)
  have g:(32:UInt8)∉e.fam.request.data.toList:=by
   rcases hr with hr | hr
   ·rw[hr]; simp
   ·exact jD hr (by decide)
  have j:=pj hl (c:=32) (by decide) (by decide)
  intro y hy;simp only[hU,List.mem_cons,List.not_mem_nil,or_false] at hy;rcases hy with rfl | rfl | rfl | rfl | rfl | rfl | rfl | rfl | rfl | rfl
  ·decide
  ·exact gB h1 q
  ·exact b
  ·exact f
  ·exact qL j (by decide)
  ·exact gB h2 q
  ·exact gB h3 q
  ·exact gB h4 q
  ·exact qL g (by decide)
  ·cases e.fam.dead <;> decide
 ·rw[if_neg (by omega),if_pos hk]
  intro y hy;simp only[List.mem_cons,List.not_mem_nil,or_false] at hy;rcases hy with rfl | rfl
  ·decide
  ·exact gB hi (by decide)
 ·rw[if_neg (by omega),if_neg (by omega)]
  intro y hy;simp only[List.mem_cons,List.not_mem_nil,or_false] at hy;rcases hy with rfl | rfl
  ·decide
  ·exact gB ht (by decide)
theorem je(e:E):∃x l,aQ e=x::l∧l.length<=9:=by
 unfold aQ hU;split
 ·exact⟨_,_,rfl,by simp⟩
 ·split
  ·exact⟨_,_,rfl,by simp⟩
  ·exact⟨_,_,rfl,by simp⟩
theorem lV(h:may e):parts 32 (line e)=aQ e:=by
 obtain⟨x,l,hw,_⟩:=je e
 have:=qM h;unfold line;rw[hw] at this ⊢;exact jd x l this
theorem lW(h:may e):splitK [32] 0 (min 10 ((line e).length+1) - 1) (line e)=aQ e:=by
 obtain⟨x,l,hw,hl⟩:=je e;have b:=qM h;unfold line;rw[hw] at b ⊢
 have:=qK (c:=32) x l;exact kG x l _ b (by omega)
theorem aK{x y:ByteArray}(h:x.data.toList=y.data.toList):x=y:=by
 cases x; cases y
 simp at h
 rw[h]
theorem nU{s t:List UInt8}(hs:(95:UInt8)∉s)(ht:(95:UInt8)∉t)(h:wordL s=wordL t):s=t:=by
 unfold wordL at h;split at h <;> split at h
 ·simp_all
 ·rw[<- h] at ht; simp at ht
 ·rw[h] at hs; simp at hs
 ·exact h
theorem DJ(h:s= []∨am s=true):(95:UInt8)∉s:=by
 rcases h with h | h
 ·rw[h]; simp
 ·exact jD h (by decide)
theorem wA{a b:Bool}(h:nT a=nT b):a=b:=by cases a <;> cases b <;> simp_all [nT]
theorem dX{a b:Int}(ha:okN a)(hb:okN b)(h:itoa a=itoa b):a=b:=by
 have h1:=ha.2;have h2:=hb.2;exact eS ha.1 (by omega) hb.1 (by omega) h
theorem wB{b:E}(ha:may a)(hb:may b)(h:aQ a=aQ b):a=b:=by
 obtain⟨ak,⟨a1,a2,a3,a4,a5,a6,a7,a8,a9⟩,ai,at_⟩:=a;obtain⟨bk,⟨b1,b2,b3,b4,b5,b6,b7,b8,b9⟩,bi,bt⟩:=b;unfold aQ hU at h;simp only at h;rcases ha with ⟨hk,⟨⟨h1,h2,h3,h4⟩,hc,hs,hr,hl⟩,e1,e2⟩ | ⟨hk,e1,hi,e2⟩ | ⟨hk,e1,e2,ht⟩ <;> rcases hb with ⟨hk',⟨⟨h1',h2',h3',h4'⟩,hc',hs',hr',hl'⟩,e1',e2'⟩ | ⟨hk',e1',hi',e2'⟩ | ⟨hk',e1',e2',ht'⟩ <;> simp only at*<;> subst hk <;> subst hk'
 ·subst e1; subst e2; subst e1'; subst e2'
  rw[if_pos rfl,if_pos rfl] at h;simp only[List.cons.injEq,and_true,true_and] at h;obtain⟨g1,g2,g3,g4,g5,g6,g7,g8,g9⟩:=h;rw[dX h1 h1' g1,aK g2,aK g3,aK (nU (pj hl (by decide) (by decide)) (pj hl' (by decide) (by decide)) g4),dX h2 h2' g5,dX h3 h3' g6,dX h4 h4' g7,aK (nU (DJ hr) (DJ hr') g8),wA g9]
 ·simp at h
 ·simp at h
 ·simp at h
 ·simp at h
  rw[e1,e1',e2,e2',dX hi hi' h]
 ·simp at h
 ·simp at h
 ·simp at h
 ·simp at h
  rw[e1,e1',e2,e2',dX ht ht' h]
theorem yJ{b:E}(ha:may a)(hb:may b)(h:line a=line b):a=b:=
 wB ha hb (by rw[<- lV ha,<- lV hb,h])
theorem ar(h:okN n):(itoa n).length<=13:=by
 rw[fN h.1,decDigits_length]
 have:=h.2;have b:n.toNat<10 ^ 13:=by omega
 generalize n.toNat=u at b
 have c:∀(k u:Nat),u<10 ^ (k+1)->nDigits u<=k+1:=by
  intro k;induction k with
  |zero=>intro u hu; rw[nDigits_small (by simpa using hu)]; omega
  |succ k ih=>
   intro u hu;by_cases h10:u<10
   ·rw[nDigits_small h10]; omega
   ·rw[nDigits_big h10]
    have:=ih (u / 10) (by rw[Nat.pow_succ] at hu; omega)
    omega
 exact c 12 u b
theorem iJ(s:List UInt8):(wordL s).length<=s.length+1:=by
 unfold wordL;split <;> simp
theorem lX{n:Nat}(h:s.length<=n)(hn:1<=n):(wordL s).length<=n:=by
 unfold wordL;split
 ·simpa using hn
 ·exact h
theorem line_len(h:may e):(line e).length<=180:=by
 unfold line aQ;rcases h with ⟨hk,⟨⟨h1,h2,h3,h4⟩,hc,hs,hr,hl⟩,_⟩ | ⟨hk,_,hi,_⟩ | ⟨hk,_,_,ht⟩
 ·rw[if_pos hk]
  have b:=ar h1;have l2:=ar h2;have l3:=ar h3;have l4:=ar h4;have l5:=(cx.1 hc).2.2;have l6:=(cx.1 hs).2.2
  have c:e.fam.request.data.toList.length<=20:=by
   rcases hr with hr | hr
   ·rw[hr]; simp
   ·exact (cx.1 hr).2.2
  have l8:=lX c (by omega)
  have l9:=lX (lw hl) (by omega)
  have f:(nT e.fam.dead).length=1:=by cases e.fam.dead <;> rfl
  unfold hU;simp only[bV,join_one,List.length_append,List.length_cons,List.length_nil];omega
 ·rw[if_neg (by omega),if_pos hk]
  have b:=ar hi;simp only[bV,join_one,List.length_append,List.length_cons,List.length_nil];omega
 ·rw[if_neg (by omega),if_neg (by omega)]
  have b:=ar ht;simp only[bV,join_one,List.length_append,List.length_cons,List.length_nil];omega
def aP(l:List Fam):Prop:=l.Pairwise (fun a b=>a.id<b.id)
def jf(l:List Fam)(n:Int):List Fam:=l.filter (fun x=>decide (x.id<n))
def hZ(l:List Fam)(n:Int):List Fam:=l.filter (fun x=>decide (n<x.id))
def er(l:List Fam)(f:Fam):List Fam:=jf l f.id ++ f::hZ l f.id
def dropP(l:List Fam)(n:Int):List Fam:=l.filter (fun x=>decide (x.id≠n))
structure St where
 clock:Int
 next:Int
 fams:List Fam
def applyP(s:St)(e:E):St:=
 if e.kind=1 then ⟨s.clock,if s.next<=e.fam.id then e.fam.id+1 else s.next,er s.fams e.fam⟩
 else if e.kind=2 then ⟨s.clock,s.next,dropP s.fams e.id⟩ else ⟨e.time,s.next,s.fams⟩
variable {f:Fam}{l:List Fam}
theorem lY(h:aP l):aP (er l f):=by
 unfold er jf hZ;refine List.pairwise_append.2 ⟨h.filter _,List.pairwise_cons.2 ⟨fun y hy=>?_,h.filter _⟩,fun x hx y hy=>?_⟩
 ·simpa using (List.mem_filter.1 hy).2
 ·have b:x.id<f.id:=by simpa using (List.mem_filter.1 hx).2
  rw[List.mem_cons] at hy;rcases hy with rfl | hy
  ·exact b
  ·have h2:f.id<y.id:=by simpa using (List.mem_filter.1 hy).2
   omega
theorem kH(h:aP l):aP (dropP l n):=h.filter _
theorem eH{s:St}(h:aP s.fams):aP (applyP s e).fams:=by
 unfold applyP;split
 ·exact lY h
 ·split
  ·exact kH h
  ·exact h
theorem Bi(l:List Fam)(f:Fam):(er l f).length<=l.length+1:=by
 unfold er jf hZ;rw[List.length_append,List.length_cons]
 have:∀l:List Fam,(l.filter (fun x=>decide (x.id<f.id))).length+(l.filter (fun x=>decide (f.id<x.id))).length<=l.length:=by
  intro l;induction l with
  |nil=>simp
  |cons a l ih=>
   rw[List.filter_cons,List.filter_cons];split <;> split <;> rename_i h1 h2 <;> simp at h1 h2 <;> simp <;> omega
 have:=this l;omega
theorem lZ(l:List Fam)(n:Int):(dropP l n).length<=l.length:=List.length_filter_le _ _
theorem j3(s:St)(e:E):(applyP s e).fams.length<=s.fams.length+1:=by
 unfold applyP;split
 ·exact Bi _ _
 ·split
  ·have:=lZ s.fams e.id; show (dropP s.fams e.id).length<=_; omega
  ·show s.fams.length<=_; omega
def rank(l:List Fam)(n:Int):Nat:=l.countP (fun x=>decide (x.id<n))
theorem vr(l:List Fam)(n:Int):rank l n<=l.length:=List.countP_le_length
theorem dY:∀ {l:List Fam} {n:Int},aP l->jf l n=l.take (rank l n)∧l.drop (rank l n)=l.filter (fun x=>decide (n<=x.id))
 |[],n,_=>by simp[jf,rank]
 |a::l,n,h=>by
  have h':=List.pairwise_cons.1 h;by_cases ha:a.id<n
  ·obtain⟨h1,h2⟩:=dY (n:=n) h'.2
   have c:rank (a::l) n=rank l n+1:=List.countP_cons_of_pos (by simpa using ha)
   rw[c];constructor
   ·unfold jf at h1 ⊢
    rw[List.filter_cons,if_pos (by simpa using ha),h1,List.take_succ_cons]
   ·rw[List.drop_succ_cons,h2,List.filter_cons,if_neg (by simp; omega)]
  ·have b:∀x∈a::l,¬ x.id<n:=by
    intro x hx;rw[List.mem_cons] at hx;rcases hx with rfl | hx
    ·exact ha
    ·have:=h'.1 x hx; omega
   have c:rank (a::l) n=0:=by
    unfold rank;rw[List.countP_eq_zero];intro x hx
    have:=b x hx;simpa using this
   rw[c];constructor
   ·unfold jf
    rw[List.take_zero,List.filter_eq_nil_iff];intro x hx
    have:=b x hx;simpa using this
   ·rw[List.drop_zero]
    exact (List.filter_eq_self.2 (fun x hx=>by have:=b x hx; simp; omega)).symm
theorem pk(h:aP l)(t:Nat)(ht:t<l.length):t<rank l n↔l[t].id<n:=by
 obtain⟨h1,h2⟩:=dY (n:=n) h;constructor
 ·intro hlt
  have b:l[t]∈jf l n:=by
   rw[h1];exact List.mem_take_iff_getElem.2 ⟨t,by omega,rfl⟩
  simpa[jf] using (List.mem_filter.1 b).2
 ·intro hlt
  rcases FF t (rank l n) with hh | hh
  ·exact hh
  ·have b:l[t]∈l.drop (rank l n):=List.mem_drop_iff_getElem.2 ⟨t - rank l n,by omega,by congr 1; omega⟩
   rw[h2] at b
   have:=(List.mem_filter.1 b).2;simp at this
   omega
theorem yK(hn:∀x∈l,x.id≠n):l.filter (fun x=>decide (n<=x.id))=hZ l n:=by
 unfold hZ;refine List.filter_congr (fun x hx=>?_)
 have:=hn x hx;rw[decide_eq_decide];omega
theorem ma(h:aP l)(hr:rank l n<l.length)(hi:l[rank l n].id=n):l=jf l n ++ l[rank l n]::hZ l n:=by
 obtain⟨h1,h2⟩:=dY (n:=n) h;have b:l.drop (rank l n)=l[rank l n]::l.drop (rank l n+1):=List.drop_eq_getElem_cons hr
 have j:l.drop (rank l n+1)=hZ l n:=by
  have g:aP (l.drop (rank l n)):=h.drop;rw[b] at g;have c:=List.pairwise_cons.1 g
  have k:(l.drop (rank l n)).filter (fun x=>decide (n<x.id))=l.drop (rank l n+1):=by
   rw[b,List.filter_cons,if_neg (by simp; omega)]
   refine List.filter_eq_self.2 (fun x hx=>?_)
   have:=c.1 x hx;simp
   omega
  rw[<- k,h2,List.filter_filter];unfold hZ;refine List.filter_congr (fun x _=>?_);by_cases hx:n<x.id
  ·have f:n<=x.id:=by omega
   simp[hx,f]
  ·simp[hx]
 calc l=l.take (rank l n) ++ l.drop (rank l n):=(List.take_append_drop _ _).symm
  _=jf l n ++ l[rank l n]::hZ l n:=by rw[h1,b,j]
theorem nV(h:aP l)(hn:∀(hr:rank l n<l.length),l[rank l n].id≠n):∀x∈l,x.id≠n:=by
 intro x hx he;obtain⟨t,ht,rfl⟩:=List.getElem_of_mem hx;have b:=(pk (n:=n) h t ht)
 have c:rank l n<=t:=by
  rcases FF t (rank l n) with hh | hh
  ·have:=b.1 hh; omega
  ·exact hh
 have hr:rank l n<l.length:=by omega
 have f:=(pk (n:=n) h _ hr);have g:=hn hr;rcases FF (rank l n) t with hlt | hle
 ·have:=(List.pairwise_iff_getElem.1 h) (rank l n) t hr ht hlt
  have h5:¬ l[rank l n].id<n:=fun hh=>by have:=f.2 hh; omega
  omega
 ·have:t=rank l n:=by omega
  subst this;exact g he
theorem wC{l:List Fam}{f:Fam}(h:aP l)(hr:rank l f.id<l.length)(hi:l[rank l f.id].id=f.id):l.set (rank l f.id) f=er l f:=by
 have e:=ma h hr hi;have g:(jf l f.id).length=rank l f.id:=by rw[(dY h).1,List.length_take]; omega
 have c:∀(k:Nat) (a b:List Fam) (x:Fam),a.length=k->l=a ++ x::b->l.set k f=a ++ f::b:=by
  rintro k a b x rfl rfl;simp
 exact c _ _ _ _ g e
theorem Bj{l:List Fam}{f:Fam}(h:aP l)(hn:∀x∈l,x.id≠f.id):l.take (rank l f.id) ++ f::l.drop (rank l f.id)=er l f:=by
 obtain⟨h1,h2⟩:=dY (n:=f.id) h;rw[h2,yK hn,<- h1];rfl
theorem tJ(h:aP l)(hr:rank l n<l.length)(hi:l[rank l n].id=n):l.take (rank l n) ++ l.drop (rank l n+1)=dropP l n:=by
 have e:=ma h hr hi;have f:(jf l n).length=rank l n:=by rw[(dY h).1,List.length_take]; omega
 have c:∀(k:Nat) (a b:List Fam) (x:Fam),a.length=k->l=a ++ x::b->(∀y∈a,y.id≠n)->x.id=n->(∀y∈b,y.id≠n)->l.take k ++ l.drop (k+1)=dropP l n:=by
  rintro k a b x rfl rfl ha hx hb;unfold dropP;rw[List.filter_append,List.filter_cons,if_neg (by simp[hx]),List.filter_eq_self.2 (fun y hy=>by simpa using ha y hy),List.filter_eq_self.2 (fun y hy=>by simpa using hb y hy)]
  simp
 refine c _ _ _ _ f e (fun y hy=>?_) hi (fun y hy=>?_)
 ·have:=(List.mem_filter.1 hy).2; simp at this; omega
 ·have:=(List.mem_filter.1 hy).2; simp at this; omega
theorem wD(hn:∀x∈l,x.id≠n):l=dropP l n:=
 (List.filter_eq_self.2 (fun x hx=>by simpa using hn x hx)).symm
theorem vu:∀ {l m:List Fam},aP l->aP m->(∀x,x∈l↔x∈m)->l=m
 |[],[],_,_,_=>rfl
 |[],b::m,_,_,h=>by have:=(h b).2 (by simp); simp at this
 |a::l,[],_,_,h=>by have:=(h a).1 (by simp); simp at this
 |a::l,b::m,hl,hm,h=>by
  have c:=List.pairwise_cons.1 hl;have f:=List.pairwise_cons.1 hm
  have k:a=b:=by
   have g:=(h a).1 (by simp)
   have j:=(h b).2 (by simp)
   simp only[List.mem_cons] at g j;rcases g with g | g
   ·exact g
   ·rcases j with j | j
    ·exact j.symm
    ·have:=c.1 b j
     have:=f.1 a g;omega
  subst k;congr 1
  refine vu c.2 f.2 (fun x=>?_);constructor
  ·intro hx
   have:=(h x).1 (by simp[hx])
   simp only[List.mem_cons] at this;rcases this with rfl | this
   ·have:=c.1 x hx; omega
   ·exact this
  ·intro hx
   have:=(h x).2 (by simp[hx])
   simp only[List.mem_cons] at this;rcases this with rfl | this
   ·have:=f.1 x hx; omega
   ·exact this
theorem vv{x:Fam}:x∈er l f↔x∈dropP l f.id ++ [f]:=by
 unfold er jf hZ dropP;rw[List.mem_append,List.mem_cons,List.mem_append,List.mem_singleton,List.mem_filter,List.mem_filter,List.mem_filter];simp only[decide_eq_true_eq];constructor
 ·rintro (⟨h1,h2⟩ | h | ⟨h1,h2⟩)
  ·exact .inl ⟨h1,by omega⟩
  ·exact .inr h
  ·exact .inl ⟨h1,by omega⟩
 ·rintro (⟨h1,h2⟩ | h)
  ·rcases Int.lt_or_lt_of_ne h2 with h3 | h3
   ·exact .inl ⟨h1,h3⟩
   ·exact .inr (.inr ⟨h1,h3⟩)
  ·exact .inr (.inl h)
theorem tK{d:List Fam}(h:aP l)(hp:d.Perm (dropP l f.id ++ [f]))(hs:d.Pairwise (fun a b=>¬ b.id<a.id)):d=er l f:=by
 refine vu ?_ (lY h) (fun x=>by rw[vv,hp.mem_iff])
 have g:(dropP l f.id ++ [f]).Pairwise (fun a b=>a.id≠b.id):=by
  refine List.pairwise_append.2 ⟨(kH h).imp (fun {a b} hab=>by omega),List.pairwise_singleton _ _,fun x hx y hy=>?_⟩
  rw[List.mem_singleton] at hy;subst hy;simpa using (List.mem_filter.1 hx).2
 have c:d.Pairwise (fun a b=>a.id≠b.id):=(hp.pairwise_iff (fun {a b} hab=>fun h=>hab h.symm)).2 g;exact (hs.and c).imp (fun {a b} hab=>by omega)
theorem iK(s:St)(h:e.kind=1):applyP s e=⟨s.clock,if s.next<=e.fam.id then e.fam.id+1 else s.next,er s.fams e.fam⟩:=by
 unfold applyP;rw[if_pos h]
theorem jg(s:St)(h:e.kind=2):applyP s e=⟨s.clock,s.next,dropP s.fams e.id⟩:=by
 unfold applyP;rw[if_neg (by omega),if_pos h]
theorem ia(s:St)(h:e.kind=3):applyP s e=⟨e.time,s.next,s.fams⟩:=by
 unfold applyP;rw[if_neg (by omega),if_neg (by omega)]
structure AD where
 blk:Nat->Option (Nat × E)
 head:Nat->Option (Nat × Int × Int × Nat)
def emptyD:AD:=⟨fun _=>none,fun _=>none⟩
def cm{α:Type}(f:Nat->α)(k:Nat)(v:α):Nat->α:=fun j=>if j=k then v else f j
def aI(f:Fam):E:=⟨1,f,0,0⟩
def slotGo(A:AD)(b s:Nat):Nat->Nat->St->Option St
 |_,0,st=>some st
 |i,r+1,st=>match A.blk (b+i) with
  |some (s',e)=>if s'=s then slotGo A b s (i+1) r (applyP st e) else none
  |none=>none
def slotM(A:AD)(k:Nat):St × Nat:=match A.head k with
 |none=>(⟨0,0,[]⟩,0)
 |some (s,c,nx,n)=>match slotGo A (17+21*k) s 0 n ⟨c,nx,[]⟩ with
  |some st=>(st,s)
  |none=>(⟨0,0,[]⟩,0)
def dp(A:AD)(sv:Nat):Nat->Nat->St->St × Nat
 |k,0,st=>(st,k)
 |k,r+1,st=>match A.blk k with
  |some (s',e)=>if s'=sv then dp A sv (k+1) r (applyP st e) else (st,k)
  |none=>(st,k)
def fP(a b:St × Nat):St × Nat:=if a.2<b.2 then b else a
def jE(A:AD):St × Nat × Nat:=
 ((dp A (fP (fP (⟨0,1,[]⟩,0) (slotM A 0)) (slotM A 1)).2 0 16 (fP (fP (⟨0,1,[]⟩,0) (slotM A 0)) (slotM A 1)).1).1,(fP (fP (⟨0,1,[]⟩,0) (slotM A 0)) (slotM A 1)).2,
  (dp A (fP (fP (⟨0,1,[]⟩,0) (slotM A 0)) (slotM A 1)).2 0 16 (fP (fP (⟨0,1,[]⟩,0) (slotM A 0)) (slotM A 1)).1).2)
structure dy (s:St):Prop where
 ris:aP s.fams
 may:∀f∈s.fams,bP f∧f.id<s.next
 clock:okN s.clock
 next0:1<=s.next
 next1:s.next<=1099511627777
 len:s.fams.length<=20
theorem nW:dy ⟨0,1,[]⟩:=⟨List.Pairwise.nil,fun f h=>(by cases h),(show (0:Int)<=0∧(0:Int)<=1099511627776 from ⟨by decide,by decide⟩),by decide,by decide,by decide⟩
theorem mc{s:St}(h:dy s)(he:may e)(hl:(applyP s e).fams.length<=20):dy (applyP s e):=by
 have b:=eH (e:=e) h.ris;rcases he with ⟨hk,hf,-,-⟩ | ⟨hk,-,hi,-⟩ | ⟨hk,-,-,ht⟩
 ·rw[iK s hk] at b hl ⊢
  have c:=hf.1.1;have g:0<=e.fam.id∧e.fam.id<=1099511627776:=c;refine⟨b,fun f hm=>?_,h.clock,?_,?_,hl⟩
  ·rcases List.mem_append.1 (vv.1 hm) with hm | hm
   ·have:=h.may f (List.mem_filter.1 hm).1
    refine⟨this.1,?_⟩;show f.id<(if s.next<=e.fam.id then e.fam.id+1 else s.next)
    split <;> omega
   ·obtain rfl:=List.mem_singleton.1 hm
    refine⟨hf,?_⟩;show e.fam.id<(if s.next<=e.fam.id then e.fam.id+1 else s.next)
    split <;> omega
  ·show 1<=(if s.next<=e.fam.id then e.fam.id+1 else s.next)
   have:=h.next0;split <;> omega
  ·show (if s.next<=e.fam.id then e.fam.id+1 else s.next)<=1099511627777
   have:=h.next1;split <;> omega
 ·rw[jg s hk] at b hl ⊢
  exact⟨b,fun f hm=>h.may f (List.mem_filter.1 hm).1,h.clock,h.next0,h.next1,hl⟩
 ·rw[ia s hk] at b hl ⊢
  exact⟨b,h.may,ht,h.next0,h.next1,hl⟩
theorem wE(h:∀x∈l,x.id<f.id):er l f=l ++ [f]:=by
 unfold er jf hZ;rw[List.filter_eq_self.2 (fun x hx=>by simpa using h x hx),List.filter_eq_nil_iff.2 (fun x hx=>by have:=h x hx; simp; omega)]
theorem qN(A:AD)(b s:Nat)(c nx:Int):∀(rest pre:List Fam) (i:Nat),(∀(j:Nat) (h:j<rest.length),A.blk (b+(i+j))=some (s,aI rest[j]))->aP (pre ++ rest)->(∀f∈rest,f.id<nx)->slotGo A b s i rest.length ⟨c,nx,pre⟩=some ⟨c,nx,pre ++ rest⟩:=by
 intro rest;induction rest with
 |nil=>intro pre i _ _ _; simp[slotGo]
 |cons f rest ih=>
  intro pre i hb hr hn;have n:=hb 0 (by simp)
  rw[Nat.add_zero] at n;rw[List.length_cons,slotGo,n];simp only[List.getElem_cons_zero,if_true];have k:∀x∈pre,x.id<f.id:=fun x hx=>(List.pairwise_append.1 hr).2.2 x hx f (by simp)
  have m:applyP ⟨c,nx,pre⟩ (aI f)=⟨c,nx,pre ++ [f]⟩:=by
   rw[iK _ rfl];show (⟨c,if nx<=f.id then f.id+1 else nx,er pre f⟩:St)=_
   rw[wE k,if_neg (by have:=hn f (by simp); omega)]
  rw[m,ih (pre ++ [f]) (i+1) (fun j hj=>?_) (by simpa using hr) (fun g hg=>hn g (by simp[hg]))]
  ·simp
  ·have:=hb (j+1) (by simpa using hj)
   rw[show i+1+j=i+(j+1) by omega]
   simpa using this
variable {A A':AD}
theorem pl{b s:Nat}:∀(r i:Nat) (st:St),(∀j,i<=j->j<i+r->A'.blk (b+j)=A.blk (b+j))->slotGo A' b s i r st=slotGo A b s i r st:=by
 intro r;induction r with
 |zero=>intro i st _; rfl
 |succ r ih=>
  intro i st h;rw[slotGo,slotGo,h i (Nat.le_refl _) (by omega)]
  cases A.blk (b+i) with
  |none=>rfl
  |some p=>
   obtain⟨s',e⟩:=p;by_cases hs:s'=s
   ·simp only[hs,if_true]
    exact ih (i+1) _ (fun j h1 h2=>h j (by omega) (by omega))
   ·simp only[hs,if_false]
theorem yL(A:AD)(sv:Nat):∀(es:List E) (k r:Nat) (st:St),es.length<=r->(∀(j:Nat) (h:j<es.length),A.blk (k+j)=some (sv,es[j]))->(es.length<r->∀s e,A.blk (k+es.length)=some (s,e)->s≠sv)->dp A sv k r st=(es.foldl applyP st,k+es.length):=by
 intro es;induction es with
 |nil=>
  intro k r st hr hb hn
  cases r with
  |zero=>rfl
  |succ r=>
   rw[dp];have b:=hn (by simp)
   simp only[List.length_nil,Nat.add_zero] at b
   cases hk:A.blk k with
   |none=>rfl
   |some p=>
    obtain⟨s',e⟩:=p;simp only[if_neg (b s' e hk)];rfl
 |cons e es ih=>
  intro k r st hr hb hn
  cases r with
  |zero=>simp at hr
  |succ r=>
   have b:=hb 0 (by simp)
   rw[Nat.add_zero] at b;rw[dp,b];simp only[List.getElem_cons_zero,if_true];rw[ih (k+1) r (applyP st e) (by simpa using hr) (fun j hj=>?_) (fun hlt s' e' hs=>?_)]
   ·simp only[List.foldl_cons,List.length_cons,Prod.mk.injEq,true_and]; omega
   ·have:=hb (j+1) (by simpa using hj)
    rw[show k+1+j=k+(j+1) by omega]
    simpa using this
   ·refine hn (by simpa using hlt) s' e' ?_
    rw[<- hs];congr 1
    simp only[List.length_cons]; omega
structure Inv (A:AD) (st:St) (sv lg:Nat) (b:St) (es:List E):Prop where
 base:(sv=0∧b=⟨0,1,[]⟩∧(∀k,A.head k=none))∨(0<sv∧slotM A (sv % 2)=(b,sv)∧∀s c nx n,A.head ((sv+1) % 2)=some (s,c,nx,n)->s<sv)
 len:es.length=lg
 low:lg<=16
 log:∀(i:Nat) (h:i<es.length),A.blk i=some (sv,es[i])
 past:∀i,lg<=i->i<16->∀s e,A.blk i=some (s,e)->s<sv
 good:dy st
 made:st=es.foldl applyP b
 blks:∀k s e,A.blk k=some (s,e)->Ev.may e∧s<=sv+1
 heads:∀k s c nx n,A.head k=some (s,c,nx,n)->s<=sv∧okN c∧0<=nx∧nx<=1099511627777∧n<=20
theorem wF:Inv emptyD ⟨0,1,[]⟩ 0 0 ⟨0,1,[]⟩ []:=⟨.inl ⟨rfl,rfl,fun _=>rfl⟩,rfl,by decide,fun i h=>absurd h (Nat.not_lt_zero _),fun i _ _ s e h=>(by cases h),nW,rfl,fun k s e h=>(by cases h),fun k s c nx n h=>(by cases h)⟩
variable {k lg sv:Nat}
theorem yM{m:Nat}(h:∀s c nx n,A.head k=some (s,c,nx,n)->s<m):(slotM A k).2=0∨(slotM A k).2<m:=by
 unfold slotM
 cases hh:A.head k with
 |none=>exact .inl rfl
 |some p=>
  obtain⟨s,c,nx,n⟩:=p;simp only
  cases slotGo A (17+21*k) s 0 n ⟨c,nx,[]⟩ with
  |none=>exact .inl rfl
  |some st=>exact .inr (h s c nx n hh)
variable {b st:St}{es:List E}
theorem yN(h:Inv A st sv lg b es):fP (fP (⟨0,1,[]⟩,0) (slotM A 0)) (slotM A 1)=(b,sv):=by
 rcases h.base with ⟨rfl,rfl,hn⟩ | ⟨h0,h1,h2⟩
 ·have z:∀k,slotM A k=(⟨0,0,[]⟩,0):=fun k=>by unfold slotM; rw[hn k]
  rw[z,z]; rfl
 ·have c:=yM h2
  rcases Nat.mod_two_eq_zero_or_one sv with hm | hm
  ·rw[hm] at h1
   rw[show (sv+1) % 2=1 by omega] at c
   rw[h1];unfold fP;simp only[h0,if_true];rw[if_neg (by omega)]
  ·rw[hm] at h1
   rw[show (sv+1) % 2=0 by omega] at c
   rw[h1];unfold fP;simp only;rw[if_pos];split <;> first | exact h0 | omega
theorem yO(h:Inv A st sv lg b es):jE A=(st,sv,lg):=by
 unfold jE;rw[yN h];simp only;rw[yL A sv es 0 16 b (by rw[h.len]; exact h.low) (fun j hj=>by rw[Nat.zero_add]; exact h.log j hj) (fun hlt s e hs=>?_)]
 ·rw[<- h.made,Nat.zero_add,h.len]
 ·rw[Nat.zero_add,h.len] at hs
  have:=h.past lg (Nat.le_refl _) (by rw[<- h.len]; exact hlt) s e hs
  omega
theorem kI(hh:A'.head k=A.head k)(h:∀s c nx n,A.head k=some (s,c,nx,n)->n<=20)(hb:∀j,j<20->A'.blk (17+21*k+j)=A.blk (17+21*k+j)):slotM A' k=slotM A k:=by
 unfold slotM;rw[hh]
 cases hh2:A.head k with
 |none=>rfl
 |some p=>
  obtain⟨s,c,nx,n⟩:=p;simp only;rw[pl n 0 _ (fun j _ hj=>hb j (by have:=h s c nx n hh2; omega))]
theorem vx(h:Inv A st sv lg b es)(hlg:lg<16)(he:Ev.may e)(hl:(applyP st e).fams.length<=20):
 Inv ⟨cm A.blk lg (some (sv,e)),A.head⟩ (applyP st e) sv (lg+1) b (es ++ [e]):=by
 have m:∀k,k<2->slotM ⟨cm A.blk lg (some (sv,e)),A.head⟩ k=slotM A k:=fun k hk=>kI rfl (fun s c nx n hs=>(h.heads k s c nx n hs).2.2.2.2) (fun j hj=>by show cm A.blk lg _ _=_; unfold cm; rw[if_neg (by omega)])
 refine⟨?_,by rw[List.length_append,h.len]; rfl,hlg,?_,?_,mc h.good he hl,(by rw[List.foldl_append,<- h.made]; rfl),?_,h.heads⟩
 ·rcases h.base with h1 | ⟨h0,h1,h2⟩
  ·exact .inl h1
  ·exact .inr ⟨h0,by rw[m _ (Nat.mod_lt _ (by decide))]; exact h1,h2⟩
 ·intro i hi
  show cm A.blk lg (some (sv,e)) i=_
  unfold cm;by_cases hil:i=lg
  ·subst hil
   rw[if_pos rfl,List.getElem_append_right (by rw[h.len]; exact Fa _)]
   simp
  ·rw[List.length_append,h.len] at hi
   have g:i<es.length:=by rw[h.len]; simp at hi; omega
   rw[if_neg hil,List.getElem_append_left g];exact h.log i g
 ·intro i h1 h2 s e' hs
  have f:cm A.blk lg (some (sv,e)) i=some (s,e'):=hs;unfold cm at f;rw[if_neg (by omega)] at f
  exact h.past i (by omega) h2 s e' f
 ·intro k s e' hs
  have f:cm A.blk lg (some (sv,e)) k=some (s,e'):=hs;unfold cm at f;split at f
  ·obtain⟨rfl,rfl⟩:=Prod.mk.inj (Option.some.inj f)
   exact⟨he,by omega⟩
  ·exact h.blks k s e' f
theorem yP(h:Inv A st sv lg b es)(i:Nat)(hi:i<20)(he:Ev.may e):
 Inv ⟨cm A.blk (17+21*((sv+1) % 2)+i) (some (sv+1,e)),A.head⟩ st sv lg b es:=by
 have hm:(sv % 2=0∧(sv+1) % 2=1)∨(sv % 2=1∧(sv+1) % 2=0):=by omega
 have g:∀j,j<16->cm A.blk (17+21*((sv+1) % 2)+i) (some (sv+1,e)) j=A.blk j:=fun j hj=>by unfold cm; rw[if_neg (by omega)]
 refine⟨?_,h.len,h.low,fun j hj=>(g j (by rw[h.len] at hj; have:=h.low; omega)).trans (h.log j hj),fun j h1 h2 s e' hs=>h.past j h1 h2 s e' ((g j h2).symm.trans hs),h.good,h.made,?_,h.heads⟩
 ·rcases h.base with h1 | ⟨h0,h1,h2⟩
  ·exact .inl h1
  ·refine .inr ⟨h0,?_,h2⟩
   rw[kI (A:=A) (A':=⟨cm A.blk (17+21*((sv+1) % 2)+i) (some (sv+1,e)),A.head⟩) rfl (fun s c nx n hs=>(h.heads _ s c nx n hs).2.2.2.2) (fun j hj=>?_)]
   ·exact h1
   ·show cm A.blk _ _ _=_
    unfold cm;rw[if_neg (by omega)]
 ·intro k s e' hs
  have f:cm A.blk (17+21*((sv+1) % 2)+i) (some (sv+1,e)) k=some (s,e'):=hs;unfold cm at f;split at f
  ·obtain⟨rfl,rfl⟩:=Prod.mk.inj (Option.some.inj f)
   exact⟨he,by omega⟩
  ·exact h.blks k s e' f
theorem yQ(h:Inv A st sv lg b es)(hp:∀(j:Nat) (hj:j<st.fams.length),A.blk (17+21*((sv+1) % 2)+j)=some (sv+1,aI st.fams[j])):
 Inv ⟨A.blk,cm A.head ((sv+1) % 2) (some (sv+1,st.clock,st.next,st.fams.length))⟩ st (sv+1) 0 st []:=by
 have hm:(sv % 2=0∧(sv+1) % 2=1)∨(sv % 2=1∧(sv+1) % 2=0):=by omega
 refine⟨.inr ⟨by omega,?_,?_⟩,rfl,by decide,fun i hi=>absurd hi (Nat.not_lt_zero _),?_,h.good,rfl,fun k s e hs=>⟨(h.blks k s e hs).1,by have:=(h.blks k s e hs).2; omega⟩,?_⟩
 ·unfold slotM
  have m:cm A.head ((sv+1) % 2) (some (sv+1,st.clock,st.next,st.fams.length)) ((sv+1) % 2)=some (sv+1,st.clock,st.next,st.fams.length):=by unfold cm; rw[if_pos rfl]
  simp only[m];rw[qN ⟨A.blk,_⟩ _ (sv+1) st.clock st.next st.fams [] 0 (fun j hj=>by simpa using hp j hj) (by simpa using h.good.ris) (fun f hf=>(h.good.may f hf).2)]
  rfl
 ·intro s c nx n hs
  have g:cm A.head ((sv+1) % 2) (some (sv+1,st.clock,st.next,st.fams.length)) ((sv+1+1) % 2)=some (s,c,nx,n):=hs;unfold cm at g;rw[if_neg (by omega)] at g
  have:=(h.heads _ s c nx n g).1;omega
 ·intro i _ hi s e hs
  have m:A.blk i=some (s,e):=hs;by_cases hl:i<lg
  ·have:=h.log i (by rw[h.len]; exact hl)
   rw[m] at this
   have:=(Prod.mk.inj (Option.some.inj this)).1;omega
  ·have:=h.past i (by omega) hi s e m
   omega
 ·intro k s c nx n hs
  have g:cm A.head ((sv+1) % 2) (some (sv+1,st.clock,st.next,st.fams.length)) k=some (s,c,nx,n):=hs;unfold cm at g;split at g
  ·simp only[Option.some.injEq,Prod.mk.injEq] at g
   obtain⟨rfl,rfl,rfl,rfl⟩:=g;exact⟨Fa _,h.good.clock,by have:=h.good.next0; omega,h.good.next1,h.good.len⟩
  ·have:=h.heads k s c nx n g
   exact⟨by omega,this.2⟩
theorem jF(h:bP f):Ev.may (aI f):=.inl ⟨rfl,h,rfl,rfl⟩
end Go.Proofs.YtlailakofhenkabGreatDoor.Ev
