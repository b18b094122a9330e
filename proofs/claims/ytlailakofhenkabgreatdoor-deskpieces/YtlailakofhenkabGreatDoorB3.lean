import Derived.Test.YtlailakofhenkabGreatDoorB1
import Derived.Lib.ConvBytes
import Derived.BigQuiet
namespace Go.Proofs.YtlailakofhenkabGreatDoor
open Go Go.RowKit
structure RowAt (B:Nat) (w:World) (g c n:Nat) (cs:List Value):Prop where
 new:B≤g
 lt:g<w.heap.size
 len:cs.length=n
 le:n≤c
 max:c≤maxLen
 holds:∀ j u,cs[j]?=some u→w.cell? ⟨g,j,none⟩=some u
 there:∀ j,j<c→(w.cell? ⟨g,j,none⟩).isSome=true∧w.frozen? ⟨g,j,none⟩=false
theorem RowAt.block {B:Nat} {w w':World} {g c n:Nat} {cs:List Value} (h:RowAt B w g c n cs) (hs:w.heap.size≤w'.heap.size) (hb:w'.heap[g]?=w.heap[g]?):RowAt B w' g c n cs:=
 ⟨h.new,Nat.lt_of_lt_of_le h.lt hs,h.len,h.le,h.max,fun j u hj=>(World.cell?_of_block (a:=⟨g,j,none⟩) hb).trans (h.holds j u hj),
  fun j hj=>⟨by rw [World.cell?_of_block (a:=⟨g,j,none⟩) hb]; exact (h.there j hj).1,(World.frozen?_of_block (a:=⟨g,j,none⟩) hb).trans (h.there j hj).2⟩⟩
theorem RowAt.below {B B':Nat} {w w':World} {g c n:Nat} {cs:List Value} (h:RowAt B w g c n cs) (hb:Below B' w w') (hg:g<B'):RowAt B w' g c n cs:=h.block hb.size (hb.block g hg)
theorem RowAt.alloc {B:Nat} {w:World} {g c n:Nat} {cs:List Value} (h:RowAt B w g c n cs) (o:Obj):RowAt B (w.alloc o) g c n cs:=h.block (by simp) (Below.heap_alloc _ _ _ h.lt)
theorem RowAt.drew {B:Nat} {w:World} {g c n:Nat} {cs:List Value} (h:RowAt B w g c n cs):RowAt B w.drew g c n cs:=h.block (Nat.le_refl _) rfl
theorem wpList_append_row {P:Program} (w:World) {ops:Array Oper} {rest:List Oper} {o:Oper} {a:Act} {Q:Exit→Act→World→Prop}
 (hg:o.guard=none) (s x:Operand) (t:TypeId) (hop:o.op=Op.call { callee:=Callee.builtin Builtin.append,args:=#[s,x],argTypes:=#[t,t] })
 (e:TypeId) (i:TypeInfo) (z:Value) (bytes:Nat) (h1:P.underlying t=some (.slice e)) (h2:P.info? e=some i) (h3:i.zero=some z) (h4:i.size=1) (h5:i.bytes=bytes) (h6:z.cells.size=1)
 (B g n c:Nat) (cs:List Value) (hs:a.eval s=.slice (some ⟨g,0,none⟩) n c) (hrow:RowAt B w g c n cs)
 (ad:Addr) (c':Nat) (u:Value) (hx:a.eval x=.slice (some ad) 1 c') (hc:w.cell? ad=some u) (h1c:u.oneCell'=true)
 (b1:n+1≤maxLen) (b2:(n+1)*bytes≤140737488355328)
 (hK:∀ g' cc w',RowAt B w' g' cc (n+1) (cs ++ [u])→Below B w w'→wpList P ops Q rest (a.put o.dst (.slice (some ⟨g',0,none⟩) (n+1) cc)) w') :
 wpList P ops Q (o::rest) a w:=by
 have hnews:∀ j v,[u][j]?=some v→w.cell? (ad.add j)=some v:=by
  intro j v hj;match j,hj with
  |0,hj=>simp at hj; subst hj; simpa [Addr.add] using hc
  |j+1,hj=>simp at hj
 refine wpList_append_arg w hg s x t hop e i z 1 bytes h1 h2 h3 h4 h5 h6 (by decide) g 0 n c cs hs (by rw [hrow.len]; simp) (fun j v hj=>by rw [Nat.zero_add]; exact hrow.holds j v hj) ad 1 c' [u] hx (by simp) hnews (by intro v hv; simp at hv; subst hv; exact h1c) (fun hr j hj=>?_) b1 b2 (fun hr=>?_) (fun hgr v' w' hown hgb=>?_)
 ·simp at hj; subst hj
  simpa using hrow.there n (by omega)
 ·have hw:w.setCells g (0+n*1) [u]=w.setCell ⟨g,n,none⟩ u:=by simp [World.setCells]
  rw [hw];have hth:=hrow.there n (by omega)
  obtain ⟨old,hold⟩:=Option.isSome_iff_exists.1 hth.1;refine hK g c _ ⟨hrow.new,by simp [World.setCell]; exact hrow.lt,by simp [hrow.len],by omega,hrow.max,fun j v hj=>?_,fun j hj=>?_⟩ ((Below.refl _ _).setCell (p:=⟨g,n,none⟩) hrow.new _)
  ·by_cases hjn:j<n
   ·rw [List.getElem?_append_left (by rw [hrow.len]; exact hjn)] at hj
    have:=hrow.holds j v hj;have hne:j≠n:=by omega
    go_simp
   ·have hj':j=n:=by
     have:=(List.getElem?_eq_some_iff.1 hj).1;simp [hrow.len] at this; omega
    subst hj';rw [List.getElem?_append_right (by rw [hrow.len]; omega),hrow.len] at hj
    simp at hj; subst hj
    go_simp
  ·have h:=hrow.there j hj
   obtain ⟨v,hv⟩:=Option.isSome_iff_exists.1 h.1;refine ⟨?_,?_⟩
   ·by_cases hjn:j=n
    ·subst hjn; go_simp
    ·go_simp
   ·simpa using h.2
 ·rcases hown.2 with ⟨hv,h0⟩ | ⟨g',cc,cur,hv,hge,hh,hle,hmx,hsz,htk⟩
  ·omega
  ·subst hv
   have hB:B≤w.heap.size:=Nat.le_trans hrow.new (Nat.le_of_lt hrow.lt)
   have hlt:g'<w'.heap.size:=by
    rcases Nat.lt_or_ge g' w'.heap.size with h | h
    ·exact h
    ·rw [Array.getElem?_eq_none h] at hh; cases hh
   refine hK g' cc w' ⟨Nat.le_trans hB hge,hlt,by simp [hrow.len],hle,hmx,fun j v hj=>?_,fun j hj=>?_⟩ ((Below.refl _ _).grown hgb hB (fun k hk=>by cases hk))
   ·have hj2:=hown.cells (g:=g') rfl j v hj
    rw [Addr.add_lit,Nat.zero_add] at hj2; exact hj2
   ·have hjc:j<cur.size:=by omega
    simp [World.cell?,World.frozen?,hh,hjc]
def Words (B:Nat) (w:World) (v:Value) (xs:List ByteArray):Prop:=
 (v=.slice none 0 0∧xs= [])∨∃ g c,v=.slice (some ⟨g,0,none⟩) xs.length c∧RowAt B w g c xs.length (xs.map Value.string)
theorem Words.below {B B':Nat} {w w':World} {v:Value} {xs:List ByteArray} (h:Words B w v xs) (hb:Below B' w w') (hB:w.heap.size≤B'):Words B w' v xs:=by
 rcases h with ⟨rfl,rfl⟩ | ⟨g,c,rfl,hr⟩
 ·exact .inl ⟨rfl,rfl⟩
 ·exact .inr ⟨g,c,rfl,hr.below hb (Nat.lt_of_lt_of_le hr.lt hB)⟩
theorem Words.mono {B B':Nat} {w:World} {v:Value} {xs:List ByteArray} (h:Words B w v xs) (hB:B'≤B):Words B' w v xs:=by
 rcases h with ⟨rfl,rfl⟩ | ⟨g,c,rfl,hr⟩
 ·exact .inl ⟨rfl,rfl⟩
 ·exact .inr ⟨g,c,rfl,⟨Nat.le_trans hB hr.new,hr.lt,hr.len,hr.le,hr.max,hr.holds,hr.there⟩⟩
theorem ins_get {α:Type} (cs:List α) (i:Nat) (hi:i≤cs.length) (u:α) (j:Nat):(cs.take i ++ u::cs.drop i)[j]?=if j<i then cs[j]? else if j=i then some u else cs[j - 1]?:=by
 have hl:(cs.take i).length=i:=by rw [List.length_take]; omega
 by_cases h1:j<i
 ·rw [if_pos h1,List.getElem?_append_left (by omega),List.getElem?_take,if_pos h1]
 ·rw [if_neg h1,List.getElem?_append_right (by omega),hl]
  by_cases h2:j=i
  ·subst h2; simp
  ·rw [if_neg h2]
   obtain ⟨d,rfl⟩:∃ d,j=i+(d+1):=⟨j - i - 1,by omega⟩
   rw [show i+(d+1) - i=d+1 by omega,List.getElem?_cons_succ,List.getElem?_drop]
   congr 1
theorem ins_len {α:Type} (cs:List α) (i:Nat) (hi:i≤cs.length) (u:α):(cs.take i ++ u::cs.drop i).length=cs.length+1:=by
 rw [List.length_append,List.length_take,List.length_cons,List.length_drop]; omega
theorem below_setCellsW {B g:Nat} (hg:B≤g):∀ (vs:List Value) (o:Nat) (w:World),Below B w (w.setCells g o vs)
 |[],_,w=>Below.refl _ w
 |v::vs,o,w=>((Below.refl B w).setCell (p:=⟨g,o,none⟩) hg v).trans (below_setCellsW hg vs (o+1) _)
theorem RowAt.setCells {B:Nat} {w:World} {g c n:Nat} {cs cs':List Value} (h:RowAt B w g c n cs) (o:Nat) (vs:List Value) (ho:o+vs.length≤c) (hc:cs'.length≤c)
 (hh:∀ j u,cs'[j]?=some u→(o≤j∧j<o+vs.length→vs[j - o]?=some u)∧(¬ (o≤j∧j<o+vs.length)→w.cell? ⟨g,j,none⟩=some u)):RowAt B (w.setCells g o vs) g c cs'.length cs':=by
 have hthere:∀ j,j<vs.length→(w.cell? ⟨g,o+j,none⟩).isSome=true:=fun j hj=>(h.there (o+j) (by omega)).1
 refine ⟨h.new,?_,rfl,hc,h.max,fun j u hj=>?_,fun j hj=>⟨?_,?_⟩⟩
 ·have hb:=below_setCellsW (B:=0) (Nat.zero_le g) vs o w
  exact Nat.lt_of_lt_of_le h.lt hb.size
 ·by_cases hin:o≤j∧j<o+vs.length
  ·obtain ⟨d,rfl⟩:∃ d,j=o+d:=⟨j - o,by omega⟩
   have hv:=(hh _ u hj).1 hin;rw [show o+d - o=d by omega] at hv
   have hd:d<vs.length:=(List.getElem?_eq_some_iff.1 hv).1;rw [World.cell?_setCells_in g vs o w hthere d hd,← hv,List.getElem?_eq_getElem hd]
  ·rw [World.cell?_setCells_out g vs o w ⟨g,j,none⟩ (fun _ _=>by show j<o∨o+vs.length≤j; omega)]
   exact (hh _ u hj).2 hin
 ·by_cases hin:o≤j∧j<o+vs.length
  ·obtain ⟨d,rfl⟩:∃ d,j=o+d:=⟨j - o,by omega⟩
   rw [World.cell?_setCells_in g vs o w hthere d (by omega)]
   rfl
  ·rw [World.cell?_setCells_out g vs o w ⟨g,j,none⟩ (fun _ _=>by show j<o∨o+vs.length≤j; omega)]
   exact (h.there j hj).1
 ·rw [World.frozen?_setCells]
  exact (h.there j hj).2
theorem rowAt_new {B:Nat} {w:World} (hB:B≤w.heap.size) (cs:List Value) (n:Nat) (hn:cs.length=n) (z:Value) (G:Nat) (t:TypeId) (hm:G≤maxLen) (hl:n≤G):RowAt B (w.alloc (.cells (cs.toArray ++ Builtin.zeroCells #[z] (G - n)) t)) w.heap.size G n cs:=by
 have hs:(cs.toArray ++ Builtin.zeroCells #[z] (G - n)).size=G:=by rw [Array.size_append,size_zeroCells]; simp; omega
 refine ⟨hB,by simp,hn,by omega,hm,fun j u hj=>?_,fun j hj=>⟨?_,World.frozen?_alloc_at _ _ _ _ (by simp)⟩⟩
 ·have hl:=(List.getElem?_eq_some_iff.1 hj).1
  rw [World.cell?_alloc_at _ _ _ _ (by simp),Array.getElem?_append_left (by simpa using hl)]
  simpa using hj
 ·rw [World.cell?_alloc_at _ _ _ _ (by simp),Array.getElem?_eq_getElem (by rw [hs]; exact hj)]
  rfl
end Go.Proofs.YtlailakofhenkabGreatDoor
