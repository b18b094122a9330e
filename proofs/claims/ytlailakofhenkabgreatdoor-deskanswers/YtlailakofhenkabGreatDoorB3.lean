import Derived.Test.YtlailakofhenkabGreatDoorB2
import Derived.Lib.ConvBytes
import Derived.BigQuiet
namespace Go.Proofs.YtlailakofhenkabGreatDoor.Ev
open Go.Lib Tok Sc
structure yR (τ:List UInt8->List UInt8):Prop where
 len:∀l,(τ l).length=16
 no:∀l,(32:UInt8)∉τ l
def sealL(τ:List UInt8->List UInt8)(t:List UInt8):List UInt8:=τ t ++ 32::t
def evL(s:Nat)(e:E):List UInt8:=itoa s ++ 32::line e
def gC(s:Nat)(c nx:Int)(n:Nat):List Word:= [itoa s,itoa c,itoa nx,itoa n]
def hdL(s:Nat)(c nx:Int)(n:Nat):List UInt8:=join (gC s c nx n) [32]
def Bk:Option (Nat × E)->List UInt8
 |none=> []
 |some (s,e)=>evL s e
def pm:Option (Nat × Int × Int × Nat)->List UInt8
 |none=> []
 |some (s,c,nx,n)=>hdL s c nx n
def inBlock(τ:List UInt8->List UInt8)(t:List UInt8):List UInt8:=if t= [] then [] else sealL τ t
def eT(A:AD)(k:Nat):List UInt8:=if k=16 then pm (A.head 0) else if k=37 then pm (A.head 1) else Bk (A.blk k)
def j4(τ:List UInt8->List UInt8)(F:Int->ByteArray)(A:AD):Prop:=∀k:Nat,k<90->F k=(⟨(inBlock τ (eT A k)).toArray⟩:ByteArray)
theorem CW(s:Nat)(e:E):evL s e≠ []:=by unfold evL; simp
theorem CX(s:Nat)(c nx:Int)(n:Nat):hdL s c nx n≠ []:=by
 unfold hdL gC;rw[bV]; simp
theorem tL(s:Nat)(c nx:Int)(n:Nat):hdL s c nx n=itoa s ++ 32::(itoa c ++ 32::(itoa nx ++ 32::itoa n)):=by
 unfold hdL gC;rw[bV,bV,bV];simp[join]
variable {A:AD}
theorem me{sl:Nat}(hs:sl<2):eT A (16+21*sl)=pm (A.head sl):=by
 unfold eT;rcases (show sl=0∨sl=1 by omega) with rfl | rfl <;> simp
theorem wG(τ:List UInt8->List UInt8):j4 τ (fun _=>⟨#[]⟩) emptyD:=fun k _=>by
 have:eT emptyD k= []:=by unfold eT emptyD; simp[pm,Bk]
 rw[this]; unfold inBlock; rw[if_pos rfl]
variable {F F':Int->ByteArray}{τ:List UInt8->List UInt8}
theorem pn(h:j4 τ F A)(k:Nat)(hk:k≠16∧k≠37)(s:Nat)(e:E)(h1:F' k=(⟨(sealL τ (evL s e)).toArray⟩:ByteArray))(h2:∀j:Int,j≠k->F' j=F j):j4 τ F' ⟨cm A.blk k (some (s,e)),A.head⟩:=fun j hj=>by
 by_cases hjk:j=k
 ·subst hjk
  rw[h1]
  have:eT ⟨cm A.blk j (some (s,e)),A.head⟩ j=evL s e:=by unfold eT cm; rw[if_neg hk.1,if_neg hk.2]; simp[Bk]
  rw[this]; unfold inBlock; rw[if_neg (CW s e)]
 ·rw[h2 j (by omega),h j hj]
  have:eT ⟨cm A.blk k (some (s,e)),A.head⟩ j=eT A j:=by unfold eT cm; simp only[if_neg hjk]
  rw[this]
theorem yS(h:j4 τ F A)(sl:Nat)(hs:sl<2)(s:Nat)(c nx:Int)(n:Nat)(h1:F' ((16+21*sl:Nat):Int)=(⟨(sealL τ (hdL s c nx n)).toArray⟩:ByteArray))(h2:∀j:Int,j≠((16+21*sl:Nat):Int)->F' j=F j):j4 τ F' ⟨A.blk,cm A.head sl (some (s,c,nx,n))⟩:=fun j hj=>by
 by_cases hjk:j=16+21*sl
 ·subst hjk
  rw[h1]
  have:eT ⟨A.blk,cm A.head sl (some (s,c,nx,n))⟩ (16+21*sl)=hdL s c nx n:=by rw[me hs]; unfold cm; simp[pm]
  rw[this]; unfold inBlock; rw[if_neg (CX s c nx n)]
 ·rw[h2 j (by omega),h j hj]
  have:eT ⟨A.blk,cm A.head sl (some (s,c,nx,n))⟩ j=eT A j:=by
   unfold eT cm;rcases (show sl=0∨sl=1 by omega) with rfl | rfl
   ·have b:j≠16:=by omega
    simp[b]
   ·have f:j≠37:=by omega
    simp[f]
  rw[this]
theorem mf(h:yR τ)(t:List UInt8):(sealL τ t).length=t.length+17:=by
 unfold sealL;rw[List.length_append,h.len,List.length_cons]; omega
theorem yT(h:yR τ)(t:List UInt8):cut (sealL τ t) [32]=(τ t,t,true):=gV t (h.no t)
variable {n s:Nat}
theorem yU(hs:okN s)(e:E):cut (evL s e) [32]=(itoa s,line e,true):=gV (line e) (gB hs (by decide))
theorem lx(hs:okN s){e:E}(he:Ev.may e):(evL s e).length<=194:=by
 have h1:=ar hs;have h2:=line_len he;unfold evL;rw[List.length_append,List.length_cons]; omega
variable {c nx:Int}
theorem DK(h1:0<=c)(h2:0<=nx):∀y∈gC s c nx n,(32:UInt8)∉y:=by
 have b:∀ {m:Int},0<=m->(32:UInt8)∉itoa m:=fun {m} hm hx=>by
  rw[fN hm] at hx
  have:=gw _ _ hx;simp at this
 intro y hy;unfold gC at hy;simp only[List.mem_cons,List.not_mem_nil,or_false] at hy;rcases hy with rfl | rfl | rfl | rfl
 ·exact b (by omega)
 ·exact b h1
 ·exact b h2
 ·exact b (by omega)
theorem yV(h1:0<=c)(h2:0<=nx):parts 32 (hdL s c nx n)=gC s c nx n:=jd _ _ (DK h1 h2)
theorem Bl(h0:okN s)(h1:okN c)(h2:okN (nx - 1))(h3:n<=20):(hdL s c nx n).length<=55:=by
 have d1:=ar h0;have d2:=ar h1;have d3:=ar (n:=(n:Int)) ⟨by omega,by omega⟩
 have d4:(itoa nx).length<=13:=by
  by_cases hx:nx<=1099511627776
  ·exact ar ⟨by have:=h2.1; omega,hx⟩
  ·obtain rfl:nx=1099511627777:=by have:=h2.2; omega
   decide +kernel
 rw[tL];simp only[List.length_append,List.length_cons];omega
end Go.Proofs.YtlailakofhenkabGreatDoor.Ev
namespace Go.Proofs.YtlailakofhenkabGreatDoor
open Go Go.RowKit
structure aN (B:Nat) (w:World) (g c n:Nat) (cs:List Value):Prop where
 new:B<=g
 lt:g<w.heap.size
 len:cs.length=n
 le:n<=c
 max:c<=maxLen
 holds:∀j u,cs[j]?=some u->w.cell? ⟨g,j,none⟩=some u
 there:∀j,j<c->(w.cell? ⟨g,j,none⟩).isSome=true∧w.frozen? ⟨g,j,none⟩=false
variable {B B' c g n:Nat}{cs:List Value}{w w':World}
theorem aN.block(h:aN B w g c n cs)(hs:w.heap.size<=w'.heap.size)(hb:w'.heap[g]?=w.heap[g]?):aN B w' g c n cs:=
 ⟨h.new,Fd h.lt hs,h.len,h.le,h.max,fun j u hj=>(World.cell?_of_block (a:=(a_ g j)) hb).trans (h.holds j u hj),
  fun j hj=>⟨by rw[World.cell?_of_block (a:=(a_ g j)) hb]; exact (h.there j hj).1,(World.frozen?_of_block (a:=(a_ g j)) hb).trans (h.there j hj).2⟩⟩
theorem aN.below(h:aN B w g c n cs)(hb:Below B' w w')(hg:g<B'):aN B w' g c n cs:=h.block hb.size (hb.block g hg)
theorem aN.alloc{B:Nat}{w:World}{g c n:Nat}{cs:List Value}(h:aN B w g c n cs)(o:Obj):aN B (w.alloc o) g c n cs:=h.block (by simp) (Below.heap_alloc _ _ _ h.lt)
theorem aN.drew{B:Nat}{w:World}{g c n:Nat}{cs:List Value}(h:aN B w g c n cs):aN B w.drew g c n cs:=h.block (Fa _) rfl
theorem aN.drewN{B:Nat}{w:World}{g c n:Nat}{cs:List Value}(h:aN B w g c n cs)(k:Nat):aN B (w.drewN k) g c n cs:=h.block (Fa _) rfl
theorem aN.setCell{B:Nat}{w:World}{g c n:Nat}{cs:List Value}(h:aN B w g c n cs){a:Addr}(ha:a.block≠g)(u:Value):aN B (w.setCell a u) g c n cs:=
 h.block (by simp[World.setCell]) (Below.heap_setCell _ _ _ _ (Ne.symm ha))
theorem dK{P:Program}(w:World){ops:Array Oper}{rest:List Oper}{o:Oper}{a:Act}{Q:Exit->Act->World->Prop}(hg:o.guard=none)(s x:Operand)(t:TypeId)(hop:o.op=Op.call { callee:=Callee.builtin Builtin.append,args:=#[s,x],argTypes:=#[t,t] })(e:TypeId)(i:TypeInfo)(z:Value)(bytes:Nat)(h1:P.underlying t=some (.slice e))(h2:P.info? e=some i)(h3:i.zero=some z)(h4:i.size=1)(h5:i.bytes=bytes)(h6:z.cells.size=1)(B g n c:Nat)(cs:List Value)(hs:a.eval s=.slice (some ⟨g,0,none⟩) n c)(hrow:aN B w g c n cs)(ad:Addr)(c':Nat)(u:Value)(hx:a.eval x=.slice (some ad) 1 c')(hc:w.cell? ad=some u)(h1c:u.oneCell'=true)(b1:n+1<=maxLen)(b2:(n+1)*bytes<=140737488355328)(hK:∀g' cc w',aN B w' g' cc (n+1) (cs ++ [u])->Below B w w'->wpList P ops Q rest (a.put o.dst (.slice (some ⟨g',0,none⟩) (n+1) cc)) w'):
 wpList P ops Q (o::rest) a w:=by
 have b:∀j v,[u][j]?=some v->w.cell? (ad.add j)=some v:=by
  intro j v hj;match j,hj with
  |0,hj=>simp at hj; subst hj; simpa[Addr.add] using hc
  |j+1,hj=>simp at hj
 refine wpList_append_arg w hg s x t hop e i z 1 bytes h1 h2 h3 h4 h5 h6 (by decide) g 0 n c cs hs (by rw[hrow.len]; simp) (fun j v hj=>by rw[Nat.zero_add]; exact hrow.holds j v hj) ad 1 c' [u] hx (by simp) b (by intro v hv; simp at hv; subst hv; exact h1c) (fun hr j hj=>?_) b1 b2 (fun hr=>?_) (fun hgr v' w' hown hgb=>?_)
 ·simp at hj; subst hj
  simpa using hrow.there n (by omega)
 ·have D:w.setCells g (0+n*1) [u]=w.setCell ⟨g,n,none⟩ u:=by simp[World.setCells]
  rw[D];have m:=hrow.there n (by omega)
  obtain⟨old,hold⟩:=Option.isSome_iff_exists.1 m.1;refine hK g c _ ⟨hrow.new,by simp[World.setCell]; exact hrow.lt,by simp[hrow.len],by omega,hrow.max,fun j v hj=>?_,fun j hj=>?_⟩ ((Below.refl _ _).setCell (p:=⟨g,n,none⟩) hrow.new _)
  ·by_cases hjn:j<n
   ·rw[List.getElem?_append_left (by rw[hrow.len]; exact hjn)] at hj
    have:=hrow.holds j v hj;have E:j≠n:=by omega
    go_simp
   ·have q:j=n:=by
     have:=(List.getElem?_eq_some_iff.1 hj).1;simp[hrow.len] at this; omega
    subst q;rw[List.getElem?_append_right (by rw[hrow.len]; omega),hrow.len] at hj
    simp at hj; subst hj
    go_simp
  ·have h:=hrow.there j hj
   obtain⟨v,hv⟩:=Option.isSome_iff_exists.1 h.1;refine⟨?_,?_⟩
   ·by_cases hjn:j=n
    ·subst hjn; go_simp
    ·go_simp
   ·simpa using h.2
 ·rcases hown.2 with ⟨hv,h0⟩ | ⟨g',cc,cur,hv,hge,hh,hle,hmx,hsz,htk⟩
  ·omega
  ·subst hv
   have C:B<=w.heap.size:=Fe hrow.new (Fx hrow.lt)
   have r:g'<w'.heap.size:=by
    rcases FF g' w'.heap.size with h | h
    ·exact h
    ·rw[Array.getElem?_eq_none h] at hh; cases hh
   refine hK g' cc w' ⟨Nat.le_trans C hge,r,by simp[hrow.len],hle,hmx,fun j v hj=>?_,fun j hj=>?_⟩ ((Below.refl _ _).grown hgb C (fun k hk=>by cases hk))
   ·have f:=hown.cells (g:=g') rfl j v hj
    rw[Addr.add_lit,Nat.zero_add] at f; exact f
   ·have A:j<cur.size:=by omega
    simp[World.cell?,World.frozen?,hh,A]
def aw(B:Nat)(w:World)(v:Value)(xs:List ByteArray):Prop:=
 (v=.slice none 0 0∧xs= [])∨∃g c,v=.slice (some ⟨g,0,none⟩) xs.length c∧aN B w g c xs.length (xs.map Value.string)
theorem aw.below{B B':Nat}{w w':World}{v:Value}{xs:List ByteArray}(h:aw B w v xs)(hb:Below B' w w')(hB:w.heap.size<=B'):aw B w' v xs:=by
 rcases h with ⟨rfl,rfl⟩ | ⟨g,c,rfl,hr⟩
 ·exact .inl ⟨rfl,rfl⟩
 ·exact .inr ⟨g,c,rfl,hr.below hb (Fd hr.lt hB)⟩
theorem aw.mono{v:Value}{xs:List ByteArray}(h:aw B w v xs)(hB:B'<=B):aw B' w v xs:=by
 rcases h with ⟨rfl,rfl⟩ | ⟨g,c,rfl,hr⟩
 ·exact .inl ⟨rfl,rfl⟩
 ·exact .inr ⟨g,c,rfl,⟨Fe hB hr.new,hr.lt,hr.len,hr.le,hr.max,hr.holds,hr.there⟩⟩
theorem po{α:Type}(cs:List α)(i:Nat)(hi:i<=cs.length)(u:α)(j:Nat):(cs.take i ++ u::cs.drop i)[j]?=if j<i then cs[j]? else if j=i then some u else cs[j - 1]?:=by
 have b:(cs.take i).length=i:=by rw[List.length_take]; omega
 by_cases h1:j<i
 ·rw[if_pos h1,List.getElem?_append_left (by omega),List.getElem?_take,if_pos h1]
 ·rw[if_neg h1,List.getElem?_append_right (by omega),b]
  by_cases h2:j=i
  ·subst h2; simp
  ·rw[if_neg h2]
   obtain⟨d,rfl⟩:∃d,j=i+(d+1):=⟨j - i - 1,by omega⟩
   rw[show i+(d+1) - i=d+1 by omega,List.getElem?_cons_succ,List.getElem?_drop]
   congr 1
theorem pp{α:Type}(cs:List α)(i:Nat)(hi:i<=cs.length)(u:α):(cs.take i ++ u::cs.drop i).length=cs.length+1:=by
 rw[List.length_append,List.length_take,List.length_cons,List.length_drop]; omega
theorem aa{B g:Nat}(hg:B<=g):∀(vs:List Value) (o:Nat) (w:World),Below B w (w.setCells g o vs)
 |[],_,w=>E9 _ w
 |v::vs,o,w=>((E9 B w).setCell (p:=(a_ g o)) hg v).trans (aa hg vs (o+1) _)
theorem aN.setCells{B:Nat}{w:World}{g c n:Nat}{cs cs':List Value}(h:aN B w g c n cs)(o:Nat)(vs:List Value)(ho:o+vs.length<=c)(hc:cs'.length<=c)(hh:∀j u,cs'[j]?=some u->(o<=j∧j<o+vs.length->vs[j - o]?=some u)∧(¬ (o<=j∧j<o+vs.length)->w.cell? ⟨g,j,none⟩=some u)):aN B (w.setCells g o vs) g c cs'.length cs':=by
 have b:∀j,j<vs.length->(w.c_ g (o+j)).isSome=true:=fun j hj=>(h.there (o+j) (by omega)).1
 refine⟨h.new,?_,rfl,hc,h.max,fun j u hj=>?_,fun j hj=>⟨?_,?_⟩⟩
 ·have m:=aa (B:=0) (Fo g) vs o w
  exact Fd h.lt m.size
 ·by_cases hin:o<=j∧j<o+vs.length
  ·obtain⟨d,rfl⟩:∃d,j=o+d:=⟨j - o,by omega⟩
   have f:=(hh _ u hj).1 hin;rw[show o+d - o=d by omega] at f
   have k:d<vs.length:=(List.getElem?_eq_some_iff.1 f).1;rw[World.cell?_setCells_in g vs o w b d k,<- f,List.getElem?_eq_getElem k]
  ·rw[World.cell?_setCells_out g vs o w (a_ g j) (fun _ _=>by show j<o∨o+vs.length<=j; omega)]
   exact (hh _ u hj).2 hin
 ·by_cases hin:o<=j∧j<o+vs.length
  ·obtain⟨d,rfl⟩:∃d,j=o+d:=⟨j - o,by omega⟩
   rw[World.cell?_setCells_in g vs o w b d (by omega)]
   rfl
  ·rw[World.cell?_setCells_out g vs o w (a_ g j) (fun _ _=>by show j<o∨o+vs.length<=j; omega)]
   exact (h.there j hj).1
 ·rw[World.frozen?_setCells]
  exact (h.there j hj).2
theorem iL(hB:B<=w.heap.size)(cs:List Value)(n:Nat)(hn:cs.length=n)(z:Value)(G:Nat)(t:TypeId)(hm:G<=maxLen)(hl:n<=G):aN B (w.alloc (.cells (cs.toArray ++ Builtin.zeroCells #[z] (G - n)) t)) w.heap.size G n cs:=by
 have b:(cs.toArray ++ Builtin.zeroCells #[z] (G - n)).size=G:=by rw[Array.size_append,size_zeroCells]; simp; omega
 refine⟨hB,by simp,hn,by omega,hm,fun j u hj=>?_,fun j hj=>⟨?_,World.frozen?_alloc_at _ _ _ _ (by simp)⟩⟩
 ·have hl:=(List.getElem?_eq_some_iff.1 hj).1
  rw[World.cell?_alloc_at _ _ _ _ (by simp),Array.getElem?_append_left (by simpa using hl)]
  simpa using hj
 ·rw[World.cell?_alloc_at _ _ _ _ (by simp),Array.getElem?_eq_getElem (by rw[b]; exact hj)]
  rfl
end Go.Proofs.YtlailakofhenkabGreatDoor
