import Derived.Test.YtlailakofhenkabGreatDoorB22
namespace Go.Proofs.YtlailakofhenkabGreatDoor
open Go Go.RowKit Go.Maps Go.WideMaps
theorem eo{H:Type}{P:Program}{e:TypeId}{v v':Value}{d:DataW H}{p p':List MemPlace}(h:plainElem P e v=some (d,p))(h':plainElem P e v'=some (d,p')):v=v':=by
 unfold plainElem at h h';split at h
 ·rename_i he
  rw[he] at h';simp only[Option.some.injEq,Prod.mk.injEq] at h;obtain⟨rfl,-⟩:=h
  cases v' <;> simp at h'
  rw[h'.1]
 ·rename_i he
  rw[he] at h';split at h
  ·rename_i hc
   simp only[Option.some.injEq,Prod.mk.injEq] at h;obtain⟨rfl,-⟩:=h
   cases v' <;> simp at h'
   rw[hc.1,h'.1.1,h'.2.1]
  ·cases h
 ·rename_i he
  rw[he] at h';split at h
  ·simp only[Option.some.injEq,Prod.mk.injEq] at h
   obtain⟨rfl,-⟩:=h
   cases v' <;> simp at h'
   rename_i s _ s'
   congr 1
   exact (ByteArray.ext h'.2.1).symm
  ·cases h
 ·cases h
def dr{κ:Type}(L:κ->Lit)(P:Program)(k e:TypeId)(w:World)(b n:Nat)(G:κ->Option Value):Prop:=
 ∃D:DataW Unit,w.ownsMap P k (plainElem P e) b n D∧Maps.IsMap D∧∀x:κ,(∃v d,G x=some v∧Maps.has D (L x)=true∧plainElem P e v=some (d,[])∧∀z,D.atKey (L x) z=d)∨(G x=none∧Maps.has D (L x)=false∧∀z,D.atKey (L x) z=z)
section
variable {κ : Type} {L : κ -> Lit} {P : Program} {k e : TypeId} {w : World} {b n : Nat} {G : κ -> Option Value}
theorem dr.made(L:κ->Lit)(P:Program)(k e:TypeId)(w:World):dr L P k e (w.alloc (.map #[] 0)) w.heap.size 0 (fun _=>none):=
 ⟨.map [],World.ownsMap_made _ _ _ _,Maps.isMap_empty,fun _=>.inr ⟨rfl,rfl,fun _=>rfl⟩⟩
theorem dr.block{w':World}(h:dr L P k e w b n G)(hb:w'.heap[b]?=w.heap[b]?):dr L P k e w' b n G:=by
 obtain⟨D,⟨es,clock,e1,F1,e2,e3⟩,h2,h3⟩:=h;exact⟨D,⟨es,clock,hb.trans e1,F1,e2,e3⟩,h2,h3⟩
theorem dr.lt(h:dr L P k e w b n G):b<w.heap.size:=by
 obtain⟨D,h1,_⟩:=h;exact h1.lt
theorem dr.look_ok(h:dr L P k e w b n G)(K:Keyed P k){t:TypeId}(ht:P.underlying t=some (.map k e)){z:Value}(hz:(zeroValue e).run P w=.ok z w){zd:DataW Unit}(hzd:plainElem P e z=some (zd,[])){key:Value}{x:κ}(hkey:keyOf P k key=some (L x)):
 (Instr.lookup t (.map (some b)) key true).run P w=.ok (.tuple #[(G x).getD z,.bool (G x).isSome]) w:=by
 obtain⟨D,h1,h2,h3⟩:=h;obtain⟨v,ps,hrun,hv⟩:=h1.look_ok K ht hz hzd hkey;rcases h3 x with ⟨v',d,g1,g2,g3,g4⟩ | ⟨g1,g2,g3⟩
 ·rw[g4] at hv
  rw[eo hv g3] at hrun;rw[hrun,g1,g2];rfl
 ·rw[g3] at hv
  rw[eo hv hzd] at hrun;rw[hrun,g1,g2];rfl
theorem dr.look(h:dr L P k e w b n G)(K:Keyed P k){t:TypeId}(ht:P.underlying t=some (.map k e)){z:Value}(hz:(zeroValue e).run P w=.ok z w){zd:DataW Unit}(hzd:plainElem P e z=some (zd,[])){key:Value}{x:κ}(hkey:keyOf P k key=some (L x)):
 (Instr.lookup t (.map (some b)) key false).run P w=.ok ((G x).getD z) w:=by
 obtain⟨D,h1,h2,h3⟩:=h;obtain⟨v,ps,hrun,hv⟩:=h1.lookup K ht hz hzd hkey;rcases h3 x with ⟨v',d,g1,g2,g3,g4⟩ | ⟨g1,g2,g3⟩
 ·rw[g4] at hv
  rw[eo hv g3] at hrun;rw[hrun,g1];rfl
 ·rw[g3] at hv
  rw[eo hv hzd] at hrun;rw[hrun,g1];rfl
def ut[DecidableEq κ](G:κ->Option Value)(x:κ)(v:Value):κ->Option Value:=fun y=>if y=x then some v else G y
theorem dr.store[DecidableEq κ](h:dr L P k e w b n G)(K:Keyed P k)(hL:∀x y,L x=L y->x=y){t:TypeId}(ht:P.underlying t=some (.map k e))(hn:n<maxLen){key val:Value}{x:κ}{d:DataW Unit}(hkey:keyOf P k key=some (L x))(hx:WideAt.IsKeyLit (L x))(hv:plainElem P e val=some (d,[])):
 ∃w',(Instr.mapUpdate t (.map (some b)) key val).run P w=.ok () w'∧dr L P k e w' b (n+1) (ut G x val)∧w.grownBy w' (some b):=by
 obtain⟨D,h1,h2,h3⟩:=h;obtain⟨w',hrun,g1,g2⟩:=h1.update K ht hn hkey hv;refine⟨w',hrun,⟨_,g1,h2.put _ _,fun y=>?_⟩,g2⟩;by_cases hy:y=x
 ·subst hy
  exact .inl ⟨val,d,by simp[ut],Maps.has_put_same h2 hx d,hv,fun z=>Maps.atKey_put_same h2 hx d z⟩
 ·have f:ut G x val y=G y:=by simp[ut,hy]
  have c:L y≠L x:=fun e=>hy (hL _ _ e);rw[f,Maps.has_put_other c];rcases h3 y with ⟨v',d',q1,q2,q3,q4⟩ | ⟨q1,q2,q3⟩
  ·exact .inl ⟨v',d',q1,q2,q3,fun z=>by rw[Maps.atKey_put_other c]; exact q4 z⟩
  ·exact .inr ⟨q1,q2,fun z=>by rw[Maps.atKey_put_other c]; exact q3 z⟩
end
def kh(s:List UInt8):Lit:=.string s
theorem sg(x y:List UInt8)(h:kh x=kh y):x=y:=by
 unfold kh at h;simpa using h
end Go.Proofs.YtlailakofhenkabGreatDoor
namespace Go.Proofs.YtlailakofhenkabGreatDoor
open Go Go.RowKit Tok Sc Ev
theorem jq{P:Program}(w:World){ops:Array Oper}{rest:List Oper}{o:Oper}{a:Act}{Q:Exit->Act->World->Prop}(hg:o.guard=none)(s x:Operand)(t:TypeId)(hop:o.op=Op.call { callee:=Callee.builtin Builtin.append,args:=#[s,x],argTypes:=#[t,t] })(e:TypeId)(i:TypeInfo)(z:Value)(bytes:Nat)(h1:P.underlying t=some (.slice e))(h2:P.info? e=some i)(h3:i.zero=some z)(h4:i.size=1)(h5:i.bytes=bytes)(h6:z.cells.size=1)(B g n c:Nat)(cs:List Value)(hs:a.eval s=.slice (some ⟨g,0,none⟩) n c)(hrow:aN B w g c n cs)(ad:Addr)(c':Nat)(u:Value)(hx:a.eval x=.slice (some ad) 1 c')(hc:w.cell? ad=some u)(h1c:u.oneCell'=true)(b1:n+1<=maxLen)(b2:(n+1)*bytes<=140737488355328)(hK:∀g' cc w',aN B w' g' cc (n+1) (cs ++ [u])->af [g] w w'->(g'=g∨w.heap.size<=g')->wpList P ops Q rest (a.put o.dst (.slice (some ⟨g',0,none⟩) (n+1) cc)) w'):
 wpList P ops Q (o::rest) a w:=by
 have b:∀j v,[u][j]?=some v->w.cell? (ad.add j)=some v:=by
  intro j v hj;match j,hj with
  |0,hj=>simp at hj; subst hj; simpa[Addr.add] using hc
  |j+1,hj=>simp at hj
 refine wpList_append_arg w hg s x t hop e i z 1 bytes h1 h2 h3 h4 h5 h6 (by decide) g 0 n c cs hs (by rw[hrow.len]; simp) (fun j v hj=>by rw[Nat.zero_add]; exact hrow.holds j v hj) ad 1 c' [u] hx (by simp) b (by intro v hv; simp at hv; subst hv; exact h1c) (fun hr j hj=>?_) b1 b2 (fun hr=>?_) (fun hgr v' w' hown hgb=>?_)
 ·simp at hj; subst hj
  simpa using hrow.there n (by omega)
 ·have C:w.setCells g (0+n*1) [u]=w.setCell ⟨g,n,none⟩ u:=by simp[World.setCells]
  rw[C];have m:=hrow.there n (by omega)
  obtain⟨old,hold⟩:=Option.isSome_iff_exists.1 m.1;refine hK g c _ ⟨hrow.new,by simp[World.setCell]; exact hrow.lt,by simp[hrow.len],by omega,hrow.max,fun j v hj=>?_,fun j hj=>?_⟩ ((af.refl _ _).setCell (p:=⟨g,n,none⟩) (.inl (by simp)) _) (.inl rfl)
  ·by_cases hjn:j<n
   ·rw[List.getElem?_append_left (by rw[hrow.len]; exact hjn)] at hj
    have:=hrow.holds j v hj;have D:j≠n:=by omega
    go_simp
   ·have q:j=n:=by
     have:=(List.getElem?_eq_some_iff.1 hj).1;simp[hrow.len] at this; omega
    subst q;rw[List.getElem?_append_right (by rw[hrow.len]; omega),hrow.len] at hj
    simp at hj; subst hj
    go_simp
  ·have h:=hrow.there j hj
   obtain⟨v,hv⟩:=Option.isSome_iff_exists.1 h.1;refine⟨?_,?_⟩
   ·by_cases hjn:j=n
    ·subst hjn; go_simp
    ·go_simp
   ·simpa using h.2
 ·rcases hown.2 with ⟨hv,h0⟩ | ⟨g',cc,cur,hv,hge,hh,hle,hmx,hsz,htk⟩
  ·omega
  ·subst hv
   have E:B<=w.heap.size:=Fe hrow.new (Fx hrow.lt)
   have r:g'<w'.heap.size:=by
    rcases FF g' w'.heap.size with h | h
    ·exact h
    ·rw[Array.getElem?_eq_none h] at hh; cases hh
   refine hK g' cc w' ⟨Nat.le_trans E hge,r,by simp[hrow.len],hle,hmx,fun j v hj=>?_,fun j hj=>?_⟩ (af.of _ ((Below.refl _ _).grown hgb (Nat.le_refl _) (fun k hk=>by cases hk))) (.inr hge)
   ·have f:=hown.cells (g:=g') rfl j v hj
    rw[Addr.add_lit,Nat.zero_add] at f; exact f
   ·have A:j<cur.size:=by omega
    simp[World.cell?,World.frozen?,hh,A]
def kQ(v u:Value):Prop:=∀g o n c,v=.slice (some ⟨g,o,none⟩) n c->az u g
section
variable {n c N gh gv gs gd b1 b2 b3 : Nat} {r : Rul} {p : Pub} {v vt : Value} {toks : List ByteArray} {S F : Int -> Option Value} {G : List UInt8 -> Option Value} {w0 w w' : World}
end
end Go.Proofs.YtlailakofhenkabGreatDoor
namespace Go.Proofs.YtlailakofhenkabGreatDoor
open Go Go.RowKit Tok Sc Ev
def aE(B:Nat)(w:World)(v:Value)(cs:List Value):Prop:=
 (v=.slice none 0 0∧cs= [])∨∃g c,v=.slice (some ⟨g,0,none⟩) cs.length c∧aN B w g c cs.length cs
variable {B b:Nat}{cs:List Value}{v:Value}{w w':World}
theorem aE.keepOut{l:List Nat}(h:aE B w v cs)(hk:af l w w')(hl:∀x∈l,az v x):aE B w' v cs:=by
 rcases h with h1 | ⟨g,c,rfl,hr⟩
 ·exact .inl h1
 ·exact .inr ⟨g,c,rfl,hr.block hk.size (hk.block g hr.lt (fun hx=>hl g hx g 0 _ c rfl rfl))⟩
theorem aE.on(h:aE B w v cs)(hb:Below w.heap.size w w'):aE B w' v cs:=h.keepOut (af.of [] hb) (by simp)
theorem aE.notIn(h:aE B w v cs)(hb:b<B):az v b:=by
 rcases h with ⟨rfl,-⟩ | ⟨g,c,rfl,hr⟩
 ·exact az.nil _ _ _
 ·intro g' o n' c' he
  have:=hr.new;simp only[Value.slice.injEq,Option.some.injEq,Addr.mk.injEq] at he;omega
theorem aE.past(h:aE B w v cs)(hb:w.heap.size<=b):az v b:=by
 rcases h with ⟨rfl,-⟩ | ⟨g,c,rfl,hr⟩
 ·exact az.nil _ _ _
 ·intro g' o n' c' he
  have:=hr.lt;simp only[Value.slice.injEq,Option.some.injEq,Addr.mk.injEq] at he;omega
theorem aE.slice{B:Nat}{w:World}{v:Value}{cs:List Value}(h:aE B w v cs):∃b c,v=.slice b cs.length c:=by
 rcases h with ⟨rfl,rfl⟩ | ⟨g,c,rfl,-⟩
 ·exact⟨none,0,rfl⟩
 ·exact⟨_,c,rfl⟩
theorem aE.cell{B:Nat}{w:World}{b:Option Addr}{c:Nat}{cs:List Value}(h:aE B w (.slice b cs.length c) cs)(i:Nat)(u:Value)(hi:cs[i]?=some u):∃g,b=some ⟨g,0,none⟩∧w.cell? ⟨g,i,none⟩=some u:=by
 rcases h with ⟨h1,h2⟩ | ⟨g,c',h1,hr⟩
 ·subst h2; simp at hi
 ·simp only[Value.slice.injEq,true_and] at h1
  exact⟨g,h1.1,hr.holds i u hi⟩
theorem aE.words{xs:List ByteArray}(h:aw B w v xs):aE B w v (xs.map Value.string):=by
 rcases h with ⟨rfl,rfl⟩ | ⟨g,c,rfl,hr⟩
 ·exact .inl ⟨rfl,rfl⟩
 ·exact .inr ⟨g,c,by simp,by simpa using hr⟩
theorem cL{P:Program}(w:World){ops:Array Oper}{rest:List Oper}{o:Oper}{a:Act}{Q:Exit->Act->World->Prop}(hg:o.guard=none)(s x:Operand)(t:TypeId)(hop:o.op=Op.call { callee:=Callee.builtin Builtin.append,args:=#[s,x],argTypes:=#[t,t] })(e:TypeId)(i:TypeInfo)(z:Value)(bytes:Nat)(h1:P.underlying t=some (.slice e))(h2:P.info? e=some i)(h3:i.zero=some z)(h4:i.size=1)(h5:i.bytes=bytes)(h6:z.cells=#[z])(h7:bytes<=16)(B:Nat)(v:Value)(cs:List Value)(hs:a.eval s=v)(h:aE B w v cs)(hB:B<=w.heap.size)(ad:Addr)(c':Nat)(u:Value)(hx:a.eval x=.slice (some ad) 1 c')(hc:w.cell? ad=some u)(h1c:u.oneCell'=true)(hn:cs.length<=1000000)(hK:∀v' w',aE B w' v' (cs ++ [u])->w.heap.size<=w'.heap.size->(∀l:List Nat,(∀g o n c,v=.slice (some ⟨g,o,none⟩) n c->g∈l)->af l w w')->(∀b,b<w.heap.size->az v b->az v' b)->(∀y,kQ v y->(∀b,w.heap.size<=b->az y b)->kQ v' y)->wpList P ops Q rest (a.put o.dst v') w'):
 wpList P ops Q (o::rest) a w:=by
 have p:(cs.length+1)*bytes<=140737488355328:=Fe (Nat.mul_le_mul_left _ h7) (by omega)
 rcases h with ⟨rfl,rfl⟩ | ⟨g,c,rfl,hr⟩
 ·have k:Src P i.size t (.slice (some ad) 1 c') 1 [u] w:=by
   rw[h4];refine Src.ofSlice w h1 ad 1 c' [u] rfl (fun j y hj=>?_) (by intro y hy; simp at hy; subst hy; exact h1c)
   match j,hj with
   |0,hj=>simp at hj; subst hj; simpa[Addr.add] using hc
   |j+1,hj=>simp at hj
  have f:=run_append_grow_src w t t o.type e i _ h1 h2 h3 none 0 0 [] (run_firstCells_none w.drew i.size 0 0 0) _ 1 [u] k (by omega) (by omega) (by rw[h5]; exact growslice_fits (by omega) (by omega))
  rw[h6] at f;refine Lib.wpList_append_run w hg s x t t hop _ _ hs hx _ _ f ?_;have A:=grownCap_le_maxLen w (0+1) 0 e (by unfold maxLen; omega)
  have q:=grownCap_ge w (0+1) 0 e;have m:Below w.heap.size w (w.drew.alloc (.cells (#[u] ++ Builtin.zeroCells #[z] (grownCap w (0+1) 0 e - 1)) e)):=((E9 _ w).drew).alloc (Fa _) _;refine hK _ _ (.inr ⟨_,_,rfl,iL (B:=B) (w:=w.drew) hB [u] 1 rfl z _ e A q⟩) m.size (fun l _=>af.of l m) (fun b hb _=>?_) (fun y _ hy=>?_)
  ·intro g o n c he
   simp only[Value.slice.injEq,Option.some.injEq,Addr.mk.injEq] at he
   have:w.drew.heap.size=w.heap.size:=rfl;omega
  ·intro g o n c he
   simp only[Value.slice.injEq,Option.some.injEq,Addr.mk.injEq] at he;exact hy g (by have:w.drew.heap.size=w.heap.size:=rfl; omega)
 ·refine jq w hg s x t hop e i z bytes h1 h2 h3 h4 h5 (by rw[h6]; rfl) B g cs.length c _ hs hr ad c' u hx hc h1c (by unfold maxLen; omega) p (fun g' cc w' hr' hk hg'=>?_)
  have r:cs.length+1=(cs ++ [u]).length:=by simp
  rw[r];refine hK _ _ (.inr ⟨g',cc,rfl,?_⟩) hk.size (fun l hl=>hk.mono (fun x hx=>by simp at hx; subst hx; exact hl _ _ _ _ rfl)) (fun b hb hn=>?_) (fun y hy hy2=>?_)
  ·rw[<- r]
   exact hr'
  ·intro g2 o n c he
   simp only[Value.slice.injEq,Option.some.injEq,Addr.mk.injEq] at he;rcases hg' with e | e
   ·have:=hn g 0 _ _ rfl; omega
   ·omega
  ·intro g2 o n c he
   simp only[Value.slice.injEq,Option.some.injEq,Addr.mk.injEq] at he;rcases hg' with e | e
   ·have:=hy g 0 _ _ rfl
    rw[<- he.1.1,e]; exact this
   ·exact hy2 g2 (by omega)
def Aj(K:Act->World->Prop):Exit->Act->World->Prop
 |.normal,a,w=>K a w
 |_,_,_=>False
theorem oz(K:Act->World->Prop):¬ LetsOut (Aj K):=fun ⟨_,_,h⟩=>h
theorem Ak{P:Program}{o:Oper}{a:Act}{w:World}{K:Act->World->Prop}{Q:Exit->Act->World->Prop}(h:o.wp P a w K (Aj K)):o.wp P a w K Q:=by
 unfold Oper.wp at *;generalize (execOp a.eval o).run P w=r at *;match r,h with
 |.ok (.value v) w',h=>exact h
 |.ok .skip w',h=>exact h
 |.ok (.defer d) w',h=>exact h
 |.ok (.enter f args) w',h=>
  refine Calls.mono h ?_;intro e w'' he;match e,he with
  |.returned v,he=>exact he
  |.panicked c,he=>exact False.elim he
  |.outgrown,he=>exact absurd he (oz K)
 |.ok (.row row args) w',h=>exact h
 |.halt (.panic v) w',h=>exact False.elim h
theorem oB{P:Program}{ops:Array Oper}{o:Oper}{a:Act}{w:World}{K:Act->World->Prop}{Q:Exit->Act->World->Prop}(hw:Region.wanted o (yielded ops a.tmps)=true)(h:wpList P ops (Aj K) [o] a w):o.wp P a w K Q:=by
 unfold wpList at h;rw[if_pos hw] at h;rcases h with h | h
 ·exact Ak h
 ·exact absurd h.2 (oz K)
end Go.Proofs.YtlailakofhenkabGreatDoor
