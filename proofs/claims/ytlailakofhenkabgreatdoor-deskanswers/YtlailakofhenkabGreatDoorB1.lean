import Derived.Deep.RegionHeld
import Derived.Lib.SplitLaws
import Derived.Lib.LastIndexByte
import Derived.Lib.Join
import Derived.Test.YtlailakofhenkabGreatDoorProg
import Derived.JoinedTies
import Derived.WalkSpells
import Derived.WalkLawsBesides
namespace Go.RegD
open Go
section
variable {P : Program} {ops : Array Oper} {Q : Exit -> Act -> World -> Prop} {md : Region.Mode} {S : World -> Prop} {d : Nat}
def lM (md:Region.Mode) (ops:Array Oper) (d:Nat):List Nat:=match ops[d]? with
 |some o=>o.after.toList.filterMap fun e=>if Region.binds md e=true then some e.on else none
 |none=> []
def CS (s:List Nat):List Nat->List Nat
 |[]=>s
 |x::l=>CS (if s.contains x then s else x::s) l
def anc (md:Region.Mode) (ops:Array Oper):Nat->List Nat->List Nat
 |0,s=>s
 |j+1,s=>anc md ops j (if s.contains j then CS s (lM md ops j) else s)
def jb (md:Region.Mode) (ops:Array Oper) (listed:Array Bool):Prop:=
 ∀ j oj,ops[j]?=some oj->listed.getD j false=true->∀ e∈oj.after,Region.binds md e=true->listed.getD e.on false=true
def vk (md:Region.Mode) (ops:Array Oper) (listed:Array Bool):Bool:=
 (List.range ops.size).all fun j=>!listed.getD j false || match ops[j]? with
  |some oj=>oj.after.all fun e=>!Region.binds md e || listed.getD e.on false
  |none=>true
theorem wn {listed:Array Bool} (h:vk md ops listed=true):jb md ops listed:=by
 intro j oj hj hl e he hb;have h1:=List.all_eq_true.1 h j (List.mem_range.2 (Array.getElem?_eq_some_iff.1 hj).1);simp only [hl,Bool.not_true,Bool.false_or,hj] at h1;have h2:=Array.all_eq_true_iff_forall_mem.1 h1 e he;simpa [hb] using h2
theorem jb.set {i:Nat} {listed:Array Bool} (inv:jb md ops listed) (hi:i∈Region.ready md ops listed):jb md ops (listed.setIfInBounds i true):=by
 obtain ⟨_,oi,hoi,hall⟩:=mem_ready.1 hi;intro j oj hj hl e he hb;by_cases hij:i=j
 ·subst hij
  have:oj=oi:=Option.some.inj (hj.symm.trans hoi);subst this;exact getD_set_true (hall e he hb)
 ·rw [getD_set_ne false hij] at hl
  exact getD_set_true (inv j oj hj hl e he hb)
theorem nN {d x:Nat} {o:Oper} (ho:ops[d]?=some o) (hx:x∈lM md ops d):∃ e∈o.after,Region.binds md e=true∧e.on=x:=by
 unfold lM at hx;simp only [ho,List.mem_filterMap,Option.ite_none_right_eq_some,Option.some.injEq] at hx;obtain ⟨e,h1,h2,h3⟩:=hx;exact ⟨e,by simpa using h1,h2,h3⟩
theorem qB {q:Nat->Prop}:∀ (l s:List Nat),(∀ x∈s,q x)->(∀ x∈l,q x)->∀ x∈CS s l,q x
 |[],s,hs,_=>hs
 |y::l,s,hs,hl=>by
  refine qB l _ ?_ (fun x hx=>hl x (by simp [hx]))
  split
  ·exact hs
  ·intro x hx
   rcases List.mem_cons.1 hx with rfl | hx
   ·exact hl _ (by simp)
   ·exact hs x hx
theorem lN {listed:Array Bool} (inv:jb md ops listed):∀ (n:Nat) (s:List Nat),(∀ x∈s,listed.getD x false=true)->∀ x∈anc md ops n s,listed.getD x false=true
 |0,_,hs=>hs
 |j+1,s,hs=>by
  refine lN inv j _ ?_;split
  ·rename_i hj
   have hlj:=hs j (by simpa using hj)
   refine qB _ _ hs (fun x hx=>?_)
   cases ho:ops[j]? with
   |none=>unfold lM at hx; simp [ho] at hx
   |some o=>
    obtain ⟨e,h1,h2,rfl⟩:=nN ho hx;exact inv j o ho hlj e h1 h2
  ·exact hs
theorem jz {listed:Array Bool} (inv:jb md ops listed) {i:Nat} (n d:Nat) (od:Oper) (hd:ops[d]?=some od) (hall:∀ e∈od.after,Region.binds md e=true->listed.getD e.on false=true) (h:(anc md ops n (lM md ops d)).contains i=true):listed.getD i false=true:=by
 refine lN inv n _ (fun x hx=>?_) i (by simpa using h)
 obtain ⟨e,h1,h2,rfl⟩:=nN hd hx;exact hall e h1 h2
theorem CT {listed:Array Bool} {i:Nat} (h:listed.getD i true=false):listed.getD i false=false:=by
 rcases Nat.lt_or_ge i listed.size with h' | h'
 ·simp [h'] at h ⊢; exact h
 ·simp [Array.getElem?_eq_none h'] at h
theorem at_list {l:List Oper} {i:Nat} {o:Oper} (h:l[i]?=some o):l.toArray[i]?=some o:=by rw [List.getElem?_toArray]; exact h
def bF (P:Program) (md:Region.Mode) (ops:Array Oper) (Q:Exit->Act->World->Prop) (S:World->Prop) (d:Nat):Nat->Array Bool->Act->World->Prop
 |0,listed,a,w=>Region.ready md ops listed= []∧Q .normal a w
 |fuel+1,listed,a,w=>
  (Region.ready md ops listed= []->Q .normal a w)∧
  ∀ i∈Region.ready md ops listed,wpOp P ops Q i (fun a' w'=>((listed.setIfInBounds i true).getD d false=false->S w')∧bF P md ops Q S d fuel (listed.setIfInBounds i true) a' w') a w
theorem lO:∀ (fuel:Nat) (listed:Array Bool) (a:Act) (w:World),bF P md ops Q S d fuel listed a w->wpAny P md ops Q fuel listed a w
 |0,_,_,_,h=>h
 |fuel+1,_,_,_,h=>⟨h.1,fun i hi=>wpOp_mono (fun a' w' h'=>lO fuel _ a' w' h'.2) (h.2 i hi)⟩
theorem o9 {i n:Nat} {oi od:Oper} {v:Value} (hi:ops[i]?=some oi) (hd:ops[d]?=some od) (hid:i≠d) (hre:(anc md ops n (lM md ops d)).contains i=true) (hsel:∀ (j:Nat) (o:Oper) cs b,ops[j]?=some o->o.op≠.select cs b)
 (hQ:∀ c a w,Q (.panic c) (a.put oi.dst v) w->Q (.panic c) a w) :
 ∀ (fuel:Nat) (listed:Array Bool) (a:Act) (w:World),jb md ops listed->
  (∀ j oj,ops[j]?=some oj->j≠i->listed.getD j true=false->(∀ e∈oj.after,Region.binds md e=true->e.on≠i)->oi.apart ops oj=true)->
  i∈Region.ready md ops listed->YieldsIf P ops S oi v a->S w->
  bF P md ops Q S d fuel (listed.setIfInBounds i true) (a.put oi.dst v) w->bF P md ops Q S d (fuel+1) listed a w:=by
 intro fuel;induction fuel with
 |zero=>
  intro listed a w inv _ hr hy hS H;refine ⟨fun h=>(by rw [h] at hr; cases hr),fun j hj=>?_⟩
  by_cases hji:j=i
  ·subst hji; exact hy.wpOp hi hS ⟨fun _=>hS,H⟩
  ·have:=ready_mono hj hji
   rw [H.1] at this
   cases this
 |succ fuel ih=>
  intro listed a w inv hfree hr hy hS H;have hun:=(mem_ready.1 hr).1;refine ⟨fun h=>(by rw [h] at hr; cases hr),fun j hj=>?_⟩
  by_cases hji:j=i
  ·subst hji; exact hy.wpOp hi hS ⟨fun _=>hS,H⟩
  ·have h1:=H.2 j (ready_mono hj hji)
   obtain ⟨hjun,oj,hoj,hall⟩:=mem_ready.1 hj
   have hjd:j≠d:=by
    rintro rfl;have h0:=jz inv n j oj hoj hall hre;rw [CT hun] at h0
    cases h0
   have hd0:listed.getD d false=false:=by
    cases hh:listed.getD d false with
    |false=>rfl
    |true=>
     have h0:=jz inv n d od hd (inv d od hd hh) hre;rw [CT hun] at h0
     cases h0
   have hf:((listed.setIfInBounds i true).setIfInBounds j true).getD d false=false:=by
    rw [getD_set_ne false hjd,getD_set_ne false hid]; exact hd0
   have hnot:∀ e∈oj.after,Region.binds md e=true->e.on≠i:=fun e he hb heq=>by
    have h1:=hall e he hb;rw [heq,CT hun] at h1
    cases h1
   have h2:=wpOp_putIf hoj (hfree j oj hoj hji hjun hnot) (fun cs b=>hsel i oi cs b hi) (fun cs b=>hsel j oj cs b hoj) hQ hy h1
   have hfree':∀ k ok,ops[k]?=some ok->k≠i->(listed.setIfInBounds j true).getD k true=false->
    (∀ e∈ok.after,Region.binds md e=true->e.on≠i)->oi.apart ops ok=true:=fun k ok hk hki hun hno=>by
    refine hfree k ok hk hki ?_ hno;by_cases hjk:j=k
    ·subst hjk; exact hjun
    ·rw [getD_set_ne true hjk] at hun; exact hun
   refine wpOp_mono (fun a' w' h3=>⟨fun _=>h3.2.1 hf,ih (listed.setIfInBounds j true) a' w' (inv.set hj) hfree' (ready_mono hr (Ne.symm hji)) h3.1 (h3.2.1 hf) ?_⟩) h2;rw [Array.setIfInBounds_comm _ _ hji];exact h3.2.2
def vm (md:Region.Mode) (ops:Array Oper) (d:Nat) (listed:Array Bool) (i:Nat):Bool:=
 Region.noSelect ops && Region.free md ops listed i && (Region.ready md ops listed).contains i && vk md ops listed && (anc md ops d (lM md ops d)).contains i && decide (d<ops.size) && (i != d)
theorem tk1 {l:List Oper} (i:Nat) {oi:Oper} {v:Value} {fuel:Nat} {listed:Array Bool} {a:Act} {w:World} (hi0:l[i]?=some oi) (hB:vm md l.toArray d listed i=true)
 (hQ:∀ c a w,Q (.panic c) (a.put oi.dst v) w->Q (.panic c) a w) (hy:YieldsIf P l.toArray S oi v a) (hS:S w)
 (h:bF P md l.toArray Q S d fuel (listed.setIfInBounds i true) (a.put oi.dst v) w):bF P md l.toArray Q S d (fuel+1) listed a w:=by
 have hi:=at_list hi0;generalize l.toArray=ops at *;simp only [vm,Bool.and_eq_true,bne_iff_ne,ne_eq] at hB;obtain ⟨⟨⟨⟨⟨⟨h1,h2⟩,h3⟩,h4⟩,h5⟩,h7⟩,h6⟩:=hB;have h8:d<ops.size:=by simpa using h7
 obtain ⟨od,hd⟩:∃ od,ops[d]?=some od:=⟨_,Array.getElem?_eq_getElem h8⟩;exact o9 hi hd h6 h5 (Region.noSelect_spec h1) hQ fuel listed a w (wn h4) (Region.free_spec hi h2) (by simpa using h3) hy hS h
theorem wpO {l:List Oper} (i:Nat) {o:Oper} {fuel:Nat} {listed:Array Bool} {a:Act} {w:World} (ho0:l[i]?=some o) (hr:Region.ready md l.toArray listed= [i])
 (h:∀ K':Act->World->Prop,Shut (∀ a w,S w->(S w->bF P md l.toArray Q S d fuel (listed.setIfInBounds i true) a w)->K' a w)->if Region.wanted o (yielded l.toArray a.tmps)=true then Oper.wp P o a w K' Q else K' (a.put o.dst undef) w):bF P md l.toArray Q S d (fuel+1) listed a w:=
 ⟨fun h0=>absurd (hr ▸ h0) (by simp),fun j hj=>by
  rw [hr] at hj;obtain rfl:j=i:=by simpa using hj
  exact wpOp_step (at_list ho0) (fun K' hK=>h K' (fun a w hS hW=>hK a w ⟨fun _=>hS,hW hS⟩))⟩
theorem wpL {l:List Oper} (i:Nat) {o:Oper} {fuel:Nat} {listed:Array Bool} {a:Act} {w:World} (ho0:l[i]?=some o) (hr:Region.ready md l.toArray listed= [i]) (hd:(listed.setIfInBounds i true).getD d false=true)
 (h:∀ K':Act->World->Prop,Shut (∀ a w,bF P md l.toArray Q S d fuel (listed.setIfInBounds i true) a w->K' a w)->if Region.wanted o (yielded l.toArray a.tmps)=true then Oper.wp P o a w K' Q else K' (a.put o.dst undef) w):bF P md l.toArray Q S d (fuel+1) listed a w:=
 ⟨fun h0=>absurd (hr ▸ h0) (by simp),fun j hj=>by
  rw [hr] at hj;obtain rfl:j=i:=by simpa using hj
  exact wpOp_step (at_list ho0) (fun K' hK=>h K' (fun a w hW=>hK a w ⟨fun h0=>(by rw [hd] at h0; cases h0),hW⟩))⟩
theorem wpE {listed:Array Bool} {a:Act} {w:World} (hr:Region.ready md ops listed= []) (h:Q .normal a w):∀ fuel,bF P md ops Q S d fuel listed a w
 |0=>⟨hr,h⟩
 |_+1=>⟨fun _=>h,by rw [hr]; simp⟩
theorem wpR {id:Nat} {a:Act} {w:World} (S:World->Prop) (d:Nat) (hm:P.follows .mixedOrders=true) (hS:S w.drew)
 (h:S w.drew->bF P .any ops Q S d ops.size (Array.replicate ops.size false) a w.drew):(Code.region id ops true).wp P Q a w:=
 wp_region_any hm (lO _ _ _ _ (h hS))
end
end Go.RegD
namespace Go.RegD
open Go
section
variable {P : Program} {Q : Exit -> Act -> World -> Prop} {md : Region.Mode} {S : World -> Prop} {d : Nat} {l : List Oper}
def oA (l:List Oper) (i:Nat):Oper:=l.getD i default
def rA (P:Program) (l:List Oper):List (Nat × Value)->Act->World->Prop
 |[],_,_=>True
 |(i,v)::r,a,W=>(execOp a.eval (oA l i)).run P W=.ok (.value v) W∧rA P l r (a.put (oA l i).dst v) W
def pa (md:Region.Mode) (l:List Oper) (d:Nat):List (Nat × Value)->Array Bool->Act->Bool
 |[],_,_=>true
 |(i,v)::r,listed,a=>decide (i<l.length) && ((oA l i).dst.isSome && (vm md l.toArray d listed i && (Region.wanted (oA l i) (yielded l.toArray a.tmps) && pa md l d r (listed.setIfInBounds i true) (a.put (oA l i).dst v))))
def pA (l:List Oper):List (Nat × Value)->Act->Act
 |[],a=>a
 |(i,v)::r,a=>pA l r (a.put (oA l i).dst v)
def yv:List (Nat × Value)->Array Bool->Array Bool
 |[],s=>s
 |(i,_)::r,s=>yv r (s.setIfInBounds i true)
def CU:List (Nat × Value)->Nat->Nat
 |[],n=>n
 |_::r,n=>CU r (n - 1)
theorem takes_:∀ (vs:List (Nat × Value)) {fuel:Nat} {listed:Array Bool} {a:Act} {w:World},vs.length.ble fuel=true->pa md l d vs listed a=true->
 (∀ x v c a w,Q (.panic c) (Act.put a (some x) v) w->Q (.panic c) a w)->(∀ W,S W->rA P l vs a W)->S w->
 bF P md l.toArray Q S d (CU vs fuel) (yv vs listed) (pA l vs a) w->bF P md l.toArray Q S d fuel listed a w
 |[],_,_,_,_,_,_,_,_,_,h=>h
 |(i,v)::r,fuel,listed,a,w,hf,hB,hQ,hr,hS,h=>by
  have hf:=Nat.le_of_ble_eq_true hf
  obtain ⟨n,rfl⟩:∃ n,fuel=n+1:=⟨fuel - 1,by simp at hf; omega⟩
  simp only [pa,Bool.and_eq_true,decide_eq_true_eq] at hB
  obtain ⟨h1,h0,h2,h3,h4⟩:=hB
  obtain ⟨x,hx⟩:=Option.isSome_iff_exists.1 h0
  have hi:l[i]?=some (oA l i):=by
   unfold oA
   rw [List.getD_eq_getElem?_getD,List.getElem?_eq_getElem h1]
   rfl
  exact tk1 i hi h2 (fun c a w=>by rw [hx]; exact hQ _ _ c a w) (.inl ⟨h3,fun W hW=>(hr W hW).1⟩) hS
   (takes_ r (Nat.ble_eq_true_of_le (by simp at hf; exact hf)) h4 hQ (fun W hW=>(hr W hW).2) hS h)
theorem an (vs:List (Nat × Value)) {fuel:Nat} {listed:Array Bool} {a:Act} {w:World} (hS:S w) (hr:∀ W,S W->rA P l vs a W)
 (h:bF P md l.toArray Q S d (CU vs fuel) (yv vs listed) (pA l vs a) w) (hf:vs.length.ble fuel=true:=by kernel_rfl) (hB:pa md l d vs listed a=true:=by kernel_rfl)
 (hQ:∀ x v c a w,Q (.panic c) (Act.put a (some x) v) w->Q (.panic c) a w:=by exact fun _ _ _ _ _ h=>h):bF P md l.toArray Q S d fuel listed a w:=
 takes_ vs hf hB hQ hr hS h
theorem take1 (i:Nat) (v:Value) {oi:Oper} {fuel:Nat} {listed:Array Bool} {a:Act} {w:World} (hi:l[i]?=some oi) (hS:S w) (hr:∀ W,S W->(execOp a.eval oi).run P W=.ok (.value v) W)
 (h:bF P md l.toArray Q S d fuel (listed.setIfInBounds i true) (a.put oi.dst v) w) (hB:vm md l.toArray d listed i=true:=by kernel_rfl) (hw:Region.wanted oi (yielded l.toArray a.tmps)=true:=by rfl)
 (hQ:∀ c a w,Q (.panic c) (Act.put a oi.dst v) w->Q (.panic c) a w:=by exact fun _ _ _ h=>h):bF P md l.toArray Q S d (fuel+1) listed a w:=tk1 i hi hB hQ (.inl ⟨hw,hr⟩) hS h
theorem one_ (i:Nat) {o:Oper} {fuel:Nat} {listed:Array Bool} {a:Act} {w:World}
 (h:∀ K':Act->World->Prop,Shut (∀ a w,S w->(S w->bF P md l.toArray Q S d fuel (listed.setIfInBounds i true) a w)->K' a w)->if Region.wanted o (yielded l.toArray a.tmps)=true then Oper.wp P o a w K' Q else K' (a.put o.dst undef) w)
 (ho:l[i]?=some o:=by rfl) (hr:Region.ready md l.toArray listed= [i]:=by kernel_rfl):bF P md l.toArray Q S d (fuel+1) listed a w:=wpO i ho hr h
theorem late_ (i:Nat) {o:Oper} {fuel:Nat} {listed:Array Bool} {a:Act} {w:World}
 (h:∀ K':Act->World->Prop,Shut (∀ a w,bF P md l.toArray Q S d fuel (listed.setIfInBounds i true) a w->K' a w)->if Region.wanted o (yielded l.toArray a.tmps)=true then Oper.wp P o a w K' Q else K' (a.put o.dst undef) w)
 (ho:l[i]?=some o:=by rfl) (hr:Region.ready md l.toArray listed= [i]:=by kernel_rfl) (hd:(listed.setIfInBounds i true).getD d false=true:=by kernel_rfl):bF P md l.toArray Q S d (fuel+1) listed a w:=wpL i ho hr hd h
theorem done_ {ops:Array Oper} {fuel:Nat} {listed:Array Bool} {a:Act} {w:World} (h:Q .normal a w) (hr:Region.ready md ops listed= []:=by kernel_rfl):bF P md ops Q S d fuel listed a w:=wpE hr h fuel
end
theorem region_ {P:Program} {ops:Array Oper} {Q:Exit->Act->World->Prop} {id:Nat} {a:Act} {w:World} (S:World->Prop) (d:Nat) (hS:S w.drew)
 (h:S w.drew->bF P .any ops Q S d ops.size (Array.replicate ops.size false) a w.drew) (hm:P.follows .mixedOrders=true:=by kernel_rfl):(Code.region id ops true).wp P Q a w:=wpR S d hm hS h
end Go.RegD
namespace Go
theorem pS1 {α:Type} (l:List α) (i:Nat) (a:α):l.toArray.setIfInBounds i a=(l.set i a).toArray:=List.setIfInBounds_toArray l i a
theorem pS2 {α:Type} (a b:α) (l:List α):(a::l).set 0 b=b::l:=rfl
theorem pS3 {α:Type} (a b:α) (l:List α) (n:Nat):(a::l).set (n+1) b=a::l.set n b:=rfl
abbrev a_ (b i:Nat):Addr:=⟨b,i,none⟩
abbrev o_ (b i:Nat):Option Addr:=some ⟨b,i,none⟩
abbrev p_ (b i:Nat):Value:=.pointer (some ⟨b,i,none⟩)
abbrev World.c_ (w:World) (b i:Nat):Option Value:=w.cell? ⟨b,i,none⟩
abbrev Value.i_ (n:Int):Value:=.int .i64 n
abbrev Value.e_:Value:=.string ⟨#[]⟩
abbrev F_ (a:Int) (b c d:ByteArray) (e f g:Int) (h:ByteArray) (i:Bool):Array Value:=#[.int .i64 a,.string b,.string c,.string d,.int .i64 e,.int .i64 f,.int .i64 g,.string h,.bool i]
abbrev G_ (a:Int) (b c d:ByteArray) (e f g:Int) (h:ByteArray) (i:Bool):List Value:= [.int .i64 a,.string b,.string c,.string d,.int .i64 e,.int .i64 f,.int .i64 g,.string h,.bool i]
abbrev E_ (k a:Int) (b c d:ByteArray) (e f g:Int) (h:ByteArray) (i:Bool) (x y:Int):Array Value:=#[.int .i64 k,.int .i64 a,.string b,.string c,.string d,.int .i64 e,.int .i64 f,.int .i64 g,.string h,.bool i,.int .i64 x,.int .i64 y]
abbrev H_ (k a:Int) (b c d:ByteArray) (e f g:Int) (h:ByteArray) (i:Bool) (x y:Int):List Value:= [.int .i64 k,.int .i64 a,.string b,.string c,.string d,.int .i64 e,.int .i64 f,.int .i64 g,.string h,.bool i,.int .i64 x,.int .i64 y]
abbrev Q_ (a b c d:Int):Array Value:=#[.int .i64 a,.int .i64 b,.int .i64 c,.int .i64 d]
abbrev S_ (a b:Int) (c:Option Addr) (d e:Nat):Array Value:=#[.int .i64 a,.int .i64 b,.slice c d e]
abbrev V_ (g:Nat) (a b c d:Int):Array Value:=#[.pointer (some ⟨g,0,none⟩),.int .i64 a,.int .i64 b,.int .i64 c,.int .i64 d]
abbrev f_:Array Value:=F_ 0 ⟨#[]⟩ ⟨#[]⟩ ⟨#[]⟩ 0 0 0 ⟨#[]⟩ false
abbrev g_ (k x y:Int):Array Value:=E_ k 0 ⟨#[]⟩ ⟨#[]⟩ ⟨#[]⟩ 0 0 0 ⟨#[]⟩ false x y
abbrev h_ (k x y:Int):List Value:=H_ k 0 ⟨#[]⟩ ⟨#[]⟩ ⟨#[]⟩ 0 0 0 ⟨#[]⟩ false x y
abbrev World.z_ (w:World):Nat:=w.heap.size
end Go
namespace Go.RowKit
theorem bA (w:World) (o:Obj):Below w.heap.size w (w.alloc o):=(Below.refl _ _).alloc (Nat.le_refl _) _
theorem Below.tm {w x y:World} (h:Below w.heap.size w x) (k:Below x.heap.size x y):Below w.heap.size w y:=h.trans (k.mono h.size)
abbrev J (p:Prop):Prop:=Hid p
theorem J.o {p:Prop} (h:J p):p:=h
theorem Hid.o {p:Prop} (h:Hid p):p:=h
end Go.RowKit
namespace Go.Proofs.YtlailakofhenkabGreatDoor
open Go Go.RowKit
abbrev E9 := @Below.refl
abbrev Fa := @Nat.le_refl
abbrev Fb := @World.cell?_alloc_at
abbrev Fc := @World.block_lt_of_cell?
abbrev Fd := @Nat.lt_of_lt_of_le
abbrev Fe := @Nat.le_trans
abbrev Ff := @World.frozen?_alloc_at
abbrev Fg := @Array.length_toList
abbrev Fh := @List.getElem?_eq_getElem
abbrev Fi := @Nat.mul_le_mul_right
abbrev Fj := @Nat.lt_succ_self
abbrev Fk := @List.getElem?_append_left
abbrev Fl := @Nat.zero_add
abbrev Fm := @World.cell?_setCell_other
abbrev Fo := @Nat.zero_le
abbrev Fp := @List.length_append
abbrev Fq := @List.length_take
abbrev Fr := @World.cell?_setCell_same
abbrev Fs := @List.getElem?_map
abbrev Fu := @List.length_drop
abbrev Fv := @List.getElem?_append_right
abbrev Fw := @List.getElem_mem
abbrev Fx := @Nat.le_of_lt
abbrev Fy := @List.length_map
abbrev Fz := @World.frozen?_setCell
abbrev FA := @List.isEmpty_eq_false_iff
abbrev FC := @Nat.le_succ
abbrev FD := @List.mem_of_mem_drop
abbrev FE := @List.mem_of_getElem?
abbrev FF := @Nat.lt_or_ge
end Go.Proofs.YtlailakofhenkabGreatDoor
namespace Go.Proofs.YtlailakofhenkabGreatDoor.Tok
open Go.Lib
theorem eO{α:Type}(c:α)(l:List α):c∉l∨∃a b,l=a ++ c::b∧c∉a:=by
 by_cases h:c∈l
 ·refine .inr ?_
  induction l with
  |nil=>cases h
  |cons x l ih=>
   by_cases hx:c=x
   ·exact⟨[],l,by simp[hx],by simp⟩
   ·obtain⟨a,b,rfl,ha⟩:=ih (by simpa[hx] using h)
    exact⟨x::a,b,rfl,by simp[hx,ha]⟩
 ·exact .inl h
theorem yw{α:Type}(c:α)(l:List α):c∉l∨∃a b,l=a ++ c::b∧c∉b:=by
 rcases eO c l.reverse with h | ⟨a,b,h,ha⟩
 ·exact .inl (by simpa using h)
 ·refine .inr ⟨b.reverse,a.reverse,?_,by simpa using ha⟩
  have:=congrArg List.reverse h;simpa using this
theorem gu{α:Type}{c:α}{a b a' b':List α}(h:a ++ c::b=a' ++ c::b')(ha:c∉a)(ha':c∉a'):a=a'∧b=b':=by
 induction a generalizing a' with
 |nil=>
  cases a' with
  |nil=>simpa using h
  |cons x a'=>simp at h; simp[h.1] at ha'
 |cons x a ih=>
  cases a' with
  |nil=>simp at h; simp[h.1] at ha
  |cons y a'=>
   simp at h ha ha'
   obtain⟨e1,e2⟩:=ih h.2 ha.2 ha'.2;exact⟨by rw[h.1,e1],e2⟩
theorem iI{α:Type}{c:α}{a b a' b':List α}(h:a ++ c::b=a' ++ c::b')(hb:c∉b)(hb':c∉b'):a=a'∧b=b':=by
 have f:=congrArg List.reverse h;simp only[List.reverse_append,List.reverse_cons,List.append_assoc,List.singleton_append] at f;obtain⟨e1,e2⟩:=gu f (by simpa using hb) (by simpa using hb')
 exact⟨List.reverse_inj.1 e2,List.reverse_inj.1 e1⟩
variable {a:List UInt8}{c:UInt8}
theorem qC(h:c∉a):index a [c]=-1:=by
 induction a with
 |nil=>rfl
 |cons x a ih=>
  simp at h
  rw[index];have b:([c]:List UInt8).isPrefixOf (x::a)=false:=by simp[List.isPrefixOf,h.1]
  simp[b,ih h.2]
theorem qD(b:List UInt8)(h:c∉a):index (a ++ c::b) [c]=a.length:=by
 induction a with
 |nil=>simp[index,List.isPrefixOf]
 |cons x a ih=>
  simp at h
  rw[List.cons_append,index];have f:([c]:List UInt8).isPrefixOf (x::(a ++ c::b))=false:=by simp[List.isPrefixOf,h.1]
  have g:((a.length:Int) == -1)=false:=by rw[beq_eq_false_iff_ne]; omega
  simp[f,ih h.2,g]
theorem jc(h:c∉a):cut a [c]=(a,[],false):=by
 unfold cut;rw[qC h,if_neg (by decide)]
theorem gV(b:List UInt8)(h:c∉a):cut (a ++ c::b) [c]=(a,b,true):=by
 unfold cut;rw[qD b h,if_pos (by omega)]
 simp
theorem bJ(h:c∉a)(k:Nat):splitK [c] 0 k a= [a]:=by
 cases k with
 |zero=>rfl
 |succ k=>rw[splitK,qC h]; rfl
theorem bK(b:List UInt8)(h:c∉a)(k:Nat):splitK [c] 0 (k+1) (a ++ c::b)=a::splitK [c] 0 k b:=by
 rw[splitK,qD b h,if_neg (by rw[beq_iff_eq]; omega)]
 simp
def parts(c:UInt8)(l:List UInt8):List (List UInt8):=splitK [c] 0 (l.count c) l
theorem bO(h:c∉a):parts c a= [a]:=bJ h _
theorem bD(b:List UInt8)(h:c∉a):parts c (a ++ c::b)=a::parts c b:=by
 unfold parts;rw[List.count_append,List.count_cons_self,List.count_eq_zero.2 h,Nat.zero_add,bK b h]
theorem gW(c:UInt8)(s:ByteArray):(splitB ⟨#[c]⟩ 0 (countB s ⟨#[c]⟩) s).map (·.data.toList)=parts c s.data.toList:=by
 have h:=splitB_data ⟨#[c]⟩ 0 (countB s ⟨#[c]⟩) s;rw[show countB s ⟨#[c]⟩=s.data.toList.count c from count_one c s.data.toList] at h ⊢
 exact h
theorem qE:∀(n:Nat) (l:List UInt8),l.length<=n->parts c l≠ []
 |n,l,h=>by
  rcases eO c l with hn | ⟨a,b,rfl,hn⟩
  ·rw[bO hn]; simp
  ·rw[bD b hn]; simp
theorem nO{c x:UInt8}(hx:x≠c):∀(n:Nat) (l:List UInt8),l.length<=n->x∈l->∃w∈parts c l,x∈w
 |0,l,h,hm=>by rw[List.length_eq_zero_iff.1 (Nat.le_zero.1 h)] at hm; cases hm
 |n+1,l,h,hm=>by
  rcases eO c l with hn | ⟨a,b,rfl,hn⟩
  ·exact⟨l,by rw[bO hn]; simp,hm⟩
  ·rw[bD b hn]
   simp only[List.mem_append,List.mem_cons] at hm;rcases hm with hm | rfl | hm
   ·exact⟨a,by simp,hm⟩
   ·exact absurd rfl hx
   ·obtain⟨w,h1,h2⟩:=nO hx n b (by simp at h; omega) hm
    exact⟨w,by simp[h1],h2⟩
end Go.Proofs.YtlailakofhenkabGreatDoor.Tok
namespace Go.Proofs.YtlailakofhenkabGreatDoor.Sc
open Go.Lib Tok
abbrev Word:=List UInt8
theorem jY(a:Word):¬ a<a:=List.lt_irrefl a
theorem CD{a b c:Word}(h:a<b)(k:b<c):a<c:=List.lt_trans h k
theorem yx(a b:Word):a<b∨a=b∨b<a:=by
 by_cases h:a<b
 ·exact .inl h
 ·by_cases k:b<a
  ·exact .inr (.inr k)
  ·exact .inr (.inl (List.le_antisymm (by rwa [<- List.not_lt]) (by rwa [<- List.not_lt])))
theorem nP:∀ {l m:List Word},l.Pairwise (·<·)->m.Pairwise (·<·)->(∀x,x∈l↔x∈m)->l=m
 |[],[],_,_,_=>rfl
 |[],b::m,_,_,h=>by have:=(h b).2 (by simp); simp at this
 |a::l,[],_,_,h=>by have:=(h a).1 (by simp); simp at this
 |a::l,b::m,hl,hm,h=>by
  rw[List.pairwise_cons] at hl hm
  have g:a=b:=by
   have c:=(h a).1 (by simp)
   have f:=(h b).2 (by simp)
   simp only[List.mem_cons] at c f;rcases c with c | c
   ·exact c
   ·rcases f with f | f
    ·exact f.symm
    ·exact absurd (CD (hl.1 b f) (hm.1 a c)) (jY a)
  subst g;congr 1
  refine nP hl.2 hm.2 (fun x=>?_);constructor
  ·intro hx
   have:=(h x).1 (by simp[hx])
   simp only[List.mem_cons] at this;rcases this with rfl | this
   ·exact absurd (hl.1 x hx) (jY x)
   ·exact this
  ·intro hx
   have:=(h x).2 (by simp[hx])
   simp only[List.mem_cons] at this;rcases this with rfl | this
   ·exact absurd (hm.1 x hx) (jY x)
   ·exact this
def fE(c:UInt8):Bool:=decide (97<=c.toNat) && decide (c.toNat<=122)
variable {c:UInt8}
theorem yy(h1:97<=c.toNat)(h2:c.toNat<=122):fE c=true:=by simp[fE,h1,h2]
theorem pc(h:¬ (97<=c.toNat∧c.toNat<=122)):fE c=false:=by
 cases hb:fE c with
 |false=>rfl
 |true=>simp[fE] at hb; exact absurd hb h
theorem qF(h:fE c=true):c≠43:=by
 rintro rfl;revert h
 decide
def wordB(w:Word):Bool:=(w != []) && w.all fE
variable {w x:Word}
theorem eK:wordB w=true↔w≠ []∧∀c∈w,fE c=true:=by simp[wordB]
theorem nQ(h:wordB w=true):(43:UInt8)∉w:=fun hm=>qF ((eK.1 h).2 _ hm) rfl
def words(s:List UInt8):List Word:=if s= [] then [] else parts 43 s
theorem wo:words []= []:=rfl
variable {s:List UInt8}
theorem gX(h:s≠ []):words s=parts 43 s:=if_neg h
def bd(s:List UInt8):Bool:=(words s).all wordB
def left(more:Bool)(s:List UInt8):List Word:=if more then parts 43 s else []
theorem nR(s:List UInt8):left true s=(cut s [43]).1::left (cut s [43]).2.2 (cut s [43]).2.1:=by
 rcases eO 43 s with h | ⟨a,b,rfl,h⟩
 ·rw[jc h]
  show parts 43 s=s:: []
  rw[bO h]
 ·rw[gV b h]
  show parts 43 (a ++ 43::b)=a::parts 43 b
  rw[bD b h]
theorem qG(s:List UInt8):(cut s [43]).1.length<=s.length∧(cut s [43]).2.1.length<=s.length∧((cut s [43]).2.2=true->(cut s [43]).2.1.length+1<=s.length):=by
 rcases eO 43 s with h | ⟨a,b,rfl,h⟩
 ·rw[jc h]; simp
 ·rw[gV b h]; simp; omega
def dI(l ws:List Word):Prop:=l.Pairwise (·<·)∧∀x,x∈l↔x∈ws
variable {l m ws:List Word}
theorem jZ(h:dI l ws)(k:dI m ws):l=m:=
 nP h.1 k.1 (fun x=>(h.2 x).trans (k.2 x).symm)
theorem j0:dI [] []:=⟨.nil,fun _=>Iff.rfl⟩
theorem yz(x:Word):∀(l:List Word),l.Pairwise (·<·)->∃k,k<=l.length∧(∀t,t<k->l.getD t x<x)∧(∀t,k<=t->¬ l.getD t x<x)∧(∀y∈l.take k,y<x)∧(∀y∈l.drop k,¬ y<x)
 |[],_=>⟨0,Nat.le_refl _,fun t h=>absurd h (Nat.not_lt_zero _),fun t _=>by simp,by simp,by simp⟩
 |a::l,h=>by
  rw[List.pairwise_cons] at h;by_cases ha:a<x
  ·obtain⟨k,h1,h2,h3,h4,h5⟩:=yz x l h.2
   refine⟨k+1,by simp; omega,fun t ht=>?_,fun t ht=>?_,fun y hy=>?_,fun y hy=>?_⟩
   ·cases t with
    |zero=>simpa using ha
    |succ t=>simpa using h2 t (by omega)
   ·cases t with
    |zero=>omega
    |succ t=>simpa using h3 t (by omega)
   ·rw[List.take_succ_cons,List.mem_cons] at hy
    rcases hy with rfl | hy
    ·exact ha
    ·exact h4 y hy
   ·exact h5 y (by simpa using hy)
  ·have b:∀y∈a::l,¬ y<x:=by
    intro y hy;rw[List.mem_cons] at hy;rcases hy with rfl | hy
    ·exact ha
    ·exact fun hyx=>ha (CD (h.1 y hy) hyx)
   refine⟨0,Nat.zero_le _,fun t ht=>absurd ht (Nat.not_lt_zero _),fun t _=>?_,by simp,by simpa using b⟩
   by_cases htl:t<(a::l).length
   ·have e:(a::l).getD t x=(a::l)[t]:=by rw[List.getD_eq_getElem?_getD,List.getElem?_eq_getElem htl]; rfl
    rw[e];exact b _ (Fw _)
   ·have e:(a::l).getD t x=x:=by simp only[List.getD]; rw[List.getElem?_eq_none (by omega)]; rfl
    rw[e];exact jY x
theorem kC(h:dI l ws)(hx:x∈l):dI l (ws ++ [x]):=by
 refine⟨h.1,fun y=>?_⟩;rw[List.mem_append,List.mem_singleton,h.2 y];constructor
 ·exact .inl
 ·rintro (h' | rfl)
  ·exact h'
  ·exact (h.2 y).1 hx
variable {k n:Nat}
theorem nS(h:dI l ws)(hx:x∉l)(h1:∀y∈l.take k,y<x)(h2:∀y∈l.drop k,¬ y<x):dI (l.take k ++ x::l.drop k) (ws ++ [x]):=by
 constructor
 ·rw[List.pairwise_append,List.pairwise_cons]
  have b:=h.1;rw[<- List.take_append_drop k l,List.pairwise_append] at b;refine⟨b.1,⟨fun y hy=>?_,b.2.1⟩,fun y hy z hz=>?_⟩
  ·rcases yx x y with hh | rfl | hh
   ·exact hh
   ·exact absurd (FD hy) hx
   ·exact absurd hh (h2 y hy)
  ·rw[List.mem_cons] at hz
   rcases hz with rfl | hz
   ·exact h1 y hy
   ·exact b.2.2 y hy z hz
 ·intro y
  rw[List.mem_append,List.mem_cons,List.mem_append,List.mem_singleton,<- h.2 y]
  have c:y∈l↔y∈l.take k∨y∈l.drop k:=by
   rw[<- List.mem_append,List.take_append_drop]
  rw[c];constructor
  ·rintro (h | h | h)
   ·exact .inl (.inl h)
   ·exact .inr h
   ·exact .inl (.inr h)
  ·rintro ((h | h) | h)
   ·exact .inl h
   ·exact .inr (.inr h)
   ·exact .inr (.inl h)
theorem ft:∀(rest:List Word) {l ws:List Word},dI l ws->∃m,dI m (ws ++ rest)∧l.length<=m.length
 |[],l,ws,h=>⟨l,by rwa [List.append_nil],Fa _⟩
 |x::rest,l,ws,h=>by
  by_cases hx:x∈l
  ·obtain⟨m,h1,h2⟩:=ft rest (kC h hx)
   exact⟨m,by simpa using h1,h2⟩
  ·obtain⟨k,hk,_,_,h4,h5⟩:=yz x l h.1
   obtain⟨m,h1,h2⟩:=ft rest (nS h hx h4 h5);refine⟨m,by simpa using h1,Nat.le_trans ?_ h2⟩
   simp
   omega
theorem tH{out:List Word}(hn:out.Nodup)(hm:∀x,x∈out↔x∈ws):dI (out.mergeSort fun x y=>decide (x<=y)) ws∧(out.mergeSort fun x y=>decide (x<=y)).length=out.length:=by
 refine⟨⟨?_,fun x=>?_⟩,List.length_mergeSort _⟩
 ·have f:(out.mergeSort fun x y=>decide (x<=y)).Pairwise (fun x y=>decide (x<=y)=true):=List.pairwise_mergeSort (fun a b c h1 h2=>by
   simp only[decide_eq_true_eq] at h1 h2 ⊢;exact List.le_trans h1 h2) (fun a b=>by
   simp only[Bool.or_eq_true,decide_eq_true_eq];exact List.le_total a b) out
  have g:(out.mergeSort fun x y=>decide (x<=y)).Nodup:=(List.mergeSort_perm out _).nodup_iff.2 hn
  exact (f.and g).imp (fun {a b} h=>by
   obtain⟨h1,h2⟩:=h;simp only[decide_eq_true_eq] at h1;rcases yx a b with h | h | h
   ·exact h
   ·exact absurd h h2
   ·exact absurd h (by rwa [List.not_lt]))
 ·rw[(List.mergeSort_perm out _).mem_iff,hm x]
def Out(s:List UInt8)(l:List Word)(n:Nat):Prop:=
 (n=0∧bd s=true∧dI l (words s)∧l.length<=5∧∀w∈words s,w.length<=8)∨(n=3∧l= []∧bd s=false)∨
 (n=4∧l= []∧bd s=true∧∃m,dI m (words s)∧(5<m.length∨∃w∈words s,8<w.length))
theorem out_inj(h:Out s l n)(h':Out s m k):l=m∧n=k:=by
 rcases h with ⟨rfl,hf,hs,h5,h8⟩ | ⟨rfl,rfl,hn⟩ | ⟨rfl,rfl,hf,m1,hs,hb⟩
 ·rcases h' with ⟨rfl,hf',hs',_,_⟩ | ⟨rfl,rfl,hn⟩ | ⟨rfl,rfl,hf',m2,hs',hb⟩
  ·exact⟨jZ hs hs',rfl⟩
  ·rw[hf] at hn; cases hn
  ·obtain rfl:=jZ hs hs'
   rcases hb with hb | ⟨w,hw,hb⟩
   ·omega
   ·have:=h8 w hw; omega
 ·rcases h' with ⟨rfl,hf',hs',_,_⟩ | ⟨rfl,rfl,hn'⟩ | ⟨rfl,rfl,hf',m2,hs',hb⟩
  ·rw[hf'] at hn; cases hn
  ·exact⟨rfl,rfl⟩
  ·rw[hf'] at hn; cases hn
 ·rcases h' with ⟨rfl,hf',hs',h5,h8⟩ | ⟨rfl,rfl,hn'⟩ | ⟨rfl,rfl,hf',m2,hs',hb'⟩
  ·obtain rfl:=jZ hs hs'
   rcases hb with hb | ⟨w,hw,hb⟩
   ·omega
   ·have:=h8 w hw; omega
  ·rw[hf] at hn'; cases hn'
  ·exact⟨rfl,rfl⟩
def ae(l:List Word):List UInt8:=join l [43]
theorem dx:ae []= []:=rfl
theorem eP(x:Word):ae [x]=x:=join_one x [43]
theorem eQ(x y:Word)(l:List Word):ae (x::y::l)=x ++ 43::ae (y::l):=by
 simp[ae,join,List.intercalate,List.intersperse]
theorem lP:∀(l:List Word),(∀x∈l,x.length<=8)->(ae l).length<=9*l.length
 |[],_=>by simp[dx]
 |[x],h=>by rw[eP]; have:=h x (by simp); simp; omega
 |x::y::l,h=>by
  rw[eQ];have h1:=h x (by simp)
  have b:=lP (y::l) (fun z hz=>h z (by simp[hz]))
  simp at b ⊢
  omega
theorem jA:∀(x:Word) (l:List Word),(∀y∈x::l,wordB y=true)->parts 43 (ae (x::l))=x::l
 |x,[],h=>by rw[eP,bO (nQ (h x (by simp)))]
 |x,y::l,h=>by
  rw[eQ,bD _ (nQ (h x (by simp))),jA y l (fun z hz=>h z (by simp[hz]))]
theorem wt(h:∀y∈x::l,wordB y=true):ae (x::l)≠ []:=by
 have hx:=(eK.1 (h x (by simp))).1
 cases l with
 |nil=>rwa [eP]
 |cons y l=>rw[eQ]; simp
theorem pg(l:List Word)(h:∀y∈l,wordB y=true):words (ae l)=l:=by
 cases l with
 |nil=>rfl
 |cons x l=>rw[gX (wt h),jA x l h]
theorem fM(h:Out s l 0):(∀y∈l,wordB y=true)∧(∀y∈l,y.length<=8)∧l.length<=5∧l.Pairwise (·<·):=by
 rcases h with ⟨_,hf,hs,h5,h8⟩ | ⟨h,_⟩ | ⟨h,_⟩
 ·refine⟨fun y hy=>?_,fun y hy=>h8 y ((hs.2 y).1 hy),h5,hs.1⟩
  exact List.all_eq_true.1 hf y ((hs.2 y).1 hy)
 ·cases h
 ·cases h
theorem eR(h:Out s l 0):Out (ae l) l 0:=by
 obtain⟨h1,h2,h3,h4⟩:=fM h;have b:=pg l h1;refine .inl ⟨rfl,?_,?_,h3,?_⟩
 ·unfold bd; rw[b]; exact List.all_eq_true.2 h1
 ·rw[b]; exact⟨h4,fun _=>Iff.rfl⟩
 ·rw[b]; exact h2
theorem yA(h:Out s l (n+1)):l= []:=by
 rcases h with ⟨h,_⟩ | ⟨_,h,_⟩ | ⟨_,h,_⟩
 ·cases h
 ·exact h
 ·exact h
theorem fu(h:Out s l n):l.length<=5∧(ae l).length<=45:=by
 cases n with
 |zero=>
  obtain⟨_,h2,h3,_⟩:=fM h
  have:=lP l h2;exact⟨h3,by omega⟩
 |succ n=>rw[yA h]; simp[dx]
theorem gY(s:List UInt8):∃l n,Out s l n:=by
 cases hf:bd s with
 |false=>exact⟨[],3,.inr (.inl ⟨rfl,rfl,hf⟩)⟩
 |true=>
  obtain⟨m,h1,_⟩:=ft (words s) j0;rw[List.nil_append] at h1;by_cases h5:m.length<=5
  ·by_cases h8:∃w∈words s,8<w.length
   ·exact⟨[],4,.inr (.inr ⟨rfl,rfl,hf,m,h1,.inr h8⟩)⟩
   ·refine⟨m,0,.inl ⟨rfl,hf,h1,h5,fun w hw=>?_⟩⟩
    rcases FF 8 w.length with h | h
    ·exact absurd ⟨w,hw,h⟩ h8
    ·exact h
  ·exact⟨[],4,.inr (.inr ⟨rfl,rfl,hf,m,h1,.inl (by omega)⟩)⟩
def inB(l m:List Word):Bool:=l.all fun x=>decide (x∈m)
theorem vo:inB l m=true↔∀x∈l,x∈m:=by simp[inB]
def fp(a b:List UInt8)(r:Bool)(n:Nat):Prop:=
 ∃l i m k,Out a l i∧Out b m k∧((i≠0∧n=i∧r=false)∨(i=0∧k≠0∧n=k∧r=false)∨(i=0∧k=0∧n=0∧r=inB l m))
theorem lQ{a b:List UInt8}{r r':Bool}{n':Nat}(h:fp a b r n)(h':fp a b r' n'):r=r'∧n=n':=by
 obtain⟨l,i,m,k,h1,h2,h3⟩:=h;obtain⟨l',i',m',k',h1',h2',h3'⟩:=h';obtain⟨rfl,rfl⟩:=out_inj h1 h1';obtain⟨rfl,rfl⟩:=out_inj h2 h2';rcases h3 with ⟨a1,rfl,rfl⟩ | ⟨a1,a2,rfl,rfl⟩ | ⟨a1,a2,rfl,rfl⟩ <;> rcases h3' with ⟨b1,rfl,rfl⟩ | ⟨b1,b2,rfl,rfl⟩ | ⟨b1,b2,rfl,rfl⟩ <;> first | exact⟨rfl,rfl⟩ | (exfalso; omega)
end Go.Proofs.YtlailakofhenkabGreatDoor.Sc
namespace Go.Proofs.YtlailakofhenkabGreatDoor
open Go.RowKit
namespace Sip
def rl(x k:Int):Int:=bits .or .u64 (IntKind.u64.wrap (x*2 ^ k.toNat)) (x / 2 ^ (64 - k).toNat)
def ad(x y:Int):Int:=IntKind.u64.wrap (x+y)
def xr(x y:Int):Int:=bits .xor .u64 x y
structure St where
 a:Int
 b:Int
 c:Int
 d:Int
def rnd(s:St):St:=
 let a1:=ad s.a s.b
 let b1:=xr (rl s.b 13) a1
 let a2:=rl a1 32
 let c1:=ad s.c s.d
 let d1:=xr (rl s.d 16) c1
 let a3:=ad a2 d1
 let d2:=xr (rl d1 21) a3
 let c2:=ad c1 b1
 let b2:=xr (rl b1 17) c2
 let c3:=rl c2 32
 ⟨a3,b2,c3,d2⟩
def rnds:Nat->St->St
 |0,s=>s
 |n+1,s=>rnd (rnds n s)
theorem Bc(x:Int):0<=IntKind.u64.wrap x∧IntKind.u64.wrap x<18446744073709551616:=by
 rw[IntKind.wrap_u64]; omega
theorem CE(x y:Int):0<=xr x y∧xr x y<18446744073709551616:=Bc _
theorem DH(k:Int)(k0:0<k)(k1:k<64):bits .and .u64 k 63=k:=by
 obtain⟨n,rfl⟩:=Int.eq_ofNat_of_zero_le (Int.le_of_lt k0);have h:n<64:=by omega
 revert h
 clear k0 k1;revert n
 decide
def le:List UInt8->Nat
 |[]=>0
 |b::r=>b.toNat+256*le r
theorem Bd(l:List UInt8)(b:UInt8):le (l ++ [b])=le l+b.toNat*256 ^ l.length:=by
 induction l with
 |nil=>simp[le]
 |cons c l ih=>simp only[List.cons_append,le,ih,List.length_cons,Nat.pow_succ]; rw[Nat.mul_add,Nat.mul_left_comm,Nat.mul_comm 256 (256 ^ l.length)]; omega
theorem yB(l:List UInt8):le l<256 ^ l.length:=by
 induction l with
 |nil=>simp[le]
 |cons c l ih=>
  simp only[le,List.length_cons,Nat.pow_succ]
  have:=c.toNat_lt;omega
def eatS(s:St)(x:Int):St:=
 let t:=rnds 2 ⟨s.a,s.b,s.c,xr s.d x⟩
 ⟨xr t.a x,t.b,t.c,t.d⟩
def start(k0 k1:Int):St:=⟨xr k0 8317987319222330741,xr k1 7237128888997146477,xr k0 7816392313619706465,xr k1 8387220255154660723⟩
def lR(s:St):Int:=
 let t:=rnds 4 ⟨s.a,s.b,xr s.c 255,s.d⟩
 xr (xr (xr t.a t.b) t.c) t.d
theorem gZ(a b:Nat)(ha:a<18446744073709551616)(hb:b<18446744073709551616):
 bits .or .u64 (a:Int) (b:Int)=((a ||| b:Nat):Int):=by
 have hx:a ||| b<2 ^ 64:=Nat.or_lt_two_pow (by omega) (by omega)
 have c:(BitVec.ofInt 64 (a:Int)).toNat=a:=by
  rw[BitVec.ofInt_natCast,BitVec.toNat_ofNat]; exact Nat.mod_eq_of_lt (by omega)
 have f:(BitVec.ofInt 64 (b:Int)).toNat=b:=by
  rw[BitVec.ofInt_natCast,BitVec.toNat_ofNat]; exact Nat.mod_eq_of_lt (by omega)
 show IntKind.u64.wrap ((BitVec.ofInt 64 (a:Int) ||| BitVec.ofInt 64 (b:Int)).toNat:Int)=_
 rw[BitVec.toNat_or,c,f,IntKind.wrap_u64];omega
theorem DI(k:Nat):(256:Nat) ^ k=2 ^ (8*k):=by rw[Nat.pow_mul]
theorem kD(a b k:Nat)(ha:a<256 ^ k):a ||| b*256 ^ k=a+b*256 ^ k:=by
 rw[DI] at *;rw[Nat.or_comm,Nat.mul_comm b,<- Nat.two_pow_add_eq_or_of_lt ha,Nat.add_comm]
theorem Be(b:UInt8)(k:Nat)(hk:k<8):b.toNat*256 ^ k<18446744073709551616:=by
 have h1:=b.toNat_lt;have c:(256:Nat) ^ k<=256 ^ 7:=Nat.pow_le_pow_right (by decide) (by omega)
 calc b.toNat*256 ^ k<=255*256 ^ 7:=Nat.mul_le_mul (by omega) c
  _<_:=by decide
theorem Bf(a:Nat)(b:UInt8)(k:Nat)(ha:a<256 ^ k)(hk:k<8):
 bits .or .u64 (a:Int) (IntKind.u64.wrap (IntKind.u64.wrap (b.toNat:Int)*2 ^ (8*k)))=((a+b.toNat*256 ^ k:Nat):Int):=by
 have h1:=b.toNat_lt;have c:=Be b k hk;have h3:(256:Nat) ^ k<=256 ^ 7:=Nat.pow_le_pow_right (by decide) (by omega)
 have f:IntKind.u64.wrap (b.toNat:Int)=(b.toNat:Int):=by rw[IntKind.wrap_u64]; omega
 have g:(b.toNat:Int)*2 ^ (8*k)=((b.toNat*256 ^ k:Nat):Int):=by rw[DI]; simp
 have j:IntKind.u64.wrap ((b.toNat*256 ^ k:Nat):Int)=((b.toNat*256 ^ k:Nat):Int):=by rw[IntKind.wrap_u64]; omega
 have h4:(256:Nat) ^ 7<18446744073709551616:=by decide
 rw[f,g,j,gZ _ _ (by omega) c,kD _ _ _ ha]
end Sip
end Go.Proofs.YtlailakofhenkabGreatDoor
namespace Go.Proofs.YtlailakofhenkabGreatDoor
namespace Hex
def hexc(d:Nat):UInt8:=if d<10 then UInt8.ofNat (48+d) else UInt8.ofNat (87+d)
def cS:Nat->Nat->List UInt8
 |0,_=> []
 |k+1,n=>cS k (n / 16) ++ [hexc (n % 16)]
def hexMin:Nat->Nat->List UInt8
 |0,n=> [hexc (n % 16)]
 |f+1,n=>if n<16 then [hexc n] else hexMin f (n / 16) ++ [hexc (n % 16)]
theorem bR(k n:Nat):(cS k n).length=k:=by
 induction k generalizing n with
 |zero=>rfl
 |succ k ih=>simp[cS,ih]
theorem tI(k:Nat):cS k 0=List.replicate k 48:=by
 induction k with
 |zero=>rfl
 |succ k ih=>rw[List.replicate_succ',cS,Nat.zero_div,ih]; rfl
theorem wu(f n k:Nat)(hk:1<=k)(hn:n<16 ^ k)(hf:k<=f+1):(hexMin f n).length<=k:=by
 induction f generalizing n k with
 |zero=>simp[hexMin]; omega
 |succ f ih=>
  unfold hexMin;split
  ·simp; omega
  ·rename_i h
   obtain⟨j,rfl⟩:∃j,k=j+1:=⟨k - 1,by omega⟩
   have b:1<=j:=by
    rcases Nat.eq_zero_or_pos j with h0 | h0
    ·subst h0; simp at hn; omega
    ·exact h0
   have:=ih (n / 16) j b (by rw[Nat.pow_succ] at hn; omega) (by omega)
   simp; omega
theorem Bg(f n k:Nat)(hk:1<=k)(hn:n<16 ^ k)(hf:k<=f+1):List.replicate (k - (hexMin f n).length) 48 ++ hexMin f n=cS k n:=by
 induction f generalizing n k with
 |zero=>
  obtain rfl:k=1:=by omega
  simp[hexMin,cS]
 |succ f ih=>
  obtain⟨j,rfl⟩:∃j,k=j+1:=⟨k - 1,by omega⟩
  unfold hexMin;split
  ·rename_i h
   simp[cS,Nat.div_eq_of_lt h,Nat.mod_eq_of_lt h,tI]
  ·rename_i h
   have b:1<=j:=by
    rcases Nat.eq_zero_or_pos j with h0 | h0
    ·subst h0; simp at hn; omega
    ·exact h0
   rw[cS,<- ih (n / 16) j b (by rw[Nat.pow_succ] at hn; omega) (by omega)]
   simp
theorem wv(k n i:Nat)(hi:i<k):(cS k n)[i]?=some (hexc (n / 16 ^ (k - 1 - i) % 16)):=by
 induction k generalizing n i with
 |zero=>omega
 |succ k ih=>
  rw[cS];by_cases h:i<k
  ·rw[List.getElem?_append_left (by rw[bR]; exact h),ih _ _ h,Nat.div_div_eq_div_mul]
   have:16*16 ^ (k - 1 - i)=16 ^ (k+1 - 1 - i):=by
    rw[show k+1 - 1 - i=(k - 1 - i)+1 by omega,Nat.pow_succ,Nat.mul_comm]
   rw[this]
  ·obtain rfl:i=k:=by omega
   rw[List.getElem?_append_right (by rw[bR]; omega),bR]
   simp
def rot(n k:Nat):Nat:=n % 16 ^ (16 - k)*16 ^ k+n / 16 ^ (16 - k)
theorem yC(n:Nat)(hn:n<16 ^ 16):rot n 0=n:=by simp[rot,Nat.mod_eq_of_lt hn,Nat.div_eq_of_lt hn]
theorem yD(n k:Nat)(hn:n<16 ^ 16)(hk:k<16):rot n k % 16 ^ 15*16+rot n k / 16 ^ 15=rot n (k+1)∧rot n (k+1) % 16=n / 16 ^ (15 - k) % 16:=by
 obtain⟨A,hA⟩:∃A,A=16 ^ (15 - k):=⟨_,rfl⟩;obtain⟨B,hB⟩:∃B,B=16 ^ k:=⟨_,rfl⟩;have c:A*B=16 ^ 15:=by rw[hA,hB,<- Nat.pow_add]; congr 1; omega
 have g:(16:Nat) ^ (16 - k)=A*16:=by rw[hA,<- Nat.pow_succ]; congr 1; omega
 have j:(16:Nat) ^ (k+1)=B*16:=by rw[hB,Nat.pow_succ]
 have p:(16:Nat) ^ (16 - (k+1))=A:=by rw[hA]; congr 1; omega
 have f:0<A:=by rw[hA]; exact Nat.pow_pos (by decide)
 have r:0<B:=by rw[hB]; exact Nat.pow_pos (by decide)
 unfold rot;rw[g,j,p,<- hB,<- hA];obtain⟨q,hq⟩:∃q,q=n / (A*16):=⟨_,rfl⟩;obtain⟨r1,hr1⟩:∃r1,r1=n / A % 16:=⟨_,rfl⟩;obtain⟨r0,hr0⟩:∃r0,r0=n % A:=⟨_,rfl⟩
 have s:n / A=q*16+r1:=by
  rw[hq,hr1,<- Nat.div_div_eq_div_mul]; omega
 have m:n % (A*16)=r1*A+r0:=by
  rw[Nat.mod_mul,<- hr0,<- hr1,Nat.mul_comm]; omega
 have C:q<B:=by
  rw[hq];refine Nat.div_lt_of_lt_mul ?_;have:A*16*B=16 ^ 16:=by rw[Nat.mul_right_comm,c]
  rw[this]; exact hn
 have o:r0<A:=by rw[hr0]; exact Nat.mod_lt _ f
 have t:r1<16:=by omega
 have b:r0*B+q<16 ^ 15:=by
  rw[<- c]
  have:(r0+1)*B<=A*B:=Fi _ o;rw[Nat.add_mul] at this; omega
 have D:n % (A*16)*B+n / (A*16)=r1*16 ^ 15+(r0*B+q):=by
  rw[m,<- hq,Nat.add_mul,Nat.mul_assoc,c,Nat.add_assoc]
 have v:0<(16:Nat) ^ 15:=by decide
 rw[D,<- hr0,s,Nat.mul_comm r1,Nat.mul_add_mod,Nat.mod_eq_of_lt b,Nat.mul_add_div v,Nat.div_eq_of_lt b];have z:r0*(B*16)=16*(r0*B):=by rw[Nat.mul_comm B 16,Nat.mul_left_comm]
 constructor
 ·rw[z]; omega
 ·rw[z]; omega
theorem rl4(X:Nat)(h:X<16 ^ 16):Sip.rl (X:Int) 4=((X % 16 ^ 15*16+X / 16 ^ 15:Nat):Int):=by
 unfold Sip.rl
 have b:IntKind.u64.wrap ((X:Int)*2 ^ (4:Int).toNat)=((X % 16 ^ 15*16:Nat):Int):=by
  rw[IntKind.wrap_u64]
  have:(2:Int) ^ (4:Int).toNat=16:=by decide
  rw[this]; omega
 have c:(X:Int) / 2 ^ (64 - (4:Int)).toNat=((X / 16 ^ 15:Nat):Int):=by
  have:(2:Int) ^ (64 - (4:Int)).toNat=1152921504606846976:=by decide
  rw[this]; omega
 rw[b,c,Sip.gZ _ _ (by omega) (by omega)]
 have f:X / 16 ^ 15<2 ^ 4:=by omega
 rw[Nat.mul_comm,<- Nat.two_pow_add_eq_or_of_lt (i:=4) f]
theorem yE(n k:Nat)(hn:n<16 ^ 16)(hk:k<=16):rot n k<16 ^ 16:=by
 unfold rot;have b:16 ^ (16 - k)*16 ^ k=16 ^ 16:=by rw[<- Nat.pow_add]; congr 1; omega
 have c:n % 16 ^ (16 - k)+1<=16 ^ (16 - k):=Nat.mod_lt _ (Nat.pow_pos (by decide))
 have f:=Fi (16 ^ k) c;have h3:n / 16 ^ (16 - k)<16 ^ k:=Nat.div_lt_of_lt_mul (by rw[b]; exact hn)
 rw[b,Nat.add_mul] at f;omega
theorem CF(X:Nat):bits .and .u64 (X:Int) 15=((X % 16:Nat):Int):=by
 have b:(BitVec.ofInt 64 (15:Int)).toNat=15:=by decide
 show IntKind.u64.wrap ((BitVec.ofInt 64 (X:Int) &&& BitVec.ofInt 64 15).toNat:Int)=_
 rw[BitVec.toNat_and,b,IntKind.wrap_u64,show (15:Nat)=2 ^ 4 - 1 from rfl,Nat.and_two_pow_sub_one_eq_mod,BitVec.ofInt_natCast,BitVec.toNat_ofNat]
 omega
end Hex
end Go.Proofs.YtlailakofhenkabGreatDoor
