import Derived.Deep.RegionHeld
namespace Go.RegD
open Go
section
variable {P : Program} {ops : Array Oper} {Q : Exit → Act → World → Prop} {md : Region.Mode} {S : World → Prop} {d : Nat}
def waits (md:Region.Mode) (ops:Array Oper) (d:Nat):List Nat:=match ops[d]? with
 |some o=>o.after.toList.filterMap fun e=>if Region.binds md e=true then some e.on else none
 |none=> []
def adds (s:List Nat):List Nat→List Nat
 |[]=>s
 |x::l=>adds (if s.contains x then s else x::s) l
def anc (md:Region.Mode) (ops:Array Oper):Nat→List Nat→List Nat
 |0,s=>s
 |j+1,s=>anc md ops j (if s.contains j then adds s (waits md ops j) else s)
def Closed (md:Region.Mode) (ops:Array Oper) (listed:Array Bool):Prop:=
 ∀ j oj,ops[j]?=some oj→listed.getD j false=true→∀ e∈oj.after,Region.binds md e=true→listed.getD e.on false=true
def closedB (md:Region.Mode) (ops:Array Oper) (listed:Array Bool):Bool:=
 (List.range ops.size).all fun j=>!listed.getD j false || match ops[j]? with
  |some oj=>oj.after.all fun e=>!Region.binds md e || listed.getD e.on false
  |none=>true
theorem closed_of {listed:Array Bool} (h:closedB md ops listed=true):Closed md ops listed:=by
 intro j oj hj hl e he hb;have h1:=List.all_eq_true.1 h j (List.mem_range.2 (Array.getElem?_eq_some_iff.1 hj).1);simp only [hl,Bool.not_true,Bool.false_or,hj] at h1;have h2:=Array.all_eq_true_iff_forall_mem.1 h1 e he;simpa [hb] using h2
theorem Closed.set {i:Nat} {listed:Array Bool} (inv:Closed md ops listed) (hi:i∈Region.ready md ops listed):Closed md ops (listed.setIfInBounds i true):=by
 obtain ⟨_,oi,hoi,hall⟩:=mem_ready.1 hi;intro j oj hj hl e he hb;by_cases hij:i=j
 ·subst hij
  have:oj=oi:=Option.some.inj (hj.symm.trans hoi);subst this;exact getD_set_true (hall e he hb)
 ·rw [getD_set_ne false hij] at hl
  exact getD_set_true (inv j oj hj hl e he hb)
theorem waits_mem {d x:Nat} {o:Oper} (ho:ops[d]?=some o) (hx:x∈waits md ops d):∃ e∈o.after,Region.binds md e=true∧e.on=x:=by
 unfold waits at hx;simp only [ho,List.mem_filterMap,Option.ite_none_right_eq_some,Option.some.injEq] at hx;obtain ⟨e,h1,h2,h3⟩:=hx;exact ⟨e,by simpa using h1,h2,h3⟩
theorem adds_all {q:Nat→Prop}:∀ (l s:List Nat),(∀ x∈s,q x)→(∀ x∈l,q x)→∀ x∈adds s l,q x
 |[],s,hs,_=>hs
 |y::l,s,hs,hl=>by
  refine adds_all l _ ?_ (fun x hx=>hl x (by simp [hx]))
  split
  ·exact hs
  ·intro x hx
   rcases List.mem_cons.1 hx with rfl | hx
   ·exact hl _ (by simp)
   ·exact hs x hx
theorem anc_listed {listed:Array Bool} (inv:Closed md ops listed):∀ (n:Nat) (s:List Nat),(∀ x∈s,listed.getD x false=true)→∀ x∈anc md ops n s,listed.getD x false=true
 |0,_,hs=>hs
 |j+1,s,hs=>by
  refine anc_listed inv j _ ?_;split
  ·rename_i hj
   have hlj:=hs j (by simpa using hj)
   refine adds_all _ _ hs (fun x hx=>?_)
   cases ho:ops[j]? with
   |none=>unfold waits at hx; simp [ho] at hx
   |some o=>
    obtain ⟨e,h1,h2,rfl⟩:=waits_mem ho hx;exact inv j o ho hlj e h1 h2
  ·exact hs
theorem reach_listed {listed:Array Bool} (inv:Closed md ops listed) {i:Nat} (n d:Nat) (od:Oper) (hd:ops[d]?=some od) (hall:∀ e∈od.after,Region.binds md e=true→listed.getD e.on false=true) (h:(anc md ops n (waits md ops d)).contains i=true):listed.getD i false=true:=by
 refine anc_listed inv n _ (fun x hx=>?_) i (by simpa using h)
 obtain ⟨e,h1,h2,rfl⟩:=waits_mem hd hx;exact hall e h1 h2
theorem both {listed:Array Bool} {i:Nat} (h:listed.getD i true=false):listed.getD i false=false:=by
 rcases Nat.lt_or_ge i listed.size with h' | h'
 ·simp [h'] at h ⊢; exact h
 ·simp [Array.getElem?_eq_none h'] at h
theorem at_list {l:List Oper} {i:Nat} {o:Oper} (h:l[i]?=some o):l.toArray[i]?=some o:=by rw [List.getElem?_toArray]; exact h
def wpAnyD (P:Program) (md:Region.Mode) (ops:Array Oper) (Q:Exit→Act→World→Prop) (S:World→Prop) (d:Nat):Nat→Array Bool→Act→World→Prop
 |0,listed,a,w=>Region.ready md ops listed= []∧Q .normal a w
 |fuel+1,listed,a,w=>
  (Region.ready md ops listed= []→Q .normal a w)∧
  ∀ i∈Region.ready md ops listed,wpOp P ops Q i (fun a' w'=>((listed.setIfInBounds i true).getD d false=false→S w')∧wpAnyD P md ops Q S d fuel (listed.setIfInBounds i true) a' w') a w
theorem wpAny_of_D:∀ (fuel:Nat) (listed:Array Bool) (a:Act) (w:World),wpAnyD P md ops Q S d fuel listed a w→wpAny P md ops Q fuel listed a w
 |0,_,_,_,h=>h
 |fuel+1,_,_,_,h=>⟨h.1,fun i hi=>wpOp_mono (fun a' w' h'=>wpAny_of_D fuel _ a' w' h'.2) (h.2 i hi)⟩
theorem wpAnyD_first {i n:Nat} {oi od:Oper} {v:Value} (hi:ops[i]?=some oi) (hd:ops[d]?=some od) (hid:i≠d) (hre:(anc md ops n (waits md ops d)).contains i=true) (hsel:∀ (j:Nat) (o:Oper) cs b,ops[j]?=some o→o.op≠.select cs b)
 (hQ:∀ c a w,Q (.panic c) (a.put oi.dst v) w→Q (.panic c) a w) :
 ∀ (fuel:Nat) (listed:Array Bool) (a:Act) (w:World),Closed md ops listed→
  (∀ j oj,ops[j]?=some oj→j≠i→listed.getD j true=false→(∀ e∈oj.after,Region.binds md e=true→e.on≠i)→oi.apart ops oj=true)→
  i∈Region.ready md ops listed→YieldsIf P ops S oi v a→S w→
  wpAnyD P md ops Q S d fuel (listed.setIfInBounds i true) (a.put oi.dst v) w→wpAnyD P md ops Q S d (fuel+1) listed a w:=by
 intro fuel;induction fuel with
 |zero=>
  intro listed a w inv _ hr hy hS H;refine ⟨fun h=>(by rw [h] at hr; cases hr),fun j hj=>?_⟩
  by_cases hji:j=i
  ·subst hji; exact hy.wpOp hi hS ⟨fun _=>hS,H⟩
  ·have:=ready_mono hj hji
   rw [H.1] at this
   cases this
 |succ fuel ih=>
  intro listed a w inv hfree hr hy hS H;have hun:=(mem_ready.1 hr).1;refine ⟨fun h=>(by rw [h] at hr; cases hr),fun j hj=>?_⟩
  by_cases hji:j=i
  ·subst hji; exact hy.wpOp hi hS ⟨fun _=>hS,H⟩
  ·have h1:=H.2 j (ready_mono hj hji)
   obtain ⟨hjun,oj,hoj,hall⟩:=mem_ready.1 hj
   have hjd:j≠d:=by
    rintro rfl;have h0:=reach_listed inv n j oj hoj hall hre;rw [both hun] at h0
    cases h0
   have hd0:listed.getD d false=false:=by
    cases hh:listed.getD d false with
    |false=>rfl
    |true=>
     have h0:=reach_listed inv n d od hd (inv d od hd hh) hre;rw [both hun] at h0
     cases h0
   have hf:((listed.setIfInBounds i true).setIfInBounds j true).getD d false=false:=by
    rw [getD_set_ne false hjd,getD_set_ne false hid]; exact hd0
   have hnot:∀ e∈oj.after,Region.binds md e=true→e.on≠i:=fun e he hb heq=>by
    have h1:=hall e he hb;rw [heq,both hun] at h1
    cases h1
   have h2:=wpOp_putIf hoj (hfree j oj hoj hji hjun hnot) (fun cs b=>hsel i oi cs b hi) (fun cs b=>hsel j oj cs b hoj) hQ hy h1
   have hfree':∀ k ok,ops[k]?=some ok→k≠i→(listed.setIfInBounds j true).getD k true=false→
    (∀ e∈ok.after,Region.binds md e=true→e.on≠i)→oi.apart ops ok=true:=fun k ok hk hki hun hno=>by
    refine hfree k ok hk hki ?_ hno;by_cases hjk:j=k
    ·subst hjk; exact hjun
    ·rw [getD_set_ne true hjk] at hun; exact hun
   refine wpOp_mono (fun a' w' h3=>⟨fun _=>h3.2.1 hf,ih (listed.setIfInBounds j true) a' w' (inv.set hj) hfree' (ready_mono hr (Ne.symm hji)) h3.1 (h3.2.1 hf) ?_⟩) h2;rw [Array.setIfInBounds_comm _ _ hji];exact h3.2.2
def takeB (md:Region.Mode) (ops:Array Oper) (d:Nat) (listed:Array Bool) (i:Nat):Bool:=
 Region.noSelect ops && Region.free md ops listed i && (Region.ready md ops listed).contains i && closedB md ops listed && (anc md ops d (waits md ops d)).contains i && decide (d<ops.size) && (i != d)
theorem T_ {l:List Oper} (i:Nat) {oi:Oper} {v:Value} {fuel:Nat} {listed:Array Bool} {a:Act} {w:World} (hi0:l[i]?=some oi) (hB:takeB md l.toArray d listed i=true)
 (hQ:∀ c a w,Q (.panic c) (a.put oi.dst v) w→Q (.panic c) a w) (hy:YieldsIf P l.toArray S oi v a) (hS:S w)
 (h:wpAnyD P md l.toArray Q S d fuel (listed.setIfInBounds i true) (a.put oi.dst v) w):wpAnyD P md l.toArray Q S d (fuel+1) listed a w:=by
 have hi:=at_list hi0;generalize l.toArray=ops at *;simp only [takeB,Bool.and_eq_true,bne_iff_ne,ne_eq] at hB;obtain ⟨⟨⟨⟨⟨⟨h1,h2⟩,h3⟩,h4⟩,h5⟩,h7⟩,h6⟩:=hB;have h8:d<ops.size:=by simpa using h7
 obtain ⟨od,hd⟩:∃ od,ops[d]?=some od:=⟨_,Array.getElem?_eq_getElem h8⟩;exact wpAnyD_first hi hd h6 h5 (Region.noSelect_spec h1) hQ fuel listed a w (closed_of h4) (Region.free_spec hi h2) (by simpa using h3) hy hS h
theorem O_ {l:List Oper} (i:Nat) {o:Oper} {fuel:Nat} {listed:Array Bool} {a:Act} {w:World} (ho0:l[i]?=some o) (hr:Region.ready md l.toArray listed= [i])
 (h:∀ K':Act→World→Prop,Shut (∀ a w,S w→(S w→wpAnyD P md l.toArray Q S d fuel (listed.setIfInBounds i true) a w)→K' a w)→if Region.wanted o (yielded l.toArray a.tmps)=true then Oper.wp P o a w K' Q else K' (a.put o.dst undef) w):wpAnyD P md l.toArray Q S d (fuel+1) listed a w:=
 ⟨fun h0=>absurd (hr ▸ h0) (by simp),fun j hj=>by
  rw [hr] at hj;obtain rfl:j=i:=by simpa using hj
  exact wpOp_step (at_list ho0) (fun K' hK=>h K' (fun a w hS hW=>hK a w ⟨fun _=>hS,hW hS⟩))⟩
theorem L_ {l:List Oper} (i:Nat) {o:Oper} {fuel:Nat} {listed:Array Bool} {a:Act} {w:World} (ho0:l[i]?=some o) (hr:Region.ready md l.toArray listed= [i]) (hd:(listed.setIfInBounds i true).getD d false=true)
 (h:∀ K':Act→World→Prop,Shut (∀ a w,wpAnyD P md l.toArray Q S d fuel (listed.setIfInBounds i true) a w→K' a w)→if Region.wanted o (yielded l.toArray a.tmps)=true then Oper.wp P o a w K' Q else K' (a.put o.dst undef) w):wpAnyD P md l.toArray Q S d (fuel+1) listed a w:=
 ⟨fun h0=>absurd (hr ▸ h0) (by simp),fun j hj=>by
  rw [hr] at hj;obtain rfl:j=i:=by simpa using hj
  exact wpOp_step (at_list ho0) (fun K' hK=>h K' (fun a w hW=>hK a w ⟨fun h0=>(by rw [hd] at h0; cases h0),hW⟩))⟩
theorem D_ {listed:Array Bool} {a:Act} {w:World} (hr:Region.ready md ops listed= []) (h:Q .normal a w):∀ fuel,wpAnyD P md ops Q S d fuel listed a w
 |0=>⟨hr,h⟩
 |_+1=>⟨fun _=>h,by rw [hr]; simp⟩
theorem R_ {id:Nat} {a:Act} {w:World} (S:World→Prop) (d:Nat) (hm:P.follows .mixedOrders=true) (hS:S w.drew)
 (h:S w.drew→wpAnyD P .any ops Q S d ops.size (Array.replicate ops.size false) a w.drew):(Code.region id ops true).wp P Q a w:=
 wp_region_any hm (wpAny_of_D _ _ _ _ (h hS))
end
end Go.RegD
namespace Go.Proofs.YtlailakofhenkabGreatDoor
theorem pS1 {α : Type} (l : List α) (i : Nat) (a : α) : l.toArray.setIfInBounds i a = (l.set i a).toArray := List.setIfInBounds_toArray l i a
theorem pS2 {α : Type} (a b : α) (l : List α) : (a :: l).set 0 b = b :: l := rfl
theorem pS3 {α : Type} (a b : α) (l : List α) (n : Nat) : (a :: l).set (n + 1) b = a :: l.set n b := rfl
end Go.Proofs.YtlailakofhenkabGreatDoor
