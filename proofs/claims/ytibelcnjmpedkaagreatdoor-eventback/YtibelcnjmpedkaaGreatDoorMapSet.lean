/-
  A set of texts that the call has made (map[string]bool): told by a Bool function; a look-up and a store at the operation.
-/
import Derived.Test.YtibelcnjmpedkaaGreatDoorRows
import Derived.WalkKit
import Derived.Maps.OwnOps
import Derived.Maps.OwnSet
import Derived.Maps.StringElems
import Derived.StringKeys
namespace Go.Proofs.YtibelcnjmpedkaaGreatDoor
open Go Go.RowKit Go.Maps Go.WideMaps
def HasSet (w : World) (b n : Nat) (S : List UInt8 → Bool) : Prop :=
  ∃ D : DataW Unit, w.ownsMap Tryz.prog 9 (plainElem Tryz.prog 4) b n D ∧ Maps.IsMap D ∧ ∀ k : List UInt8, D.atKey (.string k) (.lit (.bool false)) = .lit (.bool (S k))
theorem setLaw : Keyed Tryz.prog 9 := string_keyed Tryz.underlying9
theorem setZero (w : World) : (zeroValue 4).run Tryz.prog w = .ok (.bool false) w := by kernel_rfl
theorem HasSet.made (w : World) : HasSet (w.alloc (.map #[] 0)) w.heap.size 0 (fun _ => false) :=
  ⟨.map [], World.ownsMap_made _ _ _ _, Maps.isMap_empty, fun _ => rfl⟩
theorem HasSet.kept {w w' : World} {b n : Nat} {S : List UInt8 → Bool} {row : Option Nat} (h : HasSet w b n S) (hg : w.grownBy w' row) (hne : some b ≠ row) : HasSet w' b n S := by
  obtain ⟨D, h1, h2, h3⟩ := h
  exact ⟨D, h1.kept hg hne, h2, h3⟩
theorem HasSet.block {w w' : World} {b n : Nat} {S : List UInt8 → Bool} (h : HasSet w b n S) (hb : w'.heap[b]? = w.heap[b]?) : HasSet w' b n S := by
  obtain ⟨D, ⟨es, clock, e1, F1, e2, e3⟩, h2, h3⟩ := h
  exact ⟨D, ⟨es, clock, hb.trans e1, F1, e2, e3⟩, h2, h3⟩
theorem HasSet.lt {w : World} {b n : Nat} {S : List UInt8 → Bool} (h : HasSet w b n S) : b < w.heap.size := by
  obtain ⟨D, h1, _⟩ := h
  exact h1.lt
theorem plainElem_bool_inv {H : Type} {P : Program} {e : TypeId} (he : P.underlying e = some .bool) {v : Value} {z : DataW H × List MemPlace} (h : plainElem P e v = some z) : ∃ x : Bool, v = .bool x ∧ z = (.lit (.bool x), []) := by
  unfold plainElem at h
  rw [he] at h
  cases v <;> simp at h
  exact ⟨_, rfl, h.symm⟩
theorem HasSet.look {w : World} {b n : Nat} {S : List UInt8 → Bool} (h : HasSet w b n S) {s : ByteArray} (hs : s.size ≤ maxLen) :
    (Instr.lookup 230 (.map (some b)) (.string s) false).run Tryz.prog w = .ok (.bool (S s.data.toList)) w := by
  obtain ⟨D, h1, h2, h3⟩ := h
  obtain ⟨v, ps, hrun, hv⟩ := h1.lookup setLaw Tryz.underlying230 (setZero w) (plainElem_bool Tryz.underlying4 false) (keyOf_string_mk Tryz.underlying9 hs)
  obtain ⟨x, rfl, hz⟩ := plainElem_bool_inv Tryz.underlying4 hv
  rw [hrun]
  have e : D.atKey (.string s.data.toList) (.lit (.bool false)) = (.lit (.bool x) : DataW Unit) := by
    have := congrArg Prod.fst hz
    exact this
  rw [h3] at e
  simp only [DataW.lit.injEq, Lit.bool.injEq] at e
  rw [e]
theorem wpList_setPut (w : World) {ops : Array Oper} {rest : List Oper} {o : Oper} {a : Act} {Q : Exit → Act → World → Prop}
    (hg : o.guard = none) (m x v : Operand) (hop : o.op = Op.mapUpdate 230 m x v) (b n : Nat) (S : List UInt8 → Bool) (hm : a.eval m = .map (some b)) (h : HasSet w b n S) (hn : n < maxLen) (s : ByteArray) (hx : a.eval x = .string s) (hv : a.eval v = .bool true) (hs : s.size ≤ maxLen)
    (hK : ∀ w', HasSet w' b (n + 1) (fun j => decide (j = s.data.toList) || S j) → w.grownBy w' (some b) → wpList Tryz.prog ops Q rest (a.put o.dst undef) w') : wpList Tryz.prog ops Q (o :: rest) a w := by
  obtain ⟨D, h1, h2, h3⟩ := h
  refine wpList_mapUpdate_own w hg m x v _ hop 9 4 setLaw Tryz.underlying230 _ b n D hm h1 hn _ _ (.string s.data.toList) hx hv (keyOf_string_mk Tryz.underlying9 hs) (.lit (.bool true)) [] (plainElem_bool Tryz.underlying4 true) ?_
  intro w' h4 h5
  refine hK w' ⟨_, h4, h2.put _ _, fun j => ?_⟩ h5
  by_cases e : j = s.data.toList
  · subst e
    rw [Maps.atKey_put_same h2 (by exact trivial)]
    simp
  · rw [Maps.atKey_put_other (by simpa using e)]
    rw [h3 j]
    simp [e]
end Go.Proofs.YtibelcnjmpedkaaGreatDoor
