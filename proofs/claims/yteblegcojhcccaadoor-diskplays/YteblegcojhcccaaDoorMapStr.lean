/-
  A map of texts by ints that the call has made: told by a function; a look-up and a store at the operation.
-/
import Derived.Test.YteblegcojhcccaaDoorRows
import Derived.WalkKit
import Derived.Maps.OwnOps
import Derived.Maps.OwnSet
import Derived.Maps.StringElems
namespace Go.Proofs.YteblegcojhcccaaDoor
open Go Go.RowKit Go.Maps
def IsTab (w : World) (b n : Nat) (F : Int → ByteArray) : Prop :=
  ∃ D : DataW Unit, w.ownsMap Tryd.prog 3 (plainElem Tryd.prog 9) b n D ∧ Maps.IsMap D ∧ ∀ k : Int, (Lit.int .i64 k).wf = true → D.atKey (.int .i64 k) (.lit (.string [])) = .lit (.string (F k).data.toList)
theorem tabLaw : Keyed Tryd.prog 3 := int_keyed Tryd.underlying3
theorem tabZero (w : World) : (zeroValue 9).run Tryd.prog w = .ok (.string ByteArray.empty) w := by kernel_rfl
theorem IsTab.made (w : World) : IsTab (w.alloc (.map #[] 0)) w.heap.size 0 (fun _ => ByteArray.empty) :=
  ⟨.map [], World.ownsMap_made _ _ _ _, Maps.isMap_empty, fun _ _ => rfl⟩
theorem IsTab.kept {w w' : World} {b n : Nat} {F : Int → ByteArray} {row : Option Nat} (h : IsTab w b n F) (hg : w.grownBy w' row) (hne : some b ≠ row) : IsTab w' b n F := by
  obtain ⟨D, h1, h2, h3⟩ := h
  exact ⟨D, h1.kept hg hne, h2, h3⟩
theorem IsTab.below {B : Nat} {w w' : World} {b n : Nat} {F : Int → ByteArray} (h : IsTab w b n F) (hb : Below B w w') (hg : b < B) : IsTab w' b n F := by
  obtain ⟨D, ⟨es, clock, e1, F1, e2, e3⟩, h2, h3⟩ := h
  exact ⟨D, ⟨es, clock, (hb.block b hg).trans e1, F1, e2, e3⟩, h2, h3⟩
theorem IsTab.lt {w : World} {b n : Nat} {F : Int → ByteArray} (h : IsTab w b n F) : b < w.heap.size := by
  obtain ⟨D, h1, _⟩ := h
  exact h1.lt
theorem IsTab.mono {w : World} {b n m : Nat} {F : Int → ByteArray} (h : IsTab w b n F) (hm : n ≤ m) : IsTab w b m F := by
  obtain ⟨D, h1, h2⟩ := h
  exact ⟨D, h1.mono hm, h2⟩
theorem IsTab.look {w : World} {b n : Nat} {F : Int → ByteArray} (h : IsTab w b n F) {k : Int} (hk : (Lit.int .i64 k).wf = true) :
    (Instr.lookup 27 (.map (some b)) (.int .i64 k) false).run Tryd.prog w = .ok (.string (F k)) w := by
  obtain ⟨D, h1, h2, h3⟩ := h
  obtain ⟨v, ps, hrun, hv⟩ := h1.lookup tabLaw Tryd.underlying27 (tabZero w) (plainElem_string Tryd.underlying9 (by decide)) (keyOf_int_mk Tryd.underlying3 hk)
  obtain ⟨s, rfl, hz, _⟩ := plainElem_string_inv Tryd.underlying9 hv
  rw [hrun]
  have e : D.atKey (.int .i64 k) (.lit (.string [])) = (.lit (.string s.data.toList) : DataW Unit) := by
    have := congrArg Prod.fst hz
    exact this
  rw [h3 k hk] at e
  simp only [DataW.lit.injEq, Lit.string.injEq] at e
  have : s = F k := ByteArray.ext (Array.toList_inj.1 e.symm)
  rw [this]
theorem wpList_tabLook (w : World) {ops : Array Oper} {rest : List Oper} {o : Oper} {a : Act} {Q : Exit → Act → World → Prop}
    (hg : o.guard = none) (m x : Operand) (hop : o.op = Op.lookup 27 m x false) (b n : Nat) (F : Int → ByteArray) (hm : a.eval m = .map (some b)) (h : IsTab w b n F) (k : Int) (hx : a.eval x = .int .i64 k) (hk : (Lit.int .i64 k).wf = true)
    (hK : wpList Tryd.prog ops Q rest (a.put o.dst (.string (F k))) w) : wpList Tryd.prog ops Q (o :: rest) a w := by
  refine wpList_plain hg fun K' hK' => ?_
  have hrun := h.look hk
  unfold Oper.wp
  simp [execOp, hop, hm, hx, hrun, Result.andThen]
  exact hK' _ _ hK
theorem wpList_tabPut (w : World) {ops : Array Oper} {rest : List Oper} {o : Oper} {a : Act} {Q : Exit → Act → World → Prop}
    (hg : o.guard = none) (m x v : Operand) (hop : o.op = Op.mapUpdate 27 m x v) (b n : Nat) (F : Int → ByteArray) (hm : a.eval m = .map (some b)) (h : IsTab w b n F) (hn : n < maxLen) (k : Int) (s : ByteArray) (hx : a.eval x = .int .i64 k) (hv : a.eval v = .string s) (hk : (Lit.int .i64 k).wf = true) (hs : s.size ≤ maxLen)
    (hK : ∀ w', IsTab w' b (n + 1) (fun j => if j = k then s else F j) → w.grownBy w' (some b) → wpList Tryd.prog ops Q rest (a.put o.dst undef) w') : wpList Tryd.prog ops Q (o :: rest) a w := by
  obtain ⟨D, h1, h2, h3⟩ := h
  refine wpList_mapUpdate_own w hg m x v _ hop 3 9 tabLaw Tryd.underlying27 _ b n D hm h1 hn _ _ (.int .i64 k) hx hv (keyOf_int_mk Tryd.underlying3 hk) (.lit (.string s.data.toList)) [] (plainElem_string Tryd.underlying9 hs) ?_
  intro w' h4 h5
  refine hK w' ⟨_, h4, h2.put _ _, fun j hj => ?_⟩ h5
  by_cases e : j = k
  · subst e
    rw [Maps.atKey_put_same h2 (by exact trivial)]
    simp
  · rw [Maps.atKey_put_other (by simpa using e)]
    simp only [e, if_false]
    exact h3 j hj
end Go.Proofs.YteblegcojhcccaaDoor
