/-
  Plain mathematics: pairs that are one are counted.
-/
import Derived.Test.YtibelcnjmpedkaaGreatDoorScJoin
namespace Go.Proofs.YtibelcnjmpedkaaGreatDoor.Sc
def pairsOf (l m : List Word) : Nat := (l.map fun p => m.count p).sum
theorem pairs_take (l m : List Word) (k : Nat) (h : k < l.length) : pairsOf (l.take (k + 1)) m = pairsOf (l.take k) m + m.count l[k] := by
  unfold pairsOf
  rw [List.take_succ_eq_append_getElem h, List.map_append, List.sum_append]
  simp
theorem count_take (m : List Word) (p : Word) (k : Nat) (h : k < m.length) : (m.take (k + 1)).count p = (m.take k).count p + if m[k] = p then 1 else 0 := by
  rw [List.take_succ_eq_append_getElem h, List.count_append]
  congr 1
  by_cases e : m[k] = p
  · simp [e]
  · simp [e]
theorem count_one {m : List Word} (h : m.Nodup) (p : Word) : m.count p = if p ∈ m then 1 else 0 := by
  induction m with
  | nil => simp
  | cons a m ih =>
    rw [List.nodup_cons] at h
    rw [List.count_cons, ih h.2]
    by_cases e : a = p
    · subst e
      simp [h.1]
    · have e' : ¬ p = a := fun h => e h.symm
      simp [e, e']
theorem rising_nodup {m : List Word} (h : m.Pairwise (· < ·)) : m.Nodup := h.imp (fun {a b} hab => (fun e => by subst e; exact lt_irr _ hab : a ≠ b))
theorem pairs_le {m : List Word} (h : m.Nodup) : ∀ l : List Word, pairsOf l m ≤ l.length ∧ (pairsOf l m = l.length ↔ ∀ x ∈ l, x ∈ m)
  | [] => by simp [pairsOf]
  | a :: l => by
    obtain ⟨h1, h2⟩ := pairs_le h l
    have e : pairsOf (a :: l) m = (if a ∈ m then 1 else 0) + pairsOf l m := by
      show m.count a + _ = _
      rw [count_one h]
      rfl
    by_cases ha : a ∈ m
    · rw [e, if_pos ha]
      refine ⟨by simp; omega, ?_⟩
      rw [List.length_cons, show (1 + pairsOf l m = l.length + 1 ↔ pairsOf l m = l.length) by omega, h2]
      simp [ha]
    · rw [e, if_neg ha]
      refine ⟨by simp; omega, ?_⟩
      constructor
      · intro hh; simp at hh; omega
      · intro hh; exact absurd (hh a (by simp)) ha
theorem pairs_is {l m : List Word} (h : m.Pairwise (· < ·)) : ((pairsOf l m : Int) == (l.length : Int)) = inB l m := by
  rw [Bool.eq_iff_iff, inB_iff, ← (pairs_le (rising_nodup h) l).2, beq_iff_eq]
  omega
end Go.Proofs.YtibelcnjmpedkaaGreatDoor.Sc
