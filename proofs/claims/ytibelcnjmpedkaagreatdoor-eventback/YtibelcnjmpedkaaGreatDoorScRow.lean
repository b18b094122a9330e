/-
  A list of texts that the call has made: nil, or a row of its own; one text put in at a place. Of no program.
-/
import Derived.Test.YtibelcnjmpedkaaGreatDoorRowApp
import Derived.Laws.IdiomCopy
namespace Go.Proofs.YtibelcnjmpedkaaGreatDoor
open Go Go.RowKit
def Words (B : Nat) (w : World) (v : Value) (xs : List ByteArray) : Prop :=
  (v = .slice none 0 0 ∧ xs = []) ∨ ∃ g c, v = .slice (some ⟨g, 0, none⟩) xs.length c ∧ RowAt B w g c xs.length (xs.map Value.string)
theorem Words.below {B B' : Nat} {w w' : World} {v : Value} {xs : List ByteArray} (h : Words B w v xs) (hb : Below B' w w') (hB : w.heap.size ≤ B') : Words B w' v xs := by
  rcases h with ⟨rfl, rfl⟩ | ⟨g, c, rfl, hr⟩
  · exact .inl ⟨rfl, rfl⟩
  · exact .inr ⟨g, c, rfl, hr.below hb (Nat.lt_of_lt_of_le hr.lt hB)⟩
theorem Words.mono {B B' : Nat} {w : World} {v : Value} {xs : List ByteArray} (h : Words B w v xs) (hB : B' ≤ B) : Words B' w v xs := by
  rcases h with ⟨rfl, rfl⟩ | ⟨g, c, rfl, hr⟩
  · exact .inl ⟨rfl, rfl⟩
  · exact .inr ⟨g, c, rfl, ⟨Nat.le_trans hB hr.new, hr.lt, hr.len, hr.le, hr.max, hr.holds, hr.there⟩⟩
theorem ins_get {α : Type} (cs : List α) (i : Nat) (hi : i ≤ cs.length) (u : α) (j : Nat) : (cs.take i ++ u :: cs.drop i)[j]? = if j < i then cs[j]? else if j = i then some u else cs[j - 1]? := by
  have hl : (cs.take i).length = i := by rw [List.length_take]; omega
  by_cases h1 : j < i
  · rw [if_pos h1, List.getElem?_append_left (by omega), List.getElem?_take, if_pos h1]
  · rw [if_neg h1, List.getElem?_append_right (by omega), hl]
    by_cases h2 : j = i
    · subst h2; simp
    · rw [if_neg h2]
      obtain ⟨d, rfl⟩ : ∃ d, j = i + (d + 1) := ⟨j - i - 1, by omega⟩
      rw [show i + (d + 1) - i = d + 1 by omega, List.getElem?_cons_succ, List.getElem?_drop]
      congr 1
theorem ins_len {α : Type} (cs : List α) (i : Nat) (hi : i ≤ cs.length) (u : α) : (cs.take i ++ u :: cs.drop i).length = cs.length + 1 := by
  rw [List.length_append, List.length_take, List.length_cons, List.length_drop]; omega
theorem below_setCellsW {B g : Nat} (hg : B ≤ g) : ∀ (vs : List Value) (o : Nat) (w : World), Below B w (w.setCells g o vs)
  | [], _, w => Below.refl _ w
  | v :: vs, o, w => ((Below.refl B w).setCell (p := ⟨g, o, none⟩) hg v).trans (below_setCellsW hg vs (o + 1) _)
theorem RowAt.setCells {B : Nat} {w : World} {g c n : Nat} {cs cs' : List Value} (h : RowAt B w g c n cs) (o : Nat) (vs : List Value) (ho : o + vs.length ≤ c) (hc : cs'.length ≤ c)
    (hh : ∀ j u, cs'[j]? = some u → (o ≤ j ∧ j < o + vs.length → vs[j - o]? = some u) ∧ (¬ (o ≤ j ∧ j < o + vs.length) → w.cell? ⟨g, j, none⟩ = some u)) : RowAt B (w.setCells g o vs) g c cs'.length cs' := by
  have hthere : ∀ j, j < vs.length → (w.cell? ⟨g, o + j, none⟩).isSome = true := fun j hj => (h.there (o + j) (by omega)).1
  refine ⟨h.new, ?_, rfl, hc, h.max, fun j u hj => ?_, fun j hj => ⟨?_, ?_⟩⟩
  · have hb := below_setCellsW (B := 0) (Nat.zero_le g) vs o w
    exact Nat.lt_of_lt_of_le h.lt hb.size
  · by_cases hin : o ≤ j ∧ j < o + vs.length
    · obtain ⟨d, rfl⟩ : ∃ d, j = o + d := ⟨j - o, by omega⟩
      have hv := (hh _ u hj).1 hin
      rw [show o + d - o = d by omega] at hv
      have hd : d < vs.length := (List.getElem?_eq_some_iff.1 hv).1
      rw [World.cell?_setCells_in g vs o w hthere d hd, ← hv, List.getElem?_eq_getElem hd]
    · rw [World.cell?_setCells_out g vs o w ⟨g, j, none⟩ (fun _ _ => by show j < o ∨ o + vs.length ≤ j; omega)]
      exact (hh _ u hj).2 hin
  · by_cases hin : o ≤ j ∧ j < o + vs.length
    · obtain ⟨d, rfl⟩ : ∃ d, j = o + d := ⟨j - o, by omega⟩
      rw [World.cell?_setCells_in g vs o w hthere d (by omega)]
      rfl
    · rw [World.cell?_setCells_out g vs o w ⟨g, j, none⟩ (fun _ _ => by show j < o ∨ o + vs.length ≤ j; omega)]
      exact (h.there j hj).1
  · rw [World.frozen?_setCells]
    exact (h.there j hj).2
theorem rowAt_new {B : Nat} {w : World} (hB : B ≤ w.heap.size) (cs : List Value) (n : Nat) (hn : cs.length = n) (z : Value) (G : Nat) (t : TypeId) (hm : G ≤ maxLen) (hl : n ≤ G) : RowAt B (w.alloc (.cells (cs.toArray ++ Builtin.zeroCells #[z] (G - n)) t)) w.heap.size G n cs := by
  have hs : (cs.toArray ++ Builtin.zeroCells #[z] (G - n)).size = G := by rw [Array.size_append, size_zeroCells]; simp; omega
  refine ⟨hB, by simp, hn, by omega, hm, fun j u hj => ?_, fun j hj => ⟨?_, World.frozen?_alloc_at _ _ _ _ (by simp)⟩⟩
  · have hl := (List.getElem?_eq_some_iff.1 hj).1
    rw [World.cell?_alloc_at _ _ _ _ (by simp), Array.getElem?_append_left (by simpa using hl)]
    simpa using hj
  · rw [World.cell?_alloc_at _ _ _ _ (by simp), Array.getElem?_eq_getElem (by rw [hs]; exact hj)]
    rfl
end Go.Proofs.YtibelcnjmpedkaaGreatDoor
