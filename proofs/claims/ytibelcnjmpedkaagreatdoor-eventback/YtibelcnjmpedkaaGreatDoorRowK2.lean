/-
  One element set, put in, taken out, of a list of elements of k cells: what the row holds behind it. Of no program.
-/
import Derived.Test.YtibelcnjmpedkaaGreatDoorRowK
namespace Go.Proofs.YtibelcnjmpedkaaGreatDoor
open Go Go.RowKit
theorem RowK.set {k B : Nat} {w : World} {g c n : Nat} {cs : List Value} (h : RowK k B w g c n cs) (i : Nat) (hi : i < n) (us : List Value) (hu : us.length = k) (h1 : ∀ u ∈ us, u.oneCell' = true) :
    RowK k B (w.setCells g (i * k) us) g c n (cs.take (i * k) ++ us ++ cs.drop ((i + 1) * k)) := by
  have e1 : (i + 1) * k = i * k + k := Nat.succ_mul i k
  have e2 : (i + 1) * k ≤ n * k := Nat.mul_le_mul_right k hi
  have e3 : n * k ≤ c * k := Nat.mul_le_mul_right k h.le
  have hlen := h.len
  have ht : (cs.take (i * k)).length = i * k := by rw [List.length_take]; omega
  have htu : (cs.take (i * k) ++ us).length = i * k + k := by rw [List.length_append, ht, hu]
  refine h.setCells (i * k) us (by omega) h.le ?_ ?_ (fun j u hj => ?_)
  · rw [List.length_append, htu, List.length_drop]; omega
  · intro u hu'
    rw [List.mem_append, List.mem_append] at hu'
    rcases hu' with (hu' | hu') | hu'
    · exact h.one u (List.mem_of_mem_take hu')
    · exact h1 u hu'
    · exact h.one u (List.mem_of_mem_drop hu')
  · rw [hu]
    refine ⟨fun hin => ?_, fun hout => ?_⟩
    · rw [List.getElem?_append_left (by omega), List.getElem?_append_right (by omega), ht] at hj
      exact hj
    · by_cases hj1 : j < i * k
      · rw [List.getElem?_append_left (by omega), List.getElem?_append_left (by omega), List.getElem?_take, if_pos hj1] at hj
        exact h.holds j u hj
      · rw [List.getElem?_append_right (by omega), htu, List.getElem?_drop, show (i + 1) * k + (j - (i * k + k)) = j by omega] at hj
        exact h.holds j u hj
theorem RowK.shift {k B : Nat} {w : World} {g c n : Nat} {cs : List Value} (h : RowK k B w g c n cs) (i : Nat) (hi : i ≤ n) (hc : n + 1 ≤ c) (us : List Value) (hu : us.length = k) (h1 : ∀ u ∈ us, u.oneCell' = true) :
    RowK k B ((w.setCells g ((i + 1) * k) (cs.drop (i * k))).setCells g (i * k) us) g c (n + 1) (cs.take (i * k) ++ us ++ cs.drop (i * k)) := by
  have e1 : (i + 1) * k = i * k + k := Nat.succ_mul i k
  have e0 : (n + 1) * k = n * k + k := Nat.succ_mul n k
  have e2 : i * k ≤ n * k := Nat.mul_le_mul_right k hi
  have e3 : (n + 1) * k ≤ c * k := Nat.mul_le_mul_right k hc
  have hlen := h.len
  have ht : (cs.take (i * k)).length = i * k := by rw [List.length_take]; omega
  have hd : (cs.drop (i * k)).length = n * k - i * k := by rw [List.length_drop]; omega
  have htu : (cs.take (i * k) ++ us).length = i * k + k := by rw [List.length_append, ht, hu]
  have hone : ∀ (zs : List Value), (∀ u ∈ zs, u.oneCell' = true) → ∀ u ∈ cs.take (i * k) ++ zs ++ cs.drop (i * k), u.oneCell' = true := by
    intro zs hz u hu'
    rw [List.mem_append, List.mem_append] at hu'
    rcases hu' with (hu' | hu') | hu'
    · exact h.one u (List.mem_of_mem_take hu')
    · exact hz u hu'
    · exact h.one u (List.mem_of_mem_drop hu')
  have h0 : RowK k B (w.setCells g ((i + 1) * k) (cs.drop (i * k))) g c i (cs.take (i * k)) := by
    refine h.setCells _ _ (by omega) (by omega) ht (fun u hu' => h.one u (List.mem_of_mem_take hu')) (fun j u hj => ⟨fun hin => ?_, fun hout => ?_⟩)
    · have := (List.getElem?_eq_some_iff.1 hj).1
      omega
    · have := (List.getElem?_eq_some_iff.1 hj).1
      rw [List.getElem?_take, if_pos (by omega)] at hj
      exact h.holds j u hj
  refine h0.setCells _ _ (by omega) hc ?_ (hone us h1) (fun j u hj => ?_)
  · rw [List.length_append, htu, hd]; omega
  · rw [hu]
    refine ⟨fun hin => ?_, fun hout => ?_⟩
    · rw [List.getElem?_append_left (by omega), List.getElem?_append_right (by omega), ht] at hj
      exact hj
    · by_cases hj1 : j < i * k
      · rw [List.getElem?_append_left (by omega), List.getElem?_append_left (by omega)] at hj
        exact h0.holds j u hj
      · have hjl := (List.getElem?_eq_some_iff.1 hj).1
        rw [List.length_append, htu, hd] at hjl
        rw [List.getElem?_append_right (by omega), htu] at hj
        have hin := World.cell?_setCells_in g (cs.drop (i * k)) ((i + 1) * k) w (fun t ht => (h.there _ (by omega)).1) (j - (i * k + k)) (by omega)
        rw [show (i + 1) * k + (j - (i * k + k)) = j by omega] at hin
        rw [hin, ← hj, List.getElem?_eq_getElem (by omega)]
/-- A new row: what stood ahead, the new one, what stood behind. -/
theorem RowK.grown {k B : Nat} {w W : World} {g c n : Nat} {cs : List Value} (h : RowK k B w g c n cs) (hB : B ≤ W.heap.size) (i : Nat) (hi : i ≤ n) (us : List Value) (hu : us.length = k) (h1 : ∀ u ∈ us, u.oneCell' = true) (z : Array Value) (hz : z.size = k) (G : Nat) (t : TypeId) (hm : G ≤ maxLen) (hl : n + 1 ≤ G) :
    RowK k B ((((W.alloc (.cells ((cs.take (i * k)).toArray ++ Builtin.zeroCells z (n + 1 - i) ++ Builtin.zeroCells z (G - (n + 1))) t)).drew.setCells W.heap.size (i * k) us).drew).setCells W.heap.size ((i + 1) * k) (cs.drop (i * k))) W.heap.size G (n + 1) (cs.take (i * k) ++ us ++ cs.drop (i * k)) := by
  have e1 : (i + 1) * k = i * k + k := Nat.succ_mul i k
  have e0 : (n + 1) * k = n * k + k := Nat.succ_mul n k
  have e2 : i * k ≤ n * k := Nat.mul_le_mul_right k hi
  have e3 : (n + 1) * k ≤ G * k := Nat.mul_le_mul_right k hl
  have hlen := h.len
  have ht : (cs.take (i * k)).length = i * k := by rw [List.length_take]; omega
  have hd : (cs.drop (i * k)).length = n * k - i * k := by rw [List.length_drop]; omega
  have htu : (cs.take (i * k) ++ us).length = i * k + k := by rw [List.length_append, ht, hu]
  have h0 : RowK k B (W.alloc (.cells ((cs.take (i * k)).toArray ++ Builtin.zeroCells z (n + 1 - i) ++ Builtin.zeroCells z (G - (n + 1))) t)) W.heap.size G i (cs.take (i * k)) := by
    have hs : ((cs.take (i * k)).toArray ++ Builtin.zeroCells z (n + 1 - i) ++ Builtin.zeroCells z (G - (n + 1))).size = G * k := by
      rw [Array.size_append, Array.size_append, size_zeroCells, size_zeroCells, hz, List.size_toArray, ht, ← Nat.add_mul, ← Nat.add_mul]
      congr 1
      omega
    refine ⟨hB, by simp, ht, by omega, hm, fun u hu' => h.one u (List.mem_of_mem_take hu'), fun j u hj => ?_, fun j hj => ⟨?_, World.frozen?_alloc_at _ _ _ _ (by simp)⟩⟩
    · have hl := (List.getElem?_eq_some_iff.1 hj).1
      rw [World.cell?_alloc_at _ _ _ _ (by simp), Array.append_assoc, Array.getElem?_append_left (by simpa using hl)]
      simpa using hj
    · rw [World.cell?_alloc_at _ _ _ _ (by simp), Array.getElem?_eq_getElem (by rw [hs]; exact hj)]
      rfl
  have h0' : RowK k B (W.alloc (.cells ((cs.take (i * k)).toArray ++ Builtin.zeroCells z (n + 1 - i) ++ Builtin.zeroCells z (G - (n + 1))) t)).drew W.heap.size G i (cs.take (i * k)) := h0.block (Nat.le_refl _) rfl
  have h2 : RowK k B ((W.alloc (.cells ((cs.take (i * k)).toArray ++ Builtin.zeroCells z (n + 1 - i) ++ Builtin.zeroCells z (G - (n + 1))) t)).drew.setCells W.heap.size (i * k) us) W.heap.size G (i + 1) (cs.take (i * k) ++ us) := by
    refine h0'.setCells _ _ (by omega) (by omega) (by omega) (fun u hu' => ?_) (fun j u hj => ?_)
    · rw [List.mem_append] at hu'
      rcases hu' with hu' | hu'
      · exact h.one u (List.mem_of_mem_take hu')
      · exact h1 u hu'
    · rw [hu]
      refine ⟨fun hin => ?_, fun hout => ?_⟩
      · rw [List.getElem?_append_right (by omega), ht] at hj
        exact hj
      · have hjl := (List.getElem?_eq_some_iff.1 hj).1
        rw [List.getElem?_append_left (by omega)] at hj
        exact h0'.holds j u hj
  have h2' := h2.block (w' := ((W.alloc (.cells ((cs.take (i * k)).toArray ++ Builtin.zeroCells z (n + 1 - i) ++ Builtin.zeroCells z (G - (n + 1))) t)).drew.setCells W.heap.size (i * k) us).drew) (Nat.le_refl _) rfl
  refine h2'.setCells _ _ (by omega) hl ?_ (fun u hu' => ?_) (fun j u hj => ?_)
  · rw [List.length_append, htu, hd]; omega
  · rw [List.mem_append] at hu'
    rcases hu' with hu' | hu'
    · exact h2.one u hu'
    · exact h.one u (List.mem_of_mem_drop hu')
  · rw [hd]
    have hjl := (List.getElem?_eq_some_iff.1 hj).1
    rw [List.length_append, htu, hd] at hjl
    refine ⟨fun hin => ?_, fun hout => ?_⟩
    · rw [List.getElem?_append_right (by omega), htu, ← e1] at hj
      exact hj
    · rw [List.getElem?_append_left (by omega)] at hj
      exact h2'.holds j u hj
/-- One taken out: those behind it moved, the last one's cells cleared. -/
theorem RowK.cut {k B : Nat} {w : World} {g c n : Nat} {cs : List Value} (h : RowK k B w g c n cs) (i : Nat) (hi : i < n) (zs : List Value) (hz : zs.length = k) :
    RowK k B (((w.setCells g (i * k) (cs.drop ((i + 1) * k)))).setCells g ((n - 1) * k) zs) g c (n - 1) (cs.take (i * k) ++ cs.drop ((i + 1) * k)) := by
  obtain ⟨m, rfl⟩ : ∃ m, n = m + 1 := ⟨n - 1, by omega⟩
  rw [Nat.add_sub_cancel]
  have e1 : (i + 1) * k = i * k + k := Nat.succ_mul i k
  have e0 : (m + 1) * k = m * k + k := Nat.succ_mul m k
  have e2 : i * k ≤ m * k := Nat.mul_le_mul_right k (by omega)
  have e3 : (m + 1) * k ≤ c * k := Nat.mul_le_mul_right k h.le
  have hlen := h.len
  have hle := h.le
  have ht : (cs.take (i * k)).length = i * k := by rw [List.length_take]; omega
  have hd : (cs.drop ((i + 1) * k)).length = m * k - i * k := by rw [List.length_drop]; omega
  have hall : (cs.take (i * k) ++ cs.drop ((i + 1) * k)).length = m * k := by rw [List.length_append, ht, hd]; omega
  have hone : ∀ u ∈ cs.take (i * k) ++ cs.drop ((i + 1) * k), u.oneCell' = true := by
    intro u hu'
    rw [List.mem_append] at hu'
    rcases hu' with hu' | hu'
    · exact h.one u (List.mem_of_mem_take hu')
    · exact h.one u (List.mem_of_mem_drop hu')
  have h0 : RowK k B (w.setCells g (i * k) (cs.drop ((i + 1) * k))) g c m (cs.take (i * k) ++ cs.drop ((i + 1) * k)) := by
    refine h.setCells _ _ (by omega) (by omega) hall hone (fun j u hj => ⟨fun hin => ?_, fun hout => ?_⟩)
    · rw [List.getElem?_append_right (by omega), ht] at hj
      exact hj
    · have hjl := (List.getElem?_eq_some_iff.1 hj).1
      rw [hall] at hjl
      rw [List.getElem?_append_left (by omega), List.getElem?_take, if_pos (by omega)] at hj
      exact h.holds j u hj
  refine h0.setCells _ _ (by omega) (by omega) hall hone (fun j u hj => ⟨fun hin => ?_, fun hout => h0.holds j u hj⟩)
  have hjl := (List.getElem?_eq_some_iff.1 hj).1
  omega
end Go.Proofs.YtibelcnjmpedkaaGreatDoor
