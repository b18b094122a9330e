/-
  Plain mathematics: texts parted at a byte.
-/
import Derived.Lib.SplitLaws
import Derived.Lib.IndexLaws
import Derived.Lib.LastIndexByte
namespace Go.Proofs.YtibelcnjmpedkaaGreatDoor.Tok
open Go.Lib
theorem nilOr {α : Type} (c : α) (l : List α) : c ∉ l ∨ ∃ a b, l = a ++ c :: b ∧ c ∉ a := by
  by_cases h : c ∈ l
  · refine .inr ?_
    induction l with
    | nil => cases h
    | cons x l ih =>
      by_cases hx : c = x
      · exact ⟨[], l, by simp [hx], by simp⟩
      · obtain ⟨a, b, rfl, ha⟩ := ih (by simpa [hx] using h)
        exact ⟨x :: a, b, rfl, by simp [hx, ha]⟩
  · exact .inl h
theorem lastOr {α : Type} (c : α) (l : List α) : c ∉ l ∨ ∃ a b, l = a ++ c :: b ∧ c ∉ b := by
  rcases nilOr c l.reverse with h | ⟨a, b, h, ha⟩
  · exact .inl (by simpa using h)
  · refine .inr ⟨b.reverse, a.reverse, ?_, by simpa using ha⟩
    have := congrArg List.reverse h
    simpa using this
theorem part_first {α : Type} {c : α} {a b a' b' : List α} (h : a ++ c :: b = a' ++ c :: b') (ha : c ∉ a) (ha' : c ∉ a') : a = a' ∧ b = b' := by
  induction a generalizing a' with
  | nil =>
    cases a' with
    | nil => simpa using h
    | cons x a' => simp at h; simp [h.1] at ha'
  | cons x a ih =>
    cases a' with
    | nil => simp at h; simp [h.1] at ha
    | cons y a' =>
      simp at h ha ha'
      obtain ⟨e1, e2⟩ := ih h.2 ha.2 ha'.2
      exact ⟨by rw [h.1, e1], e2⟩
theorem part_last {α : Type} {c : α} {a b a' b' : List α} (h : a ++ c :: b = a' ++ c :: b') (hb : c ∉ b) (hb' : c ∉ b') : a = a' ∧ b = b' := by
  have h2 := congrArg List.reverse h
  simp only [List.reverse_append, List.reverse_cons, List.append_assoc, List.singleton_append] at h2
  obtain ⟨e1, e2⟩ := part_first h2 (by simpa using hb) (by simpa using hb')
  exact ⟨List.reverse_inj.1 e2, List.reverse_inj.1 e1⟩
theorem index_no {c : UInt8} {a : List UInt8} (h : c ∉ a) : index a [c] = -1 := by
  induction a with
  | nil => rfl
  | cons x a ih =>
    simp at h
    rw [index]
    have hp : ([c] : List UInt8).isPrefixOf (x :: a) = false := by simp [List.isPrefixOf, h.1]
    simp [hp, ih h.2]
theorem index_at {c : UInt8} {a : List UInt8} (b : List UInt8) (h : c ∉ a) : index (a ++ c :: b) [c] = a.length := by
  induction a with
  | nil => simp [index, List.isPrefixOf]
  | cons x a ih =>
    simp at h
    rw [List.cons_append, index]
    have hp : ([c] : List UInt8).isPrefixOf (x :: (a ++ c :: b)) = false := by simp [List.isPrefixOf, h.1]
    have hn : ((a.length : Int) == -1) = false := by rw [beq_eq_false_iff_ne]; omega
    simp [hp, ih h.2, hn]
theorem cut_no {c : UInt8} {a : List UInt8} (h : c ∉ a) : cut a [c] = (a, [], false) := by
  unfold cut
  rw [index_no h, if_neg (by decide)]
theorem cut_at {c : UInt8} {a : List UInt8} (b : List UInt8) (h : c ∉ a) : cut (a ++ c :: b) [c] = (a, b, true) := by
  unfold cut
  rw [index_at b h, if_pos (by omega)]
  simp
theorem splitK_no {c : UInt8} {a : List UInt8} (h : c ∉ a) (k : Nat) : splitK [c] 0 k a = [a] := by
  cases k with
  | zero => rfl
  | succ k => rw [splitK, index_no h]; rfl
theorem splitK_at {c : UInt8} {a : List UInt8} (b : List UInt8) (h : c ∉ a) (k : Nat) : splitK [c] 0 (k + 1) (a ++ c :: b) = a :: splitK [c] 0 k b := by
  rw [splitK, index_at b h, if_neg (by rw [beq_iff_eq]; omega)]
  simp
/-- A text parted at each c. -/
def parts (c : UInt8) (l : List UInt8) : List (List UInt8) := splitK [c] 0 (l.count c) l
theorem parts_no {c : UInt8} {a : List UInt8} (h : c ∉ a) : parts c a = [a] := splitK_no h _
theorem parts_at {c : UInt8} {a : List UInt8} (b : List UInt8) (h : c ∉ a) : parts c (a ++ c :: b) = a :: parts c b := by
  unfold parts
  rw [List.count_append, List.count_cons_self, List.count_eq_zero.2 h, Nat.zero_add, splitK_at b h]
theorem parts_split (c : UInt8) (s : ByteArray) : (splitB ⟨#[c]⟩ 0 (countB s ⟨#[c]⟩) s).map (·.data.toList) = parts c s.data.toList := by
  have h := splitB_data ⟨#[c]⟩ 0 (countB s ⟨#[c]⟩) s
  rw [show countB s ⟨#[c]⟩ = s.data.toList.count c from count_one c s.data.toList] at h ⊢
  exact h
theorem parts_ne {c : UInt8} : ∀ (n : Nat) (l : List UInt8), l.length ≤ n → parts c l ≠ []
  | n, l, h => by
    rcases nilOr c l with hn | ⟨a, b, rfl, hn⟩
    · rw [parts_no hn]; simp
    · rw [parts_at b hn]; simp
theorem parts_mem {c x : UInt8} (hx : x ≠ c) : ∀ (n : Nat) (l : List UInt8), l.length ≤ n → x ∈ l → ∃ w ∈ parts c l, x ∈ w
  | 0, l, h, hm => by rw [List.length_eq_zero_iff.1 (Nat.le_zero.1 h)] at hm; cases hm
  | n + 1, l, h, hm => by
    rcases nilOr c l with hn | ⟨a, b, rfl, hn⟩
    · exact ⟨l, by rw [parts_no hn]; simp, hm⟩
    · rw [parts_at b hn]
      simp only [List.mem_append, List.mem_cons] at hm
      rcases hm with hm | rfl | hm
      · exact ⟨a, by simp, hm⟩
      · exact absurd rfl hx
      · obtain ⟨w, h1, h2⟩ := parts_mem hx n b (by simp at h; omega) hm
        exact ⟨w, by simp [h1], h2⟩
theorem parts_len {c : UInt8} : ∀ (n : Nat) (l : List UInt8), l.length ≤ n → ∀ w ∈ parts c l, w.length ≤ l.length
  | 0, l, h, w, hw => by
    have hl := List.length_eq_zero_iff.1 (Nat.le_zero.1 h)
    subst hl
    rw [parts_no (by simp)] at hw
    simp at hw
    simp [hw]
  | n + 1, l, h, w, hw => by
    rcases nilOr c l with hn | ⟨a, b, rfl, hn⟩
    · rw [parts_no hn] at hw
      simp at hw
      rw [hw]
      exact Nat.le_refl _
    · rw [parts_at b hn] at hw
      simp only [List.mem_cons] at hw
      rcases hw with rfl | hw
      · simp
      · have := parts_len n b (by simp at h; omega) w hw
        simp
        omega
end Go.Proofs.YtibelcnjmpedkaaGreatDoor.Tok
