/-
  Plain mathematics: words with a plus between; what Within answers.
-/
import Derived.Test.YtibelcnjmpedkaaGreatDoorScMath
import Derived.Lib.Join
namespace Go.Proofs.YtibelcnjmpedkaaGreatDoor.Sc
open Go.Lib Tok
def joined (l : List Word) : List UInt8 := join l [43]
theorem joined_nil : joined [] = [] := rfl
theorem joined_one (x : Word) : joined [x] = x := join_one x [43]
theorem joined_two (x y : Word) (l : List Word) : joined (x :: y :: l) = x ++ 43 :: joined (y :: l) := by
  simp [joined, join, List.intercalate, List.intersperse]
theorem joined_len : ∀ (l : List Word), (∀ x ∈ l, x.length ≤ 8) → (joined l).length ≤ 9 * l.length
  | [], _ => by simp [joined_nil]
  | [x], h => by rw [joined_one]; have := h x (by simp); simp; omega
  | x :: y :: l, h => by
    rw [joined_two]
    have h1 := h x (by simp)
    have h2 := joined_len (y :: l) (fun z hz => h z (by simp [hz]))
    simp at h2 ⊢
    omega
theorem parts_joined : ∀ (x : Word) (l : List Word), (∀ y ∈ x :: l, wordB y = true) → parts 43 (joined (x :: l)) = x :: l
  | x, [], h => by rw [joined_one, parts_no (word_plus (h x (by simp)))]
  | x, y :: l, h => by
    rw [joined_two, parts_at _ (word_plus (h x (by simp))), parts_joined y l (fun z hz => h z (by simp [hz]))]
theorem joined_ne {x : Word} {l : List Word} (h : ∀ y ∈ x :: l, wordB y = true) : joined (x :: l) ≠ [] := by
  have hx := (wordB_iff.1 (h x (by simp))).1
  cases l with
  | nil => rwa [joined_one]
  | cons y l => rw [joined_two]; simp
theorem words_joined (l : List Word) (h : ∀ y ∈ l, wordB y = true) : words (joined l) = l := by
  cases l with
  | nil => rfl
  | cons x l => rw [words_ne (joined_ne h), parts_joined x l h]
theorem joined_inj {l m : List Word} (hl : ∀ y ∈ l, wordB y = true) (hm : ∀ y ∈ m, wordB y = true) (h : joined l = joined m) : l = m := by
  rw [← words_joined l hl, ← words_joined m hm, h]
/-- Of a scope that is one: its words, and those of its least form. -/
theorem out_words {s : List UInt8} {l : List Word} (h : Out s l 0) : (∀ y ∈ l, wordB y = true) ∧ (∀ y ∈ l, y.length ≤ 8) ∧ l.length ≤ 5 ∧ l.Pairwise (· < ·) := by
  rcases h with ⟨_, hf, hs, h5, h8⟩ | ⟨h, _⟩ | ⟨h, _⟩
  · refine ⟨fun y hy => ?_, fun y hy => h8 y ((hs.2 y).1 hy), h5, hs.1⟩
    exact List.all_eq_true.1 hf y ((hs.2 y).1 hy)
  · cases h
  · cases h
theorem out_joined {s : List UInt8} {l : List Word} (h : Out s l 0) : Out (joined l) l 0 := by
  obtain ⟨h1, h2, h3, h4⟩ := out_words h
  have hw := words_joined l h1
  refine .inl ⟨rfl, ?_, ?_, h3, ?_⟩
  · unfold formedB; rw [hw]; exact List.all_eq_true.2 h1
  · rw [hw]; exact ⟨h4, fun _ => Iff.rfl⟩
  · rw [hw]; exact h2
theorem out_no {s : List UInt8} {l : List Word} {n : Nat} (h : Out s l (n + 1)) : l = [] := by
  rcases h with ⟨h, _⟩ | ⟨_, h, _⟩ | ⟨_, h, _⟩
  · cases h
  · exact h
  · exact h
theorem out_len {s : List UInt8} {l : List Word} {n : Nat} (h : Out s l n) : l.length ≤ 5 ∧ (joined l).length ≤ 45 := by
  cases n with
  | zero =>
    obtain ⟨_, h2, h3, _⟩ := out_words h
    have := joined_len l h2
    exact ⟨h3, by omega⟩
  | succ n => rw [out_no h]; simp [joined_nil]
theorem out_ex (s : List UInt8) : ∃ l n, Out s l n := by
  cases hf : formedB s with
  | false => exact ⟨[], 3, .inr (.inl ⟨rfl, rfl, hf⟩)⟩
  | true =>
    obtain ⟨m, h1, _⟩ := setOf_grows (words s) setOf_nil
    rw [List.nil_append] at h1
    by_cases h5 : m.length ≤ 5
    · by_cases h8 : ∃ w ∈ words s, 8 < w.length
      · exact ⟨[], 4, .inr (.inr ⟨rfl, rfl, hf, m, h1, .inr h8⟩)⟩
      · refine ⟨m, 0, .inl ⟨rfl, hf, h1, h5, fun w hw => ?_⟩⟩
        rcases Nat.lt_or_ge 8 w.length with h | h
        · exact absurd ⟨w, hw, h⟩ h8
        · exact h
    · exact ⟨[], 4, .inr (.inr ⟨rfl, rfl, hf, m, h1, .inl (by omega)⟩)⟩
def inB (l m : List Word) : Bool := l.all fun x => decide (x ∈ m)
theorem inB_iff {l m : List Word} : inB l m = true ↔ ∀ x ∈ l, x ∈ m := by simp [inB]
/-- What Within answers: the first error, or whether all words are in the other's. -/
def WOut (a b : List UInt8) (r : Bool) (n : Nat) : Prop :=
  ∃ l i m k, Out a l i ∧ Out b m k ∧ ((i ≠ 0 ∧ n = i ∧ r = false) ∨ (i = 0 ∧ k ≠ 0 ∧ n = k ∧ r = false) ∨ (i = 0 ∧ k = 0 ∧ n = 0 ∧ r = inB l m))
theorem wout_inj {a b : List UInt8} {r r' : Bool} {n n' : Nat} (h : WOut a b r n) (h' : WOut a b r' n') : r = r' ∧ n = n' := by
  obtain ⟨l, i, m, k, h1, h2, h3⟩ := h
  obtain ⟨l', i', m', k', h1', h2', h3'⟩ := h'
  obtain ⟨rfl, rfl⟩ := out_inj h1 h1'
  obtain ⟨rfl, rfl⟩ := out_inj h2 h2'
  rcases h3 with ⟨a1, rfl, rfl⟩ | ⟨a1, a2, rfl, rfl⟩ | ⟨a1, a2, rfl, rfl⟩ <;> rcases h3' with ⟨b1, rfl, rfl⟩ | ⟨b1, b2, rfl, rfl⟩ | ⟨b1, b2, rfl, rfl⟩ <;> first | exact ⟨rfl, rfl⟩ | (exfalso; omega)
end Go.Proofs.YtibelcnjmpedkaaGreatDoor.Sc
