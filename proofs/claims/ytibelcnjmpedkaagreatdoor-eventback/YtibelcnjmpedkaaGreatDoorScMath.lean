/-
  Plain mathematics: a scope's words, what is wrong with it, its words in order, each once.
-/
import Derived.Test.YtibelcnjmpedkaaGreatDoorParts
namespace Go.Proofs.YtibelcnjmpedkaaGreatDoor.Sc
open Go.Lib Tok
abbrev Word := List UInt8
theorem lt_irr (a : Word) : ¬ a < a := List.lt_irrefl a
theorem lt_tr {a b c : Word} (h : a < b) (k : b < c) : a < c := List.lt_trans h k
theorem lt_tot (a b : Word) : a < b ∨ a = b ∨ b < a := by
  by_cases h : a < b
  · exact .inl h
  · by_cases k : b < a
    · exact .inr (.inr k)
    · exact .inr (.inl (List.le_antisymm (by rwa [← List.not_lt]) (by rwa [← List.not_lt])))
/-- Two rising lists of the same words are one. -/
theorem rising_eq : ∀ {l m : List Word}, l.Pairwise (· < ·) → m.Pairwise (· < ·) → (∀ x, x ∈ l ↔ x ∈ m) → l = m
  | [], [], _, _, _ => rfl
  | [], b :: m, _, _, h => by have := (h b).2 (by simp); simp at this
  | a :: l, [], _, _, h => by have := (h a).1 (by simp); simp at this
  | a :: l, b :: m, hl, hm, h => by
    rw [List.pairwise_cons] at hl hm
    have hab : a = b := by
      have h1 := (h a).1 (by simp)
      have h2 := (h b).2 (by simp)
      simp only [List.mem_cons] at h1 h2
      rcases h1 with h1 | h1
      · exact h1
      · rcases h2 with h2 | h2
        · exact h2.symm
        · exact absurd (lt_tr (hl.1 b h2) (hm.1 a h1)) (lt_irr a)
    subst hab
    congr 1
    refine rising_eq hl.2 hm.2 (fun x => ?_)
    constructor
    · intro hx
      have := (h x).1 (by simp [hx])
      simp only [List.mem_cons] at this
      rcases this with rfl | this
      · exact absurd (hl.1 x hx) (lt_irr x)
      · exact this
    · intro hx
      have := (h x).2 (by simp [hx])
      simp only [List.mem_cons] at this
      rcases this with rfl | this
      · exact absurd (hm.1 x hx) (lt_irr x)
      · exact this
def lowB (c : UInt8) : Bool := decide (97 ≤ c.toNat) && decide (c.toNat ≤ 122)
theorem lowB_t {c : UInt8} (h1 : 97 ≤ c.toNat) (h2 : c.toNat ≤ 122) : lowB c = true := by simp [lowB, h1, h2]
theorem lowB_f {c : UInt8} (h : ¬ (97 ≤ c.toNat ∧ c.toNat ≤ 122)) : lowB c = false := by
  cases hb : lowB c with
  | false => rfl
  | true => simp [lowB] at hb; exact absurd hb h
theorem low_plus {c : UInt8} (h : lowB c = true) : c ≠ 43 := by
  rintro rfl
  revert h
  decide
def wordB (w : Word) : Bool := (w != []) && w.all lowB
theorem wordB_iff {w : Word} : wordB w = true ↔ w ≠ [] ∧ ∀ c ∈ w, lowB c = true := by simp [wordB]
theorem wordB_nil : wordB [] = false := rfl
theorem word_plus {w : Word} (h : wordB w = true) : (43 : UInt8) ∉ w := fun hm => low_plus ((wordB_iff.1 h).2 _ hm) rfl
def words (s : List UInt8) : List Word := if s = [] then [] else parts 43 s
theorem words_nil : words [] = [] := rfl
theorem words_ne {s : List UInt8} (h : s ≠ []) : words s = parts 43 s := if_neg h
def formedB (s : List UInt8) : Bool := (words s).all wordB
theorem words_len (s : List UInt8) : ∀ w ∈ words s, w.length ≤ s.length := by
  intro w hw
  by_cases h : s = []
  · subst h; cases hw
  · rw [words_ne h] at hw
    exact parts_len s.length s (Nat.le_refl _) w hw
/-- What is left of a text that is cut at each plus. -/
def left (more : Bool) (s : List UInt8) : List Word := if more then parts 43 s else []
theorem left_step (s : List UInt8) : left true s = (cut s [43]).1 :: left (cut s [43]).2.2 (cut s [43]).2.1 := by
  rcases nilOr 43 s with h | ⟨a, b, rfl, h⟩
  · rw [cut_no h]
    show parts 43 s = s :: []
    rw [parts_no h]
  · rw [cut_at b h]
    show parts 43 (a ++ 43 :: b) = a :: parts 43 b
    rw [parts_at b h]
theorem left_len (s : List UInt8) : (cut s [43]).1.length ≤ s.length ∧ (cut s [43]).2.1.length ≤ s.length ∧ ((cut s [43]).2.2 = true → (cut s [43]).2.1.length + 1 ≤ s.length) := by
  rcases nilOr 43 s with h | ⟨a, b, rfl, h⟩
  · rw [cut_no h]; simp
  · rw [cut_at b h]; simp; omega
/-- The words, rising, each once. -/
def SetOf (l ws : List Word) : Prop := l.Pairwise (· < ·) ∧ ∀ x, x ∈ l ↔ x ∈ ws
theorem setOf_inj {l m ws : List Word} (h : SetOf l ws) (k : SetOf m ws) : l = m :=
  rising_eq h.1 k.1 (fun x => (h.2 x).trans (k.2 x).symm)
theorem setOf_nil : SetOf [] [] := ⟨.nil, fun _ => Iff.rfl⟩
/-- How many of a rising list are less. -/
theorem place (x : Word) : ∀ (l : List Word), l.Pairwise (· < ·) → ∃ k, k ≤ l.length ∧ (∀ t, t < k → l.getD t x < x) ∧ (∀ t, k ≤ t → ¬ l.getD t x < x) ∧ (∀ y ∈ l.take k, y < x) ∧ (∀ y ∈ l.drop k, ¬ y < x)
  | [], _ => ⟨0, Nat.le_refl _, fun t h => absurd h (Nat.not_lt_zero _), fun t _ => by simp, by simp, by simp⟩
  | a :: l, h => by
    rw [List.pairwise_cons] at h
    by_cases ha : a < x
    · obtain ⟨k, h1, h2, h3, h4, h5⟩ := place x l h.2
      refine ⟨k + 1, by simp; omega, fun t ht => ?_, fun t ht => ?_, fun y hy => ?_, fun y hy => ?_⟩
      · cases t with
        | zero => simpa using ha
        | succ t => simpa using h2 t (by omega)
      · cases t with
        | zero => omega
        | succ t => simpa using h3 t (by omega)
      · rw [List.take_succ_cons, List.mem_cons] at hy
        rcases hy with rfl | hy
        · exact ha
        · exact h4 y hy
      · exact h5 y (by simpa using hy)
    · have hall : ∀ y ∈ a :: l, ¬ y < x := by
        intro y hy
        rw [List.mem_cons] at hy
        rcases hy with rfl | hy
        · exact ha
        · exact fun hyx => ha (lt_tr (h.1 y hy) hyx)
      refine ⟨0, Nat.zero_le _, fun t ht => absurd ht (Nat.not_lt_zero _), fun t _ => ?_, by simp, by simpa using hall⟩
      by_cases htl : t < (a :: l).length
      · have e : (a :: l).getD t x = (a :: l)[t] := by rw [List.getD_eq_getElem?_getD, List.getElem?_eq_getElem htl]; rfl
        rw [e]
        exact hall _ (List.getElem_mem _)
      · have e : (a :: l).getD t x = x := by simp only [List.getD]; rw [List.getElem?_eq_none (by omega)]; rfl
        rw [e]
        exact lt_irr x
theorem setOf_there {l ws : List Word} {x : Word} (h : SetOf l ws) (hx : x ∈ l) : SetOf l (ws ++ [x]) := by
  refine ⟨h.1, fun y => ?_⟩
  rw [List.mem_append, List.mem_singleton, h.2 y]
  constructor
  · exact .inl
  · rintro (h' | rfl)
    · exact h'
    · exact (h.2 y).1 hx
theorem setOf_put {l ws : List Word} {x : Word} {k : Nat} (h : SetOf l ws) (hx : x ∉ l) (h1 : ∀ y ∈ l.take k, y < x) (h2 : ∀ y ∈ l.drop k, ¬ y < x) : SetOf (l.take k ++ x :: l.drop k) (ws ++ [x]) := by
  constructor
  · rw [List.pairwise_append, List.pairwise_cons]
    have hp := h.1
    rw [← List.take_append_drop k l, List.pairwise_append] at hp
    refine ⟨hp.1, ⟨fun y hy => ?_, hp.2.1⟩, fun y hy z hz => ?_⟩
    · rcases lt_tot x y with hh | rfl | hh
      · exact hh
      · exact absurd (List.mem_of_mem_drop hy) hx
      · exact absurd hh (h2 y hy)
    · rw [List.mem_cons] at hz
      rcases hz with rfl | hz
      · exact h1 y hy
      · exact hp.2.2 y hy z hz
  · intro y
    rw [List.mem_append, List.mem_cons, List.mem_append, List.mem_singleton, ← h.2 y]
    have hm : y ∈ l ↔ y ∈ l.take k ∨ y ∈ l.drop k := by
      rw [← List.mem_append, List.take_append_drop]
    rw [hm]
    constructor
    · rintro (h | h | h)
      · exact .inl (.inl h)
      · exact .inr h
      · exact .inl (.inr h)
    · rintro ((h | h) | h)
      · exact .inl h
      · exact .inr (.inr h)
      · exact .inr (.inl h)
theorem setOf_grows : ∀ (rest : List Word) {l ws : List Word}, SetOf l ws → ∃ m, SetOf m (ws ++ rest) ∧ l.length ≤ m.length
  | [], l, ws, h => ⟨l, by rwa [List.append_nil], Nat.le_refl _⟩
  | x :: rest, l, ws, h => by
    by_cases hx : x ∈ l
    · obtain ⟨m, h1, h2⟩ := setOf_grows rest (setOf_there h hx)
      exact ⟨m, by simpa using h1, h2⟩
    · obtain ⟨k, hk, _, _, h4, h5⟩ := place x l h.1
      obtain ⟨m, h1, h2⟩ := setOf_grows rest (setOf_put h hx h4 h5)
      refine ⟨m, by simpa using h1, Nat.le_trans ?_ h2⟩
      simp
      omega
/-- A list of the same words, each once, in order is the rising one, and as long. -/
theorem setOf_sort {out ws : List Word} (hn : out.Nodup) (hm : ∀ x, x ∈ out ↔ x ∈ ws) : SetOf (out.mergeSort fun x y => decide (x ≤ y)) ws ∧ (out.mergeSort fun x y => decide (x ≤ y)).length = out.length := by
  refine ⟨⟨?_, fun x => ?_⟩, List.length_mergeSort _⟩
  · have hs : (out.mergeSort fun x y => decide (x ≤ y)).Pairwise (fun x y => decide (x ≤ y) = true) := List.pairwise_mergeSort (fun a b c h1 h2 => by
        simp only [decide_eq_true_eq] at h1 h2 ⊢
        exact List.le_trans h1 h2) (fun a b => by
        simp only [Bool.or_eq_true, decide_eq_true_eq]
        exact List.le_total a b) out
    have hd : (out.mergeSort fun x y => decide (x ≤ y)).Nodup := (List.mergeSort_perm out _).nodup_iff.2 hn
    exact (hs.and hd).imp (fun {a b} h => by
      obtain ⟨h1, h2⟩ := h
      simp only [decide_eq_true_eq] at h1
      rcases lt_tot a b with h | h | h
      · exact h
      · exact absurd h h2
      · exact absurd h (by rwa [List.not_lt]))
  · rw [(List.mergeSort_perm out _).mem_iff, hm x]
/-- What a scope is: its words and 0; or what is wrong with it (3: its form; 4: too much). -/
def Out (s : List UInt8) (l : List Word) (n : Nat) : Prop :=
  (n = 0 ∧ formedB s = true ∧ SetOf l (words s) ∧ l.length ≤ 5 ∧ ∀ w ∈ words s, w.length ≤ 8) ∨ (n = 3 ∧ l = [] ∧ formedB s = false) ∨
  (n = 4 ∧ l = [] ∧ formedB s = true ∧ ∃ m, SetOf m (words s) ∧ (5 < m.length ∨ ∃ w ∈ words s, 8 < w.length))
theorem out_inj {s : List UInt8} {l m : List Word} {n k : Nat} (h : Out s l n) (h' : Out s m k) : l = m ∧ n = k := by
  rcases h with ⟨rfl, hf, hs, h5, h8⟩ | ⟨rfl, rfl, hn⟩ | ⟨rfl, rfl, hf, m1, hs, hb⟩
  · rcases h' with ⟨rfl, hf', hs', _, _⟩ | ⟨rfl, rfl, hn⟩ | ⟨rfl, rfl, hf', m2, hs', hb⟩
    · exact ⟨setOf_inj hs hs', rfl⟩
    · rw [hf] at hn; cases hn
    · obtain rfl := setOf_inj hs hs'
      rcases hb with hb | ⟨w, hw, hb⟩
      · omega
      · have := h8 w hw; omega
  · rcases h' with ⟨rfl, hf', hs', _, _⟩ | ⟨rfl, rfl, hn'⟩ | ⟨rfl, rfl, hf', m2, hs', hb⟩
    · rw [hf'] at hn; cases hn
    · exact ⟨rfl, rfl⟩
    · rw [hf'] at hn; cases hn
  · rcases h' with ⟨rfl, hf', hs', h5, h8⟩ | ⟨rfl, rfl, hn'⟩ | ⟨rfl, rfl, hf', m2, hs', hb'⟩
    · obtain rfl := setOf_inj hs hs'
      rcases hb with hb | ⟨w, hw, hb⟩
      · omega
      · have := h8 w hw; omega
    · rw [hf] at hn'; cases hn'
    · exact ⟨rfl, rfl⟩
end Go.Proofs.YtibelcnjmpedkaaGreatDoor.Sc
