/-
  Own texts put together: Parts, ScMath, ScJoin, Base, Sip, Hex.
-/
import Derived.Lib.SplitLaws
import Derived.Lib.IndexLaws
import Derived.Lib.LastIndexByte
import Derived.Lib.Join
import Derived.Test.YtlailakofhenkabGreatDoorProg
import GoSem.Claim
import GoSem.ClaimJoined
import GoSem.ClaimMapViews
import Derived.JoinedTies
import Derived.KernelRfl
import Derived.RowKit
import Derived.WalkKit
import Derived.WalkSpells
import Derived.WalkLawsBesides
/-
  Plain mathematics: texts parted at a byte.
-/

namespace Go.Proofs.YtlailakofhenkabGreatDoor.Tok
open Go.Lib
theorem nilOr {α : Type} (c : α) (l : List α) : c ∉ l ∨ ∃ a b, l = a ++ c :: b ∧ c ∉ a := by
  by_cases h : c ∈ l
  · refine .inr ?_
    induction l with
    | nil => cases h
    | cons x l ih =>
      by_cases hx : c = x
      · exact ⟨[], l, by simp [hx], by simp⟩
      · obtain ⟨a, b, rfl, ha⟩ := ih (by simpa [hx] using h)
        exact ⟨x :: a, b, rfl, by simp [hx, ha]⟩
  · exact .inl h
theorem lastOr {α : Type} (c : α) (l : List α) : c ∉ l ∨ ∃ a b, l = a ++ c :: b ∧ c ∉ b := by
  rcases nilOr c l.reverse with h | ⟨a, b, h, ha⟩
  · exact .inl (by simpa using h)
  · refine .inr ⟨b.reverse, a.reverse, ?_, by simpa using ha⟩
    have := congrArg List.reverse h
    simpa using this
theorem part_first {α : Type} {c : α} {a b a' b' : List α} (h : a ++ c :: b = a' ++ c :: b') (ha : c ∉ a) (ha' : c ∉ a') : a = a' ∧ b = b' := by
  induction a generalizing a' with
  | nil =>
    cases a' with
    | nil => simpa using h
    | cons x a' => simp at h; simp [h.1] at ha'
  | cons x a ih =>
    cases a' with
    | nil => simp at h; simp [h.1] at ha
    | cons y a' =>
      simp at h ha ha'
      obtain ⟨e1, e2⟩ := ih h.2 ha.2 ha'.2
      exact ⟨by rw [h.1, e1], e2⟩
theorem part_last {α : Type} {c : α} {a b a' b' : List α} (h : a ++ c :: b = a' ++ c :: b') (hb : c ∉ b) (hb' : c ∉ b') : a = a' ∧ b = b' := by
  have h2 := congrArg List.reverse h
  simp only [List.reverse_append, List.reverse_cons, List.append_assoc, List.singleton_append] at h2
  obtain ⟨e1, e2⟩ := part_first h2 (by simpa using hb) (by simpa using hb')
  exact ⟨List.reverse_inj.1 e2, List.reverse_inj.1 e1⟩
theorem index_no {c : UInt8} {a : List UInt8} (h : c ∉ a) : index a [c] = -1 := by
  induction a with
  | nil => rfl
  | cons x a ih =>
    simp at h
    rw [index]
    have hp : ([c] : List UInt8).isPrefixOf (x :: a) = false := by simp [List.isPrefixOf, h.1]
    simp [hp, ih h.2]
theorem index_at {c : UInt8} {a : List UInt8} (b : List UInt8) (h : c ∉ a) : index (a ++ c :: b) [c] = a.length := by
  induction a with
  | nil => simp [index, List.isPrefixOf]
  | cons x a ih =>
    simp at h
    rw [List.cons_append, index]
    have hp : ([c] : List UInt8).isPrefixOf (x :: (a ++ c :: b)) = false := by simp [List.isPrefixOf, h.1]
    have hn : ((a.length : Int) == -1) = false := by rw [beq_eq_false_iff_ne]; omega
    simp [hp, ih h.2, hn]
theorem cut_no {c : UInt8} {a : List UInt8} (h : c ∉ a) : cut a [c] = (a, [], false) := by
  unfold cut
  rw [index_no h, if_neg (by decide)]
theorem cut_at {c : UInt8} {a : List UInt8} (b : List UInt8) (h : c ∉ a) : cut (a ++ c :: b) [c] = (a, b, true) := by
  unfold cut
  rw [index_at b h, if_pos (by omega)]
  simp
theorem splitK_no {c : UInt8} {a : List UInt8} (h : c ∉ a) (k : Nat) : splitK [c] 0 k a = [a] := by
  cases k with
  | zero => rfl
  | succ k => rw [splitK, index_no h]; rfl
theorem splitK_at {c : UInt8} {a : List UInt8} (b : List UInt8) (h : c ∉ a) (k : Nat) : splitK [c] 0 (k + 1) (a ++ c :: b) = a :: splitK [c] 0 k b := by
  rw [splitK, index_at b h, if_neg (by rw [beq_iff_eq]; omega)]
  simp
/-- A text parted at each c. -/
def parts (c : UInt8) (l : List UInt8) : List (List UInt8) := splitK [c] 0 (l.count c) l
theorem parts_no {c : UInt8} {a : List UInt8} (h : c ∉ a) : parts c a = [a] := splitK_no h _
theorem parts_at {c : UInt8} {a : List UInt8} (b : List UInt8) (h : c ∉ a) : parts c (a ++ c :: b) = a :: parts c b := by
  unfold parts
  rw [List.count_append, List.count_cons_self, List.count_eq_zero.2 h, Nat.zero_add, splitK_at b h]
theorem parts_split (c : UInt8) (s : ByteArray) : (splitB ⟨#[c]⟩ 0 (countB s ⟨#[c]⟩) s).map (·.data.toList) = parts c s.data.toList := by
  have h := splitB_data ⟨#[c]⟩ 0 (countB s ⟨#[c]⟩) s
  rw [show countB s ⟨#[c]⟩ = s.data.toList.count c from count_one c s.data.toList] at h ⊢
  exact h
theorem parts_ne {c : UInt8} : ∀ (n : Nat) (l : List UInt8), l.length ≤ n → parts c l ≠ []
  | n, l, h => by
    rcases nilOr c l with hn | ⟨a, b, rfl, hn⟩
    · rw [parts_no hn]; simp
    · rw [parts_at b hn]; simp
theorem parts_mem {c x : UInt8} (hx : x ≠ c) : ∀ (n : Nat) (l : List UInt8), l.length ≤ n → x ∈ l → ∃ w ∈ parts c l, x ∈ w
  | 0, l, h, hm => by rw [List.length_eq_zero_iff.1 (Nat.le_zero.1 h)] at hm; cases hm
  | n + 1, l, h, hm => by
    rcases nilOr c l with hn | ⟨a, b, rfl, hn⟩
    · exact ⟨l, by rw [parts_no hn]; simp, hm⟩
    · rw [parts_at b hn]
      simp only [List.mem_append, List.mem_cons] at hm
      rcases hm with hm | rfl | hm
      · exact ⟨a, by simp, hm⟩
      · exact absurd rfl hx
      · obtain ⟨w, h1, h2⟩ := parts_mem hx n b (by simp at h; omega) hm
        exact ⟨w, by simp [h1], h2⟩
theorem parts_len {c : UInt8} : ∀ (n : Nat) (l : List UInt8), l.length ≤ n → ∀ w ∈ parts c l, w.length ≤ l.length
  | 0, l, h, w, hw => by
    have hl := List.length_eq_zero_iff.1 (Nat.le_zero.1 h)
    subst hl
    rw [parts_no (by simp)] at hw
    simp at hw
    simp [hw]
  | n + 1, l, h, w, hw => by
    rcases nilOr c l with hn | ⟨a, b, rfl, hn⟩
    · rw [parts_no hn] at hw
      simp at hw
      rw [hw]
      exact Nat.le_refl _
    · rw [parts_at b hn] at hw
      simp only [List.mem_cons] at hw
      rcases hw with rfl | hw
      · simp
      · have := parts_len n b (by simp at h; omega) w hw
        simp
        omega
end Go.Proofs.YtlailakofhenkabGreatDoor.Tok

/-
  Plain mathematics: a scope's words, what is wrong with it, its words in order, each once.
-/

namespace Go.Proofs.YtlailakofhenkabGreatDoor.Sc
open Go.Lib Tok
abbrev Word := List UInt8
theorem lt_irr (a : Word) : ¬ a < a := List.lt_irrefl a
theorem lt_tr {a b c : Word} (h : a < b) (k : b < c) : a < c := List.lt_trans h k
theorem lt_tot (a b : Word) : a < b ∨ a = b ∨ b < a := by
  by_cases h : a < b
  · exact .inl h
  · by_cases k : b < a
    · exact .inr (.inr k)
    · exact .inr (.inl (List.le_antisymm (by rwa [← List.not_lt]) (by rwa [← List.not_lt])))
/-- Two rising lists of the same words are one. -/
theorem rising_eq : ∀ {l m : List Word}, l.Pairwise (· < ·) → m.Pairwise (· < ·) → (∀ x, x ∈ l ↔ x ∈ m) → l = m
  | [], [], _, _, _ => rfl
  | [], b :: m, _, _, h => by have := (h b).2 (by simp); simp at this
  | a :: l, [], _, _, h => by have := (h a).1 (by simp); simp at this
  | a :: l, b :: m, hl, hm, h => by
    rw [List.pairwise_cons] at hl hm
    have hab : a = b := by
      have h1 := (h a).1 (by simp)
      have h2 := (h b).2 (by simp)
      simp only [List.mem_cons] at h1 h2
      rcases h1 with h1 | h1
      · exact h1
      · rcases h2 with h2 | h2
        · exact h2.symm
        · exact absurd (lt_tr (hl.1 b h2) (hm.1 a h1)) (lt_irr a)
    subst hab
    congr 1
    refine rising_eq hl.2 hm.2 (fun x => ?_)
    constructor
    · intro hx
      have := (h x).1 (by simp [hx])
      simp only [List.mem_cons] at this
      rcases this with rfl | this
      · exact absurd (hl.1 x hx) (lt_irr x)
      · exact this
    · intro hx
      have := (h x).2 (by simp [hx])
      simp only [List.mem_cons] at this
      rcases this with rfl | this
      · exact absurd (hm.1 x hx) (lt_irr x)
      · exact this
def lowB (c : UInt8) : Bool := decide (97 ≤ c.toNat) && decide (c.toNat ≤ 122)
theorem lowB_t {c : UInt8} (h1 : 97 ≤ c.toNat) (h2 : c.toNat ≤ 122) : lowB c = true := by simp [lowB, h1, h2]
theorem lowB_f {c : UInt8} (h : ¬ (97 ≤ c.toNat ∧ c.toNat ≤ 122)) : lowB c = false := by
  cases hb : lowB c with
  | false => rfl
  | true => simp [lowB] at hb; exact absurd hb h
theorem low_plus {c : UInt8} (h : lowB c = true) : c ≠ 43 := by
  rintro rfl
  revert h
  decide
def wordB (w : Word) : Bool := (w != []) && w.all lowB
theorem wordB_iff {w : Word} : wordB w = true ↔ w ≠ [] ∧ ∀ c ∈ w, lowB c = true := by simp [wordB]
theorem wordB_nil : wordB [] = false := rfl
theorem word_plus {w : Word} (h : wordB w = true) : (43 : UInt8) ∉ w := fun hm => low_plus ((wordB_iff.1 h).2 _ hm) rfl
def words (s : List UInt8) : List Word := if s = [] then [] else parts 43 s
theorem words_nil : words [] = [] := rfl
theorem words_ne {s : List UInt8} (h : s ≠ []) : words s = parts 43 s := if_neg h
def formedB (s : List UInt8) : Bool := (words s).all wordB
theorem words_len (s : List UInt8) : ∀ w ∈ words s, w.length ≤ s.length := by
  intro w hw
  by_cases h : s = []
  · subst h; cases hw
  · rw [words_ne h] at hw
    exact parts_len s.length s (Nat.le_refl _) w hw
/-- What is left of a text that is cut at each plus. -/
def left (more : Bool) (s : List UInt8) : List Word := if more then parts 43 s else []
theorem left_step (s : List UInt8) : left true s = (cut s [43]).1 :: left (cut s [43]).2.2 (cut s [43]).2.1 := by
  rcases nilOr 43 s with h | ⟨a, b, rfl, h⟩
  · rw [cut_no h]
    show parts 43 s = s :: []
    rw [parts_no h]
  · rw [cut_at b h]
    show parts 43 (a ++ 43 :: b) = a :: parts 43 b
    rw [parts_at b h]
theorem left_len (s : List UInt8) : (cut s [43]).1.length ≤ s.length ∧ (cut s [43]).2.1.length ≤ s.length ∧ ((cut s [43]).2.2 = true → (cut s [43]).2.1.length + 1 ≤ s.length) := by
  rcases nilOr 43 s with h | ⟨a, b, rfl, h⟩
  · rw [cut_no h]; simp
  · rw [cut_at b h]; simp; omega
/-- The words, rising, each once. -/
def SetOf (l ws : List Word) : Prop := l.Pairwise (· < ·) ∧ ∀ x, x ∈ l ↔ x ∈ ws
theorem setOf_inj {l m ws : List Word} (h : SetOf l ws) (k : SetOf m ws) : l = m :=
  rising_eq h.1 k.1 (fun x => (h.2 x).trans (k.2 x).symm)
theorem setOf_nil : SetOf [] [] := ⟨.nil, fun _ => Iff.rfl⟩
/-- How many of a rising list are less. -/
theorem place (x : Word) : ∀ (l : List Word), l.Pairwise (· < ·) → ∃ k, k ≤ l.length ∧ (∀ t, t < k → l.getD t x < x) ∧ (∀ t, k ≤ t → ¬ l.getD t x < x) ∧ (∀ y ∈ l.take k, y < x) ∧ (∀ y ∈ l.drop k, ¬ y < x)
  | [], _ => ⟨0, Nat.le_refl _, fun t h => absurd h (Nat.not_lt_zero _), fun t _ => by simp, by simp, by simp⟩
  | a :: l, h => by
    rw [List.pairwise_cons] at h
    by_cases ha : a < x
    · obtain ⟨k, h1, h2, h3, h4, h5⟩ := place x l h.2
      refine ⟨k + 1, by simp; omega, fun t ht => ?_, fun t ht => ?_, fun y hy => ?_, fun y hy => ?_⟩
      · cases t with
        | zero => simpa using ha
        | succ t => simpa using h2 t (by omega)
      · cases t with
        | zero => omega
        | succ t => simpa using h3 t (by omega)
      · rw [List.take_succ_cons, List.mem_cons] at hy
        rcases hy with rfl | hy
        · exact ha
        · exact h4 y hy
      · exact h5 y (by simpa using hy)
    · have hall : ∀ y ∈ a :: l, ¬ y < x := by
        intro y hy
        rw [List.mem_cons] at hy
        rcases hy with rfl | hy
        · exact ha
        · exact fun hyx => ha (lt_tr (h.1 y hy) hyx)
      refine ⟨0, Nat.zero_le _, fun t ht => absurd ht (Nat.not_lt_zero _), fun t _ => ?_, by simp, by simpa using hall⟩
      by_cases htl : t < (a :: l).length
      · have e : (a :: l).getD t x = (a :: l)[t] := by rw [List.getD_eq_getElem?_getD, List.getElem?_eq_getElem htl]; rfl
        rw [e]
        exact hall _ (List.getElem_mem _)
      · have e : (a :: l).getD t x = x := by simp only [List.getD]; rw [List.getElem?_eq_none (by omega)]; rfl
        rw [e]
        exact lt_irr x
theorem setOf_there {l ws : List Word} {x : Word} (h : SetOf l ws) (hx : x ∈ l) : SetOf l (ws ++ [x]) := by
  refine ⟨h.1, fun y => ?_⟩
  rw [List.mem_append, List.mem_singleton, h.2 y]
  constructor
  · exact .inl
  · rintro (h' | rfl)
    · exact h'
    · exact (h.2 y).1 hx
theorem setOf_put {l ws : List Word} {x : Word} {k : Nat} (h : SetOf l ws) (hx : x ∉ l) (h1 : ∀ y ∈ l.take k, y < x) (h2 : ∀ y ∈ l.drop k, ¬ y < x) : SetOf (l.take k ++ x :: l.drop k) (ws ++ [x]) := by
  constructor
  · rw [List.pairwise_append, List.pairwise_cons]
    have hp := h.1
    rw [← List.take_append_drop k l, List.pairwise_append] at hp
    refine ⟨hp.1, ⟨fun y hy => ?_, hp.2.1⟩, fun y hy z hz => ?_⟩
    · rcases lt_tot x y with hh | rfl | hh
      · exact hh
      · exact absurd (List.mem_of_mem_drop hy) hx
      · exact absurd hh (h2 y hy)
    · rw [List.mem_cons] at hz
      rcases hz with rfl | hz
      · exact h1 y hy
      · exact hp.2.2 y hy z hz
  · intro y
    rw [List.mem_append, List.mem_cons, List.mem_append, List.mem_singleton, ← h.2 y]
    have hm : y ∈ l ↔ y ∈ l.take k ∨ y ∈ l.drop k := by
      rw [← List.mem_append, List.take_append_drop]
    rw [hm]
    constructor
    · rintro (h | h | h)
      · exact .inl (.inl h)
      · exact .inr h
      · exact .inl (.inr h)
    · rintro ((h | h) | h)
      · exact .inl h
      · exact .inr (.inr h)
      · exact .inr (.inl h)
theorem setOf_grows : ∀ (rest : List Word) {l ws : List Word}, SetOf l ws → ∃ m, SetOf m (ws ++ rest) ∧ l.length ≤ m.length
  | [], l, ws, h => ⟨l, by rwa [List.append_nil], Nat.le_refl _⟩
  | x :: rest, l, ws, h => by
    by_cases hx : x ∈ l
    · obtain ⟨m, h1, h2⟩ := setOf_grows rest (setOf_there h hx)
      exact ⟨m, by simpa using h1, h2⟩
    · obtain ⟨k, hk, _, _, h4, h5⟩ := place x l h.1
      obtain ⟨m, h1, h2⟩ := setOf_grows rest (setOf_put h hx h4 h5)
      refine ⟨m, by simpa using h1, Nat.le_trans ?_ h2⟩
      simp
      omega
/-- A list of the same words, each once, in order is the rising one, and as long. -/
theorem setOf_sort {out ws : List Word} (hn : out.Nodup) (hm : ∀ x, x ∈ out ↔ x ∈ ws) : SetOf (out.mergeSort fun x y => decide (x ≤ y)) ws ∧ (out.mergeSort fun x y => decide (x ≤ y)).length = out.length := by
  refine ⟨⟨?_, fun x => ?_⟩, List.length_mergeSort _⟩
  · have hs : (out.mergeSort fun x y => decide (x ≤ y)).Pairwise (fun x y => decide (x ≤ y) = true) := List.pairwise_mergeSort (fun a b c h1 h2 => by
        simp only [decide_eq_true_eq] at h1 h2 ⊢
        exact List.le_trans h1 h2) (fun a b => by
        simp only [Bool.or_eq_true, decide_eq_true_eq]
        exact List.le_total a b) out
    have hd : (out.mergeSort fun x y => decide (x ≤ y)).Nodup := (List.mergeSort_perm out _).nodup_iff.2 hn
    exact (hs.and hd).imp (fun {a b} h => by
      obtain ⟨h1, h2⟩ := h
      simp only [decide_eq_true_eq] at h1
      rcases lt_tot a b with h | h | h
      · exact h
      · exact absurd h h2
      · exact absurd h (by rwa [List.not_lt]))
  · rw [(List.mergeSort_perm out _).mem_iff, hm x]
/-- What a scope is: its words and 0; or what is wrong with it (3: its form; 4: too much). -/
def Out (s : List UInt8) (l : List Word) (n : Nat) : Prop :=
  (n = 0 ∧ formedB s = true ∧ SetOf l (words s) ∧ l.length ≤ 5 ∧ ∀ w ∈ words s, w.length ≤ 8) ∨ (n = 3 ∧ l = [] ∧ formedB s = false) ∨
  (n = 4 ∧ l = [] ∧ formedB s = true ∧ ∃ m, SetOf m (words s) ∧ (5 < m.length ∨ ∃ w ∈ words s, 8 < w.length))
theorem out_inj {s : List UInt8} {l m : List Word} {n k : Nat} (h : Out s l n) (h' : Out s m k) : l = m ∧ n = k := by
  rcases h with ⟨rfl, hf, hs, h5, h8⟩ | ⟨rfl, rfl, hn⟩ | ⟨rfl, rfl, hf, m1, hs, hb⟩
  · rcases h' with ⟨rfl, hf', hs', _, _⟩ | ⟨rfl, rfl, hn⟩ | ⟨rfl, rfl, hf', m2, hs', hb⟩
    · exact ⟨setOf_inj hs hs', rfl⟩
    · rw [hf] at hn; cases hn
    · obtain rfl := setOf_inj hs hs'
      rcases hb with hb | ⟨w, hw, hb⟩
      · omega
      · have := h8 w hw; omega
  · rcases h' with ⟨rfl, hf', hs', _, _⟩ | ⟨rfl, rfl, hn'⟩ | ⟨rfl, rfl, hf', m2, hs', hb⟩
    · rw [hf'] at hn; cases hn
    · exact ⟨rfl, rfl⟩
    · rw [hf'] at hn; cases hn
  · rcases h' with ⟨rfl, hf', hs', h5, h8⟩ | ⟨rfl, rfl, hn'⟩ | ⟨rfl, rfl, hf', m2, hs', hb'⟩
    · obtain rfl := setOf_inj hs hs'
      rcases hb with hb | ⟨w, hw, hb⟩
      · omega
      · have := h8 w hw; omega
    · rw [hf] at hn'; cases hn'
    · exact ⟨rfl, rfl⟩
end Go.Proofs.YtlailakofhenkabGreatDoor.Sc

/-
  Plain mathematics: words with a plus between; what Within answers.
-/

namespace Go.Proofs.YtlailakofhenkabGreatDoor.Sc
open Go.Lib Tok
def joined (l : List Word) : List UInt8 := join l [43]
theorem joined_nil : joined [] = [] := rfl
theorem joined_one (x : Word) : joined [x] = x := join_one x [43]
theorem joined_two (x y : Word) (l : List Word) : joined (x :: y :: l) = x ++ 43 :: joined (y :: l) := by
  simp [joined, join, List.intercalate, List.intersperse]
theorem joined_len : ∀ (l : List Word), (∀ x ∈ l, x.length ≤ 8) → (joined l).length ≤ 9 * l.length
  | [], _ => by simp [joined_nil]
  | [x], h => by rw [joined_one]; have := h x (by simp); simp; omega
  | x :: y :: l, h => by
    rw [joined_two]
    have h1 := h x (by simp)
    have h2 := joined_len (y :: l) (fun z hz => h z (by simp [hz]))
    simp at h2 ⊢
    omega
theorem parts_joined : ∀ (x : Word) (l : List Word), (∀ y ∈ x :: l, wordB y = true) → parts 43 (joined (x :: l)) = x :: l
  | x, [], h => by rw [joined_one, parts_no (word_plus (h x (by simp)))]
  | x, y :: l, h => by
    rw [joined_two, parts_at _ (word_plus (h x (by simp))), parts_joined y l (fun z hz => h z (by simp [hz]))]
theorem joined_ne {x : Word} {l : List Word} (h : ∀ y ∈ x :: l, wordB y = true) : joined (x :: l) ≠ [] := by
  have hx := (wordB_iff.1 (h x (by simp))).1
  cases l with
  | nil => rwa [joined_one]
  | cons y l => rw [joined_two]; simp
theorem words_joined (l : List Word) (h : ∀ y ∈ l, wordB y = true) : words (joined l) = l := by
  cases l with
  | nil => rfl
  | cons x l => rw [words_ne (joined_ne h), parts_joined x l h]
theorem joined_inj {l m : List Word} (hl : ∀ y ∈ l, wordB y = true) (hm : ∀ y ∈ m, wordB y = true) (h : joined l = joined m) : l = m := by
  rw [← words_joined l hl, ← words_joined m hm, h]
/-- Of a scope that is one: its words, and those of its least form. -/
theorem out_words {s : List UInt8} {l : List Word} (h : Out s l 0) : (∀ y ∈ l, wordB y = true) ∧ (∀ y ∈ l, y.length ≤ 8) ∧ l.length ≤ 5 ∧ l.Pairwise (· < ·) := by
  rcases h with ⟨_, hf, hs, h5, h8⟩ | ⟨h, _⟩ | ⟨h, _⟩
  · refine ⟨fun y hy => ?_, fun y hy => h8 y ((hs.2 y).1 hy), h5, hs.1⟩
    exact List.all_eq_true.1 hf y ((hs.2 y).1 hy)
  · cases h
  · cases h
theorem out_joined {s : List UInt8} {l : List Word} (h : Out s l 0) : Out (joined l) l 0 := by
  obtain ⟨h1, h2, h3, h4⟩ := out_words h
  have hw := words_joined l h1
  refine .inl ⟨rfl, ?_, ?_, h3, ?_⟩
  · unfold formedB; rw [hw]; exact List.all_eq_true.2 h1
  · rw [hw]; exact ⟨h4, fun _ => Iff.rfl⟩
  · rw [hw]; exact h2
theorem out_no {s : List UInt8} {l : List Word} {n : Nat} (h : Out s l (n + 1)) : l = [] := by
  rcases h with ⟨h, _⟩ | ⟨_, h, _⟩ | ⟨_, h, _⟩
  · cases h
  · exact h
  · exact h
theorem out_len {s : List UInt8} {l : List Word} {n : Nat} (h : Out s l n) : l.length ≤ 5 ∧ (joined l).length ≤ 45 := by
  cases n with
  | zero =>
    obtain ⟨_, h2, h3, _⟩ := out_words h
    have := joined_len l h2
    exact ⟨h3, by omega⟩
  | succ n => rw [out_no h]; simp [joined_nil]
theorem out_ex (s : List UInt8) : ∃ l n, Out s l n := by
  cases hf : formedB s with
  | false => exact ⟨[], 3, .inr (.inl ⟨rfl, rfl, hf⟩)⟩
  | true =>
    obtain ⟨m, h1, _⟩ := setOf_grows (words s) setOf_nil
    rw [List.nil_append] at h1
    by_cases h5 : m.length ≤ 5
    · by_cases h8 : ∃ w ∈ words s, 8 < w.length
      · exact ⟨[], 4, .inr (.inr ⟨rfl, rfl, hf, m, h1, .inr h8⟩)⟩
      · refine ⟨m, 0, .inl ⟨rfl, hf, h1, h5, fun w hw => ?_⟩⟩
        rcases Nat.lt_or_ge 8 w.length with h | h
        · exact absurd ⟨w, hw, h⟩ h8
        · exact h
    · exact ⟨[], 4, .inr (.inr ⟨rfl, rfl, hf, m, h1, .inl (by omega)⟩)⟩
def inB (l m : List Word) : Bool := l.all fun x => decide (x ∈ m)
theorem inB_iff {l m : List Word} : inB l m = true ↔ ∀ x ∈ l, x ∈ m := by simp [inB]
/-- What Within answers: the first error, or whether all words are in the other's. -/
def WOut (a b : List UInt8) (r : Bool) (n : Nat) : Prop :=
  ∃ l i m k, Out a l i ∧ Out b m k ∧ ((i ≠ 0 ∧ n = i ∧ r = false) ∨ (i = 0 ∧ k ≠ 0 ∧ n = k ∧ r = false) ∨ (i = 0 ∧ k = 0 ∧ n = 0 ∧ r = inB l m))
theorem wout_inj {a b : List UInt8} {r r' : Bool} {n n' : Nat} (h : WOut a b r n) (h' : WOut a b r' n') : r = r' ∧ n = n' := by
  obtain ⟨l, i, m, k, h1, h2, h3⟩ := h
  obtain ⟨l', i', m', k', h1', h2', h3'⟩ := h'
  obtain ⟨rfl, rfl⟩ := out_inj h1 h1'
  obtain ⟨rfl, rfl⟩ := out_inj h2 h2'
  rcases h3 with ⟨a1, rfl, rfl⟩ | ⟨a1, a2, rfl, rfl⟩ | ⟨a1, a2, rfl, rfl⟩ <;> rcases h3' with ⟨b1, rfl, rfl⟩ | ⟨b1, b2, rfl, rfl⟩ | ⟨b1, b2, rfl, rfl⟩ <;> first | exact ⟨rfl, rfl⟩ | (exfalso; omega)
end Go.Proofs.YtlailakofhenkabGreatDoor.Sc

/-
  What every text of mine stands on.
-/


/-
  Plain mathematics for the sums of chapter 2: a round over four words, as the model's integers go. No program.
-/

namespace Go.Proofs.YtlailakofhenkabGreatDoor
open Go.RowKit
namespace Sip
def rl (x k : Int) : Int := bits .or .u64 (IntKind.u64.wrap (x * 2 ^ k.toNat)) (x / 2 ^ (64 - k).toNat)
def ad (x y : Int) : Int := IntKind.u64.wrap (x + y)
def xr (x y : Int) : Int := bits .xor .u64 x y
structure St where
  a : Int
  b : Int
  c : Int
  d : Int
def rnd (s : St) : St :=
  let a1 := ad s.a s.b
  let b1 := xr (rl s.b 13) a1
  let a2 := rl a1 32
  let c1 := ad s.c s.d
  let d1 := xr (rl s.d 16) c1
  let a3 := ad a2 d1
  let d2 := xr (rl d1 21) a3
  let c2 := ad c1 b1
  let b2 := xr (rl b1 17) c2
  let c3 := rl c2 32
  ⟨a3, b2, c3, d2⟩
def rnds : Nat → St → St
  | 0, s => s
  | n + 1, s => rnd (rnds n s)
theorem wrap_bd (x : Int) : 0 ≤ IntKind.u64.wrap x ∧ IntKind.u64.wrap x < 18446744073709551616 := by
  rw [IntKind.wrap_u64]; omega
theorem rl_bd (x k : Int) : 0 ≤ rl x k ∧ rl x k < 18446744073709551616 := wrap_bd _
theorem ad_bd (x y : Int) : 0 ≤ ad x y ∧ ad x y < 18446744073709551616 := wrap_bd _
theorem xr_bd (x y : Int) : 0 ≤ xr x y ∧ xr x y < 18446744073709551616 := wrap_bd _
structure St.Ok (s : St) : Prop where
  a0 : 0 ≤ s.a
  a1 : s.a < 18446744073709551616
  b0 : 0 ≤ s.b
  b1 : s.b < 18446744073709551616
  c0 : 0 ≤ s.c
  c1 : s.c < 18446744073709551616
  d0 : 0 ≤ s.d
  d1 : s.d < 18446744073709551616
theorem rnd_ok (s : St) : (rnd s).Ok := ⟨(ad_bd _ _).1, (ad_bd _ _).2, (xr_bd _ _).1, (xr_bd _ _).2, (rl_bd _ _).1, (rl_bd _ _).2, (xr_bd _ _).1, (xr_bd _ _).2⟩
theorem rnds_ok (n : Nat) {s : St} (h : s.Ok) : (rnds n s).Ok := by
  cases n with
  | zero => exact h
  | succ n => exact rnd_ok _
theorem and63 (k : Int) (k0 : 0 < k) (k1 : k < 64) : bits .and .u64 k 63 = k := by
  obtain ⟨n, rfl⟩ := Int.eq_ofNat_of_zero_le (Int.le_of_lt k0)
  have h : n < 64 := by omega
  revert h
  clear k0 k1
  revert n
  decide
/-- Bytes as a number, the least ones first. -/
def le : List UInt8 → Nat
  | [] => 0
  | b :: r => b.toNat + 256 * le r
theorem le_snoc (l : List UInt8) (b : UInt8) : le (l ++ [b]) = le l + b.toNat * 256 ^ l.length := by
  induction l with
  | nil => simp [le]
  | cons c l ih => simp only [List.cons_append, le, ih, List.length_cons, Nat.pow_succ]; rw [Nat.mul_add, Nat.mul_left_comm, Nat.mul_comm 256 (256 ^ l.length)]; omega
theorem le_lt (l : List UInt8) : le l < 256 ^ l.length := by
  induction l with
  | nil => simp [le]
  | cons c l ih =>
    simp only [le, List.length_cons, Nat.pow_succ]
    have := c.toNat_lt
    omega
def eatS (s : St) (x : Int) : St :=
  let t := rnds 2 ⟨s.a, s.b, s.c, xr s.d x⟩
  ⟨xr t.a x, t.b, t.c, t.d⟩
def start (k0 k1 : Int) : St := ⟨xr k0 8317987319222330741, xr k1 7237128888997146477, xr k0 7816392313619706465, xr k1 8387220255154660723⟩
def close (s : St) : Int :=
  let t := rnds 4 ⟨s.a, s.b, xr s.c 255, s.d⟩
  xr (xr (xr t.a t.b) t.c) t.d
theorem bits_or_nat (a b : Nat) (ha : a < 18446744073709551616) (hb : b < 18446744073709551616) :
    bits .or .u64 (a : Int) (b : Int) = ((a ||| b : Nat) : Int) := by
  have hx : a ||| b < 2 ^ 64 := Nat.or_lt_two_pow (by omega) (by omega)
  have h1 : (BitVec.ofInt 64 (a : Int)).toNat = a := by
    rw [BitVec.ofInt_natCast, BitVec.toNat_ofNat]; exact Nat.mod_eq_of_lt (by omega)
  have h2 : (BitVec.ofInt 64 (b : Int)).toNat = b := by
    rw [BitVec.ofInt_natCast, BitVec.toNat_ofNat]; exact Nat.mod_eq_of_lt (by omega)
  show IntKind.u64.wrap ((BitVec.ofInt 64 (a : Int) ||| BitVec.ofInt 64 (b : Int)).toNat : Int) = _
  rw [BitVec.toNat_or, h1, h2, IntKind.wrap_u64]
  omega
theorem pow8 (k : Nat) : (256 : Nat) ^ k = 2 ^ (8 * k) := by rw [Nat.pow_mul]
theorem or_disjoint (a b k : Nat) (ha : a < 256 ^ k) : a ||| b * 256 ^ k = a + b * 256 ^ k := by
  rw [pow8] at *
  rw [Nat.or_comm, Nat.mul_comm b, ← Nat.two_pow_add_eq_or_of_lt ha, Nat.add_comm]
theorem byte_up (b : UInt8) (k : Nat) (hk : k < 8) : b.toNat * 256 ^ k < 18446744073709551616 := by
  have h1 := b.toNat_lt
  have h2 : (256 : Nat) ^ k ≤ 256 ^ 7 := Nat.pow_le_pow_right (by decide) (by omega)
  calc b.toNat * 256 ^ k ≤ 255 * 256 ^ 7 := Nat.mul_le_mul (by omega) h2
    _ < _ := by decide
theorem or_step (a : Nat) (b : UInt8) (k : Nat) (ha : a < 256 ^ k) (hk : k < 8) :
    bits .or .u64 (a : Int) (IntKind.u64.wrap (IntKind.u64.wrap (b.toNat : Int) * 2 ^ (8 * k))) = ((a + b.toNat * 256 ^ k : Nat) : Int) := by
  have h1 := b.toNat_lt
  have h2 := byte_up b k hk
  have h3 : (256 : Nat) ^ k ≤ 256 ^ 7 := Nat.pow_le_pow_right (by decide) (by omega)
  have e1 : IntKind.u64.wrap (b.toNat : Int) = (b.toNat : Int) := by rw [IntKind.wrap_u64]; omega
  have e2 : (b.toNat : Int) * 2 ^ (8 * k) = ((b.toNat * 256 ^ k : Nat) : Int) := by rw [pow8]; simp
  have e3 : IntKind.u64.wrap ((b.toNat * 256 ^ k : Nat) : Int) = ((b.toNat * 256 ^ k : Nat) : Int) := by rw [IntKind.wrap_u64]; omega
  have h4 : (256 : Nat) ^ 7 < 18446744073709551616 := by decide
  rw [e1, e2, e3, bits_or_nat _ _ (by omega) h2, or_disjoint _ _ _ ha]
end Sip
end Go.Proofs.YtlailakofhenkabGreatDoor

/-
  Plain mathematics: a word's sixteen hexadecimal digits, from the top, by turning; from the bottom, by dividing, filled up.
-/

namespace Go.Proofs.YtlailakofhenkabGreatDoor
namespace Hex
def hexc (d : Nat) : UInt8 := if d < 10 then UInt8.ofNat (48 + d) else UInt8.ofNat (87 + d)
def hexsN : Nat → Nat → List UInt8
  | 0, _ => []
  | k + 1, n => hexsN k (n / 16) ++ [hexc (n % 16)]
/-- without noughts ahead; f: enough rounds -/
def hexMin : Nat → Nat → List UInt8
  | 0, n => [hexc (n % 16)]
  | f + 1, n => if n < 16 then [hexc n] else hexMin f (n / 16) ++ [hexc (n % 16)]
theorem hexsN_length (k n : Nat) : (hexsN k n).length = k := by
  induction k generalizing n with
  | zero => rfl
  | succ k ih => simp [hexsN, ih]
theorem hexsN_zero (k : Nat) : hexsN k 0 = List.replicate k 48 := by
  induction k with
  | zero => rfl
  | succ k ih => rw [List.replicate_succ', hexsN, Nat.zero_div, ih]; rfl
theorem hexMin_pos (f n : Nat) : 1 ≤ (hexMin f n).length := by
  cases f with
  | zero => simp [hexMin]
  | succ f => unfold hexMin; split <;> simp
theorem hexMin_le (f n k : Nat) (hk : 1 ≤ k) (hn : n < 16 ^ k) (hf : k ≤ f + 1) : (hexMin f n).length ≤ k := by
  induction f generalizing n k with
  | zero => simp [hexMin]; omega
  | succ f ih =>
    unfold hexMin
    split
    · simp; omega
    · rename_i h
      obtain ⟨j, rfl⟩ : ∃ j, k = j + 1 := ⟨k - 1, by omega⟩
      have hj : 1 ≤ j := by
        rcases Nat.eq_zero_or_pos j with h0 | h0
        · subst h0; simp at hn; omega
        · exact h0
      have := ih (n / 16) j hj (by rw [Nat.pow_succ] at hn; omega) (by omega)
      simp; omega
theorem hex_pad (f n k : Nat) (hk : 1 ≤ k) (hn : n < 16 ^ k) (hf : k ≤ f + 1) : List.replicate (k - (hexMin f n).length) 48 ++ hexMin f n = hexsN k n := by
  induction f generalizing n k with
  | zero =>
    obtain rfl : k = 1 := by omega
    simp [hexMin, hexsN]
  | succ f ih =>
    obtain ⟨j, rfl⟩ : ∃ j, k = j + 1 := ⟨k - 1, by omega⟩
    unfold hexMin
    split
    · rename_i h
      simp [hexsN, Nat.div_eq_of_lt h, Nat.mod_eq_of_lt h, hexsN_zero]
    · rename_i h
      have hj : 1 ≤ j := by
        rcases Nat.eq_zero_or_pos j with h0 | h0
        · subst h0; simp at hn; omega
        · exact h0
      rw [hexsN, ← ih (n / 16) j hj (by rw [Nat.pow_succ] at hn; omega) (by omega)]
      simp
theorem hexsN_get (k n i : Nat) (hi : i < k) : (hexsN k n)[i]? = some (hexc (n / 16 ^ (k - 1 - i) % 16)) := by
  induction k generalizing n i with
  | zero => omega
  | succ k ih =>
    rw [hexsN]
    by_cases h : i < k
    · rw [List.getElem?_append_left (by rw [hexsN_length]; exact h), ih _ _ h, Nat.div_div_eq_div_mul]
      have : 16 * 16 ^ (k - 1 - i) = 16 ^ (k + 1 - 1 - i) := by
        rw [show k + 1 - 1 - i = (k - 1 - i) + 1 by omega, Nat.pow_succ, Nat.mul_comm]
      rw [this]
    · obtain rfl : i = k := by omega
      rw [List.getElem?_append_right (by rw [hexsN_length]; omega), hexsN_length]
      simp
/-- What a word is, turned left by k digits. -/
def rot (n k : Nat) : Nat := n % 16 ^ (16 - k) * 16 ^ k + n / 16 ^ (16 - k)
theorem rot_zero (n : Nat) (hn : n < 16 ^ 16) : rot n 0 = n := by simp [rot, Nat.mod_eq_of_lt hn, Nat.div_eq_of_lt hn]
theorem rot_step (n k : Nat) (hn : n < 16 ^ 16) (hk : k < 16) : rot n k % 16 ^ 15 * 16 + rot n k / 16 ^ 15 = rot n (k + 1) ∧ rot n (k + 1) % 16 = n / 16 ^ (15 - k) % 16 := by
  obtain ⟨A, hA⟩ : ∃ A, A = 16 ^ (15 - k) := ⟨_, rfl⟩
  obtain ⟨B, hB⟩ : ∃ B, B = 16 ^ k := ⟨_, rfl⟩
  have hAB : A * B = 16 ^ 15 := by rw [hA, hB, ← Nat.pow_add]; congr 1; omega
  have hA16 : (16 : Nat) ^ (16 - k) = A * 16 := by rw [hA, ← Nat.pow_succ]; congr 1; omega
  have hB16 : (16 : Nat) ^ (k + 1) = B * 16 := by rw [hB, Nat.pow_succ]
  have hA1 : (16 : Nat) ^ (16 - (k + 1)) = A := by rw [hA]; congr 1; omega
  have hApos : 0 < A := by rw [hA]; exact Nat.pow_pos (by decide)
  have hBpos : 0 < B := by rw [hB]; exact Nat.pow_pos (by decide)
  unfold rot
  rw [hA16, hB16, hA1, ← hB, ← hA]
  obtain ⟨q, hq⟩ : ∃ q, q = n / (A * 16) := ⟨_, rfl⟩
  obtain ⟨r1, hr1⟩ : ∃ r1, r1 = n / A % 16 := ⟨_, rfl⟩
  obtain ⟨r0, hr0⟩ : ∃ r0, r0 = n % A := ⟨_, rfl⟩
  have hdA : n / A = q * 16 + r1 := by
    rw [hq, hr1, ← Nat.div_div_eq_div_mul]; omega
  have hmod : n % (A * 16) = r1 * A + r0 := by
    rw [Nat.mod_mul, ← hr0, ← hr1, Nat.mul_comm]; omega
  have hqB : q < B := by
    rw [hq]
    refine Nat.div_lt_of_lt_mul ?_
    have : A * 16 * B = 16 ^ 16 := by rw [Nat.mul_right_comm, hAB]
    rw [this]; exact hn
  have hr0A : r0 < A := by rw [hr0]; exact Nat.mod_lt _ hApos
  have hr116 : r1 < 16 := by omega
  have hlow : r0 * B + q < 16 ^ 15 := by
    rw [← hAB]
    have : (r0 + 1) * B ≤ A * B := Nat.mul_le_mul_right _ hr0A
    rw [Nat.add_mul] at this; omega
  have hW : n % (A * 16) * B + n / (A * 16) = r1 * 16 ^ 15 + (r0 * B + q) := by
    rw [hmod, ← hq, Nat.add_mul, Nat.mul_assoc, hAB, Nat.add_assoc]
  have h15 : 0 < (16 : Nat) ^ 15 := by decide
  rw [hW, ← hr0, hdA, Nat.mul_comm r1, Nat.mul_add_mod, Nat.mod_eq_of_lt hlow, Nat.mul_add_div h15, Nat.div_eq_of_lt hlow]
  have e1 : r0 * (B * 16) = 16 * (r0 * B) := by rw [Nat.mul_comm B 16, Nat.mul_left_comm]
  constructor
  · rw [e1]; omega
  · rw [e1]; omega
/-- the walk's turn by four bits -/
theorem rl4 (X : Nat) (h : X < 16 ^ 16) : Sip.rl (X : Int) 4 = ((X % 16 ^ 15 * 16 + X / 16 ^ 15 : Nat) : Int) := by
  unfold Sip.rl
  have e1 : IntKind.u64.wrap ((X : Int) * 2 ^ (4 : Int).toNat) = ((X % 16 ^ 15 * 16 : Nat) : Int) := by
    rw [IntKind.wrap_u64]
    have : (2 : Int) ^ (4 : Int).toNat = 16 := by decide
    rw [this]; omega
  have e2 : (X : Int) / 2 ^ (64 - (4 : Int)).toNat = ((X / 16 ^ 15 : Nat) : Int) := by
    have : (2 : Int) ^ (64 - (4 : Int)).toNat = 1152921504606846976 := by decide
    rw [this]; omega
  rw [e1, e2, Sip.bits_or_nat _ _ (by omega) (by omega)]
  have hd : X / 16 ^ 15 < 2 ^ 4 := by omega
  rw [Nat.mul_comm, ← Nat.two_pow_add_eq_or_of_lt (i := 4) hd]
theorem rot_lt (n k : Nat) (hn : n < 16 ^ 16) (hk : k ≤ 16) : rot n k < 16 ^ 16 := by
  unfold rot
  have hAB : 16 ^ (16 - k) * 16 ^ k = 16 ^ 16 := by rw [← Nat.pow_add]; congr 1; omega
  have h1 : n % 16 ^ (16 - k) + 1 ≤ 16 ^ (16 - k) := Nat.mod_lt _ (Nat.pow_pos (by decide))
  have h2 := Nat.mul_le_mul_right (16 ^ k) h1
  have h3 : n / 16 ^ (16 - k) < 16 ^ k := Nat.div_lt_of_lt_mul (by rw [hAB]; exact hn)
  rw [hAB, Nat.add_mul] at h2
  omega
theorem and15 (X : Nat) : bits .and .u64 (X : Int) 15 = ((X % 16 : Nat) : Int) := by
  have h2 : (BitVec.ofInt 64 (15 : Int)).toNat = 15 := by decide
  show IntKind.u64.wrap ((BitVec.ofInt 64 (X : Int) &&& BitVec.ofInt 64 15).toNat : Int) = _
  rw [BitVec.toNat_and, h2, IntKind.wrap_u64, show (15 : Nat) = 2 ^ 4 - 1 from rfl, Nat.and_two_pow_sub_one_eq_mod, BitVec.ofInt_natCast, BitVec.toNat_ofNat]
  omega
def digs : List UInt8 := [48, 49, 50, 51, 52, 53, 54, 55, 56, 57, 97, 98, 99, 100, 101, 102]
theorem digs_get (d : Nat) (h : d < 16) : digs[d]? = some (hexc d) := by
  revert h
  revert d
  decide
end Hex
end Go.Proofs.YtlailakofhenkabGreatDoor
