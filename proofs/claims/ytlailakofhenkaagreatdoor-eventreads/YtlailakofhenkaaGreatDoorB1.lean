/-
  Own texts put together: Parts, ScMath, Base, RowApp, ScRow.
-/
import Derived.Lib.SplitLaws
import Derived.Lib.IndexLaws
import Derived.Lib.LastIndexByte
import Derived.Test.YtlailakofhenkaaGreatDoorProg
import GoSem.Claim
import GoSem.ClaimJoined
import GoSem.ClaimMapViews
import Derived.JoinedTies
import Derived.KernelRfl
import Derived.RowKit
import Derived.WalkKit
import Derived.WalkSpells
import Derived.Lib.ConvBytes
import Derived.BigQuiet
import Derived.Laws.IdiomCopy
/-
  Plain mathematics: texts parted at a byte.
-/

namespace Go.Proofs.YtlailakofhenkaaGreatDoor.Tok
open Go.Lib
theorem nilOr {α : Type} (c : α) (l : List α) : c ∉ l ∨ ∃ a b, l = a ++ c :: b ∧ c ∉ a := by
  by_cases h : c ∈ l
  · refine .inr ?_
    induction l with
    | nil => cases h
    | cons x l ih =>
      by_cases hx : c = x
      · exact ⟨[], l, by simp [hx], by simp⟩
      · obtain ⟨a, b, rfl, ha⟩ := ih (by simpa [hx] using h)
        exact ⟨x :: a, b, rfl, by simp [hx, ha]⟩
  · exact .inl h
theorem lastOr {α : Type} (c : α) (l : List α) : c ∉ l ∨ ∃ a b, l = a ++ c :: b ∧ c ∉ b := by
  rcases nilOr c l.reverse with h | ⟨a, b, h, ha⟩
  · exact .inl (by simpa using h)
  · refine .inr ⟨b.reverse, a.reverse, ?_, by simpa using ha⟩
    have := congrArg List.reverse h
    simpa using this
theorem part_first {α : Type} {c : α} {a b a' b' : List α} (h : a ++ c :: b = a' ++ c :: b') (ha : c ∉ a) (ha' : c ∉ a') : a = a' ∧ b = b' := by
  induction a generalizing a' with
  | nil =>
    cases a' with
    | nil => simpa using h
    | cons x a' => simp at h; simp [h.1] at ha'
  | cons x a ih =>
    cases a' with
    | nil => simp at h; simp [h.1] at ha
    | cons y a' =>
      simp at h ha ha'
      obtain ⟨e1, e2⟩ := ih h.2 ha.2 ha'.2
      exact ⟨by rw [h.1, e1], e2⟩
theorem part_last {α : Type} {c : α} {a b a' b' : List α} (h : a ++ c :: b = a' ++ c :: b') (hb : c ∉ b) (hb' : c ∉ b') : a = a' ∧ b = b' := by
  have h2 := congrArg List.reverse h
  simp only [List.reverse_append, List.reverse_cons, List.append_assoc, List.singleton_append] at h2
  obtain ⟨e1, e2⟩ := part_first h2 (by simpa using hb) (by simpa using hb')
  exact ⟨List.reverse_inj.1 e2, List.reverse_inj.1 e1⟩
theorem index_no {c : UInt8} {a : List UInt8} (h : c ∉ a) : index a [c] = -1 := by
  induction a with
  | nil => rfl
  | cons x a ih =>
    simp at h
    rw [index]
    have hp : ([c] : List UInt8).isPrefixOf (x :: a) = false := by simp [List.isPrefixOf, h.1]
    simp [hp, ih h.2]
theorem index_at {c : UInt8} {a : List UInt8} (b : List UInt8) (h : c ∉ a) : index (a ++ c :: b) [c] = a.length := by
  induction a with
  | nil => simp [index, List.isPrefixOf]
  | cons x a ih =>
    simp at h
    rw [List.cons_append, index]
    have hp : ([c] : List UInt8).isPrefixOf (x :: (a ++ c :: b)) = false := by simp [List.isPrefixOf, h.1]
    have hn : ((a.length : Int) == -1) = false := by rw [beq_eq_false_iff_ne]; omega
    simp [hp, ih h.2, hn]
theorem cut_no {c : UInt8} {a : List UInt8} (h : c ∉ a) : cut a [c] = (a, [], false) := by
  unfold cut
  rw [index_no h, if_neg (by decide)]
theorem cut_at {c : UInt8} {a : List UInt8} (b : List UInt8) (h : c ∉ a) : cut (a ++ c :: b) [c] = (a, b, true) := by
  unfold cut
  rw [index_at b h, if_pos (by omega)]
  simp
theorem splitK_no {c : UInt8} {a : List UInt8} (h : c ∉ a) (k : Nat) : splitK [c] 0 k a = [a] := by
  cases k with
  | zero => rfl
  | succ k => rw [splitK, index_no h]; rfl
theorem splitK_at {c : UInt8} {a : List UInt8} (b : List UInt8) (h : c ∉ a) (k : Nat) : splitK [c] 0 (k + 1) (a ++ c :: b) = a :: splitK [c] 0 k b := by
  rw [splitK, index_at b h, if_neg (by rw [beq_iff_eq]; omega)]
  simp
/-- A text parted at each c. -/
def parts (c : UInt8) (l : List UInt8) : List (List UInt8) := splitK [c] 0 (l.count c) l
theorem parts_no {c : UInt8} {a : List UInt8} (h : c ∉ a) : parts c a = [a] := splitK_no h _
theorem parts_at {c : UInt8} {a : List UInt8} (b : List UInt8) (h : c ∉ a) : parts c (a ++ c :: b) = a :: parts c b := by
  unfold parts
  rw [List.count_append, List.count_cons_self, List.count_eq_zero.2 h, Nat.zero_add, splitK_at b h]
theorem parts_split (c : UInt8) (s : ByteArray) : (splitB ⟨#[c]⟩ 0 (countB s ⟨#[c]⟩) s).map (·.data.toList) = parts c s.data.toList := by
  have h := splitB_data ⟨#[c]⟩ 0 (countB s ⟨#[c]⟩) s
  rw [show countB s ⟨#[c]⟩ = s.data.toList.count c from count_one c s.data.toList] at h ⊢
  exact h
theorem parts_ne {c : UInt8} : ∀ (n : Nat) (l : List UInt8), l.length ≤ n → parts c l ≠ []
  | n, l, h => by
    rcases nilOr c l with hn | ⟨a, b, rfl, hn⟩
    · rw [parts_no hn]; simp
    · rw [parts_at b hn]; simp
theorem parts_mem {c x : UInt8} (hx : x ≠ c) : ∀ (n : Nat) (l : List UInt8), l.length ≤ n → x ∈ l → ∃ w ∈ parts c l, x ∈ w
  | 0, l, h, hm => by rw [List.length_eq_zero_iff.1 (Nat.le_zero.1 h)] at hm; cases hm
  | n + 1, l, h, hm => by
    rcases nilOr c l with hn | ⟨a, b, rfl, hn⟩
    · exact ⟨l, by rw [parts_no hn]; simp, hm⟩
    · rw [parts_at b hn]
      simp only [List.mem_append, List.mem_cons] at hm
      rcases hm with hm | rfl | hm
      · exact ⟨a, by simp, hm⟩
      · exact absurd rfl hx
      · obtain ⟨w, h1, h2⟩ := parts_mem hx n b (by simp at h; omega) hm
        exact ⟨w, by simp [h1], h2⟩
theorem parts_len {c : UInt8} : ∀ (n : Nat) (l : List UInt8), l.length ≤ n → ∀ w ∈ parts c l, w.length ≤ l.length
  | 0, l, h, w, hw => by
    have hl := List.length_eq_zero_iff.1 (Nat.le_zero.1 h)
    subst hl
    rw [parts_no (by simp)] at hw
    simp at hw
    simp [hw]
  | n + 1, l, h, w, hw => by
    rcases nilOr c l with hn | ⟨a, b, rfl, hn⟩
    · rw [parts_no hn] at hw
      simp at hw
      rw [hw]
      exact Nat.le_refl _
    · rw [parts_at b hn] at hw
      simp only [List.mem_cons] at hw
      rcases hw with rfl | hw
      · simp
      · have := parts_len n b (by simp at h; omega) w hw
        simp
        omega
end Go.Proofs.YtlailakofhenkaaGreatDoor.Tok

/-
  Plain mathematics: a scope's words, what is wrong with it, its words in order, each once.
-/

namespace Go.Proofs.YtlailakofhenkaaGreatDoor.Sc
open Go.Lib Tok
abbrev Word := List UInt8
theorem lt_irr (a : Word) : ¬ a < a := List.lt_irrefl a
theorem lt_tr {a b c : Word} (h : a < b) (k : b < c) : a < c := List.lt_trans h k
theorem lt_tot (a b : Word) : a < b ∨ a = b ∨ b < a := by
  by_cases h : a < b
  · exact .inl h
  · by_cases k : b < a
    · exact .inr (.inr k)
    · exact .inr (.inl (List.le_antisymm (by rwa [← List.not_lt]) (by rwa [← List.not_lt])))
/-- Two rising lists of the same words are one. -/
theorem rising_eq : ∀ {l m : List Word}, l.Pairwise (· < ·) → m.Pairwise (· < ·) → (∀ x, x ∈ l ↔ x ∈ m) → l = m
  | [], [], _, _, _ => rfl
  | [], b :: m, _, _, h => by have := (h b).2 (by simp); simp at this
  | a :: l, [], _, _, h => by have := (h a).1 (by simp); simp at this
  | a :: l, b :: m, hl, hm, h => by
    rw [List.pairwise_cons] at hl hm
    have hab : a = b := by
      have h1 := (h a).1 (by simp)
      have h2 := (h b).2 (by simp)
      simp only [List.mem_cons] at h1 h2
      rcases h1 with h1 | h1
      · exact h1
      · rcases h2 with h2 | h2
        · exact h2.symm
        · exact absurd (lt_tr (hl.1 b h2) (hm.1 a h1)) (lt_irr a)
    subst hab
    congr 1
    refine rising_eq hl.2 hm.2 (fun x => ?_)
    constructor
    · intro hx
      have := (h x).1 (by simp [hx])
      simp only [List.mem_cons] at this
      rcases this with rfl | this
      · exact absurd (hl.1 x hx) (lt_irr x)
      · exact this
    · intro hx
      have := (h x).2 (by simp [hx])
      simp only [List.mem_cons] at this
      rcases this with rfl | this
      · exact absurd (hm.1 x hx) (lt_irr x)
      · exact this
def lowB (c : UInt8) : Bool := decide (97 ≤ c.toNat) && decide (c.toNat ≤ 122)
theorem lowB_t {c : UInt8} (h1 : 97 ≤ c.toNat) (h2 : c.toNat ≤ 122) : lowB c = true := by simp [lowB, h1, h2]
theorem lowB_f {c : UInt8} (h : ¬ (97 ≤ c.toNat ∧ c.toNat ≤ 122)) : lowB c = false := by
  cases hb : lowB c with
  | false => rfl
  | true => simp [lowB] at hb; exact absurd hb h
theorem low_plus {c : UInt8} (h : lowB c = true) : c ≠ 43 := by
  rintro rfl
  revert h
  decide
def wordB (w : Word) : Bool := (w != []) && w.all lowB
theorem wordB_iff {w : Word} : wordB w = true ↔ w ≠ [] ∧ ∀ c ∈ w, lowB c = true := by simp [wordB]
theorem wordB_nil : wordB [] = false := rfl
theorem word_plus {w : Word} (h : wordB w = true) : (43 : UInt8) ∉ w := fun hm => low_plus ((wordB_iff.1 h).2 _ hm) rfl
def words (s : List UInt8) : List Word := if s = [] then [] else parts 43 s
theorem words_nil : words [] = [] := rfl
theorem words_ne {s : List UInt8} (h : s ≠ []) : words s = parts 43 s := if_neg h
def formedB (s : List UInt8) : Bool := (words s).all wordB
theorem words_len (s : List UInt8) : ∀ w ∈ words s, w.length ≤ s.length := by
  intro w hw
  by_cases h : s = []
  · subst h; cases hw
  · rw [words_ne h] at hw
    exact parts_len s.length s (Nat.le_refl _) w hw
/-- What is left of a text that is cut at each plus. -/
def left (more : Bool) (s : List UInt8) : List Word := if more then parts 43 s else []
theorem left_step (s : List UInt8) : left true s = (cut s [43]).1 :: left (cut s [43]).2.2 (cut s [43]).2.1 := by
  rcases nilOr 43 s with h | ⟨a, b, rfl, h⟩
  · rw [cut_no h]
    show parts 43 s = s :: []
    rw [parts_no h]
  · rw [cut_at b h]
    show parts 43 (a ++ 43 :: b) = a :: parts 43 b
    rw [parts_at b h]
theorem left_len (s : List UInt8) : (cut s [43]).1.length ≤ s.length ∧ (cut s [43]).2.1.length ≤ s.length ∧ ((cut s [43]).2.2 = true → (cut s [43]).2.1.length + 1 ≤ s.length) := by
  rcases nilOr 43 s with h | ⟨a, b, rfl, h⟩
  · rw [cut_no h]; simp
  · rw [cut_at b h]; simp; omega
/-- The words, rising, each once. -/
def SetOf (l ws : List Word) : Prop := l.Pairwise (· < ·) ∧ ∀ x, x ∈ l ↔ x ∈ ws
theorem setOf_inj {l m ws : List Word} (h : SetOf l ws) (k : SetOf m ws) : l = m :=
  rising_eq h.1 k.1 (fun x => (h.2 x).trans (k.2 x).symm)
theorem setOf_nil : SetOf [] [] := ⟨.nil, fun _ => Iff.rfl⟩
/-- How many of a rising list are less. -/
theorem place (x : Word) : ∀ (l : List Word), l.Pairwise (· < ·) → ∃ k, k ≤ l.length ∧ (∀ t, t < k → l.getD t x < x) ∧ (∀ t, k ≤ t → ¬ l.getD t x < x) ∧ (∀ y ∈ l.take k, y < x) ∧ (∀ y ∈ l.drop k, ¬ y < x)
  | [], _ => ⟨0, Nat.le_refl _, fun t h => absurd h (Nat.not_lt_zero _), fun t _ => by simp, by simp, by simp⟩
  | a :: l, h => by
    rw [List.pairwise_cons] at h
    by_cases ha : a < x
    · obtain ⟨k, h1, h2, h3, h4, h5⟩ := place x l h.2
      refine ⟨k + 1, by simp; omega, fun t ht => ?_, fun t ht => ?_, fun y hy => ?_, fun y hy => ?_⟩
      · cases t with
        | zero => simpa using ha
        | succ t => simpa using h2 t (by omega)
      · cases t with
        | zero => omega
        | succ t => simpa using h3 t (by omega)
      · rw [List.take_succ_cons, List.mem_cons] at hy
        rcases hy with rfl | hy
        · exact ha
        · exact h4 y hy
      · exact h5 y (by simpa using hy)
    · have hall : ∀ y ∈ a :: l, ¬ y < x := by
        intro y hy
        rw [List.mem_cons] at hy
        rcases hy with rfl | hy
        · exact ha
        · exact fun hyx => ha (lt_tr (h.1 y hy) hyx)
      refine ⟨0, Nat.zero_le _, fun t ht => absurd ht (Nat.not_lt_zero _), fun t _ => ?_, by simp, by simpa using hall⟩
      by_cases htl : t < (a :: l).length
      · have e : (a :: l).getD t x = (a :: l)[t] := by rw [List.getD_eq_getElem?_getD, List.getElem?_eq_getElem htl]; rfl
        rw [e]
        exact hall _ (List.getElem_mem _)
      · have e : (a :: l).getD t x = x := by simp only [List.getD]; rw [List.getElem?_eq_none (by omega)]; rfl
        rw [e]
        exact lt_irr x
theorem setOf_there {l ws : List Word} {x : Word} (h : SetOf l ws) (hx : x ∈ l) : SetOf l (ws ++ [x]) := by
  refine ⟨h.1, fun y => ?_⟩
  rw [List.mem_append, List.mem_singleton, h.2 y]
  constructor
  · exact .inl
  · rintro (h' | rfl)
    · exact h'
    · exact (h.2 y).1 hx
theorem setOf_put {l ws : List Word} {x : Word} {k : Nat} (h : SetOf l ws) (hx : x ∉ l) (h1 : ∀ y ∈ l.take k, y < x) (h2 : ∀ y ∈ l.drop k, ¬ y < x) : SetOf (l.take k ++ x :: l.drop k) (ws ++ [x]) := by
  constructor
  · rw [List.pairwise_append, List.pairwise_cons]
    have hp := h.1
    rw [← List.take_append_drop k l, List.pairwise_append] at hp
    refine ⟨hp.1, ⟨fun y hy => ?_, hp.2.1⟩, fun y hy z hz => ?_⟩
    · rcases lt_tot x y with hh | rfl | hh
      · exact hh
      · exact absurd (List.mem_of_mem_drop hy) hx
      · exact absurd hh (h2 y hy)
    · rw [List.mem_cons] at hz
      rcases hz with rfl | hz
      · exact h1 y hy
      · exact hp.2.2 y hy z hz
  · intro y
    rw [List.mem_append, List.mem_cons, List.mem_append, List.mem_singleton, ← h.2 y]
    have hm : y ∈ l ↔ y ∈ l.take k ∨ y ∈ l.drop k := by
      rw [← List.mem_append, List.take_append_drop]
    rw [hm]
    constructor
    · rintro (h | h | h)
      · exact .inl (.inl h)
      · exact .inr h
      · exact .inl (.inr h)
    · rintro ((h | h) | h)
      · exact .inl h
      · exact .inr (.inr h)
      · exact .inr (.inl h)
theorem setOf_grows : ∀ (rest : List Word) {l ws : List Word}, SetOf l ws → ∃ m, SetOf m (ws ++ rest) ∧ l.length ≤ m.length
  | [], l, ws, h => ⟨l, by rwa [List.append_nil], Nat.le_refl _⟩
  | x :: rest, l, ws, h => by
    by_cases hx : x ∈ l
    · obtain ⟨m, h1, h2⟩ := setOf_grows rest (setOf_there h hx)
      exact ⟨m, by simpa using h1, h2⟩
    · obtain ⟨k, hk, _, _, h4, h5⟩ := place x l h.1
      obtain ⟨m, h1, h2⟩ := setOf_grows rest (setOf_put h hx h4 h5)
      refine ⟨m, by simpa using h1, Nat.le_trans ?_ h2⟩
      simp
      omega
/-- A list of the same words, each once, in order is the rising one, and as long. -/
theorem setOf_sort {out ws : List Word} (hn : out.Nodup) (hm : ∀ x, x ∈ out ↔ x ∈ ws) : SetOf (out.mergeSort fun x y => decide (x ≤ y)) ws ∧ (out.mergeSort fun x y => decide (x ≤ y)).length = out.length := by
  refine ⟨⟨?_, fun x => ?_⟩, List.length_mergeSort _⟩
  · have hs : (out.mergeSort fun x y => decide (x ≤ y)).Pairwise (fun x y => decide (x ≤ y) = true) := List.pairwise_mergeSort (fun a b c h1 h2 => by
        simp only [decide_eq_true_eq] at h1 h2 ⊢
        exact List.le_trans h1 h2) (fun a b => by
        simp only [Bool.or_eq_true, decide_eq_true_eq]
        exact List.le_total a b) out
    have hd : (out.mergeSort fun x y => decide (x ≤ y)).Nodup := (List.mergeSort_perm out _).nodup_iff.2 hn
    exact (hs.and hd).imp (fun {a b} h => by
      obtain ⟨h1, h2⟩ := h
      simp only [decide_eq_true_eq] at h1
      rcases lt_tot a b with h | h | h
      · exact h
      · exact absurd h h2
      · exact absurd h (by rwa [List.not_lt]))
  · rw [(List.mergeSort_perm out _).mem_iff, hm x]
/-- What a scope is: its words and 0; or what is wrong with it (3: its form; 4: too much). -/
def Out (s : List UInt8) (l : List Word) (n : Nat) : Prop :=
  (n = 0 ∧ formedB s = true ∧ SetOf l (words s) ∧ l.length ≤ 5 ∧ ∀ w ∈ words s, w.length ≤ 8) ∨ (n = 3 ∧ l = [] ∧ formedB s = false) ∨
  (n = 4 ∧ l = [] ∧ formedB s = true ∧ ∃ m, SetOf m (words s) ∧ (5 < m.length ∨ ∃ w ∈ words s, 8 < w.length))
theorem out_inj {s : List UInt8} {l m : List Word} {n k : Nat} (h : Out s l n) (h' : Out s m k) : l = m ∧ n = k := by
  rcases h with ⟨rfl, hf, hs, h5, h8⟩ | ⟨rfl, rfl, hn⟩ | ⟨rfl, rfl, hf, m1, hs, hb⟩
  · rcases h' with ⟨rfl, hf', hs', _, _⟩ | ⟨rfl, rfl, hn⟩ | ⟨rfl, rfl, hf', m2, hs', hb⟩
    · exact ⟨setOf_inj hs hs', rfl⟩
    · rw [hf] at hn; cases hn
    · obtain rfl := setOf_inj hs hs'
      rcases hb with hb | ⟨w, hw, hb⟩
      · omega
      · have := h8 w hw; omega
  · rcases h' with ⟨rfl, hf', hs', _, _⟩ | ⟨rfl, rfl, hn'⟩ | ⟨rfl, rfl, hf', m2, hs', hb⟩
    · rw [hf'] at hn; cases hn
    · exact ⟨rfl, rfl⟩
    · rw [hf'] at hn; cases hn
  · rcases h' with ⟨rfl, hf', hs', h5, h8⟩ | ⟨rfl, rfl, hn'⟩ | ⟨rfl, rfl, hf', m2, hs', hb'⟩
    · obtain rfl := setOf_inj hs hs'
      rcases hb with hb | ⟨w, hw, hb⟩
      · omega
      · have := h8 w hw; omega
    · rw [hf] at hn'; cases hn'
    · exact ⟨rfl, rfl⟩
end Go.Proofs.YtlailakofhenkaaGreatDoor.Sc

/-
  What every text of mine stands on.
-/


/-
  A slice that the call has made, told by its cells (so that a conversion's mark behind the row does not matter), and one element appended to it. Of no program.
-/

namespace Go.Proofs.YtlailakofhenkaaGreatDoor
open Go Go.RowKit
structure RowAt (B : Nat) (w : World) (g c n : Nat) (cs : List Value) : Prop where
  new : B ≤ g
  lt : g < w.heap.size
  len : cs.length = n
  le : n ≤ c
  max : c ≤ maxLen
  holds : ∀ j u, cs[j]? = some u → w.cell? ⟨g, j, none⟩ = some u
  there : ∀ j, j < c → (w.cell? ⟨g, j, none⟩).isSome = true ∧ w.frozen? ⟨g, j, none⟩ = false
theorem RowAt.block {B : Nat} {w w' : World} {g c n : Nat} {cs : List Value} (h : RowAt B w g c n cs) (hs : w.heap.size ≤ w'.heap.size) (hb : w'.heap[g]? = w.heap[g]?) : RowAt B w' g c n cs :=
  ⟨h.new, Nat.lt_of_lt_of_le h.lt hs, h.len, h.le, h.max, fun j u hj => (World.cell?_of_block (a := ⟨g, j, none⟩) hb).trans (h.holds j u hj),
    fun j hj => ⟨by rw [World.cell?_of_block (a := ⟨g, j, none⟩) hb]; exact (h.there j hj).1, (World.frozen?_of_block (a := ⟨g, j, none⟩) hb).trans (h.there j hj).2⟩⟩
theorem RowAt.below {B B' : Nat} {w w' : World} {g c n : Nat} {cs : List Value} (h : RowAt B w g c n cs) (hb : Below B' w w') (hg : g < B') : RowAt B w' g c n cs := h.block hb.size (hb.block g hg)
theorem RowAt.alloc {B : Nat} {w : World} {g c n : Nat} {cs : List Value} (h : RowAt B w g c n cs) (o : Obj) : RowAt B (w.alloc o) g c n cs := h.block (by simp) (Below.heap_alloc _ _ _ h.lt)
theorem RowAt.drew {B : Nat} {w : World} {g c n : Nat} {cs : List Value} (h : RowAt B w g c n cs) : RowAt B w.drew g c n cs := h.block (Nat.le_refl _) rfl
theorem RowAt.drewN {B : Nat} {w : World} {g c n : Nat} {cs : List Value} (h : RowAt B w g c n cs) (k : Nat) : RowAt B (w.drewN k) g c n cs := h.block (Nat.le_refl _) rfl
theorem RowAt.setCell {B : Nat} {w : World} {g c n : Nat} {cs : List Value} (h : RowAt B w g c n cs) {a : Addr} (ha : a.block ≠ g) (u : Value) : RowAt B (w.setCell a u) g c n cs :=
  h.block (by simp [World.setCell]) (Below.heap_setCell _ _ _ _ (Ne.symm ha))

/-- One element more: both arms in one way. -/
theorem wpList_append_row {P : Program} (w : World) {ops : Array Oper} {rest : List Oper} {o : Oper} {a : Act} {Q : Exit → Act → World → Prop}
    (hg : o.guard = none) (s x : Operand) (t : TypeId) (hop : o.op = Op.call { callee := Callee.builtin Builtin.append, args := #[s, x], argTypes := #[t, t] })
    (e : TypeId) (i : TypeInfo) (z : Value) (bytes : Nat) (h1 : P.underlying t = some (.slice e)) (h2 : P.info? e = some i) (h3 : i.zero = some z) (h4 : i.size = 1) (h5 : i.bytes = bytes) (h6 : z.cells.size = 1)
    (B g n c : Nat) (cs : List Value) (hs : a.eval s = .slice (some ⟨g, 0, none⟩) n c) (hrow : RowAt B w g c n cs)
    (ad : Addr) (c' : Nat) (u : Value) (hx : a.eval x = .slice (some ad) 1 c') (hc : w.cell? ad = some u) (h1c : u.oneCell' = true)
    (b1 : n + 1 ≤ maxLen) (b2 : (n + 1) * bytes ≤ 140737488355328)
    (hK : ∀ g' cc w', RowAt B w' g' cc (n + 1) (cs ++ [u]) → Below B w w' → wpList P ops Q rest (a.put o.dst (.slice (some ⟨g', 0, none⟩) (n + 1) cc)) w') :
    wpList P ops Q (o :: rest) a w := by
  have hnews : ∀ j v, [u][j]? = some v → w.cell? (ad.add j) = some v := by
    intro j v hj
    match j, hj with
    | 0, hj => simp at hj; subst hj; simpa [Addr.add] using hc
    | j + 1, hj => simp at hj
  refine wpList_append_arg w hg s x t hop e i z 1 bytes h1 h2 h3 h4 h5 h6 (by decide) g 0 n c cs hs (by rw [hrow.len]; simp) (fun j v hj => by rw [Nat.zero_add]; exact hrow.holds j v hj) ad 1 c' [u] hx (by simp) hnews (by intro v hv; simp at hv; subst hv; exact h1c) (fun hr j hj => ?_) b1 b2 (fun hr => ?_) (fun hgr v' w' hown hgb => ?_)
  · simp at hj; subst hj
    simpa using hrow.there n (by omega)
  · have hw : w.setCells g (0 + n * 1) [u] = w.setCell ⟨g, n, none⟩ u := by simp [World.setCells]
    rw [hw]
    have hth := hrow.there n (by omega)
    obtain ⟨old, hold⟩ := Option.isSome_iff_exists.1 hth.1
    refine hK g c _ ⟨hrow.new, by simp [World.setCell]; exact hrow.lt, by simp [hrow.len], by omega, hrow.max, fun j v hj => ?_, fun j hj => ?_⟩ ((Below.refl _ _).setCell (p := ⟨g, n, none⟩) hrow.new _)
    · by_cases hjn : j < n
      · rw [List.getElem?_append_left (by rw [hrow.len]; exact hjn)] at hj
        have := hrow.holds j v hj
        have hne : j ≠ n := by omega
        go_simp
      · have hj' : j = n := by
          have := (List.getElem?_eq_some_iff.1 hj).1
          simp [hrow.len] at this; omega
        subst hj'
        rw [List.getElem?_append_right (by rw [hrow.len]; omega), hrow.len] at hj
        simp at hj; subst hj
        go_simp
    · have h := hrow.there j hj
      obtain ⟨v, hv⟩ := Option.isSome_iff_exists.1 h.1
      refine ⟨?_, ?_⟩
      · by_cases hjn : j = n
        · subst hjn; go_simp
        · go_simp
      · simpa using h.2
  · rcases hown.2 with ⟨hv, h0⟩ | ⟨g', cc, cur, hv, hge, hh, hle, hmx, hsz, htk⟩
    · omega
    · subst hv
      have hB : B ≤ w.heap.size := Nat.le_trans hrow.new (Nat.le_of_lt hrow.lt)
      have hlt : g' < w'.heap.size := by
        rcases Nat.lt_or_ge g' w'.heap.size with h | h
        · exact h
        · rw [Array.getElem?_eq_none h] at hh; cases hh
      refine hK g' cc w' ⟨Nat.le_trans hB hge, hlt, by simp [hrow.len], hle, hmx, fun j v hj => ?_, fun j hj => ?_⟩ ((Below.refl _ _).grown hgb hB (fun k hk => by cases hk))
      · have hj2 := hown.cells (g := g') rfl j v hj
        rw [Addr.add_lit, Nat.zero_add] at hj2; exact hj2
      · have hjc : j < cur.size := by omega
        simp [World.cell?, World.frozen?, hh, hjc]
end Go.Proofs.YtlailakofhenkaaGreatDoor

/-
  A list of texts that the call has made: nil, or a row of its own; one text put in at a place. Of no program.
-/

namespace Go.Proofs.YtlailakofhenkaaGreatDoor
open Go Go.RowKit
def Words (B : Nat) (w : World) (v : Value) (xs : List ByteArray) : Prop :=
  (v = .slice none 0 0 ∧ xs = []) ∨ ∃ g c, v = .slice (some ⟨g, 0, none⟩) xs.length c ∧ RowAt B w g c xs.length (xs.map Value.string)
theorem Words.below {B B' : Nat} {w w' : World} {v : Value} {xs : List ByteArray} (h : Words B w v xs) (hb : Below B' w w') (hB : w.heap.size ≤ B') : Words B w' v xs := by
  rcases h with ⟨rfl, rfl⟩ | ⟨g, c, rfl, hr⟩
  · exact .inl ⟨rfl, rfl⟩
  · exact .inr ⟨g, c, rfl, hr.below hb (Nat.lt_of_lt_of_le hr.lt hB)⟩
theorem Words.mono {B B' : Nat} {w : World} {v : Value} {xs : List ByteArray} (h : Words B w v xs) (hB : B' ≤ B) : Words B' w v xs := by
  rcases h with ⟨rfl, rfl⟩ | ⟨g, c, rfl, hr⟩
  · exact .inl ⟨rfl, rfl⟩
  · exact .inr ⟨g, c, rfl, ⟨Nat.le_trans hB hr.new, hr.lt, hr.len, hr.le, hr.max, hr.holds, hr.there⟩⟩
theorem ins_get {α : Type} (cs : List α) (i : Nat) (hi : i ≤ cs.length) (u : α) (j : Nat) : (cs.take i ++ u :: cs.drop i)[j]? = if j < i then cs[j]? else if j = i then some u else cs[j - 1]? := by
  have hl : (cs.take i).length = i := by rw [List.length_take]; omega
  by_cases h1 : j < i
  · rw [if_pos h1, List.getElem?_append_left (by omega), List.getElem?_take, if_pos h1]
  · rw [if_neg h1, List.getElem?_append_right (by omega), hl]
    by_cases h2 : j = i
    · subst h2; simp
    · rw [if_neg h2]
      obtain ⟨d, rfl⟩ : ∃ d, j = i + (d + 1) := ⟨j - i - 1, by omega⟩
      rw [show i + (d + 1) - i = d + 1 by omega, List.getElem?_cons_succ, List.getElem?_drop]
      congr 1
theorem ins_len {α : Type} (cs : List α) (i : Nat) (hi : i ≤ cs.length) (u : α) : (cs.take i ++ u :: cs.drop i).length = cs.length + 1 := by
  rw [List.length_append, List.length_take, List.length_cons, List.length_drop]; omega
theorem below_setCellsW {B g : Nat} (hg : B ≤ g) : ∀ (vs : List Value) (o : Nat) (w : World), Below B w (w.setCells g o vs)
  | [], _, w => Below.refl _ w
  | v :: vs, o, w => ((Below.refl B w).setCell (p := ⟨g, o, none⟩) hg v).trans (below_setCellsW hg vs (o + 1) _)
theorem RowAt.setCells {B : Nat} {w : World} {g c n : Nat} {cs cs' : List Value} (h : RowAt B w g c n cs) (o : Nat) (vs : List Value) (ho : o + vs.length ≤ c) (hc : cs'.length ≤ c)
    (hh : ∀ j u, cs'[j]? = some u → (o ≤ j ∧ j < o + vs.length → vs[j - o]? = some u) ∧ (¬ (o ≤ j ∧ j < o + vs.length) → w.cell? ⟨g, j, none⟩ = some u)) : RowAt B (w.setCells g o vs) g c cs'.length cs' := by
  have hthere : ∀ j, j < vs.length → (w.cell? ⟨g, o + j, none⟩).isSome = true := fun j hj => (h.there (o + j) (by omega)).1
  refine ⟨h.new, ?_, rfl, hc, h.max, fun j u hj => ?_, fun j hj => ⟨?_, ?_⟩⟩
  · have hb := below_setCellsW (B := 0) (Nat.zero_le g) vs o w
    exact Nat.lt_of_lt_of_le h.lt hb.size
  · by_cases hin : o ≤ j ∧ j < o + vs.length
    · obtain ⟨d, rfl⟩ : ∃ d, j = o + d := ⟨j - o, by omega⟩
      have hv := (hh _ u hj).1 hin
      rw [show o + d - o = d by omega] at hv
      have hd : d < vs.length := (List.getElem?_eq_some_iff.1 hv).1
      rw [World.cell?_setCells_in g vs o w hthere d hd, ← hv, List.getElem?_eq_getElem hd]
    · rw [World.cell?_setCells_out g vs o w ⟨g, j, none⟩ (fun _ _ => by show j < o ∨ o + vs.length ≤ j; omega)]
      exact (hh _ u hj).2 hin
  · by_cases hin : o ≤ j ∧ j < o + vs.length
    · obtain ⟨d, rfl⟩ : ∃ d, j = o + d := ⟨j - o, by omega⟩
      rw [World.cell?_setCells_in g vs o w hthere d (by omega)]
      rfl
    · rw [World.cell?_setCells_out g vs o w ⟨g, j, none⟩ (fun _ _ => by show j < o ∨ o + vs.length ≤ j; omega)]
      exact (h.there j hj).1
  · rw [World.frozen?_setCells]
    exact (h.there j hj).2
theorem rowAt_new {B : Nat} {w : World} (hB : B ≤ w.heap.size) (cs : List Value) (n : Nat) (hn : cs.length = n) (z : Value) (G : Nat) (t : TypeId) (hm : G ≤ maxLen) (hl : n ≤ G) : RowAt B (w.alloc (.cells (cs.toArray ++ Builtin.zeroCells #[z] (G - n)) t)) w.heap.size G n cs := by
  have hs : (cs.toArray ++ Builtin.zeroCells #[z] (G - n)).size = G := by rw [Array.size_append, size_zeroCells]; simp; omega
  refine ⟨hB, by simp, hn, by omega, hm, fun j u hj => ?_, fun j hj => ⟨?_, World.frozen?_alloc_at _ _ _ _ (by simp)⟩⟩
  · have hl := (List.getElem?_eq_some_iff.1 hj).1
    rw [World.cell?_alloc_at _ _ _ _ (by simp), Array.getElem?_append_left (by simpa using hl)]
    simpa using hj
  · rw [World.cell?_alloc_at _ _ _ _ (by simp), Array.getElem?_eq_getElem (by rw [hs]; exact hj)]
    rfl
end Go.Proofs.YtlailakofhenkaaGreatDoor
