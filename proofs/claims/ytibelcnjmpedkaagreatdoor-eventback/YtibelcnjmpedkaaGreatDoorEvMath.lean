/-
  Plain mathematics: an event, what may be one, its line, and what a line is read as.
-/
import Derived.Test.YtibelcnjmpedkaaGreatDoorScJoin
import Derived.Test.YtibelcnjmpedkaaGreatDoorTokMath
import Derived.Lib.ItoaLen
namespace Go.Proofs.YtibelcnjmpedkaaGreatDoor.Ev
open Go.Lib Tok Sc
structure Fam where
  id : Int
  client : ByteArray
  subject : ByteArray
  scope : ByteArray
  gen : Int
  made : Int
  used : Int
  request : ByteArray
  dead : Bool
structure E where
  kind : Int
  fam : Fam
  id : Int
  time : Int
def zeroF : Fam := ⟨0, ⟨#[]⟩, ⟨#[]⟩, ⟨#[]⟩, 0, 0, 0, ⟨#[]⟩, false⟩
def zeroE : E := ⟨0, zeroF, 0, 0⟩
/-! Names -/
def nmB (c : UInt8) : Bool := (decide (97 ≤ c.toNat) && decide (c.toNat ≤ 122)) || (decide (48 ≤ c.toNat) && decide (c.toNat ≤ 57)) || decide (c.toNat = 45)
theorem nmB_iff {c : UInt8} : nmB c = true ↔ (97 ≤ c.toNat ∧ c.toNat ≤ 122) ∨ (48 ≤ c.toNat ∧ c.toNat ≤ 57) ∨ c.toNat = 45 := by
  simp [nmB, or_assoc]
def nameB (s : List UInt8) : Bool := s.all nmB && (decide (1 ≤ s.length) && decide (s.length ≤ 20))
theorem nameB_iff {s : List UInt8} : nameB s = true ↔ (∀ c ∈ s, nmB c = true) ∧ 1 ≤ s.length ∧ s.length ≤ 20 := by simp [nameB]
theorem name_no {s : List UInt8} (h : nameB s = true) {c : UInt8} (hc : nmB c = false) : c ∉ s := fun hm => by
  have := (nameB_iff.1 h).1 c hm
  rw [hc] at this; cases this
theorem name_ne {s : List UInt8} (h : nameB s = true) : s ≠ [] := by
  rintro rfl
  revert h
  decide
/-! A scope in its least form -/
def Lst (s : List UInt8) : Prop := ∃ l, Out s l 0 ∧ joined l = s
theorem lst_of {s : List UInt8} {l : List Word} (ho : Out s l 0) : Lst s ↔ joined l = s := ⟨fun ⟨m, h1, h2⟩ => by rw [(out_inj ho h1).1]; exact h2, fun h => ⟨l, ho, h⟩⟩
theorem lst_not {s : List UInt8} {l : List Word} {n : Nat} (ho : Out s l (n + 1)) : ¬ Lst s := fun ⟨m, h1, _⟩ => by have := (out_inj ho h1).2; omega
theorem lst_no {s : List UInt8} (h : Lst s) {c : UInt8} (hc : lowB c = false) (h43 : c ≠ 43) : c ∉ s := by
  obtain ⟨l, ho, rfl⟩ := h
  have hw := (out_words ho).1
  intro hm
  have : ∀ (l : List Word), (∀ y ∈ l, wordB y = true) → c ∉ joined l := by
    intro l
    induction l with
    | nil => intro _ hm; simp [joined_nil] at hm
    | cons x l ih =>
      intro hw hm
      have hx : c ∉ x := fun hm => by
        have := (wordB_iff.1 (hw x (by simp))).2 c hm
        rw [hc] at this; cases this
      cases l with
      | nil => rw [joined_one] at hm; exact hx hm
      | cons y l =>
        rw [joined_two, List.mem_append, List.mem_cons] at hm
        rcases hm with hm | hm | hm
        · exact hx hm
        · exact h43 hm
        · exact ih (fun z hz => hw z (by simp [hz])) hm
  exact this l hw hm
theorem joined_len2 : ∀ (l : List Word), (∀ x ∈ l, x.length ≤ 8) → (joined l).length + 1 ≤ 9 * l.length + 1 ∧ (l ≠ [] → (joined l).length + 1 ≤ 9 * l.length)
  | [], h => by simp [joined_nil]
  | [x], h => by rw [joined_one]; have := h x (by simp); simp; omega
  | x :: y :: l, h => by
    rw [joined_two]
    have h1 := h x (by simp)
    have h2 := (joined_len2 (y :: l) (fun z hz => h z (by simp [hz]))).2 (by simp)
    simp at h2 ⊢
    omega
theorem lst_len {s : List UInt8} (h : Lst s) : s.length ≤ 44 := by
  obtain ⟨l, ho, rfl⟩ := h
  obtain ⟨_, h8, h5, _⟩ := out_words ho
  by_cases hl : l = []
  · subst hl; simp [joined_nil]
  · have := (joined_len2 l h8).2 hl
    omega
/-! What may be an event -/
def mayF (f : Fam) : Prop := (okN f.id ∧ okN f.gen ∧ okN f.made ∧ okN f.used) ∧ nameB f.client.data.toList = true ∧ nameB f.subject.data.toList = true ∧ (f.request.data.toList = [] ∨ nameB f.request.data.toList = true) ∧ Lst f.scope.data.toList
def may (e : E) : Prop := (e.kind = 1 ∧ mayF e.fam ∧ e.id = 0 ∧ e.time = 0) ∨ (e.kind = 2 ∧ e.fam = zeroF ∧ okN e.id ∧ e.time = 0) ∨ (e.kind = 3 ∧ e.fam = zeroF ∧ e.id = 0 ∧ okN e.time)
theorem boolOf (p : Prop) : ∃ b : Bool, b = true ↔ p := by
  by_cases h : p
  · exact ⟨true, by simp [h]⟩
  · exact ⟨false, by simp [h]⟩
/-! Its line -/
def wordL (s : List UInt8) : List UInt8 := if s = [] then [95] else s
def lifeL (d : Bool) : List UInt8 := if d then [49] else [48]
def putWs (f : Fam) : List Word := [[112], itoa f.id, f.client.data.toList, f.subject.data.toList, wordL f.scope.data.toList, itoa f.gen, itoa f.made, itoa f.used, wordL f.request.data.toList, lifeL f.dead]
def wordsOf (e : E) : List Word := if e.kind = 1 then putWs e.fam else if e.kind = 2 then [[100], itoa e.id] else [[99], itoa e.time]
def line (e : E) : List UInt8 := join (wordsOf e) [32]
theorem glue_two (c : UInt8) (x y : Word) (l : List Word) : join (x :: y :: l) [c] = x ++ c :: join (y :: l) [c] := by
  simp [join, List.intercalate, List.intersperse]
theorem parts_glue {c : UInt8} : ∀ (x : Word) (l : List Word), (∀ y ∈ x :: l, c ∉ y) → parts c (join (x :: l) [c]) = x :: l
  | x, [], h => by rw [join_one, parts_no (h x (by simp))]
  | x, y :: l, h => by
    rw [glue_two, parts_at _ (h x (by simp)), parts_glue y l (fun z hz => h z (by simp [hz]))]
theorem splitK_glue {c : UInt8} : ∀ (x : Word) (l : List Word) (k : Nat), (∀ y ∈ x :: l, c ∉ y) → l.length ≤ k → splitK [c] 0 k (join (x :: l) [c]) = x :: l
  | x, [], k, h, _ => by rw [join_one, splitK_no (h x (by simp))]
  | x, y :: l, k, h, hk => by
    obtain ⟨k, rfl⟩ : ∃ k', k = k' + 1 := ⟨k - 1, by simp at hk; omega⟩
    rw [glue_two, splitK_at _ (h x (by simp)), splitK_glue y l k (fun z hz => h z (by simp [hz])) (by simpa using hk)]
theorem glue_len {c : UInt8} : ∀ (x : Word) (l : List Word), l.length ≤ (join (x :: l) [c]).length
  | x, [] => by simp
  | x, y :: l => by
    rw [glue_two]
    have := glue_len (c := c) y l
    simp
    omega
theorem wordL_no {s : List UInt8} {c : UInt8} (h : c ∉ s) (hc : c ≠ 95) : c ∉ wordL s := by
  unfold wordL
  split
  · simpa using hc
  · exact h
theorem itoa_no {n : Int} (h : okN n) {c : UInt8} (hc : c.toNat < 48) : c ∉ itoa n := by
  rw [itoa_pos h.1]
  intro hm
  have := dec_digits _ _ hm
  omega
theorem words_no {e : E} (h : may e) : ∀ y ∈ wordsOf e, (32 : UInt8) ∉ y := by
  unfold wordsOf
  rcases h with ⟨hk, ⟨⟨h1, h2, h3, h4⟩, hc, hs, hr, hl⟩, _⟩ | ⟨hk, _, hi, _⟩ | ⟨hk, _, _, ht⟩
  · rw [if_pos hk]
    have q : (32 : UInt8).toNat < 48 := by decide
    have n1 := name_no hc (c := 32) (by decide)
    have n2 := name_no hs (c := 32) (by decide)
    have n3 : (32 : UInt8) ∉ e.fam.request.data.toList := by
      rcases hr with hr | hr
      · rw [hr]; simp
      · exact name_no hr (by decide)
    have n4 := lst_no hl (c := 32) (by decide) (by decide)
    intro y hy
    simp only [putWs, List.mem_cons, List.not_mem_nil, or_false] at hy
    rcases hy with rfl | rfl | rfl | rfl | rfl | rfl | rfl | rfl | rfl | rfl
    · decide
    · exact itoa_no h1 q
    · exact n1
    · exact n2
    · exact wordL_no n4 (by decide)
    · exact itoa_no h2 q
    · exact itoa_no h3 q
    · exact itoa_no h4 q
    · exact wordL_no n3 (by decide)
    · cases e.fam.dead <;> decide
  · rw [if_neg (by omega), if_pos hk]
    intro y hy
    simp only [List.mem_cons, List.not_mem_nil, or_false] at hy
    rcases hy with rfl | rfl
    · decide
    · exact itoa_no hi (by decide)
  · rw [if_neg (by omega), if_neg (by omega)]
    intro y hy
    simp only [List.mem_cons, List.not_mem_nil, or_false] at hy
    rcases hy with rfl | rfl
    · decide
    · exact itoa_no ht (by decide)
theorem words_cons (e : E) : ∃ x l, wordsOf e = x :: l ∧ l.length ≤ 9 := by
  unfold wordsOf putWs
  split
  · exact ⟨_, _, rfl, by simp⟩
  · split
    · exact ⟨_, _, rfl, by simp⟩
    · exact ⟨_, _, rfl, by simp⟩
theorem parts_line {e : E} (h : may e) : parts 32 (line e) = wordsOf e := by
  obtain ⟨x, l, hw, _⟩ := words_cons e
  have := words_no h
  unfold line
  rw [hw] at this ⊢
  exact parts_glue x l this
theorem split_line {e : E} (h : may e) : splitK [32] 0 (min 10 ((line e).length + 1) - 1) (line e) = wordsOf e := by
  obtain ⟨x, l, hw, hl⟩ := words_cons e
  have hn := words_no h
  unfold line
  rw [hw] at hn ⊢
  have := glue_len (c := 32) x l
  exact splitK_glue x l _ hn (by omega)
/-! Two events of one line are one. -/
theorem bytes_eq {x y : ByteArray} (h : x.data.toList = y.data.toList) : x = y := by
  cases x; cases y
  simp at h
  rw [h]
theorem wordL_inj {s t : List UInt8} (hs : (95 : UInt8) ∉ s) (ht : (95 : UInt8) ∉ t) (h : wordL s = wordL t) : s = t := by
  unfold wordL at h
  split at h <;> split at h
  · simp_all
  · rw [← h] at ht; simp at ht
  · rw [h] at hs; simp at hs
  · exact h
theorem no95 {s : List UInt8} (h : s = [] ∨ nameB s = true) : (95 : UInt8) ∉ s := by
  rcases h with h | h
  · rw [h]; simp
  · exact name_no h (by decide)
theorem lifeL_inj {a b : Bool} (h : lifeL a = lifeL b) : a = b := by cases a <;> cases b <;> simp_all [lifeL]
theorem itoaN_inj {a b : Int} (ha : okN a) (hb : okN b) (h : itoa a = itoa b) : a = b := by
  have h1 := ha.2
  have h2 := hb.2
  exact itoa_inj ha.1 (by omega) hb.1 (by omega) h
theorem words_inj {a b : E} (ha : may a) (hb : may b) (h : wordsOf a = wordsOf b) : a = b := by
  obtain ⟨ak, ⟨a1, a2, a3, a4, a5, a6, a7, a8, a9⟩, ai, at_⟩ := a
  obtain ⟨bk, ⟨b1, b2, b3, b4, b5, b6, b7, b8, b9⟩, bi, bt⟩ := b
  unfold wordsOf putWs at h
  simp only at h
  rcases ha with ⟨hk, ⟨⟨h1, h2, h3, h4⟩, hc, hs, hr, hl⟩, e1, e2⟩ | ⟨hk, e1, hi, e2⟩ | ⟨hk, e1, e2, ht⟩ <;> rcases hb with ⟨hk', ⟨⟨h1', h2', h3', h4'⟩, hc', hs', hr', hl'⟩, e1', e2'⟩ | ⟨hk', e1', hi', e2'⟩ | ⟨hk', e1', e2', ht'⟩ <;> simp only at * <;> subst hk <;> subst hk'
  · subst e1; subst e2; subst e1'; subst e2'
    rw [if_pos rfl, if_pos rfl] at h
    simp only [List.cons.injEq, and_true, true_and] at h
    obtain ⟨g1, g2, g3, g4, g5, g6, g7, g8, g9⟩ := h
    rw [itoaN_inj h1 h1' g1, bytes_eq g2, bytes_eq g3, bytes_eq (wordL_inj (lst_no hl (by decide) (by decide)) (lst_no hl' (by decide) (by decide)) g4), itoaN_inj h2 h2' g5, itoaN_inj h3 h3' g6, itoaN_inj h4 h4' g7, bytes_eq (wordL_inj (no95 hr) (no95 hr') g8), lifeL_inj g9]
  · simp at h
  · simp at h
  · simp at h
  · simp at h
    rw [e1, e1', e2, e2', itoaN_inj hi hi' h]
  · simp at h
  · simp at h
  · simp at h
  · simp at h
    rw [e1, e1', e2, e2', itoaN_inj ht ht' h]
theorem line_inj {a b : E} (ha : may a) (hb : may b) (h : line a = line b) : a = b :=
  words_inj ha hb (by rw [← parts_line ha, ← parts_line hb, h])
/-! What a line is read as. -/
def ROut (s : List UInt8) (e : E) (n : Nat) : Prop := (n = 0 ∧ may e ∧ line e = s) ∨ (n = 3 ∧ e = zeroE ∧ ∀ e', may e' → line e' ≠ s)
theorem rout_inj {s : List UInt8} {a b : E} {n m : Nat} (h : ROut s a n) (k : ROut s b m) : a = b ∧ n = m := by
  rcases h with ⟨rfl, h1, h2⟩ | ⟨rfl, rfl, h1⟩ <;> rcases k with ⟨rfl, k1, k2⟩ | ⟨rfl, rfl, k1⟩
  · exact ⟨line_inj h1 k1 (by rw [h2, k2]), rfl⟩
  · exact absurd h2 (k1 _ h1)
  · exact absurd k2 (h1 _ k1)
  · exact ⟨rfl, rfl⟩
theorem rout_good {s : List UInt8} {e : E} (h : may e) (hs : line e = s) : ROut s e 0 := .inl ⟨rfl, h, hs⟩
/-- What a reader of words must make of a line: of an event's, that event. -/
def Told (s : List UInt8) (e : E) : Prop := ∀ e', may e' → line e' = s → e = e'
theorem rout_bad {s : List UInt8} {e : E} (h : Told s e) (hb : may e → line e ≠ s) : ROut s zeroE 3 :=
  .inr ⟨rfl, rfl, fun e' h1 h2 => by
    have := h e' h1 h2
    subst this
    exact hb h1 h2⟩
/-! How long a line is. -/
theorem digits13 {n : Int} (h : okN n) : (itoa n).length ≤ 13 := by
  rw [itoa_pos h.1, decDigits_length]
  have := h.2
  have h13 : n.toNat < 10 ^ 13 := by omega
  generalize n.toNat = u at h13
  have key : ∀ (k u : Nat), u < 10 ^ (k + 1) → nDigits u ≤ k + 1 := by
    intro k
    induction k with
    | zero => intro u hu; rw [nDigits_small (by simpa using hu)]; omega
    | succ k ih =>
      intro u hu
      by_cases h10 : u < 10
      · rw [nDigits_small h10]; omega
      · rw [nDigits_big h10]
        have := ih (u / 10) (by rw [Nat.pow_succ] at hu; omega)
        omega
  exact key 12 u h13
theorem wordL_len (s : List UInt8) : (wordL s).length ≤ s.length + 1 := by
  unfold wordL
  split <;> simp
theorem wordL_len2 {s : List UInt8} {n : Nat} (h : s.length ≤ n) (hn : 1 ≤ n) : (wordL s).length ≤ n := by
  unfold wordL
  split
  · simpa using hn
  · exact h
theorem line_len {e : E} (h : may e) : (line e).length ≤ 180 := by
  unfold line wordsOf
  rcases h with ⟨hk, ⟨⟨h1, h2, h3, h4⟩, hc, hs, hr, hl⟩, _⟩ | ⟨hk, _, hi, _⟩ | ⟨hk, _, _, ht⟩
  · rw [if_pos hk]
    have l1 := digits13 h1
    have l2 := digits13 h2
    have l3 := digits13 h3
    have l4 := digits13 h4
    have l5 := (nameB_iff.1 hc).2.2
    have l6 := (nameB_iff.1 hs).2.2
    have l7 : e.fam.request.data.toList.length ≤ 20 := by
      rcases hr with hr | hr
      · rw [hr]; simp
      · exact (nameB_iff.1 hr).2.2
    have l8 := wordL_len2 l7 (by omega)
    have l9 := wordL_len2 (lst_len hl) (by omega)
    have l10 : (lifeL e.fam.dead).length = 1 := by cases e.fam.dead <;> rfl
    unfold putWs
    simp only [glue_two, join_one, List.length_append, List.length_cons, List.length_nil]
    omega
  · rw [if_neg (by omega), if_pos hk]
    have l1 := digits13 hi
    simp only [glue_two, join_one, List.length_append, List.length_cons, List.length_nil]
    omega
  · rw [if_neg (by omega), if_neg (by omega)]
    have l1 := digits13 ht
    simp only [glue_two, join_one, List.length_append, List.length_cons, List.length_nil]
    omega
end Go.Proofs.YtibelcnjmpedkaaGreatDoor.Ev
