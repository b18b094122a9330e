/-
  Plain mathematics: a token's text, and what a text is read as; numbers as they are written; texts parted at dots.
-/
import Derived.Test.YtibelcnjmpedkaaGreatDoorParts
import Derived.Lib.ItoaNum
import Derived.Lib.AtoiAllCases
import Derived.Lib.SplitLaws
import Derived.Lib.LastIndexByte
import Derived.Test.YtibelcnjmpedkaaGreatDoorHex
namespace Go.Proofs.YtibelcnjmpedkaaGreatDoor.Tok
open Go.Lib
theorem splitK_three (c : UInt8) (l : List UInt8) : splitK [c] 0 (min 3 (l.length + 1) - 1) l = splitK [c] 0 2 l := by
  rcases nilOr c l with h | ⟨a, b, rfl, h⟩
  · rw [splitK_no h, splitK_no h]
  · by_cases hl : 2 ≤ (a ++ c :: b).length
    · rw [show min 3 ((a ++ c :: b).length + 1) - 1 = 2 by omega]
    · simp at hl
      have ea : a = [] := List.length_eq_zero_iff.1 (by omega)
      have eb : b = [] := List.length_eq_zero_iff.1 (by omega)
      subst ea; subst eb
      rw [show min 3 (([] ++ c :: [] : List UInt8).length + 1) - 1 = 0 + 1 by simp, splitK_at _ h, splitK_at _ h, splitK_no (by simp), splitK_no (by simp)]
theorem last_no {s : ByteArray} {c : UInt8} (h : c ∉ s.data.toList) : lastIndexByte s (c.toNat : Int) = -1 := by
  rcases lastIndexByte_spec s (c.toNat : Int) with ⟨e, _⟩ | ⟨i, hi, _, hc, _⟩
  · exact e
  · have hi' : i < s.data.size := hi
    rw [getElem!_pos s.data i hi'] at hc
    have : s.data[i] = c := UInt8.toNat_inj.1 (by omega)
    exact absurd (Array.mem_toList_iff.2 (this ▸ Array.getElem_mem hi')) h
theorem last_at {s : ByteArray} {c : UInt8} {a b : List UInt8} (e : s.data.toList = a ++ c :: b) (h : c ∉ b) : lastIndexByte s (c.toNat : Int) = a.length := by
  have hsz : s.data.size = a.length + (b.length + 1) := by rw [← Array.length_toList, e]; simp
  have hget : ∀ j, j < s.size → s.data[j]! = (a ++ c :: b).getD j 0 := by
    intro j hj
    have hj' : j < s.data.size := hj
    rw [getElem!_pos s.data j hj', ← e, ← Array.getElem_toList]
    rw [List.getD_eq_getElem?_getD, List.getElem?_eq_getElem (by simpa using hj')]; rfl
  have hs : s.size = s.data.size := rfl
  have hat : (a ++ c :: b).getD a.length 0 = c := by simp
  have hbehind : ∀ j, a.length < j → j < s.size → (a ++ c :: b).getD j 0 ≠ c := by
    intro j h1 h2 he
    obtain ⟨t, rfl⟩ : ∃ t, j = a.length + 1 + t := ⟨j - a.length - 1, by omega⟩
    rw [List.getD_eq_getElem?_getD, List.getElem?_append_right (by omega), show a.length + 1 + t - a.length = t + 1 by omega, List.getElem?_cons_succ, List.getElem?_eq_getElem (by omega)] at he
    simp at he
    exact h (he ▸ List.getElem_mem _)
  rcases lastIndexByte_spec s (c.toNat : Int) with ⟨_, hn⟩ | ⟨i, hi, he, hc, hn⟩
  · have := hn a.length (by omega)
    rw [hget _ (by omega), hat] at this
    exact absurd rfl this
  · rw [he]
    rw [hget _ hi] at hc
    have hc2 : (a ++ c :: b).getD i 0 = c := UInt8.toNat_inj.1 (by omega)
    rcases Nat.lt_trichotomy i a.length with h1 | h1 | h1
    · have := hn a.length h1 (by omega)
      rw [hget _ (by omega), hat] at this
      exact absurd rfl this
    · rw [h1]
    · exact absurd hc2 (hbehind i h1 hi)
/-! Numbers -/
theorem digit_toNat {d : Nat} (h : d < 10) : (UInt8.ofNat (48 + d)).toNat = 48 + d := by
  rw [UInt8.toNat_ofNat']; omega
theorem dec_digits (u : Nat) : ∀ b ∈ decDigits u, 48 ≤ b.toNat ∧ b.toNat ≤ 57 := by
  induction u using Nat.strongRecOn with
  | _ u ih =>
    rw [decDigits]
    split
    · intro b hb
      simp only [List.mem_singleton] at hb
      subst hb
      rw [digit_toNat (by assumption)]; omega
    · intro b hb
      simp only [List.mem_append, List.mem_singleton] at hb
      rcases hb with hb | rfl
      · exact ih (u / 10) (by omega) b hb
      · rw [digit_toNat (by omega)]; omega
theorem parse_app (l r : List UInt8) (acc a : Nat) (h : parseUint10 acc l = .ok a) : parseUint10 acc (l ++ r) = parseUint10 a r := by
  induction l generalizing acc with
  | nil => simp only [parseUint10] at h; injection h with h; subst h; rfl
  | cons c l ih =>
    simp only [parseUint10, List.cons_append] at h ⊢
    split at h
    · rename_i h1
      split at h
      · cases h
      · rename_i h2
        split at h
        · cases h
        · rename_i h3
          rw [if_pos h1, if_neg h2, if_neg h3]
          exact ih _ h
    · cases h
theorem parse_dec (u : Nat) (hu : u < 18446744073709551616) : parseUint10 0 (decDigits u) = .ok u := by
  induction u using Nat.strongRecOn with
  | _ u ih =>
    rw [decDigits]
    split
    · rename_i h
      simp only [parseUint10, digit_toNat h]
      rw [if_pos (by omega), if_neg (by omega), if_neg (by omega)]
      congr 1; omega
    · rename_i h
      rw [parse_app _ _ _ _ (ih (u / 10) (by omega) (by omega))]
      simp only [parseUint10, digit_toNat (show u % 10 < 10 by omega)]
      rw [if_pos (by omega), if_neg (by omega), if_neg (by omega)]
      congr 1; omega
theorem dec_cons (u : Nat) : ∃ c r, decDigits u = c :: r := by
  cases h : decDigits u with
  | nil =>
    have := decDigits_length u
    have h2 := nDigits_pos u
    rw [h] at this; simp at this; omega
  | cons c r => exact ⟨c, r, rfl⟩
theorem itoa_pos {n : Int} (h : 0 ≤ n) : itoa n = decDigits n.toNat := by unfold itoa; rw [if_neg (by omega)]
theorem atoi_itoa {n : Int} (h0 : 0 ≤ n) (h1 : n ≤ 9223372036854775807) : atoiAll (itoa n) = .ok n := by
  rw [itoa_pos h0]
  obtain ⟨c, r, e⟩ := dec_cons n.toNat
  have hd := dec_digits n.toNat c (by rw [e]; simp)
  rw [e, atoiAll_plain c r (by omega) (by omega), ← e]
  unfold parseMag
  rw [if_neg (by rw [e]; simp), parse_dec _ (by omega)]
  show (if 9223372036854775808 ≤ n.toNat then NumEnd.range else NumEnd.ok ((n.toNat : Nat) : Int)) = _
  rw [if_neg (by omega)]
  congr 1; omega
theorem itoa_inj {a b : Int} (ha : 0 ≤ a) (ha' : a ≤ 9223372036854775807) (hb : 0 ≤ b) (hb' : b ≤ 9223372036854775807) (h : itoa a = itoa b) : a = b := by
  have h1 := atoi_itoa ha ha'
  rw [h, atoi_itoa hb hb'] at h1
  injection h1 with h1
  exact h1.symm
theorem itoa_nodot {n : Int} (h : 0 ≤ n) : (46 : UInt8) ∉ itoa n := by
  rw [itoa_pos h]
  intro hm
  have := dec_digits _ _ hm
  simp at this
/-! A token -/
def okN (n : Int) : Prop := 0 ≤ n ∧ n ≤ 1099511627776
def okB (n : Int) : Bool := decide (0 ≤ n) && decide (n ≤ 1099511627776)
theorem okB_iff {n : Int} : okB n = true ↔ okN n := by simp [okB, okN]
theorem okB_t {n : Int} (h : okN n) : okB n = true := okB_iff.2 h
theorem okB_f {n : Int} (h : ¬ okN n) : okB n = false := Bool.eq_false_iff.2 (fun k => h (okB_iff.1 k))
structure T where
  k : Int
  f : Int
  g : Int
  e : Int
def zero : T := ⟨0, 0, 0, 0⟩
def may (t : T) : Prop := (t.k = 1 ∧ t.e = 0 ∨ t.k = 2 ∧ okN t.e) ∧ okN t.f ∧ okN t.g
def mayB (t : T) : Bool := (decide (t.k = 1) && decide (t.e = 0) || decide (t.k = 2) && okB t.e) && (okB t.f && okB t.g)
theorem mayB_iff {t : T} : mayB t = true ↔ may t := by simp [mayB, may, okB_iff]
theorem mayB_t {t : T} (h : may t) : mayB t = true := mayB_iff.2 h
theorem mayB_f {t : T} (h : ¬ may t) : mayB t = false := Bool.eq_false_iff.2 (fun k => h (mayB_iff.1 k))
def body (t : T) : List UInt8 := if t.k = 1 then [114, 46] ++ (itoa t.f ++ 46 :: itoa t.g) else [97, 46] ++ (itoa t.f ++ 46 :: (itoa t.g ++ 46 :: itoa t.e))
theorem body_inj {t t' : T} (h : may t) (h' : may t') (hb : body t = body t') : t = t' := by
  obtain ⟨k, f, g, e⟩ := t
  obtain ⟨k', f', g', e'⟩ := t'
  obtain ⟨hk, hf, hg⟩ := h
  obtain ⟨hk', hf', hg'⟩ := h'
  unfold okN at *
  simp only at *
  unfold body at hb
  simp only at hb
  rcases hk with ⟨rfl, rfl⟩ | ⟨rfl, he⟩ <;> rcases hk' with ⟨rfl, rfl⟩ | ⟨rfl, he'⟩
  · rw [if_pos rfl, if_pos rfl, List.append_right_inj] at hb
    obtain ⟨e1, e2⟩ := part_first hb (itoa_nodot hf.1) (itoa_nodot hf'.1)
    obtain rfl := itoa_inj hf.1 (by omega) hf'.1 (by omega) e1
    obtain rfl := itoa_inj hg.1 (by omega) hg'.1 (by omega) e2
    rfl
  · rw [if_pos rfl, if_neg (by decide)] at hb
    simp at hb
  · rw [if_pos rfl, if_neg (by decide)] at hb
    simp at hb
  · rw [if_neg (by decide), if_neg (by decide), List.append_right_inj] at hb
    obtain ⟨e1, e2⟩ := part_first hb (itoa_nodot hf.1) (itoa_nodot hf'.1)
    obtain ⟨e3, e4⟩ := part_first e2 (itoa_nodot hg.1) (itoa_nodot hg'.1)
    obtain rfl := itoa_inj hf.1 (by omega) hf'.1 (by omega) e1
    obtain rfl := itoa_inj hg.1 (by omega) hg'.1 (by omega) e3
    obtain rfl := itoa_inj he.1 (by omega) he'.1 (by omega) e4
    rfl
/-! A tag -/
def isHex (b : UInt8) : Prop := 48 ≤ b.toNat ∧ b.toNat ≤ 57 ∨ 97 ≤ b.toNat ∧ b.toNat ≤ 102
def isHexB (b : UInt8) : Bool := decide (48 ≤ b.toNat ∧ b.toNat ≤ 57) || decide (97 ≤ b.toNat ∧ b.toNat ≤ 102)
theorem isHexB_iff {b : UInt8} : isHexB b = true ↔ isHex b := by simp [isHexB, isHex]
theorem isHexB_t {b : UInt8} (h : isHex b) : isHexB b = true := isHexB_iff.2 h
theorem isHexB_f {b : UInt8} (h : ¬ isHex b) : isHexB b = false := Bool.eq_false_iff.2 (fun k => h (isHexB_iff.1 k))
def hex16 (l : List UInt8) : Prop := l.length = 16 ∧ ∀ b ∈ l, isHex b
def hex16B (l : List UInt8) : Bool := decide (l.length = 16) && l.all isHexB
theorem hex16B_iff {l : List UInt8} : hex16B l = true ↔ hex16 l := by simp [hex16B, hex16, isHexB_iff]
theorem hex16B_t {l : List UInt8} (h : hex16 l) : hex16B l = true := hex16B_iff.2 h
theorem hex16B_f {l : List UInt8} (h : ¬ hex16 l) : hex16B l = false := Bool.eq_false_iff.2 (fun k => h (hex16B_iff.1 k))
theorem hex16_nodot {l : List UInt8} (h : hex16 l) : (46 : UInt8) ∉ l := by
  intro hm
  have := h.2 _ hm
  simp [isHex] at this
theorem hexc_hex (d : Nat) (h : d < 16) : isHex (Hex.hexc d) := by
  unfold Hex.hexc isHex
  split
  · left; rw [UInt8.toNat_ofNat']; omega
  · right; rw [UInt8.toNat_ofNat']; omega
theorem hexsN_hex (k n : Nat) : ∀ b ∈ Hex.hexsN k n, isHex b := by
  induction k generalizing n with
  | zero => intro b hb; cases hb
  | succ k ih =>
    intro b hb
    simp only [Hex.hexsN, List.mem_append, List.mem_singleton] at hb
    rcases hb with hb | rfl
    · exact ih _ b hb
    · exact hexc_hex _ (Nat.mod_lt _ (by decide))
theorem hexsN_16 (n : Nat) : hex16 (Hex.hexsN 16 n) := ⟨Hex.hexsN_length _ _, hexsN_hex _ _⟩
/-! What a text is: its token, or what is wrong with it (0: nothing; 1: its form; 2: its tag) -/
def Form (x : List UInt8) (t : T) (tag : List UInt8) : Prop := may t ∧ hex16 tag ∧ x = body t ++ 46 :: tag
theorem form_inj {x : List UInt8} {t t' : T} {g g' : List UInt8} (h : Form x t g) (h' : Form x t' g') : t = t' ∧ g = g' := by
  have e := h.2.2.symm.trans h'.2.2
  obtain ⟨e1, e2⟩ := part_last e (hex16_nodot h.2.1) (hex16_nodot h'.2.1)
  exact ⟨body_inj h.1 h'.1 e1, e2⟩
def Out (tagOf : List UInt8 → List UInt8) (x : List UInt8) (t : T) (n : Nat) : Prop :=
  (n = 0 ∧ ∃ tag, Form x t tag ∧ tag = tagOf (body t)) ∨ (n = 1 ∧ t = zero ∧ ∀ t' tag, ¬ Form x t' tag) ∨ (n = 2 ∧ t = zero ∧ ∃ t' tag, Form x t' tag ∧ tag ≠ tagOf (body t'))
theorem Out.good {tagOf : List UInt8 → List UInt8} {x : List UInt8} (t : T) (tag : List UInt8) (h : Form x t tag) (e : tag = tagOf (body t)) : Out tagOf x t 0 := .inl ⟨rfl, tag, h, e⟩
theorem Out.form {tagOf : List UInt8 → List UInt8} {x : List UInt8} (h : ∀ t tag, ¬ Form x t tag) : Out tagOf x zero 1 := .inr (.inl ⟨rfl, rfl, h⟩)
theorem Out.name {tagOf : List UInt8 → List UInt8} {x : List UInt8} (t : T) (tag : List UInt8) (h : Form x t tag) (e : tag ≠ tagOf (body t)) : Out tagOf x zero 2 := .inr (.inr ⟨rfl, rfl, t, tag, h, e⟩)
theorem out_inj {tagOf : List UInt8 → List UInt8} {x : List UInt8} {t t' : T} {n n' : Nat} (h : Out tagOf x t n) (h' : Out tagOf x t' n') : t = t' ∧ n = n' := by
  rcases h with ⟨rfl, tag, hf, he⟩ | ⟨rfl, rfl, hn⟩ | ⟨rfl, rfl, t1, tag, hf, he⟩
  · rcases h' with ⟨rfl, tag', hf', he'⟩ | ⟨rfl, rfl, hn⟩ | ⟨rfl, rfl, t2, tag', hf', he'⟩
    · exact ⟨(form_inj hf hf').1, rfl⟩
    · exact absurd hf (hn _ _)
    · obtain ⟨rfl, rfl⟩ := form_inj hf hf'
      exact absurd he he'
  · rcases h' with ⟨rfl, tag', hf', he'⟩ | ⟨rfl, rfl, hn'⟩ | ⟨rfl, rfl, t2, tag', hf', he'⟩
    · exact absurd hf' (hn _ _)
    · exact ⟨rfl, rfl⟩
    · exact absurd hf' (hn _ _)
  · rcases h' with ⟨rfl, tag', hf', he'⟩ | ⟨rfl, rfl, hn⟩ | ⟨rfl, rfl, t2, tag', hf', he'⟩
    · obtain ⟨rfl, rfl⟩ := form_inj hf hf'
      exact absurd he' he
    · exact absurd hf (hn _ _)
    · exact ⟨rfl, rfl⟩
end Go.Proofs.YtibelcnjmpedkaaGreatDoor.Tok
