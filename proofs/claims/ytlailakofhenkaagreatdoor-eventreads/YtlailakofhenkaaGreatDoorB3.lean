/-
  Own texts put together: TokMath, EvLibs, ScJoin, EvMath.
-/
import Derived.Test.YtlailakofhenkaaGreatDoorB1
import Derived.Lib.ItoaNum
import Derived.Lib.AtoiAllCases
import Derived.Lib.SplitLaws
import Derived.Lib.LastIndexByte
import Derived.Test.YtlailakofhenkaaGreatDoorB2
import Derived.Lib.QuietBelow
import Derived.Lib.SmallJoins
import Derived.Lib.Join
import Derived.Lib.ItoaLen
/-
  Plain mathematics: a token's text, and what a text is read as; numbers as they are written; texts parted at dots.
-/

namespace Go.Proofs.YtlailakofhenkaaGreatDoor.Tok
open Go.Lib
theorem splitK_three (c : UInt8) (l : List UInt8) : splitK [c] 0 (min 3 (l.length + 1) - 1) l = splitK [c] 0 2 l := by
  rcases nilOr c l with h | ⟨a, b, rfl, h⟩
  · rw [splitK_no h, splitK_no h]
  · by_cases hl : 2 ≤ (a ++ c :: b).length
    · rw [show min 3 ((a ++ c :: b).length + 1) - 1 = 2 by omega]
    · simp at hl
      have ea : a = [] := List.length_eq_zero_iff.1 (by omega)
      have eb : b = [] := List.length_eq_zero_iff.1 (by omega)
      subst ea; subst eb
      rw [show min 3 (([] ++ c :: [] : List UInt8).length + 1) - 1 = 0 + 1 by simp, splitK_at _ h, splitK_at _ h, splitK_no (by simp), splitK_no (by simp)]
theorem last_no {s : ByteArray} {c : UInt8} (h : c ∉ s.data.toList) : lastIndexByte s (c.toNat : Int) = -1 := by
  rcases lastIndexByte_spec s (c.toNat : Int) with ⟨e, _⟩ | ⟨i, hi, _, hc, _⟩
  · exact e
  · have hi' : i < s.data.size := hi
    rw [getElem!_pos s.data i hi'] at hc
    have : s.data[i] = c := UInt8.toNat_inj.1 (by omega)
    exact absurd (Array.mem_toList_iff.2 (this ▸ Array.getElem_mem hi')) h
theorem last_at {s : ByteArray} {c : UInt8} {a b : List UInt8} (e : s.data.toList = a ++ c :: b) (h : c ∉ b) : lastIndexByte s (c.toNat : Int) = a.length := by
  have hsz : s.data.size = a.length + (b.length + 1) := by rw [← Array.length_toList, e]; simp
  have hget : ∀ j, j < s.size → s.data[j]! = (a ++ c :: b).getD j 0 := by
    intro j hj
    have hj' : j < s.data.size := hj
    rw [getElem!_pos s.data j hj', ← e, ← Array.getElem_toList]
    rw [List.getD_eq_getElem?_getD, List.getElem?_eq_getElem (by simpa using hj')]; rfl
  have hs : s.size = s.data.size := rfl
  have hat : (a ++ c :: b).getD a.length 0 = c := by simp
  have hbehind : ∀ j, a.length < j → j < s.size → (a ++ c :: b).getD j 0 ≠ c := by
    intro j h1 h2 he
    obtain ⟨t, rfl⟩ : ∃ t, j = a.length + 1 + t := ⟨j - a.length - 1, by omega⟩
    rw [List.getD_eq_getElem?_getD, List.getElem?_append_right (by omega), show a.length + 1 + t - a.length = t + 1 by omega, List.getElem?_cons_succ, List.getElem?_eq_getElem (by omega)] at he
    simp at he
    exact h (he ▸ List.getElem_mem _)
  rcases lastIndexByte_spec s (c.toNat : Int) with ⟨_, hn⟩ | ⟨i, hi, he, hc, hn⟩
  · have := hn a.length (by omega)
    rw [hget _ (by omega), hat] at this
    exact absurd rfl this
  · rw [he]
    rw [hget _ hi] at hc
    have hc2 : (a ++ c :: b).getD i 0 = c := UInt8.toNat_inj.1 (by omega)
    rcases Nat.lt_trichotomy i a.length with h1 | h1 | h1
    · have := hn a.length h1 (by omega)
      rw [hget _ (by omega), hat] at this
      exact absurd rfl this
    · rw [h1]
    · exact absurd hc2 (hbehind i h1 hi)
/-! Numbers -/
theorem digit_toNat {d : Nat} (h : d < 10) : (UInt8.ofNat (48 + d)).toNat = 48 + d := by
  rw [UInt8.toNat_ofNat']; omega
theorem dec_digits (u : Nat) : ∀ b ∈ decDigits u, 48 ≤ b.toNat ∧ b.toNat ≤ 57 := by
  induction u using Nat.strongRecOn with
  | _ u ih =>
    rw [decDigits]
    split
    · intro b hb
      simp only [List.mem_singleton] at hb
      subst hb
      rw [digit_toNat (by assumption)]; omega
    · intro b hb
      simp only [List.mem_append, List.mem_singleton] at hb
      rcases hb with hb | rfl
      · exact ih (u / 10) (by omega) b hb
      · rw [digit_toNat (by omega)]; omega
theorem parse_app (l r : List UInt8) (acc a : Nat) (h : parseUint10 acc l = .ok a) : parseUint10 acc (l ++ r) = parseUint10 a r := by
  induction l generalizing acc with
  | nil => simp only [parseUint10] at h; injection h with h; subst h; rfl
  | cons c l ih =>
    simp only [parseUint10, List.cons_append] at h ⊢
    split at h
    · rename_i h1
      split at h
      · cases h
      · rename_i h2
        split at h
        · cases h
        · rename_i h3
          rw [if_pos h1, if_neg h2, if_neg h3]
          exact ih _ h
    · cases h
theorem parse_dec (u : Nat) (hu : u < 18446744073709551616) : parseUint10 0 (decDigits u) = .ok u := by
  induction u using Nat.strongRecOn with
  | _ u ih =>
    rw [decDigits]
    split
    · rename_i h
      simp only [parseUint10, digit_toNat h]
      rw [if_pos (by omega), if_neg (by omega), if_neg (by omega)]
      congr 1; omega
    · rename_i h
      rw [parse_app _ _ _ _ (ih (u / 10) (by omega) (by omega))]
      simp only [parseUint10, digit_toNat (show u % 10 < 10 by omega)]
      rw [if_pos (by omega), if_neg (by omega), if_neg (by omega)]
      congr 1; omega
theorem dec_cons (u : Nat) : ∃ c r, decDigits u = c :: r := by
  cases h : decDigits u with
  | nil =>
    have := decDigits_length u
    have h2 := nDigits_pos u
    rw [h] at this; simp at this; omega
  | cons c r => exact ⟨c, r, rfl⟩
theorem itoa_pos {n : Int} (h : 0 ≤ n) : itoa n = decDigits n.toNat := by unfold itoa; rw [if_neg (by omega)]
theorem atoi_itoa {n : Int} (h0 : 0 ≤ n) (h1 : n ≤ 9223372036854775807) : atoiAll (itoa n) = .ok n := by
  rw [itoa_pos h0]
  obtain ⟨c, r, e⟩ := dec_cons n.toNat
  have hd := dec_digits n.toNat c (by rw [e]; simp)
  rw [e, atoiAll_plain c r (by omega) (by omega), ← e]
  unfold parseMag
  rw [if_neg (by rw [e]; simp), parse_dec _ (by omega)]
  show (if 9223372036854775808 ≤ n.toNat then NumEnd.range else NumEnd.ok ((n.toNat : Nat) : Int)) = _
  rw [if_neg (by omega)]
  congr 1; omega
theorem itoa_inj {a b : Int} (ha : 0 ≤ a) (ha' : a ≤ 9223372036854775807) (hb : 0 ≤ b) (hb' : b ≤ 9223372036854775807) (h : itoa a = itoa b) : a = b := by
  have h1 := atoi_itoa ha ha'
  rw [h, atoi_itoa hb hb'] at h1
  injection h1 with h1
  exact h1.symm
theorem itoa_nodot {n : Int} (h : 0 ≤ n) : (46 : UInt8) ∉ itoa n := by
  rw [itoa_pos h]
  intro hm
  have := dec_digits _ _ hm
  simp at this
/-! A token -/
def okN (n : Int) : Prop := 0 ≤ n ∧ n ≤ 1099511627776
def okB (n : Int) : Bool := decide (0 ≤ n) && decide (n ≤ 1099511627776)
theorem okB_iff {n : Int} : okB n = true ↔ okN n := by simp [okB, okN]
theorem okB_t {n : Int} (h : okN n) : okB n = true := okB_iff.2 h
theorem okB_f {n : Int} (h : ¬ okN n) : okB n = false := Bool.eq_false_iff.2 (fun k => h (okB_iff.1 k))
structure T where
  k : Int
  f : Int
  g : Int
  e : Int
def zero : T := ⟨0, 0, 0, 0⟩
def may (t : T) : Prop := (t.k = 1 ∧ t.e = 0 ∨ t.k = 2 ∧ okN t.e) ∧ okN t.f ∧ okN t.g
def mayB (t : T) : Bool := (decide (t.k = 1) && decide (t.e = 0) || decide (t.k = 2) && okB t.e) && (okB t.f && okB t.g)
theorem mayB_iff {t : T} : mayB t = true ↔ may t := by simp [mayB, may, okB_iff]
theorem mayB_t {t : T} (h : may t) : mayB t = true := mayB_iff.2 h
theorem mayB_f {t : T} (h : ¬ may t) : mayB t = false := Bool.eq_false_iff.2 (fun k => h (mayB_iff.1 k))
def body (t : T) : List UInt8 := if t.k = 1 then [114, 46] ++ (itoa t.f ++ 46 :: itoa t.g) else [97, 46] ++ (itoa t.f ++ 46 :: (itoa t.g ++ 46 :: itoa t.e))
theorem body_inj {t t' : T} (h : may t) (h' : may t') (hb : body t = body t') : t = t' := by
  obtain ⟨k, f, g, e⟩ := t
  obtain ⟨k', f', g', e'⟩ := t'
  obtain ⟨hk, hf, hg⟩ := h
  obtain ⟨hk', hf', hg'⟩ := h'
  unfold okN at *
  simp only at *
  unfold body at hb
  simp only at hb
  rcases hk with ⟨rfl, rfl⟩ | ⟨rfl, he⟩ <;> rcases hk' with ⟨rfl, rfl⟩ | ⟨rfl, he'⟩
  · rw [if_pos rfl, if_pos rfl, List.append_right_inj] at hb
    obtain ⟨e1, e2⟩ := part_first hb (itoa_nodot hf.1) (itoa_nodot hf'.1)
    obtain rfl := itoa_inj hf.1 (by omega) hf'.1 (by omega) e1
    obtain rfl := itoa_inj hg.1 (by omega) hg'.1 (by omega) e2
    rfl
  · rw [if_pos rfl, if_neg (by decide)] at hb
    simp at hb
  · rw [if_pos rfl, if_neg (by decide)] at hb
    simp at hb
  · rw [if_neg (by decide), if_neg (by decide), List.append_right_inj] at hb
    obtain ⟨e1, e2⟩ := part_first hb (itoa_nodot hf.1) (itoa_nodot hf'.1)
    obtain ⟨e3, e4⟩ := part_first e2 (itoa_nodot hg.1) (itoa_nodot hg'.1)
    obtain rfl := itoa_inj hf.1 (by omega) hf'.1 (by omega) e1
    obtain rfl := itoa_inj hg.1 (by omega) hg'.1 (by omega) e3
    obtain rfl := itoa_inj he.1 (by omega) he'.1 (by omega) e4
    rfl
/-! A tag -/
def isHex (b : UInt8) : Prop := 48 ≤ b.toNat ∧ b.toNat ≤ 57 ∨ 97 ≤ b.toNat ∧ b.toNat ≤ 102
def isHexB (b : UInt8) : Bool := decide (48 ≤ b.toNat ∧ b.toNat ≤ 57) || decide (97 ≤ b.toNat ∧ b.toNat ≤ 102)
theorem isHexB_iff {b : UInt8} : isHexB b = true ↔ isHex b := by simp [isHexB, isHex]
theorem isHexB_t {b : UInt8} (h : isHex b) : isHexB b = true := isHexB_iff.2 h
theorem isHexB_f {b : UInt8} (h : ¬ isHex b) : isHexB b = false := Bool.eq_false_iff.2 (fun k => h (isHexB_iff.1 k))
def hex16 (l : List UInt8) : Prop := l.length = 16 ∧ ∀ b ∈ l, isHex b
def hex16B (l : List UInt8) : Bool := decide (l.length = 16) && l.all isHexB
theorem hex16B_iff {l : List UInt8} : hex16B l = true ↔ hex16 l := by simp [hex16B, hex16, isHexB_iff]
theorem hex16B_t {l : List UInt8} (h : hex16 l) : hex16B l = true := hex16B_iff.2 h
theorem hex16B_f {l : List UInt8} (h : ¬ hex16 l) : hex16B l = false := Bool.eq_false_iff.2 (fun k => h (hex16B_iff.1 k))
theorem hex16_nodot {l : List UInt8} (h : hex16 l) : (46 : UInt8) ∉ l := by
  intro hm
  have := h.2 _ hm
  simp [isHex] at this
theorem hexc_hex (d : Nat) (h : d < 16) : isHex (Hex.hexc d) := by
  unfold Hex.hexc isHex
  split
  · left; rw [UInt8.toNat_ofNat']; omega
  · right; rw [UInt8.toNat_ofNat']; omega
theorem hexsN_hex (k n : Nat) : ∀ b ∈ Hex.hexsN k n, isHex b := by
  induction k generalizing n with
  | zero => intro b hb; cases hb
  | succ k ih =>
    intro b hb
    simp only [Hex.hexsN, List.mem_append, List.mem_singleton] at hb
    rcases hb with hb | rfl
    · exact ih _ b hb
    · exact hexc_hex _ (Nat.mod_lt _ (by decide))
theorem hexsN_16 (n : Nat) : hex16 (Hex.hexsN 16 n) := ⟨Hex.hexsN_length _ _, hexsN_hex _ _⟩
/-! What a text is: its token, or what is wrong with it (0: nothing; 1: its form; 2: its tag) -/
def Form (x : List UInt8) (t : T) (tag : List UInt8) : Prop := may t ∧ hex16 tag ∧ x = body t ++ 46 :: tag
theorem form_inj {x : List UInt8} {t t' : T} {g g' : List UInt8} (h : Form x t g) (h' : Form x t' g') : t = t' ∧ g = g' := by
  have e := h.2.2.symm.trans h'.2.2
  obtain ⟨e1, e2⟩ := part_last e (hex16_nodot h.2.1) (hex16_nodot h'.2.1)
  exact ⟨body_inj h.1 h'.1 e1, e2⟩
def Out (tagOf : List UInt8 → List UInt8) (x : List UInt8) (t : T) (n : Nat) : Prop :=
  (n = 0 ∧ ∃ tag, Form x t tag ∧ tag = tagOf (body t)) ∨ (n = 1 ∧ t = zero ∧ ∀ t' tag, ¬ Form x t' tag) ∨ (n = 2 ∧ t = zero ∧ ∃ t' tag, Form x t' tag ∧ tag ≠ tagOf (body t'))
theorem Out.good {tagOf : List UInt8 → List UInt8} {x : List UInt8} (t : T) (tag : List UInt8) (h : Form x t tag) (e : tag = tagOf (body t)) : Out tagOf x t 0 := .inl ⟨rfl, tag, h, e⟩
theorem Out.form {tagOf : List UInt8 → List UInt8} {x : List UInt8} (h : ∀ t tag, ¬ Form x t tag) : Out tagOf x zero 1 := .inr (.inl ⟨rfl, rfl, h⟩)
theorem Out.name {tagOf : List UInt8 → List UInt8} {x : List UInt8} (t : T) (tag : List UInt8) (h : Form x t tag) (e : tag ≠ tagOf (body t)) : Out tagOf x zero 2 := .inr (.inr ⟨rfl, rfl, t, tag, h, e⟩)
theorem out_inj {tagOf : List UInt8 → List UInt8} {x : List UInt8} {t t' : T} {n n' : Nat} (h : Out tagOf x t n) (h' : Out tagOf x t' n') : t = t' ∧ n = n' := by
  rcases h with ⟨rfl, tag, hf, he⟩ | ⟨rfl, rfl, hn⟩ | ⟨rfl, rfl, t1, tag, hf, he⟩
  · rcases h' with ⟨rfl, tag', hf', he'⟩ | ⟨rfl, rfl, hn⟩ | ⟨rfl, rfl, t2, tag', hf', he'⟩
    · exact ⟨(form_inj hf hf').1, rfl⟩
    · exact absurd hf (hn _ _)
    · obtain ⟨rfl, rfl⟩ := form_inj hf hf'
      exact absurd he he'
  · rcases h' with ⟨rfl, tag', hf', he'⟩ | ⟨rfl, rfl, hn'⟩ | ⟨rfl, rfl, t2, tag', hf', he'⟩
    · exact absurd hf' (hn _ _)
    · exact ⟨rfl, rfl⟩
    · exact absurd hf' (hn _ _)
  · rcases h' with ⟨rfl, tag', hf', he'⟩ | ⟨rfl, rfl, hn⟩ | ⟨rfl, rfl, t2, tag', hf', he'⟩
    · obtain ⟨rfl, rfl⟩ := form_inj hf hf'
      exact absurd he' he
    · exact absurd hf (hn _ _)
    · exact ⟨rfl, rfl⟩
end Go.Proofs.YtlailakofhenkaaGreatDoor.Tok

/-
  What the library's variables hold, as far as an event's line asks for them; numbers written and read.
-/

namespace Go.Proofs.YtlailakofhenkaaGreatDoor
open Go Go.RowKit Tok
theorem belowGrownE (w : World) (k : Nat) (os : Array Obj) : Below w.heap.size w (Go.Sort.grow (w.drewN k) os) := by
  have h := below_drewN (Below.refl w.heap.size w) k
  have hs : (w.drewN k).heap = w.heap := by simp
  refine ⟨h.os, h.tape, h.output, ?_, fun i hi => ?_⟩
  · show w.heap.size ≤ ((w.drewN k).heap ++ os).size
    rw [hs, Array.size_append]; omega
  · show ((w.drewN k).heap ++ os)[i]? = w.heap[i]?
    rw [hs, Array.getElem?_append_left hi]
theorem tabIsBelowE {B : Nat} {w w' : World} {name : String} {k : IntKind} {zs : List Int} {g : Nat} (h : Lib.TabIs Tryz.prog w name k zs) (hb : Below B w w') (hg : Tryz.prog.globalNamed name = some g) (hB : g < B) : Lib.TabIs Tryz.prog w' name k zs := by
  unfold Lib.TabIs World.var? at *
  simp only [hg, Option.bind_some] at h ⊢
  rw [hb.block g hB]
  exact h
theorem gPowE : Tryz.prog.globalNamed "internal/strconv.uint64pow10" = some 1 := by kernel_rfl
structure LibsE (w : World) : Prop where
  big : 1 < w.heap.size
  pow : Lib.TabIs Tryz.prog w "internal/strconv.uint64pow10" .u64 Lib.pow10Tab
  len : LenOk w
theorem LibsE.below {w w' : World} (h : LibsE w) (hb : Below w.heap.size w w') : LibsE w' :=
  ⟨Nat.lt_of_lt_of_le h.big hb.size, tabIsBelowE h.pow hb gPowE h.big, h.len.below hb⟩
theorem itoaE_is (n : Int) (w : World) (h0 : 0 ≤ n) (h1 : n ≤ 9223372036854775807) (hL : LibsE w) : Calls Tryz.prog 71 #[.int .i64 n] w fun e w' => e = .returned (.string ⟨(Lib.itoa n).toArray⟩) ∧ Below w.heap.size w w' := by
  refine (Tryz.strconv_Itoa n (by omega) h1 w hL.pow).mono ?_
  rintro e w' ⟨rfl, k, os, rfl⟩
  exact ⟨rfl, belowGrownE _ _ _⟩
theorem mixedE : Tryz.prog.follows .mixedOrders = true := by kernel_rfl
structure LibsA (w : World) : Prop where
  base : LibsE w
  syn : ∃ ev, w.cell? ⟨2, 0, none⟩ = some ev ∧ (ev = .nilIface ∨ ∃ te pe, ev = .iface te pe)
  rng : ∃ ev, w.cell? ⟨3, 0, none⟩ = some ev ∧ (ev = .nilIface ∨ ∃ te pe, ev = .iface te pe)
theorem LibsA.below {w w' : World} (h : LibsA w) (hb : Below w.heap.size w w') : LibsA w' where
  base := h.base.below hb
  syn := by
    obtain ⟨m, hm, k⟩ := h.syn
    exact ⟨m, (hb.cell (p := ⟨2, 0, none⟩) (World.block_lt_of_cell? _ _ hm)).trans hm, k⟩
  rng := by
    obtain ⟨m, hm, k⟩ := h.rng
    exact ⟨m, (hb.cell (p := ⟨3, 0, none⟩) (World.block_lt_of_cell? _ _ hm)).trans hm, k⟩
theorem atoiE_any (s : ByteArray) (w : World) (hs : s.size ≤ 10000) (hL : LibsA w) : Calls Tryz.prog 44 #[.string s] w fun e w' => ∃ v err, e = .returned (.tuple #[.int .i64 v, err]) ∧ Below w.heap.size w w' ∧ ∀ m, okN m → s.data.toList = Lib.itoa m → v = m := by
  cases hc : Lib.atoiAll s.data.toList with
  | ok v =>
    refine (Tryz.strconv_Atoi_ok s (by omega) v hc w).mono ?_
    rintro e w' ⟨rfl, hw⟩
    refine ⟨v, _, rfl, ?_, fun m hm he => ?_⟩
    · rcases hw with rfl | ⟨t, rfl⟩
      · exact Below.refl _ _
      · exact Joins.below_bytesWorld _ _ _ _ (Nat.le_refl _)
    · rw [he, atoi_itoa hm.1 (by have := hm.2; omega)] at hc
      injection hc with hc
      exact hc.symm
  | range =>
    obtain ⟨ev, h1, h2⟩ := hL.rng
    refine (Tryz.strconv_Atoi_range s (by omega) hc ev w h1 h2).mono ?_
    rintro e w' ⟨N, rfl, _, _, hb⟩
    refine ⟨_, _, rfl, hb, fun m hm he => ?_⟩
    rw [he, atoi_itoa hm.1 (by have := hm.2; omega)] at hc
    cases hc
  | _ =>
    obtain ⟨ev, h1, h2⟩ := hL.syn
    refine (Tryz.strconv_Atoi_syntax s (by omega) hc ev w h1 h2).mono ?_
    rintro e w' ⟨N, rfl, _, _, hb⟩
    refine ⟨_, _, rfl, hb, fun m hm he => ?_⟩
    rw [he, atoi_itoa hm.1 (by have := hm.2; omega)] at hc
    cases hc
end Go.Proofs.YtlailakofhenkaaGreatDoor

/-
  Plain mathematics: words with a plus between; what Within answers.
-/

namespace Go.Proofs.YtlailakofhenkaaGreatDoor.Sc
open Go.Lib Tok
def joined (l : List Word) : List UInt8 := join l [43]
theorem joined_nil : joined [] = [] := rfl
theorem joined_one (x : Word) : joined [x] = x := join_one x [43]
theorem joined_two (x y : Word) (l : List Word) : joined (x :: y :: l) = x ++ 43 :: joined (y :: l) := by
  simp [joined, join, List.intercalate, List.intersperse]
theorem joined_len : ∀ (l : List Word), (∀ x ∈ l, x.length ≤ 8) → (joined l).length ≤ 9 * l.length
  | [], _ => by simp [joined_nil]
  | [x], h => by rw [joined_one]; have := h x (by simp); simp; omega
  | x :: y :: l, h => by
    rw [joined_two]
    have h1 := h x (by simp)
    have h2 := joined_len (y :: l) (fun z hz => h z (by simp [hz]))
    simp at h2 ⊢
    omega
theorem parts_joined : ∀ (x : Word) (l : List Word), (∀ y ∈ x :: l, wordB y = true) → parts 43 (joined (x :: l)) = x :: l
  | x, [], h => by rw [joined_one, parts_no (word_plus (h x (by simp)))]
  | x, y :: l, h => by
    rw [joined_two, parts_at _ (word_plus (h x (by simp))), parts_joined y l (fun z hz => h z (by simp [hz]))]
theorem joined_ne {x : Word} {l : List Word} (h : ∀ y ∈ x :: l, wordB y = true) : joined (x :: l) ≠ [] := by
  have hx := (wordB_iff.1 (h x (by simp))).1
  cases l with
  | nil => rwa [joined_one]
  | cons y l => rw [joined_two]; simp
theorem words_joined (l : List Word) (h : ∀ y ∈ l, wordB y = true) : words (joined l) = l := by
  cases l with
  | nil => rfl
  | cons x l => rw [words_ne (joined_ne h), parts_joined x l h]
theorem joined_inj {l m : List Word} (hl : ∀ y ∈ l, wordB y = true) (hm : ∀ y ∈ m, wordB y = true) (h : joined l = joined m) : l = m := by
  rw [← words_joined l hl, ← words_joined m hm, h]
/-- Of a scope that is one: its words, and those of its least form. -/
theorem out_words {s : List UInt8} {l : List Word} (h : Out s l 0) : (∀ y ∈ l, wordB y = true) ∧ (∀ y ∈ l, y.length ≤ 8) ∧ l.length ≤ 5 ∧ l.Pairwise (· < ·) := by
  rcases h with ⟨_, hf, hs, h5, h8⟩ | ⟨h, _⟩ | ⟨h, _⟩
  · refine ⟨fun y hy => ?_, fun y hy => h8 y ((hs.2 y).1 hy), h5, hs.1⟩
    exact List.all_eq_true.1 hf y ((hs.2 y).1 hy)
  · cases h
  · cases h
theorem out_joined {s : List UInt8} {l : List Word} (h : Out s l 0) : Out (joined l) l 0 := by
  obtain ⟨h1, h2, h3, h4⟩ := out_words h
  have hw := words_joined l h1
  refine .inl ⟨rfl, ?_, ?_, h3, ?_⟩
  · unfold formedB; rw [hw]; exact List.all_eq_true.2 h1
  · rw [hw]; exact ⟨h4, fun _ => Iff.rfl⟩
  · rw [hw]; exact h2
theorem out_no {s : List UInt8} {l : List Word} {n : Nat} (h : Out s l (n + 1)) : l = [] := by
  rcases h with ⟨h, _⟩ | ⟨_, h, _⟩ | ⟨_, h, _⟩
  · cases h
  · exact h
  · exact h
theorem out_len {s : List UInt8} {l : List Word} {n : Nat} (h : Out s l n) : l.length ≤ 5 ∧ (joined l).length ≤ 45 := by
  cases n with
  | zero =>
    obtain ⟨_, h2, h3, _⟩ := out_words h
    have := joined_len l h2
    exact ⟨h3, by omega⟩
  | succ n => rw [out_no h]; simp [joined_nil]
theorem out_ex (s : List UInt8) : ∃ l n, Out s l n := by
  cases hf : formedB s with
  | false => exact ⟨[], 3, .inr (.inl ⟨rfl, rfl, hf⟩)⟩
  | true =>
    obtain ⟨m, h1, _⟩ := setOf_grows (words s) setOf_nil
    rw [List.nil_append] at h1
    by_cases h5 : m.length ≤ 5
    · by_cases h8 : ∃ w ∈ words s, 8 < w.length
      · exact ⟨[], 4, .inr (.inr ⟨rfl, rfl, hf, m, h1, .inr h8⟩)⟩
      · refine ⟨m, 0, .inl ⟨rfl, hf, h1, h5, fun w hw => ?_⟩⟩
        rcases Nat.lt_or_ge 8 w.length with h | h
        · exact absurd ⟨w, hw, h⟩ h8
        · exact h
    · exact ⟨[], 4, .inr (.inr ⟨rfl, rfl, hf, m, h1, .inl (by omega)⟩)⟩
def inB (l m : List Word) : Bool := l.all fun x => decide (x ∈ m)
theorem inB_iff {l m : List Word} : inB l m = true ↔ ∀ x ∈ l, x ∈ m := by simp [inB]
/-- What Within answers: the first error, or whether all words are in the other's. -/
def WOut (a b : List UInt8) (r : Bool) (n : Nat) : Prop :=
  ∃ l i m k, Out a l i ∧ Out b m k ∧ ((i ≠ 0 ∧ n = i ∧ r = false) ∨ (i = 0 ∧ k ≠ 0 ∧ n = k ∧ r = false) ∨ (i = 0 ∧ k = 0 ∧ n = 0 ∧ r = inB l m))
theorem wout_inj {a b : List UInt8} {r r' : Bool} {n n' : Nat} (h : WOut a b r n) (h' : WOut a b r' n') : r = r' ∧ n = n' := by
  obtain ⟨l, i, m, k, h1, h2, h3⟩ := h
  obtain ⟨l', i', m', k', h1', h2', h3'⟩ := h'
  obtain ⟨rfl, rfl⟩ := out_inj h1 h1'
  obtain ⟨rfl, rfl⟩ := out_inj h2 h2'
  rcases h3 with ⟨a1, rfl, rfl⟩ | ⟨a1, a2, rfl, rfl⟩ | ⟨a1, a2, rfl, rfl⟩ <;> rcases h3' with ⟨b1, rfl, rfl⟩ | ⟨b1, b2, rfl, rfl⟩ | ⟨b1, b2, rfl, rfl⟩ <;> first | exact ⟨rfl, rfl⟩ | (exfalso; omega)
end Go.Proofs.YtlailakofhenkaaGreatDoor.Sc

/-
  Plain mathematics: an event, what may be one, its line, and what a line is read as.
-/

namespace Go.Proofs.YtlailakofhenkaaGreatDoor.Ev
open Go.Lib Tok Sc
structure Fam where
  id : Int
  client : ByteArray
  subject : ByteArray
  scope : ByteArray
  gen : Int
  made : Int
  used : Int
  request : ByteArray
  dead : Bool
structure E where
  kind : Int
  fam : Fam
  id : Int
  time : Int
def zeroF : Fam := ⟨0, ⟨#[]⟩, ⟨#[]⟩, ⟨#[]⟩, 0, 0, 0, ⟨#[]⟩, false⟩
def zeroE : E := ⟨0, zeroF, 0, 0⟩
/-! Names -/
def nmB (c : UInt8) : Bool := (decide (97 ≤ c.toNat) && decide (c.toNat ≤ 122)) || (decide (48 ≤ c.toNat) && decide (c.toNat ≤ 57)) || decide (c.toNat = 45)
theorem nmB_iff {c : UInt8} : nmB c = true ↔ (97 ≤ c.toNat ∧ c.toNat ≤ 122) ∨ (48 ≤ c.toNat ∧ c.toNat ≤ 57) ∨ c.toNat = 45 := by
  simp [nmB, or_assoc]
def nameB (s : List UInt8) : Bool := s.all nmB && (decide (1 ≤ s.length) && decide (s.length ≤ 20))
theorem nameB_iff {s : List UInt8} : nameB s = true ↔ (∀ c ∈ s, nmB c = true) ∧ 1 ≤ s.length ∧ s.length ≤ 20 := by simp [nameB]
theorem name_no {s : List UInt8} (h : nameB s = true) {c : UInt8} (hc : nmB c = false) : c ∉ s := fun hm => by
  have := (nameB_iff.1 h).1 c hm
  rw [hc] at this; cases this
theorem name_ne {s : List UInt8} (h : nameB s = true) : s ≠ [] := by
  rintro rfl
  revert h
  decide
/-! A scope in its least form -/
def Lst (s : List UInt8) : Prop := ∃ l, Out s l 0 ∧ joined l = s
theorem lst_of {s : List UInt8} {l : List Word} (ho : Out s l 0) : Lst s ↔ joined l = s := ⟨fun ⟨m, h1, h2⟩ => by rw [(out_inj ho h1).1]; exact h2, fun h => ⟨l, ho, h⟩⟩
theorem lst_not {s : List UInt8} {l : List Word} {n : Nat} (ho : Out s l (n + 1)) : ¬ Lst s := fun ⟨m, h1, _⟩ => by have := (out_inj ho h1).2; omega
theorem lst_no {s : List UInt8} (h : Lst s) {c : UInt8} (hc : lowB c = false) (h43 : c ≠ 43) : c ∉ s := by
  obtain ⟨l, ho, rfl⟩ := h
  have hw := (out_words ho).1
  intro hm
  have : ∀ (l : List Word), (∀ y ∈ l, wordB y = true) → c ∉ joined l := by
    intro l
    induction l with
    | nil => intro _ hm; simp [joined_nil] at hm
    | cons x l ih =>
      intro hw hm
      have hx : c ∉ x := fun hm => by
        have := (wordB_iff.1 (hw x (by simp))).2 c hm
        rw [hc] at this; cases this
      cases l with
      | nil => rw [joined_one] at hm; exact hx hm
      | cons y l =>
        rw [joined_two, List.mem_append, List.mem_cons] at hm
        rcases hm with hm | hm | hm
        · exact hx hm
        · exact h43 hm
        · exact ih (fun z hz => hw z (by simp [hz])) hm
  exact this l hw hm
theorem joined_len2 : ∀ (l : List Word), (∀ x ∈ l, x.length ≤ 8) → (joined l).length + 1 ≤ 9 * l.length + 1 ∧ (l ≠ [] → (joined l).length + 1 ≤ 9 * l.length)
  | [], h => by simp [joined_nil]
  | [x], h => by rw [joined_one]; have := h x (by simp); simp; omega
  | x :: y :: l, h => by
    rw [joined_two]
    have h1 := h x (by simp)
    have h2 := (joined_len2 (y :: l) (fun z hz => h z (by simp [hz]))).2 (by simp)
    simp at h2 ⊢
    omega
theorem lst_len {s : List UInt8} (h : Lst s) : s.length ≤ 44 := by
  obtain ⟨l, ho, rfl⟩ := h
  obtain ⟨_, h8, h5, _⟩ := out_words ho
  by_cases hl : l = []
  · subst hl; simp [joined_nil]
  · have := (joined_len2 l h8).2 hl
    omega
/-! What may be an event -/
def mayF (f : Fam) : Prop := (okN f.id ∧ okN f.gen ∧ okN f.made ∧ okN f.used) ∧ nameB f.client.data.toList = true ∧ nameB f.subject.data.toList = true ∧ (f.request.data.toList = [] ∨ nameB f.request.data.toList = true) ∧ Lst f.scope.data.toList
def may (e : E) : Prop := (e.kind = 1 ∧ mayF e.fam ∧ e.id = 0 ∧ e.time = 0) ∨ (e.kind = 2 ∧ e.fam = zeroF ∧ okN e.id ∧ e.time = 0) ∨ (e.kind = 3 ∧ e.fam = zeroF ∧ e.id = 0 ∧ okN e.time)
theorem boolOf (p : Prop) : ∃ b : Bool, b = true ↔ p := by
  by_cases h : p
  · exact ⟨true, by simp [h]⟩
  · exact ⟨false, by simp [h]⟩
/-! Its line -/
def wordL (s : List UInt8) : List UInt8 := if s = [] then [95] else s
def lifeL (d : Bool) : List UInt8 := if d then [49] else [48]
def putWs (f : Fam) : List Word := [[112], itoa f.id, f.client.data.toList, f.subject.data.toList, wordL f.scope.data.toList, itoa f.gen, itoa f.made, itoa f.used, wordL f.request.data.toList, lifeL f.dead]
def wordsOf (e : E) : List Word := if e.kind = 1 then putWs e.fam else if e.kind = 2 then [[100], itoa e.id] else [[99], itoa e.time]
def line (e : E) : List UInt8 := join (wordsOf e) [32]
theorem glue_two (c : UInt8) (x y : Word) (l : List Word) : join (x :: y :: l) [c] = x ++ c :: join (y :: l) [c] := by
  simp [join, List.intercalate, List.intersperse]
theorem parts_glue {c : UInt8} : ∀ (x : Word) (l : List Word), (∀ y ∈ x :: l, c ∉ y) → parts c (join (x :: l) [c]) = x :: l
  | x, [], h => by rw [join_one, parts_no (h x (by simp))]
  | x, y :: l, h => by
    rw [glue_two, parts_at _ (h x (by simp)), parts_glue y l (fun z hz => h z (by simp [hz]))]
theorem splitK_glue {c : UInt8} : ∀ (x : Word) (l : List Word) (k : Nat), (∀ y ∈ x :: l, c ∉ y) → l.length ≤ k → splitK [c] 0 k (join (x :: l) [c]) = x :: l
  | x, [], k, h, _ => by rw [join_one, splitK_no (h x (by simp))]
  | x, y :: l, k, h, hk => by
    obtain ⟨k, rfl⟩ : ∃ k', k = k' + 1 := ⟨k - 1, by simp at hk; omega⟩
    rw [glue_two, splitK_at _ (h x (by simp)), splitK_glue y l k (fun z hz => h z (by simp [hz])) (by simpa using hk)]
theorem glue_len {c : UInt8} : ∀ (x : Word) (l : List Word), l.length ≤ (join (x :: l) [c]).length
  | x, [] => by simp
  | x, y :: l => by
    rw [glue_two]
    have := glue_len (c := c) y l
    simp
    omega
theorem wordL_no {s : List UInt8} {c : UInt8} (h : c ∉ s) (hc : c ≠ 95) : c ∉ wordL s := by
  unfold wordL
  split
  · simpa using hc
  · exact h
theorem itoa_no {n : Int} (h : okN n) {c : UInt8} (hc : c.toNat < 48) : c ∉ itoa n := by
  rw [itoa_pos h.1]
  intro hm
  have := dec_digits _ _ hm
  omega
theorem words_no {e : E} (h : may e) : ∀ y ∈ wordsOf e, (32 : UInt8) ∉ y := by
  unfold wordsOf
  rcases h with ⟨hk, ⟨⟨h1, h2, h3, h4⟩, hc, hs, hr, hl⟩, _⟩ | ⟨hk, _, hi, _⟩ | ⟨hk, _, _, ht⟩
  · rw [if_pos hk]
    have q : (32 : UInt8).toNat < 48 := by decide
    have n1 := name_no hc (c := 32) (by decide)
    have n2 := name_no hs (c := 32) (by decide)
    have n3 : (32 : UInt8) ∉ e.fam.request.data.toList := by
      rcases hr with hr | hr
      · rw [hr]; simp
      · exact name_no hr (by decide)
    have n4 := lst_no hl (c := 32) (by decide) (by decide)
    intro y hy
    simp only [putWs, List.mem_cons, List.not_mem_nil, or_false] at hy
    rcases hy with rfl | rfl | rfl | rfl | rfl | rfl | rfl | rfl | rfl | rfl
    · decide
    · exact itoa_no h1 q
    · exact n1
    · exact n2
    · exact wordL_no n4 (by decide)
    · exact itoa_no h2 q
    · exact itoa_no h3 q
    · exact itoa_no h4 q
    · exact wordL_no n3 (by decide)
    · cases e.fam.dead <;> decide
  · rw [if_neg (by omega), if_pos hk]
    intro y hy
    simp only [List.mem_cons, List.not_mem_nil, or_false] at hy
    rcases hy with rfl | rfl
    · decide
    · exact itoa_no hi (by decide)
  · rw [if_neg (by omega), if_neg (by omega)]
    intro y hy
    simp only [List.mem_cons, List.not_mem_nil, or_false] at hy
    rcases hy with rfl | rfl
    · decide
    · exact itoa_no ht (by decide)
theorem words_cons (e : E) : ∃ x l, wordsOf e = x :: l ∧ l.length ≤ 9 := by
  unfold wordsOf putWs
  split
  · exact ⟨_, _, rfl, by simp⟩
  · split
    · exact ⟨_, _, rfl, by simp⟩
    · exact ⟨_, _, rfl, by simp⟩
theorem parts_line {e : E} (h : may e) : parts 32 (line e) = wordsOf e := by
  obtain ⟨x, l, hw, _⟩ := words_cons e
  have := words_no h
  unfold line
  rw [hw] at this ⊢
  exact parts_glue x l this
theorem split_line {e : E} (h : may e) : splitK [32] 0 (min 10 ((line e).length + 1) - 1) (line e) = wordsOf e := by
  obtain ⟨x, l, hw, hl⟩ := words_cons e
  have hn := words_no h
  unfold line
  rw [hw] at hn ⊢
  have := glue_len (c := 32) x l
  exact splitK_glue x l _ hn (by omega)
/-! Two events of one line are one. -/
theorem bytes_eq {x y : ByteArray} (h : x.data.toList = y.data.toList) : x = y := by
  cases x; cases y
  simp at h
  rw [h]
theorem wordL_inj {s t : List UInt8} (hs : (95 : UInt8) ∉ s) (ht : (95 : UInt8) ∉ t) (h : wordL s = wordL t) : s = t := by
  unfold wordL at h
  split at h <;> split at h
  · simp_all
  · rw [← h] at ht; simp at ht
  · rw [h] at hs; simp at hs
  · exact h
theorem no95 {s : List UInt8} (h : s = [] ∨ nameB s = true) : (95 : UInt8) ∉ s := by
  rcases h with h | h
  · rw [h]; simp
  · exact name_no h (by decide)
theorem lifeL_inj {a b : Bool} (h : lifeL a = lifeL b) : a = b := by cases a <;> cases b <;> simp_all [lifeL]
theorem itoaN_inj {a b : Int} (ha : okN a) (hb : okN b) (h : itoa a = itoa b) : a = b := by
  have h1 := ha.2
  have h2 := hb.2
  exact itoa_inj ha.1 (by omega) hb.1 (by omega) h
theorem words_inj {a b : E} (ha : may a) (hb : may b) (h : wordsOf a = wordsOf b) : a = b := by
  obtain ⟨ak, ⟨a1, a2, a3, a4, a5, a6, a7, a8, a9⟩, ai, at_⟩ := a
  obtain ⟨bk, ⟨b1, b2, b3, b4, b5, b6, b7, b8, b9⟩, bi, bt⟩ := b
  unfold wordsOf putWs at h
  simp only at h
  rcases ha with ⟨hk, ⟨⟨h1, h2, h3, h4⟩, hc, hs, hr, hl⟩, e1, e2⟩ | ⟨hk, e1, hi, e2⟩ | ⟨hk, e1, e2, ht⟩ <;> rcases hb with ⟨hk', ⟨⟨h1', h2', h3', h4'⟩, hc', hs', hr', hl'⟩, e1', e2'⟩ | ⟨hk', e1', hi', e2'⟩ | ⟨hk', e1', e2', ht'⟩ <;> simp only at * <;> subst hk <;> subst hk'
  · subst e1; subst e2; subst e1'; subst e2'
    rw [if_pos rfl, if_pos rfl] at h
    simp only [List.cons.injEq, and_true, true_and] at h
    obtain ⟨g1, g2, g3, g4, g5, g6, g7, g8, g9⟩ := h
    rw [itoaN_inj h1 h1' g1, bytes_eq g2, bytes_eq g3, bytes_eq (wordL_inj (lst_no hl (by decide) (by decide)) (lst_no hl' (by decide) (by decide)) g4), itoaN_inj h2 h2' g5, itoaN_inj h3 h3' g6, itoaN_inj h4 h4' g7, bytes_eq (wordL_inj (no95 hr) (no95 hr') g8), lifeL_inj g9]
  · simp at h
  · simp at h
  · simp at h
  · simp at h
    rw [e1, e1', e2, e2', itoaN_inj hi hi' h]
  · simp at h
  · simp at h
  · simp at h
  · simp at h
    rw [e1, e1', e2, e2', itoaN_inj ht ht' h]
theorem line_inj {a b : E} (ha : may a) (hb : may b) (h : line a = line b) : a = b :=
  words_inj ha hb (by rw [← parts_line ha, ← parts_line hb, h])
/-! What a line is read as. -/
def ROut (s : List UInt8) (e : E) (n : Nat) : Prop := (n = 0 ∧ may e ∧ line e = s) ∨ (n = 3 ∧ e = zeroE ∧ ∀ e', may e' → line e' ≠ s)
theorem rout_inj {s : List UInt8} {a b : E} {n m : Nat} (h : ROut s a n) (k : ROut s b m) : a = b ∧ n = m := by
  rcases h with ⟨rfl, h1, h2⟩ | ⟨rfl, rfl, h1⟩ <;> rcases k with ⟨rfl, k1, k2⟩ | ⟨rfl, rfl, k1⟩
  · exact ⟨line_inj h1 k1 (by rw [h2, k2]), rfl⟩
  · exact absurd h2 (k1 _ h1)
  · exact absurd k2 (h1 _ k1)
  · exact ⟨rfl, rfl⟩
theorem rout_good {s : List UInt8} {e : E} (h : may e) (hs : line e = s) : ROut s e 0 := .inl ⟨rfl, h, hs⟩
/-- What a reader of words must make of a line: of an event's, that event. -/
def Told (s : List UInt8) (e : E) : Prop := ∀ e', may e' → line e' = s → e = e'
theorem rout_bad {s : List UInt8} {e : E} (h : Told s e) (hb : may e → line e ≠ s) : ROut s zeroE 3 :=
  .inr ⟨rfl, rfl, fun e' h1 h2 => by
    have := h e' h1 h2
    subst this
    exact hb h1 h2⟩
/-! How long a line is. -/
theorem digits13 {n : Int} (h : okN n) : (itoa n).length ≤ 13 := by
  rw [itoa_pos h.1, decDigits_length]
  have := h.2
  have h13 : n.toNat < 10 ^ 13 := by omega
  generalize n.toNat = u at h13
  have key : ∀ (k u : Nat), u < 10 ^ (k + 1) → nDigits u ≤ k + 1 := by
    intro k
    induction k with
    | zero => intro u hu; rw [nDigits_small (by simpa using hu)]; omega
    | succ k ih =>
      intro u hu
      by_cases h10 : u < 10
      · rw [nDigits_small h10]; omega
      · rw [nDigits_big h10]
        have := ih (u / 10) (by rw [Nat.pow_succ] at hu; omega)
        omega
  exact key 12 u h13
theorem wordL_len (s : List UInt8) : (wordL s).length ≤ s.length + 1 := by
  unfold wordL
  split <;> simp
theorem wordL_len2 {s : List UInt8} {n : Nat} (h : s.length ≤ n) (hn : 1 ≤ n) : (wordL s).length ≤ n := by
  unfold wordL
  split
  · simpa using hn
  · exact h
theorem line_len {e : E} (h : may e) : (line e).length ≤ 180 := by
  unfold line wordsOf
  rcases h with ⟨hk, ⟨⟨h1, h2, h3, h4⟩, hc, hs, hr, hl⟩, _⟩ | ⟨hk, _, hi, _⟩ | ⟨hk, _, _, ht⟩
  · rw [if_pos hk]
    have l1 := digits13 h1
    have l2 := digits13 h2
    have l3 := digits13 h3
    have l4 := digits13 h4
    have l5 := (nameB_iff.1 hc).2.2
    have l6 := (nameB_iff.1 hs).2.2
    have l7 : e.fam.request.data.toList.length ≤ 20 := by
      rcases hr with hr | hr
      · rw [hr]; simp
      · exact (nameB_iff.1 hr).2.2
    have l8 := wordL_len2 l7 (by omega)
    have l9 := wordL_len2 (lst_len hl) (by omega)
    have l10 : (lifeL e.fam.dead).length = 1 := by cases e.fam.dead <;> rfl
    unfold putWs
    simp only [glue_two, join_one, List.length_append, List.length_cons, List.length_nil]
    omega
  · rw [if_neg (by omega), if_pos hk]
    have l1 := digits13 hi
    simp only [glue_two, join_one, List.length_append, List.length_cons, List.length_nil]
    omega
  · rw [if_neg (by omega), if_neg (by omega)]
    have l1 := digits13 ht
    simp only [glue_two, join_one, List.length_append, List.length_cons, List.length_nil]
    omega
end Go.Proofs.YtlailakofhenkaaGreatDoor.Ev
