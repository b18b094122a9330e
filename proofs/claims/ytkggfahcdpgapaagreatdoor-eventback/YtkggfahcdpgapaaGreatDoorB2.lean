/-
  Own texts put together: ScWalk, Sip, Hex, TokMath, EvLibs.
-/
import Derived.Test.YtkggfahcdpgapaaGreatDoorB1
import Derived.Deep.LoopGhost
import Derived.Test.YtkggfahcdpgapaaGreatDoorRows
import Derived.WalkKit
import Derived.WalkSpells
import Derived.WalkLawsBesides
import Derived.Lib.ItoaNum
import Derived.Lib.AtoiAllCases
import Derived.Lib.SplitLaws
import Derived.Lib.LastIndexByte
import Derived.Lib.QuietBelow
import Derived.Lib.SmallJoins
/-
  A scope as the program reads it: its form, its words in order, each once.
-/

namespace Go.Proofs.YtkggfahcdpgapaaGreatDoor
open Go Go.RowKit Sc
def LenOk (w : World) : Prop := ∃ m, w.cell? ⟨0, 0, none⟩ = some (.int .i64 m)
theorem LenOk.below {w w' : World} (h : LenOk w) (hb : Below w.heap.size w w') : LenOk w' := by
  obtain ⟨m, hm⟩ := h
  exact ⟨m, (hb.cell (p := ⟨0, 0, none⟩) (World.block_lt_of_cell? _ _ hm)).trans hm⟩
theorem LenOk.belowB {B : Nat} {w w' : World} (h : LenOk w) (hb : Below B w w') (hB : w.heap.size = B) : LenOk w' := h.below (hB ▸ hb)
theorem all_take (s : ByteArray) (k : Nat) (h : k < s.size) : (s.data.toList.take (k + 1)).all lowB = ((s.data.toList.take k).all lowB && lowB s[k]) := by
  rw [List.take_succ_eq_append_getElem (by simpa using h), List.all_append]
  simp
  rfl
theorem all_bad {s : ByteArray} {k : Nat} (h : k < s.size) (hb : lowB s[k] = false) : wordB s.data.toList = false := by
  cases hw : wordB s.data.toList with
  | false => rfl
  | true =>
    have := (wordB_iff.1 hw).2 s[k] (by
      show s.data[k] ∈ s.data.toList
      exact Array.mem_toList_iff.2 (Array.getElem_mem h))
    rw [hb] at this
    cases this
theorem word_full {s : ByteArray} (h : (s.data.toList.take s.size).all lowB = true) : wordB s.data.toList = !s.data.toList.isEmpty := by
  rw [List.take_of_length_le (by simp)] at h
  unfold wordB
  rw [h]
  cases s.data.toList <;> rfl
set_option maxRecDepth 100000 in
set_option maxHeartbeats 2000000 in
theorem isWord_is (s : ByteArray) (w : World) (hs : s.size ≤ 10000) : Calls Tryz.prog 235 #[.string s] w fun e w' => e = .returned (.bool (wordB s.data.toList)) ∧ w' = w := by
  have HBAD : Hid (∀ k (h : k < s.size), lowB s[k] = false → wordB s.data.toList = false) := fun k h => all_bad h
  have HT : Hid (∀ k (h : k < s.size), (s.data.toList.take (k + 1)).all lowB = ((s.data.toList.take k).all lowB && lowB s[k])) := all_take s
  have HF : Hid ((s.data.toList.take s.size).all lowB = true → wordB s.data.toList = !s.data.toList.isEmpty) := word_full
  go_enter Tryz.func235, Tryz.ntmps235
  go_wp2_with fail
  go_loopg [6] s.size (fun gk i wr => ∃ k : Nat, k + gk = s.size ∧ i = .int .i64 k ∧ Hid ((s.data.toList.take k).all lowB = true) ∧ wr = w)
  case atStart => exact ⟨0, by omega, rfl, by simp [Hid], rfl⟩
  case round =>
    obtain ⟨k, hk, rfl, HA, rfl⟩ := hrel
    have HK : Hid (k + gk = s.size) := hk
    have hks : k ≤ s.size := by omega
    clear hk
    by_cases hlt : k < s.size
    · have hltI : (k : Int) < (s.size : Int) := by omega
      by_cases h1 : 97 ≤ s[k].toNat
      · by_cases h2 : s[k].toNat ≤ 122
        · have HL : Hid (lowB s[k] = true) := lowB_t h1 h2
          go_wp2_with fail
          go_roundg (gk - 1)
          case measure => have := HK.out; omega
          case rel => exact ⟨k + 1, by have := HK.out; omega, by go_num, by show _ = true; rw [HT.out k hlt, HA.out, HL.out]; rfl, rfl⟩
        · have HW : Hid (wordB s.data.toList = false) := HBAD.out k hlt (lowB_f (by omega))
          go_wp2_with fail
          go_ret
          exact ⟨by rw [HW.out]; rfl, rfl⟩
      · have HW : Hid (wordB s.data.toList = false) := HBAD.out k hlt (lowB_f (by omega))
        go_wp2_with fail
        go_ret
        exact ⟨by rw [HW.out]; rfl, rfl⟩
    · obtain rfl : k = s.size := by omega
      have HW : Hid (wordB s.data.toList = !s.data.toList.isEmpty) := HF.out HA.out
      go_wp2_with fail
      go_ret
      exact ⟨by rw [HW.out, ← ByteArray.toList_eq]; rfl, rfl⟩
theorem formed_nil : formedB [] = true := rfl
theorem formed_left {s : List UInt8} (h : s ≠ []) : formedB s = (left true s).all wordB := by
  unfold formedB
  rw [words_ne h]
  rfl
theorem blist (l : List UInt8) : (⟨l.toArray⟩ : ByteArray).data.toList = l := rfl
theorem bsize (l : List UInt8) : (⟨l.toArray⟩ : ByteArray).size = l.length := by simp [ByteArray.size]
theorem bne_list {s : ByteArray} (h : s ≠ ⟨#[]⟩) : s.data.toList ≠ [] := fun e => h (by
  apply ByteArray.ext
  exact Array.toList_inj.1 e)
set_option maxRecDepth 100000 in
set_option maxHeartbeats 2000000 in
theorem isScope_is (s : ByteArray) (w : World) (hs : s.size ≤ 1000) (hL : LenOk w) : Calls Tryz.prog 221 #[.string s] w fun e w' => e = .returned (.bool (formedB s.data.toList)) ∧ ∃ n, w' = w.drewN n := by
  have HL : Hid (LenOk w) := hL
  clear hL
  by_cases h0 : s = ⟨#[]⟩
  · subst h0
    go_enter Tryz.func221, Tryz.ntmps221
    go_wp2_with fail
    go_ret
    exact ⟨rfl, 0, rfl⟩
  · have HS : Hid (formedB s.data.toList = (left true s.data.toList).all wordB) := formed_left (bne_list h0)
    have hne : s.toList.isEmpty = false := by
      rw [ByteArray.toList_eq, List.isEmpty_eq_false_iff]
      exact bne_list h0
    clear h0
    go_enter Tryz.func221, Tryz.ntmps221
    go_wp2_with fail
    go_loopg [0, 3] (s.size + 1) (fun gk sv mv wr => ∃ (l : List UInt8) (more : Bool) (n : Nat), sv = .string ⟨l.toArray⟩ ∧ mv = .bool more ∧ Hid (if more then l.length < gk else True) ∧ l.length ≤ 1000 ∧ Hid (formedB s.data.toList = (left more l).all wordB) ∧ wr = w.drewN n)
    case atStart => exact ⟨s.data.toList, true, 0, rfl, rfl, by show s.data.toList.length < s.size + 1; simp, by simpa using hs, HS.out, rfl⟩
    case round =>
      obtain ⟨l, more, n, rfl, rfl, HG, hl, HFm, rfl⟩ := hrel
      cases more with
      | false =>
        have HF2 : Hid (formedB s.data.toList = true) := HFm.out
        go_wp2_with fail
        go_ret
        exact ⟨by rw [HF2.out]; rfl, n, rfl⟩
      | true =>
        have HFm2 : Hid (formedB s.data.toList = (left true l).all wordB) := HFm.out
        have hlt : l.length < gk := HG.out
        have HLT : Hid (l.length < gk) := hlt
        obtain ⟨m, hm⟩ := HL.out
        have hcut := Tryz.strings_Cut ⟨l.toArray⟩ ⟨#[43]⟩ m (w.drewN n) (by rw [bsize]; omega) hm
        rw [blist, show (⟨#[43]⟩ : ByteArray).data.toList = [43] from rfl] at hcut
        have hst := left_step l
        have hln := left_len l
        generalize (Lib.cut l [43]).1 = a at *
        generalize (Lib.cut l [43]).2.1 = b at *
        generalize (Lib.cut l [43]).2.2 = f at *
        have HST : Hid (left true l = a :: left f b) := hst
        have HLN : Hid (f = true → b.length + 1 ≤ l.length) := hln.2.2
        have hal : a.length ≤ 1000 := by have := hln.1; omega
        have hbl : b.length ≤ 1000 := by have := hln.2.1; omega
        clear hst hln HG HFm hlt hm
        go_wp2_with fail
        refine hcut.mono ?_
        rintro e w1 ⟨rfl, d1, rfl⟩
        clear hcut
        go_wp2_with fail
        refine (isWord_is ⟨a.toArray⟩ _ (by rw [bsize]; omega)).mono ?_
        rintro e w2 ⟨rfl, rfl⟩
        rw [blist]
        cases hw : wordB a with
        | false =>
          have HF2 : Hid (formedB s.data.toList = false) := by show _ = _; rw [HFm2.out, HST.out, List.all_cons, hw]; rfl
          clear hw
          go_wp2_with fail
          go_ret
          exact ⟨by rw [HF2.out]; rfl, n + d1, rfl⟩
        | true =>
          have HF2 : Hid (formedB s.data.toList = (left f b).all wordB) := by show _ = _; rw [HFm2.out, HST.out, List.all_cons, hw]; rfl
          clear hw
          go_wp2_with fail
          go_roundg (gk - 1)
          case measure => have := HLT.out; omega
          case rel =>
            refine ⟨b, f, n + d1, rfl, rfl, ?_, hbl, HF2, rfl⟩
            show if f then _ else _
            cases f with
            | false => exact trivial
            | true => have := HLT.out; have := HLN.out rfl; show b.length < gk - 1; omega
set_option maxHeartbeats 1000000 in
theorem tooLong_is (x : ByteArray) (w : World) : Calls Tryz.prog 223 #[.string x] w fun e w' => e = .returned (.bool (decide (8 < x.size))) ∧ ∃ q, w' = w.drewN q := by
  go_enter Tryz.func223, Tryz.ntmps223
  go_wp2_with fail
  go_ret
  exact ⟨by congr 2; simp; omega, 0, rfl⟩
end Go.Proofs.YtkggfahcdpgapaaGreatDoor

/-
  Plain mathematics for the sums of chapter 2: a round over four words, as the model's integers go. No program.
-/

namespace Go.Proofs.YtkggfahcdpgapaaGreatDoor
open Go.RowKit
namespace Sip
def rl (x k : Int) : Int := bits .or .u64 (IntKind.u64.wrap (x * 2 ^ k.toNat)) (x / 2 ^ (64 - k).toNat)
def ad (x y : Int) : Int := IntKind.u64.wrap (x + y)
def xr (x y : Int) : Int := bits .xor .u64 x y
structure St where
  a : Int
  b : Int
  c : Int
  d : Int
def rnd (s : St) : St :=
  let a1 := ad s.a s.b
  let b1 := xr (rl s.b 13) a1
  let a2 := rl a1 32
  let c1 := ad s.c s.d
  let d1 := xr (rl s.d 16) c1
  let a3 := ad a2 d1
  let d2 := xr (rl d1 21) a3
  let c2 := ad c1 b1
  let b2 := xr (rl b1 17) c2
  let c3 := rl c2 32
  ⟨a3, b2, c3, d2⟩
def rnds : Nat → St → St
  | 0, s => s
  | n + 1, s => rnd (rnds n s)
theorem wrap_bd (x : Int) : 0 ≤ IntKind.u64.wrap x ∧ IntKind.u64.wrap x < 18446744073709551616 := by
  rw [IntKind.wrap_u64]; omega
theorem rl_bd (x k : Int) : 0 ≤ rl x k ∧ rl x k < 18446744073709551616 := wrap_bd _
theorem ad_bd (x y : Int) : 0 ≤ ad x y ∧ ad x y < 18446744073709551616 := wrap_bd _
theorem xr_bd (x y : Int) : 0 ≤ xr x y ∧ xr x y < 18446744073709551616 := wrap_bd _
structure St.Ok (s : St) : Prop where
  a0 : 0 ≤ s.a
  a1 : s.a < 18446744073709551616
  b0 : 0 ≤ s.b
  b1 : s.b < 18446744073709551616
  c0 : 0 ≤ s.c
  c1 : s.c < 18446744073709551616
  d0 : 0 ≤ s.d
  d1 : s.d < 18446744073709551616
theorem rnd_ok (s : St) : (rnd s).Ok := ⟨(ad_bd _ _).1, (ad_bd _ _).2, (xr_bd _ _).1, (xr_bd _ _).2, (rl_bd _ _).1, (rl_bd _ _).2, (xr_bd _ _).1, (xr_bd _ _).2⟩
theorem rnds_ok (n : Nat) {s : St} (h : s.Ok) : (rnds n s).Ok := by
  cases n with
  | zero => exact h
  | succ n => exact rnd_ok _
theorem and63 (k : Int) (k0 : 0 < k) (k1 : k < 64) : bits .and .u64 k 63 = k := by
  obtain ⟨n, rfl⟩ := Int.eq_ofNat_of_zero_le (Int.le_of_lt k0)
  have h : n < 64 := by omega
  revert h
  clear k0 k1
  revert n
  decide
/-- Bytes as a number, the least ones first. -/
def le : List UInt8 → Nat
  | [] => 0
  | b :: r => b.toNat + 256 * le r
theorem le_snoc (l : List UInt8) (b : UInt8) : le (l ++ [b]) = le l + b.toNat * 256 ^ l.length := by
  induction l with
  | nil => simp [le]
  | cons c l ih => simp only [List.cons_append, le, ih, List.length_cons, Nat.pow_succ]; rw [Nat.mul_add, Nat.mul_left_comm, Nat.mul_comm 256 (256 ^ l.length)]; omega
theorem le_lt (l : List UInt8) : le l < 256 ^ l.length := by
  induction l with
  | nil => simp [le]
  | cons c l ih =>
    simp only [le, List.length_cons, Nat.pow_succ]
    have := c.toNat_lt
    omega
def eatS (s : St) (x : Int) : St :=
  let t := rnds 2 ⟨s.a, s.b, s.c, xr s.d x⟩
  ⟨xr t.a x, t.b, t.c, t.d⟩
def start (k0 k1 : Int) : St := ⟨xr k0 8317987319222330741, xr k1 7237128888997146477, xr k0 7816392313619706465, xr k1 8387220255154660723⟩
def close (s : St) : Int :=
  let t := rnds 4 ⟨s.a, s.b, xr s.c 255, s.d⟩
  xr (xr (xr t.a t.b) t.c) t.d
theorem bits_or_nat (a b : Nat) (ha : a < 18446744073709551616) (hb : b < 18446744073709551616) :
    bits .or .u64 (a : Int) (b : Int) = ((a ||| b : Nat) : Int) := by
  have hx : a ||| b < 2 ^ 64 := Nat.or_lt_two_pow (by omega) (by omega)
  have h1 : (BitVec.ofInt 64 (a : Int)).toNat = a := by
    rw [BitVec.ofInt_natCast, BitVec.toNat_ofNat]; exact Nat.mod_eq_of_lt (by omega)
  have h2 : (BitVec.ofInt 64 (b : Int)).toNat = b := by
    rw [BitVec.ofInt_natCast, BitVec.toNat_ofNat]; exact Nat.mod_eq_of_lt (by omega)
  show IntKind.u64.wrap ((BitVec.ofInt 64 (a : Int) ||| BitVec.ofInt 64 (b : Int)).toNat : Int) = _
  rw [BitVec.toNat_or, h1, h2, IntKind.wrap_u64]
  omega
theorem pow8 (k : Nat) : (256 : Nat) ^ k = 2 ^ (8 * k) := by rw [Nat.pow_mul]
theorem or_disjoint (a b k : Nat) (ha : a < 256 ^ k) : a ||| b * 256 ^ k = a + b * 256 ^ k := by
  rw [pow8] at *
  rw [Nat.or_comm, Nat.mul_comm b, ← Nat.two_pow_add_eq_or_of_lt ha, Nat.add_comm]
theorem byte_up (b : UInt8) (k : Nat) (hk : k < 8) : b.toNat * 256 ^ k < 18446744073709551616 := by
  have h1 := b.toNat_lt
  have h2 : (256 : Nat) ^ k ≤ 256 ^ 7 := Nat.pow_le_pow_right (by decide) (by omega)
  calc b.toNat * 256 ^ k ≤ 255 * 256 ^ 7 := Nat.mul_le_mul (by omega) h2
    _ < _ := by decide
theorem or_step (a : Nat) (b : UInt8) (k : Nat) (ha : a < 256 ^ k) (hk : k < 8) :
    bits .or .u64 (a : Int) (IntKind.u64.wrap (IntKind.u64.wrap (b.toNat : Int) * 2 ^ (8 * k))) = ((a + b.toNat * 256 ^ k : Nat) : Int) := by
  have h1 := b.toNat_lt
  have h2 := byte_up b k hk
  have h3 : (256 : Nat) ^ k ≤ 256 ^ 7 := Nat.pow_le_pow_right (by decide) (by omega)
  have e1 : IntKind.u64.wrap (b.toNat : Int) = (b.toNat : Int) := by rw [IntKind.wrap_u64]; omega
  have e2 : (b.toNat : Int) * 2 ^ (8 * k) = ((b.toNat * 256 ^ k : Nat) : Int) := by rw [pow8]; simp
  have e3 : IntKind.u64.wrap ((b.toNat * 256 ^ k : Nat) : Int) = ((b.toNat * 256 ^ k : Nat) : Int) := by rw [IntKind.wrap_u64]; omega
  have h4 : (256 : Nat) ^ 7 < 18446744073709551616 := by decide
  rw [e1, e2, e3, bits_or_nat _ _ (by omega) h2, or_disjoint _ _ _ ha]
end Sip
end Go.Proofs.YtkggfahcdpgapaaGreatDoor

/-
  Plain mathematics: a word's sixteen hexadecimal digits, from the top, by turning; from the bottom, by dividing, filled up.
-/

namespace Go.Proofs.YtkggfahcdpgapaaGreatDoor
namespace Hex
def hexc (d : Nat) : UInt8 := if d < 10 then UInt8.ofNat (48 + d) else UInt8.ofNat (87 + d)
def hexsN : Nat → Nat → List UInt8
  | 0, _ => []
  | k + 1, n => hexsN k (n / 16) ++ [hexc (n % 16)]
/-- without noughts ahead; f: enough rounds -/
def hexMin : Nat → Nat → List UInt8
  | 0, n => [hexc (n % 16)]
  | f + 1, n => if n < 16 then [hexc n] else hexMin f (n / 16) ++ [hexc (n % 16)]
theorem hexsN_length (k n : Nat) : (hexsN k n).length = k := by
  induction k generalizing n with
  | zero => rfl
  | succ k ih => simp [hexsN, ih]
theorem hexsN_zero (k : Nat) : hexsN k 0 = List.replicate k 48 := by
  induction k with
  | zero => rfl
  | succ k ih => rw [List.replicate_succ', hexsN, Nat.zero_div, ih]; rfl
theorem hexMin_pos (f n : Nat) : 1 ≤ (hexMin f n).length := by
  cases f with
  | zero => simp [hexMin]
  | succ f => unfold hexMin; split <;> simp
theorem hexMin_le (f n k : Nat) (hk : 1 ≤ k) (hn : n < 16 ^ k) (hf : k ≤ f + 1) : (hexMin f n).length ≤ k := by
  induction f generalizing n k with
  | zero => simp [hexMin]; omega
  | succ f ih =>
    unfold hexMin
    split
    · simp; omega
    · rename_i h
      obtain ⟨j, rfl⟩ : ∃ j, k = j + 1 := ⟨k - 1, by omega⟩
      have hj : 1 ≤ j := by
        rcases Nat.eq_zero_or_pos j with h0 | h0
        · subst h0; simp at hn; omega
        · exact h0
      have := ih (n / 16) j hj (by rw [Nat.pow_succ] at hn; omega) (by omega)
      simp; omega
theorem hex_pad (f n k : Nat) (hk : 1 ≤ k) (hn : n < 16 ^ k) (hf : k ≤ f + 1) : List.replicate (k - (hexMin f n).length) 48 ++ hexMin f n = hexsN k n := by
  induction f generalizing n k with
  | zero =>
    obtain rfl : k = 1 := by omega
    simp [hexMin, hexsN]
  | succ f ih =>
    obtain ⟨j, rfl⟩ : ∃ j, k = j + 1 := ⟨k - 1, by omega⟩
    unfold hexMin
    split
    · rename_i h
      simp [hexsN, Nat.div_eq_of_lt h, Nat.mod_eq_of_lt h, hexsN_zero]
    · rename_i h
      have hj : 1 ≤ j := by
        rcases Nat.eq_zero_or_pos j with h0 | h0
        · subst h0; simp at hn; omega
        · exact h0
      rw [hexsN, ← ih (n / 16) j hj (by rw [Nat.pow_succ] at hn; omega) (by omega)]
      simp
theorem hexsN_get (k n i : Nat) (hi : i < k) : (hexsN k n)[i]? = some (hexc (n / 16 ^ (k - 1 - i) % 16)) := by
  induction k generalizing n i with
  | zero => omega
  | succ k ih =>
    rw [hexsN]
    by_cases h : i < k
    · rw [List.getElem?_append_left (by rw [hexsN_length]; exact h), ih _ _ h, Nat.div_div_eq_div_mul]
      have : 16 * 16 ^ (k - 1 - i) = 16 ^ (k + 1 - 1 - i) := by
        rw [show k + 1 - 1 - i = (k - 1 - i) + 1 by omega, Nat.pow_succ, Nat.mul_comm]
      rw [this]
    · obtain rfl : i = k := by omega
      rw [List.getElem?_append_right (by rw [hexsN_length]; omega), hexsN_length]
      simp
/-- What a word is, turned left by k digits. -/
def rot (n k : Nat) : Nat := n % 16 ^ (16 - k) * 16 ^ k + n / 16 ^ (16 - k)
theorem rot_zero (n : Nat) (hn : n < 16 ^ 16) : rot n 0 = n := by simp [rot, Nat.mod_eq_of_lt hn, Nat.div_eq_of_lt hn]
theorem rot_step (n k : Nat) (hn : n < 16 ^ 16) (hk : k < 16) : rot n k % 16 ^ 15 * 16 + rot n k / 16 ^ 15 = rot n (k + 1) ∧ rot n (k + 1) % 16 = n / 16 ^ (15 - k) % 16 := by
  obtain ⟨A, hA⟩ : ∃ A, A = 16 ^ (15 - k) := ⟨_, rfl⟩
  obtain ⟨B, hB⟩ : ∃ B, B = 16 ^ k := ⟨_, rfl⟩
  have hAB : A * B = 16 ^ 15 := by rw [hA, hB, ← Nat.pow_add]; congr 1; omega
  have hA16 : (16 : Nat) ^ (16 - k) = A * 16 := by rw [hA, ← Nat.pow_succ]; congr 1; omega
  have hB16 : (16 : Nat) ^ (k + 1) = B * 16 := by rw [hB, Nat.pow_succ]
  have hA1 : (16 : Nat) ^ (16 - (k + 1)) = A := by rw [hA]; congr 1; omega
  have hApos : 0 < A := by rw [hA]; exact Nat.pow_pos (by decide)
  have hBpos : 0 < B := by rw [hB]; exact Nat.pow_pos (by decide)
  unfold rot
  rw [hA16, hB16, hA1, ← hB, ← hA]
  obtain ⟨q, hq⟩ : ∃ q, q = n / (A * 16) := ⟨_, rfl⟩
  obtain ⟨r1, hr1⟩ : ∃ r1, r1 = n / A % 16 := ⟨_, rfl⟩
  obtain ⟨r0, hr0⟩ : ∃ r0, r0 = n % A := ⟨_, rfl⟩
  have hdA : n / A = q * 16 + r1 := by
    rw [hq, hr1, ← Nat.div_div_eq_div_mul]; omega
  have hmod : n % (A * 16) = r1 * A + r0 := by
    rw [Nat.mod_mul, ← hr0, ← hr1, Nat.mul_comm]; omega
  have hqB : q < B := by
    rw [hq]
    refine Nat.div_lt_of_lt_mul ?_
    have : A * 16 * B = 16 ^ 16 := by rw [Nat.mul_right_comm, hAB]
    rw [this]; exact hn
  have hr0A : r0 < A := by rw [hr0]; exact Nat.mod_lt _ hApos
  have hr116 : r1 < 16 := by omega
  have hlow : r0 * B + q < 16 ^ 15 := by
    rw [← hAB]
    have : (r0 + 1) * B ≤ A * B := Nat.mul_le_mul_right _ hr0A
    rw [Nat.add_mul] at this; omega
  have hW : n % (A * 16) * B + n / (A * 16) = r1 * 16 ^ 15 + (r0 * B + q) := by
    rw [hmod, ← hq, Nat.add_mul, Nat.mul_assoc, hAB, Nat.add_assoc]
  have h15 : 0 < (16 : Nat) ^ 15 := by decide
  rw [hW, ← hr0, hdA, Nat.mul_comm r1, Nat.mul_add_mod, Nat.mod_eq_of_lt hlow, Nat.mul_add_div h15, Nat.div_eq_of_lt hlow]
  have e1 : r0 * (B * 16) = 16 * (r0 * B) := by rw [Nat.mul_comm B 16, Nat.mul_left_comm]
  constructor
  · rw [e1]; omega
  · rw [e1]; omega
/-- the walk's turn by four bits -/
theorem rl4 (X : Nat) (h : X < 16 ^ 16) : Sip.rl (X : Int) 4 = ((X % 16 ^ 15 * 16 + X / 16 ^ 15 : Nat) : Int) := by
  unfold Sip.rl
  have e1 : IntKind.u64.wrap ((X : Int) * 2 ^ (4 : Int).toNat) = ((X % 16 ^ 15 * 16 : Nat) : Int) := by
    rw [IntKind.wrap_u64]
    have : (2 : Int) ^ (4 : Int).toNat = 16 := by decide
    rw [this]; omega
  have e2 : (X : Int) / 2 ^ (64 - (4 : Int)).toNat = ((X / 16 ^ 15 : Nat) : Int) := by
    have : (2 : Int) ^ (64 - (4 : Int)).toNat = 1152921504606846976 := by decide
    rw [this]; omega
  rw [e1, e2, Sip.bits_or_nat _ _ (by omega) (by omega)]
  have hd : X / 16 ^ 15 < 2 ^ 4 := by omega
  rw [Nat.mul_comm, ← Nat.two_pow_add_eq_or_of_lt (i := 4) hd]
theorem rot_lt (n k : Nat) (hn : n < 16 ^ 16) (hk : k ≤ 16) : rot n k < 16 ^ 16 := by
  unfold rot
  have hAB : 16 ^ (16 - k) * 16 ^ k = 16 ^ 16 := by rw [← Nat.pow_add]; congr 1; omega
  have h1 : n % 16 ^ (16 - k) + 1 ≤ 16 ^ (16 - k) := Nat.mod_lt _ (Nat.pow_pos (by decide))
  have h2 := Nat.mul_le_mul_right (16 ^ k) h1
  have h3 : n / 16 ^ (16 - k) < 16 ^ k := Nat.div_lt_of_lt_mul (by rw [hAB]; exact hn)
  rw [hAB, Nat.add_mul] at h2
  omega
theorem and15 (X : Nat) : bits .and .u64 (X : Int) 15 = ((X % 16 : Nat) : Int) := by
  have h2 : (BitVec.ofInt 64 (15 : Int)).toNat = 15 := by decide
  show IntKind.u64.wrap ((BitVec.ofInt 64 (X : Int) &&& BitVec.ofInt 64 15).toNat : Int) = _
  rw [BitVec.toNat_and, h2, IntKind.wrap_u64, show (15 : Nat) = 2 ^ 4 - 1 from rfl, Nat.and_two_pow_sub_one_eq_mod, BitVec.ofInt_natCast, BitVec.toNat_ofNat]
  omega
def digs : List UInt8 := [48, 49, 50, 51, 52, 53, 54, 55, 56, 57, 97, 98, 99, 100, 101, 102]
theorem digs_get (d : Nat) (h : d < 16) : digs[d]? = some (hexc d) := by
  revert h
  revert d
  decide
end Hex
end Go.Proofs.YtkggfahcdpgapaaGreatDoor

/-
  Plain mathematics: a token's text, and what a text is read as; numbers as they are written; texts parted at dots.
-/

namespace Go.Proofs.YtkggfahcdpgapaaGreatDoor.Tok
open Go.Lib
theorem splitK_three (c : UInt8) (l : List UInt8) : splitK [c] 0 (min 3 (l.length + 1) - 1) l = splitK [c] 0 2 l := by
  rcases nilOr c l with h | ⟨a, b, rfl, h⟩
  · rw [splitK_no h, splitK_no h]
  · by_cases hl : 2 ≤ (a ++ c :: b).length
    · rw [show min 3 ((a ++ c :: b).length + 1) - 1 = 2 by omega]
    · simp at hl
      have ea : a = [] := List.length_eq_zero_iff.1 (by omega)
      have eb : b = [] := List.length_eq_zero_iff.1 (by omega)
      subst ea; subst eb
      rw [show min 3 (([] ++ c :: [] : List UInt8).length + 1) - 1 = 0 + 1 by simp, splitK_at _ h, splitK_at _ h, splitK_no (by simp), splitK_no (by simp)]
theorem last_no {s : ByteArray} {c : UInt8} (h : c ∉ s.data.toList) : lastIndexByte s (c.toNat : Int) = -1 := by
  rcases lastIndexByte_spec s (c.toNat : Int) with ⟨e, _⟩ | ⟨i, hi, _, hc, _⟩
  · exact e
  · have hi' : i < s.data.size := hi
    rw [getElem!_pos s.data i hi'] at hc
    have : s.data[i] = c := UInt8.toNat_inj.1 (by omega)
    exact absurd (Array.mem_toList_iff.2 (this ▸ Array.getElem_mem hi')) h
theorem last_at {s : ByteArray} {c : UInt8} {a b : List UInt8} (e : s.data.toList = a ++ c :: b) (h : c ∉ b) : lastIndexByte s (c.toNat : Int) = a.length := by
  have hsz : s.data.size = a.length + (b.length + 1) := by rw [← Array.length_toList, e]; simp
  have hget : ∀ j, j < s.size → s.data[j]! = (a ++ c :: b).getD j 0 := by
    intro j hj
    have hj' : j < s.data.size := hj
    rw [getElem!_pos s.data j hj', ← e, ← Array.getElem_toList]
    rw [List.getD_eq_getElem?_getD, List.getElem?_eq_getElem (by simpa using hj')]; rfl
  have hs : s.size = s.data.size := rfl
  have hat : (a ++ c :: b).getD a.length 0 = c := by simp
  have hbehind : ∀ j, a.length < j → j < s.size → (a ++ c :: b).getD j 0 ≠ c := by
    intro j h1 h2 he
    obtain ⟨t, rfl⟩ : ∃ t, j = a.length + 1 + t := ⟨j - a.length - 1, by omega⟩
    rw [List.getD_eq_getElem?_getD, List.getElem?_append_right (by omega), show a.length + 1 + t - a.length = t + 1 by omega, List.getElem?_cons_succ, List.getElem?_eq_getElem (by omega)] at he
    simp at he
    exact h (he ▸ List.getElem_mem _)
  rcases lastIndexByte_spec s (c.toNat : Int) with ⟨_, hn⟩ | ⟨i, hi, he, hc, hn⟩
  · have := hn a.length (by omega)
    rw [hget _ (by omega), hat] at this
    exact absurd rfl this
  · rw [he]
    rw [hget _ hi] at hc
    have hc2 : (a ++ c :: b).getD i 0 = c := UInt8.toNat_inj.1 (by omega)
    rcases Nat.lt_trichotomy i a.length with h1 | h1 | h1
    · have := hn a.length h1 (by omega)
      rw [hget _ (by omega), hat] at this
      exact absurd rfl this
    · rw [h1]
    · exact absurd hc2 (hbehind i h1 hi)
/-! Numbers -/
theorem digit_toNat {d : Nat} (h : d < 10) : (UInt8.ofNat (48 + d)).toNat = 48 + d := by
  rw [UInt8.toNat_ofNat']; omega
theorem dec_digits (u : Nat) : ∀ b ∈ decDigits u, 48 ≤ b.toNat ∧ b.toNat ≤ 57 := by
  induction u using Nat.strongRecOn with
  | _ u ih =>
    rw [decDigits]
    split
    · intro b hb
      simp only [List.mem_singleton] at hb
      subst hb
      rw [digit_toNat (by assumption)]; omega
    · intro b hb
      simp only [List.mem_append, List.mem_singleton] at hb
      rcases hb with hb | rfl
      · exact ih (u / 10) (by omega) b hb
      · rw [digit_toNat (by omega)]; omega
theorem parse_app (l r : List UInt8) (acc a : Nat) (h : parseUint10 acc l = .ok a) : parseUint10 acc (l ++ r) = parseUint10 a r := by
  induction l generalizing acc with
  | nil => simp only [parseUint10] at h; injection h with h; subst h; rfl
  | cons c l ih =>
    simp only [parseUint10, List.cons_append] at h ⊢
    split at h
    · rename_i h1
      split at h
      · cases h
      · rename_i h2
        split at h
        · cases h
        · rename_i h3
          rw [if_pos h1, if_neg h2, if_neg h3]
          exact ih _ h
    · cases h
theorem parse_dec (u : Nat) (hu : u < 18446744073709551616) : parseUint10 0 (decDigits u) = .ok u := by
  induction u using Nat.strongRecOn with
  | _ u ih =>
    rw [decDigits]
    split
    · rename_i h
      simp only [parseUint10, digit_toNat h]
      rw [if_pos (by omega), if_neg (by omega), if_neg (by omega)]
      congr 1; omega
    · rename_i h
      rw [parse_app _ _ _ _ (ih (u / 10) (by omega) (by omega))]
      simp only [parseUint10, digit_toNat (show u % 10 < 10 by omega)]
      rw [if_pos (by omega), if_neg (by omega), if_neg (by omega)]
      congr 1; omega
theorem dec_cons (u : Nat) : ∃ c r, decDigits u = c :: r := by
  cases h : decDigits u with
  | nil =>
    have := decDigits_length u
    have h2 := nDigits_pos u
    rw [h] at this; simp at this; omega
  | cons c r => exact ⟨c, r, rfl⟩
theorem itoa_pos {n : Int} (h : 0 ≤ n) : itoa n = decDigits n.toNat := by unfold itoa; rw [if_neg (by omega)]
theorem atoi_itoa {n : Int} (h0 : 0 ≤ n) (h1 : n ≤ 9223372036854775807) : atoiAll (itoa n) = .ok n := by
  rw [itoa_pos h0]
  obtain ⟨c, r, e⟩ := dec_cons n.toNat
  have hd := dec_digits n.toNat c (by rw [e]; simp)
  rw [e, atoiAll_plain c r (by omega) (by omega), ← e]
  unfold parseMag
  rw [if_neg (by rw [e]; simp), parse_dec _ (by omega)]
  show (if 9223372036854775808 ≤ n.toNat then NumEnd.range else NumEnd.ok ((n.toNat : Nat) : Int)) = _
  rw [if_neg (by omega)]
  congr 1; omega
theorem itoa_inj {a b : Int} (ha : 0 ≤ a) (ha' : a ≤ 9223372036854775807) (hb : 0 ≤ b) (hb' : b ≤ 9223372036854775807) (h : itoa a = itoa b) : a = b := by
  have h1 := atoi_itoa ha ha'
  rw [h, atoi_itoa hb hb'] at h1
  injection h1 with h1
  exact h1.symm
theorem itoa_nodot {n : Int} (h : 0 ≤ n) : (46 : UInt8) ∉ itoa n := by
  rw [itoa_pos h]
  intro hm
  have := dec_digits _ _ hm
  simp at this
/-! A token -/
def okN (n : Int) : Prop := 0 ≤ n ∧ n ≤ 1099511627776
def okB (n : Int) : Bool := decide (0 ≤ n) && decide (n ≤ 1099511627776)
theorem okB_iff {n : Int} : okB n = true ↔ okN n := by simp [okB, okN]
theorem okB_t {n : Int} (h : okN n) : okB n = true := okB_iff.2 h
theorem okB_f {n : Int} (h : ¬ okN n) : okB n = false := Bool.eq_false_iff.2 (fun k => h (okB_iff.1 k))
structure T where
  k : Int
  f : Int
  g : Int
  e : Int
def zero : T := ⟨0, 0, 0, 0⟩
def may (t : T) : Prop := (t.k = 1 ∧ t.e = 0 ∨ t.k = 2 ∧ okN t.e) ∧ okN t.f ∧ okN t.g
def mayB (t : T) : Bool := (decide (t.k = 1) && decide (t.e = 0) || decide (t.k = 2) && okB t.e) && (okB t.f && okB t.g)
theorem mayB_iff {t : T} : mayB t = true ↔ may t := by simp [mayB, may, okB_iff]
theorem mayB_t {t : T} (h : may t) : mayB t = true := mayB_iff.2 h
theorem mayB_f {t : T} (h : ¬ may t) : mayB t = false := Bool.eq_false_iff.2 (fun k => h (mayB_iff.1 k))
def body (t : T) : List UInt8 := if t.k = 1 then [114, 46] ++ (itoa t.f ++ 46 :: itoa t.g) else [97, 46] ++ (itoa t.f ++ 46 :: (itoa t.g ++ 46 :: itoa t.e))
theorem body_inj {t t' : T} (h : may t) (h' : may t') (hb : body t = body t') : t = t' := by
  obtain ⟨k, f, g, e⟩ := t
  obtain ⟨k', f', g', e'⟩ := t'
  obtain ⟨hk, hf, hg⟩ := h
  obtain ⟨hk', hf', hg'⟩ := h'
  unfold okN at *
  simp only at *
  unfold body at hb
  simp only at hb
  rcases hk with ⟨rfl, rfl⟩ | ⟨rfl, he⟩ <;> rcases hk' with ⟨rfl, rfl⟩ | ⟨rfl, he'⟩
  · rw [if_pos rfl, if_pos rfl, List.append_right_inj] at hb
    obtain ⟨e1, e2⟩ := part_first hb (itoa_nodot hf.1) (itoa_nodot hf'.1)
    obtain rfl := itoa_inj hf.1 (by omega) hf'.1 (by omega) e1
    obtain rfl := itoa_inj hg.1 (by omega) hg'.1 (by omega) e2
    rfl
  · rw [if_pos rfl, if_neg (by decide)] at hb
    simp at hb
  · rw [if_pos rfl, if_neg (by decide)] at hb
    simp at hb
  · rw [if_neg (by decide), if_neg (by decide), List.append_right_inj] at hb
    obtain ⟨e1, e2⟩ := part_first hb (itoa_nodot hf.1) (itoa_nodot hf'.1)
    obtain ⟨e3, e4⟩ := part_first e2 (itoa_nodot hg.1) (itoa_nodot hg'.1)
    obtain rfl := itoa_inj hf.1 (by omega) hf'.1 (by omega) e1
    obtain rfl := itoa_inj hg.1 (by omega) hg'.1 (by omega) e3
    obtain rfl := itoa_inj he.1 (by omega) he'.1 (by omega) e4
    rfl
/-! A tag -/
def isHex (b : UInt8) : Prop := 48 ≤ b.toNat ∧ b.toNat ≤ 57 ∨ 97 ≤ b.toNat ∧ b.toNat ≤ 102
def isHexB (b : UInt8) : Bool := decide (48 ≤ b.toNat ∧ b.toNat ≤ 57) || decide (97 ≤ b.toNat ∧ b.toNat ≤ 102)
theorem isHexB_iff {b : UInt8} : isHexB b = true ↔ isHex b := by simp [isHexB, isHex]
theorem isHexB_t {b : UInt8} (h : isHex b) : isHexB b = true := isHexB_iff.2 h
theorem isHexB_f {b : UInt8} (h : ¬ isHex b) : isHexB b = false := Bool.eq_false_iff.2 (fun k => h (isHexB_iff.1 k))
def hex16 (l : List UInt8) : Prop := l.length = 16 ∧ ∀ b ∈ l, isHex b
def hex16B (l : List UInt8) : Bool := decide (l.length = 16) && l.all isHexB
theorem hex16B_iff {l : List UInt8} : hex16B l = true ↔ hex16 l := by simp [hex16B, hex16, isHexB_iff]
theorem hex16B_t {l : List UInt8} (h : hex16 l) : hex16B l = true := hex16B_iff.2 h
theorem hex16B_f {l : List UInt8} (h : ¬ hex16 l) : hex16B l = false := Bool.eq_false_iff.2 (fun k => h (hex16B_iff.1 k))
theorem hex16_nodot {l : List UInt8} (h : hex16 l) : (46 : UInt8) ∉ l := by
  intro hm
  have := h.2 _ hm
  simp [isHex] at this
theorem hexc_hex (d : Nat) (h : d < 16) : isHex (Hex.hexc d) := by
  unfold Hex.hexc isHex
  split
  · left; rw [UInt8.toNat_ofNat']; omega
  · right; rw [UInt8.toNat_ofNat']; omega
theorem hexsN_hex (k n : Nat) : ∀ b ∈ Hex.hexsN k n, isHex b := by
  induction k generalizing n with
  | zero => intro b hb; cases hb
  | succ k ih =>
    intro b hb
    simp only [Hex.hexsN, List.mem_append, List.mem_singleton] at hb
    rcases hb with hb | rfl
    · exact ih _ b hb
    · exact hexc_hex _ (Nat.mod_lt _ (by decide))
theorem hexsN_16 (n : Nat) : hex16 (Hex.hexsN 16 n) := ⟨Hex.hexsN_length _ _, hexsN_hex _ _⟩
/-! What a text is: its token, or what is wrong with it (0: nothing; 1: its form; 2: its tag) -/
def Form (x : List UInt8) (t : T) (tag : List UInt8) : Prop := may t ∧ hex16 tag ∧ x = body t ++ 46 :: tag
theorem form_inj {x : List UInt8} {t t' : T} {g g' : List UInt8} (h : Form x t g) (h' : Form x t' g') : t = t' ∧ g = g' := by
  have e := h.2.2.symm.trans h'.2.2
  obtain ⟨e1, e2⟩ := part_last e (hex16_nodot h.2.1) (hex16_nodot h'.2.1)
  exact ⟨body_inj h.1 h'.1 e1, e2⟩
def Out (tagOf : List UInt8 → List UInt8) (x : List UInt8) (t : T) (n : Nat) : Prop :=
  (n = 0 ∧ ∃ tag, Form x t tag ∧ tag = tagOf (body t)) ∨ (n = 1 ∧ t = zero ∧ ∀ t' tag, ¬ Form x t' tag) ∨ (n = 2 ∧ t = zero ∧ ∃ t' tag, Form x t' tag ∧ tag ≠ tagOf (body t'))
theorem Out.good {tagOf : List UInt8 → List UInt8} {x : List UInt8} (t : T) (tag : List UInt8) (h : Form x t tag) (e : tag = tagOf (body t)) : Out tagOf x t 0 := .inl ⟨rfl, tag, h, e⟩
theorem Out.form {tagOf : List UInt8 → List UInt8} {x : List UInt8} (h : ∀ t tag, ¬ Form x t tag) : Out tagOf x zero 1 := .inr (.inl ⟨rfl, rfl, h⟩)
theorem Out.name {tagOf : List UInt8 → List UInt8} {x : List UInt8} (t : T) (tag : List UInt8) (h : Form x t tag) (e : tag ≠ tagOf (body t)) : Out tagOf x zero 2 := .inr (.inr ⟨rfl, rfl, t, tag, h, e⟩)
theorem out_inj {tagOf : List UInt8 → List UInt8} {x : List UInt8} {t t' : T} {n n' : Nat} (h : Out tagOf x t n) (h' : Out tagOf x t' n') : t = t' ∧ n = n' := by
  rcases h with ⟨rfl, tag, hf, he⟩ | ⟨rfl, rfl, hn⟩ | ⟨rfl, rfl, t1, tag, hf, he⟩
  · rcases h' with ⟨rfl, tag', hf', he'⟩ | ⟨rfl, rfl, hn⟩ | ⟨rfl, rfl, t2, tag', hf', he'⟩
    · exact ⟨(form_inj hf hf').1, rfl⟩
    · exact absurd hf (hn _ _)
    · obtain ⟨rfl, rfl⟩ := form_inj hf hf'
      exact absurd he he'
  · rcases h' with ⟨rfl, tag', hf', he'⟩ | ⟨rfl, rfl, hn'⟩ | ⟨rfl, rfl, t2, tag', hf', he'⟩
    · exact absurd hf' (hn _ _)
    · exact ⟨rfl, rfl⟩
    · exact absurd hf' (hn _ _)
  · rcases h' with ⟨rfl, tag', hf', he'⟩ | ⟨rfl, rfl, hn⟩ | ⟨rfl, rfl, t2, tag', hf', he'⟩
    · obtain ⟨rfl, rfl⟩ := form_inj hf hf'
      exact absurd he' he
    · exact absurd hf (hn _ _)
    · exact ⟨rfl, rfl⟩
end Go.Proofs.YtkggfahcdpgapaaGreatDoor.Tok

/-
  What the library's variables hold, as far as an event's line asks for them; numbers written and read.
-/

namespace Go.Proofs.YtkggfahcdpgapaaGreatDoor
open Go Go.RowKit Tok
theorem belowGrownE (w : World) (k : Nat) (os : Array Obj) : Below w.heap.size w (Go.Sort.grow (w.drewN k) os) := by
  have h := below_drewN (Below.refl w.heap.size w) k
  have hs : (w.drewN k).heap = w.heap := by simp
  refine ⟨h.os, h.tape, h.output, ?_, fun i hi => ?_⟩
  · show w.heap.size ≤ ((w.drewN k).heap ++ os).size
    rw [hs, Array.size_append]; omega
  · show ((w.drewN k).heap ++ os)[i]? = w.heap[i]?
    rw [hs, Array.getElem?_append_left hi]
theorem tabIsBelowE {B : Nat} {w w' : World} {name : String} {k : IntKind} {zs : List Int} {g : Nat} (h : Lib.TabIs Tryz.prog w name k zs) (hb : Below B w w') (hg : Tryz.prog.globalNamed name = some g) (hB : g < B) : Lib.TabIs Tryz.prog w' name k zs := by
  unfold Lib.TabIs World.var? at *
  simp only [hg, Option.bind_some] at h ⊢
  rw [hb.block g hB]
  exact h
theorem gPowE : Tryz.prog.globalNamed "internal/strconv.uint64pow10" = some 1 := by kernel_rfl
structure LibsE (w : World) : Prop where
  big : 1 < w.heap.size
  pow : Lib.TabIs Tryz.prog w "internal/strconv.uint64pow10" .u64 Lib.pow10Tab
  len : LenOk w
theorem LibsE.below {w w' : World} (h : LibsE w) (hb : Below w.heap.size w w') : LibsE w' :=
  ⟨Nat.lt_of_lt_of_le h.big hb.size, tabIsBelowE h.pow hb gPowE h.big, h.len.below hb⟩
theorem itoaE_is (n : Int) (w : World) (h0 : 0 ≤ n) (h1 : n ≤ 9223372036854775807) (hL : LibsE w) : Calls Tryz.prog 71 #[.int .i64 n] w fun e w' => e = .returned (.string ⟨(Lib.itoa n).toArray⟩) ∧ Below w.heap.size w w' := by
  refine (Tryz.strconv_Itoa n (by omega) h1 w hL.pow).mono ?_
  rintro e w' ⟨rfl, k, os, rfl⟩
  exact ⟨rfl, belowGrownE _ _ _⟩
theorem mixedE : Tryz.prog.follows .mixedOrders = true := by kernel_rfl
structure LibsA (w : World) : Prop where
  base : LibsE w
  syn : ∃ ev, w.cell? ⟨2, 0, none⟩ = some ev ∧ (ev = .nilIface ∨ ∃ te pe, ev = .iface te pe)
  rng : ∃ ev, w.cell? ⟨3, 0, none⟩ = some ev ∧ (ev = .nilIface ∨ ∃ te pe, ev = .iface te pe)
theorem LibsA.below {w w' : World} (h : LibsA w) (hb : Below w.heap.size w w') : LibsA w' where
  base := h.base.below hb
  syn := by
    obtain ⟨m, hm, k⟩ := h.syn
    exact ⟨m, (hb.cell (p := ⟨2, 0, none⟩) (World.block_lt_of_cell? _ _ hm)).trans hm, k⟩
  rng := by
    obtain ⟨m, hm, k⟩ := h.rng
    exact ⟨m, (hb.cell (p := ⟨3, 0, none⟩) (World.block_lt_of_cell? _ _ hm)).trans hm, k⟩
theorem atoiE_any (s : ByteArray) (w : World) (hs : s.size ≤ 10000) (hL : LibsA w) : Calls Tryz.prog 44 #[.string s] w fun e w' => ∃ v err, e = .returned (.tuple #[.int .i64 v, err]) ∧ Below w.heap.size w w' ∧ ∀ m, okN m → s.data.toList = Lib.itoa m → v = m := by
  cases hc : Lib.atoiAll s.data.toList with
  | ok v =>
    refine (Tryz.strconv_Atoi_ok s (by omega) v hc w).mono ?_
    rintro e w' ⟨rfl, hw⟩
    refine ⟨v, _, rfl, ?_, fun m hm he => ?_⟩
    · rcases hw with rfl | ⟨t, rfl⟩
      · exact Below.refl _ _
      · exact Joins.below_bytesWorld _ _ _ _ (Nat.le_refl _)
    · rw [he, atoi_itoa hm.1 (by have := hm.2; omega)] at hc
      injection hc with hc
      exact hc.symm
  | range =>
    obtain ⟨ev, h1, h2⟩ := hL.rng
    refine (Tryz.strconv_Atoi_range s (by omega) hc ev w h1 h2).mono ?_
    rintro e w' ⟨N, rfl, _, _, hb⟩
    refine ⟨_, _, rfl, hb, fun m hm he => ?_⟩
    rw [he, atoi_itoa hm.1 (by have := hm.2; omega)] at hc
    cases hc
  | _ =>
    obtain ⟨ev, h1, h2⟩ := hL.syn
    refine (Tryz.strconv_Atoi_syntax s (by omega) hc ev w h1 h2).mono ?_
    rintro e w' ⟨N, rfl, _, _, hb⟩
    refine ⟨_, _, rfl, hb, fun m hm he => ?_⟩
    rw [he, atoi_itoa hm.1 (by have := hm.2; omega)] at hc
    cases hc
end Go.Proofs.YtkggfahcdpgapaaGreatDoor
