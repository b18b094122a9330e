/-
  Plain mathematics: a word's sixteen hexadecimal digits, from the top, by turning; from the bottom, by dividing, filled up.
-/
import Derived.Test.YtibelcnjmpedkaaGreatDoorSip
namespace Go.Proofs.YtibelcnjmpedkaaGreatDoor
namespace Hex
def hexc (d : Nat) : UInt8 := if d < 10 then UInt8.ofNat (48 + d) else UInt8.ofNat (87 + d)
def hexsN : Nat → Nat → List UInt8
  | 0, _ => []
  | k + 1, n => hexsN k (n / 16) ++ [hexc (n % 16)]
/-- without noughts ahead; f: enough rounds -/
def hexMin : Nat → Nat → List UInt8
  | 0, n => [hexc (n % 16)]
  | f + 1, n => if n < 16 then [hexc n] else hexMin f (n / 16) ++ [hexc (n % 16)]
theorem hexsN_length (k n : Nat) : (hexsN k n).length = k := by
  induction k generalizing n with
  | zero => rfl
  | succ k ih => simp [hexsN, ih]
theorem hexsN_zero (k : Nat) : hexsN k 0 = List.replicate k 48 := by
  induction k with
  | zero => rfl
  | succ k ih => rw [List.replicate_succ', hexsN, Nat.zero_div, ih]; rfl
theorem hexMin_pos (f n : Nat) : 1 ≤ (hexMin f n).length := by
  cases f with
  | zero => simp [hexMin]
  | succ f => unfold hexMin; split <;> simp
theorem hexMin_le (f n k : Nat) (hk : 1 ≤ k) (hn : n < 16 ^ k) (hf : k ≤ f + 1) : (hexMin f n).length ≤ k := by
  induction f generalizing n k with
  | zero => simp [hexMin]; omega
  | succ f ih =>
    unfold hexMin
    split
    · simp; omega
    · rename_i h
      obtain ⟨j, rfl⟩ : ∃ j, k = j + 1 := ⟨k - 1, by omega⟩
      have hj : 1 ≤ j := by
        rcases Nat.eq_zero_or_pos j with h0 | h0
        · subst h0; simp at hn; omega
        · exact h0
      have := ih (n / 16) j hj (by rw [Nat.pow_succ] at hn; omega) (by omega)
      simp; omega
theorem hex_pad (f n k : Nat) (hk : 1 ≤ k) (hn : n < 16 ^ k) (hf : k ≤ f + 1) : List.replicate (k - (hexMin f n).length) 48 ++ hexMin f n = hexsN k n := by
  induction f generalizing n k with
  | zero =>
    obtain rfl : k = 1 := by omega
    simp [hexMin, hexsN]
  | succ f ih =>
    obtain ⟨j, rfl⟩ : ∃ j, k = j + 1 := ⟨k - 1, by omega⟩
    unfold hexMin
    split
    · rename_i h
      simp [hexsN, Nat.div_eq_of_lt h, Nat.mod_eq_of_lt h, hexsN_zero]
    · rename_i h
      have hj : 1 ≤ j := by
        rcases Nat.eq_zero_or_pos j with h0 | h0
        · subst h0; simp at hn; omega
        · exact h0
      rw [hexsN, ← ih (n / 16) j hj (by rw [Nat.pow_succ] at hn; omega) (by omega)]
      simp
theorem hexsN_get (k n i : Nat) (hi : i < k) : (hexsN k n)[i]? = some (hexc (n / 16 ^ (k - 1 - i) % 16)) := by
  induction k generalizing n i with
  | zero => omega
  | succ k ih =>
    rw [hexsN]
    by_cases h : i < k
    · rw [List.getElem?_append_left (by rw [hexsN_length]; exact h), ih _ _ h, Nat.div_div_eq_div_mul]
      have : 16 * 16 ^ (k - 1 - i) = 16 ^ (k + 1 - 1 - i) := by
        rw [show k + 1 - 1 - i = (k - 1 - i) + 1 by omega, Nat.pow_succ, Nat.mul_comm]
      rw [this]
    · obtain rfl : i = k := by omega
      rw [List.getElem?_append_right (by rw [hexsN_length]; omega), hexsN_length]
      simp
/-- What a word is, turned left by k digits. -/
def rot (n k : Nat) : Nat := n % 16 ^ (16 - k) * 16 ^ k + n / 16 ^ (16 - k)
theorem rot_zero (n : Nat) (hn : n < 16 ^ 16) : rot n 0 = n := by simp [rot, Nat.mod_eq_of_lt hn, Nat.div_eq_of_lt hn]
theorem rot_step (n k : Nat) (hn : n < 16 ^ 16) (hk : k < 16) : rot n k % 16 ^ 15 * 16 + rot n k / 16 ^ 15 = rot n (k + 1) ∧ rot n (k + 1) % 16 = n / 16 ^ (15 - k) % 16 := by
  obtain ⟨A, hA⟩ : ∃ A, A = 16 ^ (15 - k) := ⟨_, rfl⟩
  obtain ⟨B, hB⟩ : ∃ B, B = 16 ^ k := ⟨_, rfl⟩
  have hAB : A * B = 16 ^ 15 := by rw [hA, hB, ← Nat.pow_add]; congr 1; omega
  have hA16 : (16 : Nat) ^ (16 - k) = A * 16 := by rw [hA, ← Nat.pow_succ]; congr 1; omega
  have hB16 : (16 : Nat) ^ (k + 1) = B * 16 := by rw [hB, Nat.pow_succ]
  have hA1 : (16 : Nat) ^ (16 - (k + 1)) = A := by rw [hA]; congr 1; omega
  have hApos : 0 < A := by rw [hA]; exact Nat.pow_pos (by decide)
  have hBpos : 0 < B := by rw [hB]; exact Nat.pow_pos (by decide)
  unfold rot
  rw [hA16, hB16, hA1, ← hB, ← hA]
  obtain ⟨q, hq⟩ : ∃ q, q = n / (A * 16) := ⟨_, rfl⟩
  obtain ⟨r1, hr1⟩ : ∃ r1, r1 = n / A % 16 := ⟨_, rfl⟩
  obtain ⟨r0, hr0⟩ : ∃ r0, r0 = n % A := ⟨_, rfl⟩
  have hdA : n / A = q * 16 + r1 := by
    rw [hq, hr1, ← Nat.div_div_eq_div_mul]; omega
  have hmod : n % (A * 16) = r1 * A + r0 := by
    rw [Nat.mod_mul, ← hr0, ← hr1, Nat.mul_comm]; omega
  have hqB : q < B := by
    rw [hq]
    refine Nat.div_lt_of_lt_mul ?_
    have : A * 16 * B = 16 ^ 16 := by rw [Nat.mul_right_comm, hAB]
    rw [this]; exact hn
  have hr0A : r0 < A := by rw [hr0]; exact Nat.mod_lt _ hApos
  have hr116 : r1 < 16 := by omega
  have hlow : r0 * B + q < 16 ^ 15 := by
    rw [← hAB]
    have : (r0 + 1) * B ≤ A * B := Nat.mul_le_mul_right _ hr0A
    rw [Nat.add_mul] at this; omega
  have hW : n % (A * 16) * B + n / (A * 16) = r1 * 16 ^ 15 + (r0 * B + q) := by
    rw [hmod, ← hq, Nat.add_mul, Nat.mul_assoc, hAB, Nat.add_assoc]
  have h15 : 0 < (16 : Nat) ^ 15 := by decide
  rw [hW, ← hr0, hdA, Nat.mul_comm r1, Nat.mul_add_mod, Nat.mod_eq_of_lt hlow, Nat.mul_add_div h15, Nat.div_eq_of_lt hlow]
  have e1 : r0 * (B * 16) = 16 * (r0 * B) := by rw [Nat.mul_comm B 16, Nat.mul_left_comm]
  constructor
  · rw [e1]; omega
  · rw [e1]; omega
/-- the walk's turn by four bits -/
theorem rl4 (X : Nat) (h : X < 16 ^ 16) : Sip.rl (X : Int) 4 = ((X % 16 ^ 15 * 16 + X / 16 ^ 15 : Nat) : Int) := by
  unfold Sip.rl
  have e1 : IntKind.u64.wrap ((X : Int) * 2 ^ (4 : Int).toNat) = ((X % 16 ^ 15 * 16 : Nat) : Int) := by
    rw [IntKind.wrap_u64]
    have : (2 : Int) ^ (4 : Int).toNat = 16 := by decide
    rw [this]; omega
  have e2 : (X : Int) / 2 ^ (64 - (4 : Int)).toNat = ((X / 16 ^ 15 : Nat) : Int) := by
    have : (2 : Int) ^ (64 - (4 : Int)).toNat = 1152921504606846976 := by decide
    rw [this]; omega
  rw [e1, e2, Sip.bits_or_nat _ _ (by omega) (by omega)]
  have hd : X / 16 ^ 15 < 2 ^ 4 := by omega
  rw [Nat.mul_comm, ← Nat.two_pow_add_eq_or_of_lt (i := 4) hd]
theorem rot_lt (n k : Nat) (hn : n < 16 ^ 16) (hk : k ≤ 16) : rot n k < 16 ^ 16 := by
  unfold rot
  have hAB : 16 ^ (16 - k) * 16 ^ k = 16 ^ 16 := by rw [← Nat.pow_add]; congr 1; omega
  have h1 : n % 16 ^ (16 - k) + 1 ≤ 16 ^ (16 - k) := Nat.mod_lt _ (Nat.pow_pos (by decide))
  have h2 := Nat.mul_le_mul_right (16 ^ k) h1
  have h3 : n / 16 ^ (16 - k) < 16 ^ k := Nat.div_lt_of_lt_mul (by rw [hAB]; exact hn)
  rw [hAB, Nat.add_mul] at h2
  omega
theorem and15 (X : Nat) : bits .and .u64 (X : Int) 15 = ((X % 16 : Nat) : Int) := by
  have h2 : (BitVec.ofInt 64 (15 : Int)).toNat = 15 := by decide
  show IntKind.u64.wrap ((BitVec.ofInt 64 (X : Int) &&& BitVec.ofInt 64 15).toNat : Int) = _
  rw [BitVec.toNat_and, h2, IntKind.wrap_u64, show (15 : Nat) = 2 ^ 4 - 1 from rfl, Nat.and_two_pow_sub_one_eq_mod, BitVec.ofInt_natCast, BitVec.toNat_ofNat]
  omega
def digs : List UInt8 := [48, 49, 50, 51, 52, 53, 54, 55, 56, 57, 97, 98, 99, 100, 101, 102]
theorem digs_get (d : Nat) (h : d < 16) : digs[d]? = some (hexc d) := by
  revert h
  revert d
  decide
end Hex
end Go.Proofs.YtibelcnjmpedkaaGreatDoor
