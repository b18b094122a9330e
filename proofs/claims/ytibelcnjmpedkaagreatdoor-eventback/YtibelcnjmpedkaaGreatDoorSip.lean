/-
  Plain mathematics for the sums of chapter 2: a round over four words, as the model's integers go. No program.
-/
import Derived.Test.YtibelcnjmpedkaaGreatDoorRows
import Derived.WalkKit
import Derived.WalkSpells
import Derived.WalkLawsBesides
namespace Go.Proofs.YtibelcnjmpedkaaGreatDoor
open Go.RowKit
namespace Sip
def rl (x k : Int) : Int := bits .or .u64 (IntKind.u64.wrap (x * 2 ^ k.toNat)) (x / 2 ^ (64 - k).toNat)
def ad (x y : Int) : Int := IntKind.u64.wrap (x + y)
def xr (x y : Int) : Int := bits .xor .u64 x y
structure St where
  a : Int
  b : Int
  c : Int
  d : Int
def rnd (s : St) : St :=
  let a1 := ad s.a s.b
  let b1 := xr (rl s.b 13) a1
  let a2 := rl a1 32
  let c1 := ad s.c s.d
  let d1 := xr (rl s.d 16) c1
  let a3 := ad a2 d1
  let d2 := xr (rl d1 21) a3
  let c2 := ad c1 b1
  let b2 := xr (rl b1 17) c2
  let c3 := rl c2 32
  ⟨a3, b2, c3, d2⟩
def rnds : Nat → St → St
  | 0, s => s
  | n + 1, s => rnd (rnds n s)
theorem wrap_bd (x : Int) : 0 ≤ IntKind.u64.wrap x ∧ IntKind.u64.wrap x < 18446744073709551616 := by
  rw [IntKind.wrap_u64]; omega
theorem rl_bd (x k : Int) : 0 ≤ rl x k ∧ rl x k < 18446744073709551616 := wrap_bd _
theorem ad_bd (x y : Int) : 0 ≤ ad x y ∧ ad x y < 18446744073709551616 := wrap_bd _
theorem xr_bd (x y : Int) : 0 ≤ xr x y ∧ xr x y < 18446744073709551616 := wrap_bd _
structure St.Ok (s : St) : Prop where
  a0 : 0 ≤ s.a
  a1 : s.a < 18446744073709551616
  b0 : 0 ≤ s.b
  b1 : s.b < 18446744073709551616
  c0 : 0 ≤ s.c
  c1 : s.c < 18446744073709551616
  d0 : 0 ≤ s.d
  d1 : s.d < 18446744073709551616
theorem rnd_ok (s : St) : (rnd s).Ok := ⟨(ad_bd _ _).1, (ad_bd _ _).2, (xr_bd _ _).1, (xr_bd _ _).2, (rl_bd _ _).1, (rl_bd _ _).2, (xr_bd _ _).1, (xr_bd _ _).2⟩
theorem rnds_ok (n : Nat) {s : St} (h : s.Ok) : (rnds n s).Ok := by
  cases n with
  | zero => exact h
  | succ n => exact rnd_ok _
theorem and63 (k : Int) (k0 : 0 < k) (k1 : k < 64) : bits .and .u64 k 63 = k := by
  obtain ⟨n, rfl⟩ := Int.eq_ofNat_of_zero_le (Int.le_of_lt k0)
  have h : n < 64 := by omega
  revert h
  clear k0 k1
  revert n
  decide
/-- Bytes as a number, the least ones first. -/
def le : List UInt8 → Nat
  | [] => 0
  | b :: r => b.toNat + 256 * le r
theorem le_snoc (l : List UInt8) (b : UInt8) : le (l ++ [b]) = le l + b.toNat * 256 ^ l.length := by
  induction l with
  | nil => simp [le]
  | cons c l ih => simp only [List.cons_append, le, ih, List.length_cons, Nat.pow_succ]; rw [Nat.mul_add, Nat.mul_left_comm, Nat.mul_comm 256 (256 ^ l.length)]; omega
theorem le_lt (l : List UInt8) : le l < 256 ^ l.length := by
  induction l with
  | nil => simp [le]
  | cons c l ih =>
    simp only [le, List.length_cons, Nat.pow_succ]
    have := c.toNat_lt
    omega
def eatS (s : St) (x : Int) : St :=
  let t := rnds 2 ⟨s.a, s.b, s.c, xr s.d x⟩
  ⟨xr t.a x, t.b, t.c, t.d⟩
def start (k0 k1 : Int) : St := ⟨xr k0 8317987319222330741, xr k1 7237128888997146477, xr k0 7816392313619706465, xr k1 8387220255154660723⟩
def close (s : St) : Int :=
  let t := rnds 4 ⟨s.a, s.b, xr s.c 255, s.d⟩
  xr (xr (xr t.a t.b) t.c) t.d
theorem bits_or_nat (a b : Nat) (ha : a < 18446744073709551616) (hb : b < 18446744073709551616) :
    bits .or .u64 (a : Int) (b : Int) = ((a ||| b : Nat) : Int) := by
  have hx : a ||| b < 2 ^ 64 := Nat.or_lt_two_pow (by omega) (by omega)
  have h1 : (BitVec.ofInt 64 (a : Int)).toNat = a := by
    rw [BitVec.ofInt_natCast, BitVec.toNat_ofNat]; exact Nat.mod_eq_of_lt (by omega)
  have h2 : (BitVec.ofInt 64 (b : Int)).toNat = b := by
    rw [BitVec.ofInt_natCast, BitVec.toNat_ofNat]; exact Nat.mod_eq_of_lt (by omega)
  show IntKind.u64.wrap ((BitVec.ofInt 64 (a : Int) ||| BitVec.ofInt 64 (b : Int)).toNat : Int) = _
  rw [BitVec.toNat_or, h1, h2, IntKind.wrap_u64]
  omega
theorem pow8 (k : Nat) : (256 : Nat) ^ k = 2 ^ (8 * k) := by rw [Nat.pow_mul]
theorem or_disjoint (a b k : Nat) (ha : a < 256 ^ k) : a ||| b * 256 ^ k = a + b * 256 ^ k := by
  rw [pow8] at *
  rw [Nat.or_comm, Nat.mul_comm b, ← Nat.two_pow_add_eq_or_of_lt ha, Nat.add_comm]
theorem byte_up (b : UInt8) (k : Nat) (hk : k < 8) : b.toNat * 256 ^ k < 18446744073709551616 := by
  have h1 := b.toNat_lt
  have h2 : (256 : Nat) ^ k ≤ 256 ^ 7 := Nat.pow_le_pow_right (by decide) (by omega)
  calc b.toNat * 256 ^ k ≤ 255 * 256 ^ 7 := Nat.mul_le_mul (by omega) h2
    _ < _ := by decide
theorem or_step (a : Nat) (b : UInt8) (k : Nat) (ha : a < 256 ^ k) (hk : k < 8) :
    bits .or .u64 (a : Int) (IntKind.u64.wrap (IntKind.u64.wrap (b.toNat : Int) * 2 ^ (8 * k))) = ((a + b.toNat * 256 ^ k : Nat) : Int) := by
  have h1 := b.toNat_lt
  have h2 := byte_up b k hk
  have h3 : (256 : Nat) ^ k ≤ 256 ^ 7 := Nat.pow_le_pow_right (by decide) (by omega)
  have e1 : IntKind.u64.wrap (b.toNat : Int) = (b.toNat : Int) := by rw [IntKind.wrap_u64]; omega
  have e2 : (b.toNat : Int) * 2 ^ (8 * k) = ((b.toNat * 256 ^ k : Nat) : Int) := by rw [pow8]; simp
  have e3 : IntKind.u64.wrap ((b.toNat * 256 ^ k : Nat) : Int) = ((b.toNat * 256 ^ k : Nat) : Int) := by rw [IntKind.wrap_u64]; omega
  have h4 : (256 : Nat) ^ 7 < 18446744073709551616 := by decide
  rw [e1, e2, e3, bits_or_nat _ _ (by omega) h2, or_disjoint _ _ _ ha]
end Sip
end Go.Proofs.YtibelcnjmpedkaaGreatDoor
