/-
  Plain mathematics: the sum over a text, as the program eats it, and as the document's answer fills it up.
-/
import Derived.Test.YteblegcojhcccaaDoorSip
namespace Go.Proofs.YteblegcojhcccaaDoor
namespace Sip
/-- Eat words of eight bytes (at most n), then the last one, with the length n's low byte on top. -/
def fin (top : Nat) : Nat → St → List UInt8 → Int
  | 0, q, l => close (eatS q ((le l + top * 256 ^ 7 : Nat) : Int))
  | f + 1, q, l => if 8 ≤ l.length then fin top f (eatS q (le (l.take 8))) (l.drop 8) else close (eatS q ((le l + top * 256 ^ 7 : Nat) : Int))
def sip (k0 k1 : Int) (l : List UInt8) : Int := fin (l.length % 256) l.length (start k0 k1) l
/-- The document's way: all bytes, filled up, and their number. -/
def pad (l : List UInt8) : List UInt8 := l ++ List.replicate (7 - l.length % 8) 0 ++ [UInt8.ofNat (l.length % 256)]
def feed : Nat → St → List UInt8 → St
  | 0, q, _ => q
  | f + 1, q, l => feed f (eatS q (le (l.take 8))) (l.drop 8)
theorem le_zeros (n : Nat) : le (List.replicate n 0) = 0 := by
  induction n with
  | zero => rfl
  | succ n ih => simp [List.replicate_succ, le, ih]
theorem le_append (l r : List UInt8) : le (l ++ r) = le l + le r * 256 ^ l.length := by
  induction l with
  | nil => simp [le]
  | cons c l ih => simp only [List.cons_append, le, ih, List.length_cons, Nat.pow_succ]; rw [Nat.mul_add, Nat.add_assoc, Nat.mul_left_comm, Nat.mul_comm (256 ^ l.length) 256]
/-- What is left, filled up, is the last word. -/
theorem le_pad (r : List UInt8) (n : Nat) (h : r.length ≤ 7) (hn : n < 256) :
    le (r ++ List.replicate (7 - r.length) 0 ++ [UInt8.ofNat n]) = le r + n * 256 ^ 7 := by
  rw [le_append, le_append, le_zeros]
  have e : (r ++ List.replicate (7 - r.length) 0).length = 7 := by simp; omega
  rw [e]
  simp [le, Nat.mod_eq_of_lt hn]
theorem fin_feed (top : Nat) (ht : top < 256) (f : Nat) (q : St) (l : List UInt8) (hf : l.length ≤ f) (T : Nat)
    (hT : (l ++ List.replicate (7 - l.length % 8) 0 ++ [UInt8.ofNat top]).length = 8 * T) :
    fin top f q l = close (feed T q (l ++ List.replicate (7 - l.length % 8) 0 ++ [UInt8.ofNat top])) := by
  induction f generalizing q l T with
  | zero =>
    obtain rfl : l = [] := List.eq_nil_of_length_eq_zero (by omega)
    obtain rfl : T = 1 := by simp at hT; omega
    have h := le_pad [] top (by simp) ht
    simp only [fin, feed]
    simp at h ⊢
    rw [h]
    simp
  | succ f ih =>
    by_cases h8 : 8 ≤ l.length
    · obtain ⟨T', rfl⟩ : ∃ T', T = T' + 1 := ⟨T - 1, by simp at hT; omega⟩
      simp only [fin, if_pos h8, feed]
      have hd : (l.drop 8).length = l.length - 8 := List.length_drop
      have hm : (l.drop 8).length % 8 = l.length % 8 := by omega
      have ht8 : (l ++ List.replicate (7 - l.length % 8) 0 ++ [UInt8.ofNat top]).take 8 = l.take 8 := by
        rw [List.append_assoc, List.take_append_of_le_length h8]
      have hd8 : (l ++ List.replicate (7 - l.length % 8) 0 ++ [UInt8.ofNat top]).drop 8 = l.drop 8 ++ List.replicate (7 - (l.drop 8).length % 8) 0 ++ [UInt8.ofNat top] := by
        rw [hm, List.append_assoc, List.drop_append_of_le_length h8, List.append_assoc]
      rw [ht8, hd8]
      refine ih _ _ (by omega) T' ?_
      rw [← hd8, List.length_drop, hT]; omega
    · have hl : l.length % 8 = l.length := by omega
      obtain rfl : T = 1 := by simp at hT; omega
      simp only [fin, if_neg h8, feed]
      rw [hl, List.take_of_length_le (by simp; omega), le_pad l top (by omega) ht]
theorem sip_pad (k0 k1 : Int) (l : List UInt8) (T : Nat) (hT : (pad l).length = 8 * T) : sip k0 k1 l = close (feed T (start k0 k1) (pad l)) :=
  fin_feed _ (by omega) _ _ _ (Nat.le_refl _) T hT
theorem horner (X : List UInt8) (d : Nat) (hX : X.length = 8) (hd : d < 8) :
    IntKind.u64.wrap (IntKind.u64.wrap ((le (X.drop (d + 1)) : Int) * 256) + IntKind.u64.wrap ((X[d]?.getD 0).toNat : Int)) = (le (X.drop d) : Int) := by
  have hc : X.drop d = X[d] :: X.drop (d + 1) := List.drop_eq_getElem_cons (by omega)
  have h1 : le (X.drop d) = (X[d]?.getD 0).toNat + 256 * le (X.drop (d + 1)) := by rw [hc, List.getElem?_eq_getElem (by omega)]; rfl
  have h2 := le_lt (X.drop d)
  have h3 : 256 ^ (X.drop d).length ≤ 256 ^ 8 := Nat.pow_le_pow_right (by decide) (by rw [List.length_drop]; omega)
  have h4 : (256 : Nat) ^ 8 = 18446744073709551616 := by decide
  rw [IntKind.wrap_u64, IntKind.wrap_u64, IntKind.wrap_u64]
  omega
theorem top_step (l : List UInt8) (n : Nat) (h : l.length ≤ 7) :
    bits .or .u64 (le l : Int) (IntKind.u64.wrap ((n : Int) * 72057594037927936)) = ((le l + n % 256 * 256 ^ 7 : Nat) : Int) := by
  have h1 : le l < 256 ^ 7 := Nat.lt_of_lt_of_le (le_lt l) (Nat.pow_le_pow_right (by decide) h)
  have e1 : IntKind.u64.wrap ((n : Int) * 72057594037927936) = ((n % 256 * 256 ^ 7 : Nat) : Int) := by rw [IntKind.wrap_u64]; omega
  rw [e1, bits_or_nat _ _ (by omega) (by omega), or_disjoint _ _ _ h1]
end Sip
end Go.Proofs.YteblegcojhcccaaDoor
