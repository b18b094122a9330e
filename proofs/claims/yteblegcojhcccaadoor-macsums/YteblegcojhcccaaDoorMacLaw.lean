import Derived.Test.YteblegcojhcccaaDoorRefTags
import Derived.Test.YteblegcojhcccaaDoorMacSame
namespace Go.Proofs.YteblegcojhcccaaDoor
open Go.RowKit Sip Hex
theorem beq_bytes (a b : ByteArray) : decide (a.data.toList = b.data.toList) = (a.toList == b.toList) := by
  rw [ByteArray.toList_eq, ByteArray.toList_eq, Bool.eq_iff_iff, decide_eq_true_iff, beq_iff_eq]
theorem same_law (a b : ByteArray) (w : World) (ha : a.size ≤ 9223372036854775807) (hb : b.size ≤ 9223372036854775807) :
    Calls Tryd.prog 16 #[.string a, .string b] w fun e w' => e = .returned (.bool (a.toList == b.toList)) ∧ ∃ n, w' = w.drewN n := by
  rw [← beq_bytes]
  exact same_any a b w ha hb
set_option maxHeartbeats 2000000 in
theorem macSumsLaw (k0 k1 key : Int) (a b : ByteArray) (w : World) (ha : a.size ≤ 9223372036854775807) (hb : b.size ≤ 9223372036854775807) (hT : Tab16 w) (hTs : 4 < w.heap.size) :
    Calls Tryd.prog 4 #[.int .u64 k0, .int .u64 k1, .int .i64 key, .string a, .string b] w fun e w' => e = .returned (.bool true) ∧ Below w.heap.size w w' := by
  have HT : Hid (Tab16 w) := hT
  clear hT
  by_cases h4 : a.size ≤ 400
  · by_cases h5 : b.size ≤ 400
    · go_enter Tryd.func4, Tryd.ntmps4
      go_wp2_with fail
      refine (macSum_any k0 k1 a _ ha).mono ?_
      rintro e w1 ⟨rfl, hb1⟩
      go_wp2_with fail
      refine (refSum_any k0 k1 a _ (by omega)).mono ?_
      rintro e w2 ⟨rfl, hb2⟩
      have hB2 := hb1.trans (hb2.mono hb1.size)
      go_wp2_with fail
      refine (macTag_any key a _ ha).mono ?_
      rintro e w3 ⟨rfl, hb3⟩
      have hB3 := hB2.trans (hb3.mono hB2.size)
      go_wp2_with fail
      refine (refTag_any key a _ (by omega) (HT.out.below hB3 hTs) (Nat.lt_of_lt_of_le hTs hB3.size)).mono ?_
      rintro e w4 ⟨rfl, hb4⟩
      have hB4 := hB3.trans (hb4.mono hB3.size)
      go_wp2_with fail
      refine (same_law a b _ ha hb).mono ?_
      rintro e w5 ⟨rfl, n5, rfl⟩
      go_wp2_with fail
      refine (same_law a a _ ha ha).mono ?_
      rintro e w5 ⟨rfl, n6, rfl⟩
      go_wp2_with fail
      go_ret
      exact ⟨by simp, below_drewN hB4 _⟩
    · go_enter Tryd.func4, Tryd.ntmps4
      go_wp2_with fail
      go_ret
      exact ⟨rfl, Below.refl _ _⟩
  · go_enter Tryd.func4, Tryd.ntmps4
    go_wp2_with fail
    go_ret
    exact ⟨rfl, Below.refl _ _⟩
end Go.Proofs.YteblegcojhcccaaDoor
