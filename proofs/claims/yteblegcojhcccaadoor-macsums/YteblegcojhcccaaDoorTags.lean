import Derived.Test.YteblegcojhcccaaDoorMacDigits
import Derived.Test.YteblegcojhcccaaDoorMacSum
import Derived.Test.YteblegcojhcccaaDoorShelf
namespace Go.Proofs.YteblegcojhcccaaDoor
open Go.RowKit Sip Hex
def tag (key : Int) (l : List UInt8) : List UInt8 := hexsN 16 (sip (IntKind.u64.wrap key) (rl (IntKind.u64.wrap key) 32) l).toNat
theorem fin_bd (top f : Nat) (q : St) (l : List UInt8) : 0 ≤ fin top f q l ∧ fin top f q l < 18446744073709551616 := by
  induction f generalizing q l with
  | zero => exact xr_bd _ _
  | succ f ih =>
    unfold fin
    split
    · exact ih _ _
    · exact xr_bd _ _
theorem sip_bd (k0 k1 : Int) (l : List UInt8) : 0 ≤ sip k0 k1 l ∧ sip k0 k1 l < 18446744073709551616 := fin_bd _ _ _ _
set_option maxHeartbeats 1000000 in
theorem macTag_any (key : Int) (s : ByteArray) (w : World) (hs : s.size ≤ 9223372036854775807) :
    Calls Tryd.prog 14 #[.int .i64 key, .string s] w fun e w' => e = .returned (.string ⟨(tag key s.data.toList).toArray⟩) ∧ Below w.heap.size w w' := by
  have hbd := sip_bd (IntKind.u64.wrap key) (rl (IntKind.u64.wrap key) 32) s.data.toList
  obtain ⟨n, hn⟩ := Int.eq_ofNat_of_zero_le hbd.1
  have HT : Hid (tag key s.data.toList = hexsN 16 n) := by unfold tag Hid; rw [hn]; rfl
  have HN : Hid (sip (IntKind.u64.wrap key) (rl (IntKind.u64.wrap key) 32) s.data.toList = (n : Int)) := hn
  have hn2 : n < 16 ^ 16 := by omega
  clear hn hbd
  go_enter Tryd.func14, Tryd.ntmps14
  go_wp2_with fail
  refine (rotl32 _ _).mono ?_
  rintro e w1 ⟨rfl, rfl⟩
  go_wp2_with fail
  refine (macSum_any _ _ s _ hs).mono ?_
  rintro e w2 ⟨rfl, hb2⟩
  rw [HN.out]
  go_wp2_with fail
  refine (digits_any n hn2 _).mono ?_
  rintro e w3 ⟨rfl, hb3⟩
  go_wp2_with fail
  go_ret
  exact ⟨by rw [HT.out]; rfl, hb2.trans (hb3.mono hb2.size)⟩
end Go.Proofs.YteblegcojhcccaaDoor
