import Derived.Test.YteblegcojhcccaaDoorSip
namespace Go.Proofs.YteblegcojhcccaaDoor
open Go.RowKit Sip
set_option maxHeartbeats 1000000 in
theorem word_any (s : ByteArray) (w : World) (hs : s.size ≤ 8) :
    Calls Tryd.prog 30 #[.string s] w fun e w' => e = .returned (.int .u64 (le s.data.toList)) ∧ ∃ n, w' = w.drewN n := by
  go_enter Tryd.func30, Tryd.ntmps30
  go_wp2
  go_loopw [3, 7] (fun x i wr => ∃ k m : Nat, k ≤ s.size ∧ i = .int .i64 k ∧ x = .int .u64 (le (s.data.toList.take k)) ∧ wr = w.drewN m) (fun _ i _ => s.size - (intOf i).toNat)
  case atStart => exact ⟨0, 0, Nat.zero_le _, rfl, rfl, rfl⟩
  case round =>
    obtain ⟨k, m, hk, rfl, rfl, rfl⟩ := hrel
    by_cases hlt : k < s.size
    · go_wp2
      go_roundw
      case rel =>
        refine ⟨k + 1, m, by omega, by go_num, ?_, rfl⟩
        have ht : s.data.toList.take (k + 1) = s.data.toList.take k ++ [s[k]] := by
          rw [List.take_succ_eq_append_getElem (by simpa using hlt)]; rfl
        have hl : (s.data.toList.take k).length = k := by rw [List.length_take]; simp; omega
        have hb := le_lt (s.data.toList.take k)
        rw [hl] at hb
        rw [ht, le_snoc, hl, or_step _ _ _ hb (by omega)]
      case measure => simp [intOf]; omega
    · obtain rfl : k = s.size := by omega
      go_wp2
      go_ret
      exact ⟨by rw [List.take_of_length_le (by simp)]; rfl, m, rfl⟩
end Go.Proofs.YteblegcojhcccaaDoor
