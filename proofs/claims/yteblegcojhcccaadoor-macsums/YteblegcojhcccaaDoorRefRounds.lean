import Derived.Test.YteblegcojhcccaaDoorMacRounds
namespace Go.Proofs.YteblegcojhcccaaDoor
open Go.RowKit Sip
def St.val (s : St) : Value := .agg #[.int .u64 s.a, .int .u64 s.b, .int .u64 s.c, .int .u64 s.d]
theorem refTurn13 (x : Int) (w : World) : Calls Tryd.prog 34 #[.int .u64 x, .int .i64 13] w fun e w' => e = .returned (.int .u64 (rl x 13)) ∧ ∃ n, w' = w.drewN n := turn_any x 13 w (by decide) (by decide)
theorem refTurn16 (x : Int) (w : World) : Calls Tryd.prog 34 #[.int .u64 x, .int .i64 16] w fun e w' => e = .returned (.int .u64 (rl x 16)) ∧ ∃ n, w' = w.drewN n := turn_any x 16 w (by decide) (by decide)
theorem refTurn17 (x : Int) (w : World) : Calls Tryd.prog 34 #[.int .u64 x, .int .i64 17] w fun e w' => e = .returned (.int .u64 (rl x 17)) ∧ ∃ n, w' = w.drewN n := turn_any x 17 w (by decide) (by decide)
theorem refTurn21 (x : Int) (w : World) : Calls Tryd.prog 34 #[.int .u64 x, .int .i64 21] w fun e w' => e = .returned (.int .u64 (rl x 21)) ∧ ∃ n, w' = w.drewN n := turn_any x 21 w (by decide) (by decide)
theorem refTurn32 (x : Int) (w : World) : Calls Tryd.prog 34 #[.int .u64 x, .int .i64 32] w fun e w' => e = .returned (.int .u64 (rl x 32)) ∧ ∃ n, w' = w.drewN n := turn_any x 32 w (by decide) (by decide)

set_option maxRecDepth 100000 in
set_option maxHeartbeats 2000000 in
theorem refRounds_any (s : St) (n : Nat) (w : World) (hn : n < 100) :
    Calls Tryd.prog 31 #[.agg #[.int .u64 s.a, .int .u64 s.b, .int .u64 s.c, .int .u64 s.d], .int .i64 n] w fun e w' => e = .returned (.agg #[.int .u64 (rnds n s).a, .int .u64 (rnds n s).b, .int .u64 (rnds n s).c, .int .u64 (rnds n s).d]) ∧ Below w.heap.size w w' := by
  go_enter Tryd.func31, Tryd.ntmps31
  go_wp2
  go_quiet (fail)
  go_wp2
  generalize hW : (w.alloc (.cells #[.int .u64 s.a, .int .u64 s.b, .int .u64 s.c, .int .u64 s.d] 69)).alloc (.cells #[.int .u64 0, .int .u64 0, .int .u64 0, .int .u64 0] 69) = W
  have HW : Hid (_ = W) := hW
  clear hW
  go_loopw [5, 6, 7, 8, 18] (fun a b c d i wr => ∃ k m : Nat, k ≤ n ∧ i = .int .i64 k ∧ a = .int .u64 (rnds k s).a ∧ b = .int .u64 (rnds k s).b ∧ c = .int .u64 (rnds k s).c ∧ d = .int .u64 (rnds k s).d ∧ wr = W.drewN m) (fun _ _ _ _ i _ => n - (intOf i).toNat)
  case atStart => exact ⟨0, nq, Nat.zero_le _, rfl, rfl, rfl, rfl, rfl, rfl⟩
  case round =>
    obtain ⟨k, m, hk, rfl, rfl, rfl, rfl, rfl, rfl⟩ := hrel
    have HR : Hid (rnd (rnds k s) = rnds (k + 1) s) := rfl
    generalize hq : rnds k s = q at *
    have HQ : Hid (rnds k s = q) := hq
    clear hq
    obtain ⟨a, b, c, d⟩ := q
    dsimp only
    by_cases hlt : k < n
    · go_wp2_with fail
      refine (refTurn13 _ _).mono ?_
      rintro e w' ⟨rfl, n1, rfl⟩
      go_wp2_with fail
      refine (refTurn32 _ _).mono ?_
      rintro e w' ⟨rfl, n2, rfl⟩
      go_wp2_with fail
      refine (refTurn16 _ _).mono ?_
      rintro e w' ⟨rfl, n3, rfl⟩
      go_wp2_with fail
      refine (refTurn21 _ _).mono ?_
      rintro e w' ⟨rfl, n4, rfl⟩
      go_wp2_with fail
      refine (refTurn17 _ _).mono ?_
      rintro e w' ⟨rfl, n5, rfl⟩
      go_wp2_with fail
      refine (refTurn32 _ _).mono ?_
      rintro e w' ⟨rfl, n6, rfl⟩
      go_wp2_with fail
      go_roundw
      case rel => exact ⟨k + 1, _, by omega, by go_num, by rw [← HR.out]; rfl, by rw [← HR.out]; rfl, by rw [← HR.out]; rfl, by rw [← HR.out]; rfl, rfl⟩
      case measure => simp [intOf]; omega
    · obtain rfl : k = n := by omega
      subst HW
      go_wp2
      refine bodyPost_ret (v := .agg #[.int .u64 a, .int .u64 b, .int .u64 c, .int .u64 d]) ?_ rfl ⟨?_, ?_⟩
      · simp [results, Tryd.results31, go_sem]
      · rw [HQ.out]
      · repeat (first | exact Below.refl _ _ | refine Below.setCell ?_ (by simp) _ | refine below_drewN ?_ _ | refine Below.alloc ?_ (by simp) _)
end Go.Proofs.YteblegcojhcccaaDoor
