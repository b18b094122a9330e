/-
  Where a family stands: a search among families by their numbers; a copy of them.
-/
import Derived.Test.YtibelcnjmpedkaaGreatDoorEvRow
import Derived.Test.YtibelcnjmpedkaaGreatDoorRowK2
import Derived.Test.YtibelcnjmpedkaaGreatDoorRows
import Derived.WalkKit
import Derived.WalkSpells
import Derived.WalkLawsBesides
import Derived.Deep.LoopGhost
import Derived.BigQuiet
import Derived.Lib.Overlaps
import Derived.Lib.SliceRun
import Derived.Laws.Externs
namespace Go.Proofs.YtibelcnjmpedkaaGreatDoor
open Go Go.RowKit Ev
def cmpI (a b : Int) : Int := if a < b then -1 else if b < a then 1 else 0
set_option maxHeartbeats 1000000 in
theorem isNaN_is (x : Int) (w : World) : Calls Tryz.prog 180 #[.int .i64 x] w fun e w' => e = .returned (.bool false) ∧ w' = w := by
  go_enter Tryz.func180, Tryz.ntmps180
  go_wp2_with fail
  go_ret
  exact ⟨by simp, rfl⟩
set_option maxHeartbeats 1000000 in
theorem compare_is (a b : Int) (w : World) : Calls Tryz.prog 147 #[.int .i64 a, .int .i64 b] w fun e w' => e = .returned (.int .i64 (cmpI a b)) ∧ w' = w := by
  by_cases h : a < b
  · have H : Hid (cmpI a b = -1) := if_pos h
    go_enter Tryz.func147, Tryz.ntmps147
    go_wp2_with (go_at_call 180; refine (isNaN_is _ _).mono ?_; rintro e w' ⟨rfl, rfl⟩)
    go_ret
    exact ⟨by rw [H.out]; rfl, rfl⟩
  · by_cases h2 : b < a
    · have H : Hid (cmpI a b = 1) := by show _ = _; unfold cmpI; rw [if_neg h, if_pos h2]
      go_enter Tryz.func147, Tryz.ntmps147
      go_wp2_with (go_at_call 180; refine (isNaN_is _ _).mono ?_; rintro e w' ⟨rfl, rfl⟩)
      go_ret
      exact ⟨by rw [H.out]; rfl, rfl⟩
    · have H : Hid (cmpI a b = 0) := by show _ = _; unfold cmpI; rw [if_neg h, if_neg h2]
      go_enter Tryz.func147, Tryz.ntmps147
      go_wp2_with (go_at_call 180; refine (isNaN_is _ _).mono ?_; rintro e w' ⟨rfl, rfl⟩)
      go_ret
      exact ⟨by rw [H.out]; rfl, rfl⟩
set_option maxHeartbeats 1000000 in
theorem byId_is (f : Fam) (n : Int) (w : World) : Calls Tryz.prog 146 #[famV f, .int .i64 n] w fun e w' => e = .returned (.int .i64 (cmpI f.id n)) ∧ Below w.heap.size w w' := by
  obtain ⟨f1, f2, f3, f4, f5, f6, f7, f8, f9⟩ := f
  unfold famV famCs
  simp only
  go_enter Tryz.func146, Tryz.ntmps146
  go_wp2_with fail
  refine (compare_is _ _ _).mono ?_
  rintro e w' ⟨rfl, rfl⟩
  go_wp2_with fail
  go_ret
  exact ⟨rfl, (Below.refl _ _).alloc (Nat.le_refl _) _⟩
end Go.Proofs.YtibelcnjmpedkaaGreatDoor
