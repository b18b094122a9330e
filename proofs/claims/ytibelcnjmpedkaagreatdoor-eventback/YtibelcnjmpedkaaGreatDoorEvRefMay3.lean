/-
  What may be an event, as the document's answer has it: the time, and other kinds.
-/
import Derived.Test.YtibelcnjmpedkaaGreatDoorEvRefMay
namespace Go.Proofs.YtibelcnjmpedkaaGreatDoor
open Go Go.RowKit Tok Sc Ev
set_option maxRecDepth 100000 in
set_option maxHeartbeats 4000000 in
theorem refMay_3 (f : Fam) (i t : Int) (b : Bool) (hb : b = true ↔ may ⟨3, f, i, t⟩) (w : World) : Calls Tryz.prog 53 #[evV ⟨3, f, i, t⟩] w fun e w' => e = .returned (.bool b) ∧ Below w.heap.size w w' := by
  rw [may_3] at hb
  by_cases hz : f = zeroF
  · subst hz
    by_cases ht : i = 0
    · subst ht
      have HB : Hid (b = okB t) := by
        show b = okB t
        rw [Bool.eq_iff_iff, okB_iff, hb]
        simp
      clear hb
      unfold evV evCs zeroF
      simp only
      go_enter Tryz.func53, Tryz.ntmps53
      go_wp2_with fail
      refine (in_ok t _).mono ?_
      rintro e w' ⟨rfl, rfl⟩
      go_wp2_with fail
      go_ret
      refine ⟨by rw [HB.out]; rfl, ?_⟩
      repeat (first | exact Below.refl _ _ | refine Below.alloc ?_ (by simp) _)
    · have HB : Hid (b = false) := bool_f hb (fun h => ht h.2.1)
      have ht' : (i == 0) = false := by rw [beq_eq_false_iff_ne]; exact ht
      clear hb
      unfold evV evCs zeroF
      simp only
      go_enter Tryz.func53, Tryz.ntmps53
      go_wp2_with fail
      go_ret
      refine ⟨by rw [HB.out]; rfl, ?_⟩
      repeat (first | exact Below.refl _ _ | refine Below.alloc ?_ (by simp) _)
  · have HB : Hid (b = false) := bool_f hb (fun h => hz h.1)
    have HZ : Hid (¬ f = zeroF) := hz
    clear hb hz
    obtain ⟨f1, f2, f3, f4, f5, f6, f7, f8, f9⟩ := f
    unfold evV evCs
    simp only
    go_enter Tryz.func53, Tryz.ntmps53
    go_wp2_with fail
    all_goals first
      | (exfalso; refine HZ.out ?_; unfold zeroF; simp_all [toList_nil]; done)
      | (go_ret; refine ⟨by rw [HB.out]; rfl, ?_⟩; repeat (first | exact Below.refl _ _ | refine Below.alloc ?_ (by simp) _))
set_option maxRecDepth 100000 in
set_option maxHeartbeats 4000000 in
theorem refMay_no (k : Int) (f : Fam) (i t : Int) (b : Bool) (hb : b = true ↔ may ⟨k, f, i, t⟩) (h1 : k ≠ 1) (h2 : k ≠ 2) (h3 : k ≠ 3) (w : World) : Calls Tryz.prog 53 #[evV ⟨k, f, i, t⟩] w fun e w' => e = .returned (.bool b) ∧ Below w.heap.size w w' := by
  have HB : Hid (b = false) := bool_f hb (may_no h1 h2 h3)
  clear hb
  obtain ⟨f1, f2, f3, f4, f5, f6, f7, f8, f9⟩ := f
  unfold evV evCs
  simp only
  go_enter Tryz.func53, Tryz.ntmps53
  go_wp2_with fail
  go_ret
  refine ⟨by rw [HB.out]; rfl, ?_⟩
  repeat (first | exact Below.refl _ _ | refine Below.alloc ?_ (by simp) _)
end Go.Proofs.YtibelcnjmpedkaaGreatDoor
