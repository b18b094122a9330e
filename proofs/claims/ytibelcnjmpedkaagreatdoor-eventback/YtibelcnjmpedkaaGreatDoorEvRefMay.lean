/-
  What may be an event, as the document's answer has it.
-/
import Derived.Test.YtibelcnjmpedkaaGreatDoorEvName
import Derived.Test.YtibelcnjmpedkaaGreatDoorEvBox
import Derived.Test.YtibelcnjmpedkaaGreatDoorScRef2
namespace Go.Proofs.YtibelcnjmpedkaaGreatDoor
open Go Go.RowKit Tok Sc Ev
theorem toList_nil {x : ByteArray} (h : x.toList = []) : x = ⟨#[]⟩ := by
  rw [ByteArray.toList_eq] at h
  exact bytes_eq h
/-- How long its texts are at most. -/
def Small (n : Nat) (f : Fam) : Prop := f.client.size ≤ n ∧ f.subject.size ≤ n ∧ f.scope.size ≤ n ∧ f.request.size ≤ n
theorem bool_f {b : Bool} {p : Prop} (hb : b = true ↔ p) (h : ¬ p) : b = false := Bool.eq_false_iff.2 (fun k => h (hb.1 k))
theorem may_2 {f : Fam} {i t : Int} : may ⟨2, f, i, t⟩ ↔ f = zeroF ∧ okN i ∧ t = 0 := by simp [Ev.may]
theorem may_3 {f : Fam} {i t : Int} : may ⟨3, f, i, t⟩ ↔ f = zeroF ∧ i = 0 ∧ okN t := by simp [Ev.may]
theorem may_1 {f : Fam} {i t : Int} : may ⟨1, f, i, t⟩ ↔ mayF f ∧ i = 0 ∧ t = 0 := by simp [Ev.may]
theorem may_no {f : Fam} {k i t : Int} (h1 : k ≠ 1) (h2 : k ≠ 2) (h3 : k ≠ 3) : ¬ may ⟨k, f, i, t⟩ := by simp [Ev.may, h1, h2, h3]
theorem in_ok (n : Int) (w : World) : Calls Tryz.prog 60 #[.int .i64 n, .int .i64 0, .int .i64 1099511627776] w fun e w' => e = .returned (.bool (okB n)) ∧ w' = w := in3_is n 0 1099511627776 w
set_option maxRecDepth 100000 in
set_option maxHeartbeats 4000000 in
theorem refMay_2 (f : Fam) (i t : Int) (b : Bool) (hb : b = true ↔ may ⟨2, f, i, t⟩) (w : World) : Calls Tryz.prog 53 #[evV ⟨2, f, i, t⟩] w fun e w' => e = .returned (.bool b) ∧ Below w.heap.size w w' := by
  rw [may_2] at hb
  by_cases hz : f = zeroF
  · subst hz
    by_cases ht : t = 0
    · subst ht
      have HB : Hid (b = okB i) := by
        show b = okB i
        rw [Bool.eq_iff_iff, okB_iff, hb]
        simp
      clear hb
      unfold evV evCs zeroF
      simp only
      go_enter Tryz.func53, Tryz.ntmps53
      go_wp2_with fail
      refine (in_ok i _).mono ?_
      rintro e w' ⟨rfl, rfl⟩
      go_wp2_with fail
      go_ret
      refine ⟨by rw [HB.out]; rfl, ?_⟩
      repeat (first | exact Below.refl _ _ | refine Below.alloc ?_ (by simp) _)
    · have HB : Hid (b = false) := bool_f hb (fun h => ht h.2.2)
      have ht' : (t == 0) = false := by rw [beq_eq_false_iff_ne]; exact ht
      clear hb
      unfold evV evCs zeroF
      simp only
      go_enter Tryz.func53, Tryz.ntmps53
      go_wp2_with fail
      go_ret
      refine ⟨by rw [HB.out]; rfl, ?_⟩
      repeat (first | exact Below.refl _ _ | refine Below.alloc ?_ (by simp) _)
  · have HB : Hid (b = false) := bool_f hb (fun h => hz h.1)
    have HZ : Hid (¬ f = zeroF) := hz
    clear hb hz
    obtain ⟨f1, f2, f3, f4, f5, f6, f7, f8, f9⟩ := f
    unfold evV evCs
    simp only
    go_enter Tryz.func53, Tryz.ntmps53
    go_wp2_with fail
    all_goals first
      | (exfalso; refine HZ.out ?_; unfold zeroF; simp_all [toList_nil]; done)
      | (go_ret; refine ⟨by rw [HB.out]; rfl, ?_⟩; repeat (first | exact Below.refl _ _ | refine Below.alloc ?_ (by simp) _))
end Go.Proofs.YtibelcnjmpedkaaGreatDoor
