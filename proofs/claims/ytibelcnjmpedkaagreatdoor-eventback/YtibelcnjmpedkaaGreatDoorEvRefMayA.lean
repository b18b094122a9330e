/-
  What may be an event, as the document's answer has it: all kinds; what the law makes of an event.
-/
import Derived.Test.YtibelcnjmpedkaaGreatDoorEvRefMay1
import Derived.Test.YtibelcnjmpedkaaGreatDoorEvRefMay3
namespace Go.Proofs.YtibelcnjmpedkaaGreatDoor
open Go Go.RowKit Tok Sc Ev
theorem refMay_is (e : E) (b : Bool) (hb : b = true ↔ Ev.may e) (hs : Small 1000 e.fam) (w : World) : Calls Tryz.prog 53 #[evV e] w fun e w' => e = .returned (.bool b) ∧ Below w.heap.size w w' := by
  obtain ⟨k, f, i, t⟩ := e
  by_cases h1 : k = 1
  · subst h1; exact refMay_1 f i t b hb hs w
  by_cases h2 : k = 2
  · subst h2; exact refMay_2 f i t b hb w
  by_cases h3 : k = 3
  · subst h3; exact refMay_3 f i t b hb w
  exact refMay_no k f i t b hb h1 h2 h3 w
def lens (f : Fam) : Nat := f.client.size + f.subject.size + f.scope.size + f.request.size
set_option maxHeartbeats 2000000 in
theorem short_is (e : E) (w : World) (hs : lens e.fam ≤ 10000000000000000) : Calls Tryz.prog 13 #[evV e] w fun e' w' => e' = .returned (.bool (decide (lens e.fam ≤ 300))) ∧ Below w.heap.size w w' := by
  obtain ⟨k, ⟨f1, f2, f3, f4, f5, f6, f7, f8, f9⟩, i, t⟩ := e
  unfold lens at *
  simp only at hs
  have n1 : ¬ 9223372036854775807 < f2.size + f3.size := by omega
  have n2 : ¬ 9223372036854775807 < f2.size + f3.size + f4.size := by omega
  have n3 : ¬ 9223372036854775807 < f2.size + f3.size + f4.size + f8.size := by omega
  unfold evV evCs
  simp only
  have HB : Hid (Below w.heap.size w ((w.alloc (.cells #[.int .i64 k, .int .i64 f1, .string f2, .string f3, .string f4, .int .i64 f5, .int .i64 f6, .int .i64 f7, .string f8, .bool f9, .int .i64 i, .int .i64 t] 40)).alloc (.cells #[.int .i64 f1, .string f2, .string f3, .string f4, .int .i64 f5, .int .i64 f6, .int .i64 f7, .string f8, .bool f9] 38))) := by
    show Below _ _ _
    repeat (first | exact Below.refl _ _ | refine Below.alloc ?_ (by simp) _)
  go_enter Tryz.func13, Tryz.ntmps13
  go_wp2_with fail
  go_ret
  refine ⟨?_, HB.out⟩
  show Ending.returned (.bool (decide ((f2.size : Int) + f3.size + f4.size + f8.size ≤ 300))) = _
  refine congrArg Ending.returned (congrArg Value.bool ?_)
  rw [decide_eq_decide]
  omega
set_option maxHeartbeats 2000000 in
theorem happens_is (e : E) (w : World) : Calls Tryz.prog 15 #[evV e] w fun e' w' => e' = .returned (evV e) ∧ Below w.heap.size w w' := by
  obtain ⟨k, ⟨f1, f2, f3, f4, f5, f6, f7, f8, f9⟩, i, t⟩ := e
  unfold evV evCs
  simp only
  go_enter Tryz.func15, Tryz.ntmps15
  go_wp2_with fail
  refine bodyPost_ret (v := .agg #[.int .i64 k, .int .i64 f1, .string f2, .string f3, .string f4, .int .i64 f5, .int .i64 f6, .int .i64 f7, .string f8, .bool f9, .int .i64 i, .int .i64 t]) ?_ rfl ⟨rfl, ?_⟩
  · simp [results, Tryz.results15, go_sem]
  repeat (first | exact Below.refl _ _ | refine Below.alloc ?_ (by simp) _ | refine Below.setCell ?_ (by simp) _)
end Go.Proofs.YtibelcnjmpedkaaGreatDoor
