/-
  What may be an event, as the program has it: all kinds.
-/
import Derived.Test.YtibelcnjmpedkaaGreatDoorEvMayPut
namespace Go.Proofs.YtibelcnjmpedkaaGreatDoor
open Go Go.RowKit Tok Sc Ev
theorem bounds1 (i : Int) (w : World) (n : Nat) (ho : w.heap.size = n) : Calls Tryz.prog 99 #[.slice (some ⟨n, 0, none⟩) 1 1] (w.alloc (.cells #[.int .i64 i] 3)) fun e w' => e = .returned (.bool (okB i)) ∧ ∃ q, w' = (w.alloc (.cells #[.int .i64 i] 3)).drewN q := by
  have h := bounds_is [i] n 1 (w.alloc (.cells #[.int .i64 i] 3)) (by simp) (fun j hj => by
    match j, hj with
    | 0, _ => exact (World.cell?_alloc_at _ _ _ _ (by simp [ho])).trans rfl)
  simpa using h
set_option maxRecDepth 100000 in
set_option maxHeartbeats 4000000 in
theorem mayBe_1 (f : Fam) (i t : Int) (b : Bool) (hb : b = true ↔ Ev.may ⟨1, f, i, t⟩) (hs : Small 1000 f) (w : World) (hL : LenOk w) : Calls Tryz.prog 56 #[evV ⟨1, f, i, t⟩] w fun e w' => e = .returned (.bool b) ∧ Below w.heap.size w w' := by
  rw [may_1] at hb
  by_cases hi : i = 0
  · by_cases ht : t = 0
    · subst hi; subst ht
      have hb2 : b = true ↔ mayF f := by rw [hb]; simp
      have HM : ∀ W, LenOk W → Calls Tryz.prog 98 #[famV f] W fun e w' => e = .returned (.bool b) ∧ Below W.heap.size W w' := fun W h => mayBePut_is f b hb2 hs W h
      obtain ⟨f1, f2, f3, f4, f5, f6, f7, f8, f9⟩ := f
      unfold famV famCs at HM
      simp only at HM
      have HL : Hid (LenOk (w.alloc (.cells #[.int .i64 1, .int .i64 f1, .string f2, .string f3, .string f4, .int .i64 f5, .int .i64 f6, .int .i64 f7, .string f8, .bool f9, .int .i64 0, .int .i64 0] 40))) := hL.below ((Below.refl _ _).alloc (Nat.le_refl _) _)
      have HB0 : Hid (Below w.heap.size w (w.alloc (.cells #[.int .i64 1, .int .i64 f1, .string f2, .string f3, .string f4, .int .i64 f5, .int .i64 f6, .int .i64 f7, .string f8, .bool f9, .int .i64 0, .int .i64 0] 40))) := (Below.refl _ _).alloc (Nat.le_refl _) _
      clear hb hb2 hs hL
      unfold evV evCs
      simp only
      go_enter Tryz.func56, Tryz.ntmps56
      go_wp2_with fail
      refine (HM _ HL.out).mono ?_
      rintro e w' ⟨rfl, hbe⟩
      have HBE : Hid (Below w.heap.size w w') := HB0.out.trans (hbe.mono HB0.out.size)
      clear hbe
      go_wp2_with fail
      go_ret
      exact ⟨rfl, HBE.out⟩
    · have HQ : Hid (b = false) := bool_f hb (fun h => ht h.2.2)
      have ht' : (t == 0) = false := by rw [beq_eq_false_iff_ne]; exact ht
      subst hi
      obtain ⟨f1, f2, f3, f4, f5, f6, f7, f8, f9⟩ := f
      clear hb hs hL
      unfold evV evCs
      simp only
      go_enter Tryz.func56, Tryz.ntmps56
      go_wp2_with fail
      go_ret
      refine ⟨by rw [HQ.out]; rfl, ?_⟩
      repeat (first | exact Below.refl _ _ | refine Below.alloc ?_ (by simp) _)
  · have HQ : Hid (b = false) := bool_f hb (fun h => hi h.2.1)
    have hi' : (i == 0) = false := by rw [beq_eq_false_iff_ne]; exact hi
    obtain ⟨f1, f2, f3, f4, f5, f6, f7, f8, f9⟩ := f
    clear hb hs hL
    unfold evV evCs
    simp only
    go_enter Tryz.func56, Tryz.ntmps56
    go_wp2_with fail
    go_ret
    refine ⟨by rw [HQ.out]; rfl, ?_⟩
    repeat (first | exact Below.refl _ _ | refine Below.alloc ?_ (by simp) _)
set_option maxRecDepth 100000 in
set_option maxHeartbeats 4000000 in
theorem mayBe_2 (f : Fam) (i t : Int) (b : Bool) (hb : b = true ↔ Ev.may ⟨2, f, i, t⟩) (w : World) : Calls Tryz.prog 56 #[evV ⟨2, f, i, t⟩] w fun e w' => e = .returned (.bool b) ∧ Below w.heap.size w w' := by
  rw [may_2] at hb
  by_cases hz : f = zeroF ∧ t = 0
  · obtain ⟨rfl, rfl⟩ := hz
    have HB : Hid (b = okB i) := by
      show b = okB i
      rw [Bool.eq_iff_iff, okB_iff, hb]
      simp
    clear hb
    have h1 := fun (W : World) n ho => bounds1 i W n ho
    unfold evV evCs zeroF
    simp only
    go_enter Tryz.func56, Tryz.ntmps56
    go_wp2_with fail
    refine (h1 _ _ (by simp)).mono ?_
    rintro e w' ⟨rfl, q, rfl⟩
    go_wp2_with fail
    go_ret
    refine ⟨by rw [HB.out]; rfl, below_drewN' ?_ q⟩
    repeat (first | exact Below.refl _ _ | refine Below.alloc ?_ (by simp) _)
  · have HB : Hid (b = false) := bool_f hb (fun h => hz ⟨h.1, h.2.2⟩)
    have HZ : Hid (¬ (f = zeroF ∧ t = 0)) := hz
    clear hb hz
    obtain ⟨f1, f2, f3, f4, f5, f6, f7, f8, f9⟩ := f
    unfold evV evCs
    simp only
    go_enter Tryz.func56, Tryz.ntmps56
    go_wp2_with fail
    all_goals first
      | (exfalso; refine HZ.out ?_; unfold zeroF; simp_all [toList_nil]; done)
      | (go_ret; refine ⟨by rw [HB.out]; rfl, ?_⟩; repeat (first | exact Below.refl _ _ | refine Below.alloc ?_ (by simp) _))
set_option maxRecDepth 100000 in
set_option maxHeartbeats 4000000 in
theorem mayBe_3 (f : Fam) (i t : Int) (b : Bool) (hb : b = true ↔ Ev.may ⟨3, f, i, t⟩) (w : World) : Calls Tryz.prog 56 #[evV ⟨3, f, i, t⟩] w fun e w' => e = .returned (.bool b) ∧ Below w.heap.size w w' := by
  rw [may_3] at hb
  by_cases hz : f = zeroF ∧ i = 0
  · obtain ⟨rfl, rfl⟩ := hz
    have HB : Hid (b = okB t) := by
      show b = okB t
      rw [Bool.eq_iff_iff, okB_iff, hb]
      simp
    clear hb
    have h1 := fun (W : World) n ho => bounds1 t W n ho
    unfold evV evCs zeroF
    simp only
    go_enter Tryz.func56, Tryz.ntmps56
    go_wp2_with fail
    refine (h1 _ _ (by simp)).mono ?_
    rintro e w' ⟨rfl, q, rfl⟩
    go_wp2_with fail
    go_ret
    refine ⟨by rw [HB.out]; rfl, below_drewN' ?_ q⟩
    repeat (first | exact Below.refl _ _ | refine Below.alloc ?_ (by simp) _)
  · have HB : Hid (b = false) := bool_f hb (fun h => hz ⟨h.1, h.2.1⟩)
    have HZ : Hid (¬ (f = zeroF ∧ i = 0)) := hz
    clear hb hz
    obtain ⟨f1, f2, f3, f4, f5, f6, f7, f8, f9⟩ := f
    unfold evV evCs
    simp only
    go_enter Tryz.func56, Tryz.ntmps56
    go_wp2_with fail
    all_goals first
      | (exfalso; refine HZ.out ?_; unfold zeroF; simp_all [toList_nil]; done)
      | (go_ret; refine ⟨by rw [HB.out]; rfl, ?_⟩; repeat (first | exact Below.refl _ _ | refine Below.alloc ?_ (by simp) _))
set_option maxRecDepth 100000 in
set_option maxHeartbeats 4000000 in
theorem mayBe_no (k : Int) (f : Fam) (i t : Int) (b : Bool) (hb : b = true ↔ Ev.may ⟨k, f, i, t⟩) (h1 : k ≠ 1) (h2 : k ≠ 2) (h3 : k ≠ 3) (w : World) : Calls Tryz.prog 56 #[evV ⟨k, f, i, t⟩] w fun e w' => e = .returned (.bool b) ∧ Below w.heap.size w w' := by
  have HB : Hid (b = false) := bool_f hb (may_no h1 h2 h3)
  clear hb
  obtain ⟨f1, f2, f3, f4, f5, f6, f7, f8, f9⟩ := f
  unfold evV evCs
  simp only
  go_enter Tryz.func56, Tryz.ntmps56
  go_wp2_with fail
  go_ret
  refine ⟨by rw [HB.out]; rfl, ?_⟩
  repeat (first | exact Below.refl _ _ | refine Below.alloc ?_ (by simp) _)
theorem mayBeE_is (e : E) (b : Bool) (hb : b = true ↔ Ev.may e) (hs : Small 1000 e.fam) (w : World) (hL : LenOk w) : Calls Tryz.prog 56 #[evV e] w fun e w' => e = .returned (.bool b) ∧ Below w.heap.size w w' := by
  obtain ⟨k, f, i, t⟩ := e
  by_cases h1 : k = 1
  · subst h1; exact mayBe_1 f i t b hb hs w hL
  by_cases h2 : k = 2
  · subst h2; exact mayBe_2 f i t b hb w
  by_cases h3 : k = 3
  · subst h3; exact mayBe_3 f i t b hb w
  exact mayBe_no k f i t b hb h1 h2 h3 w
end Go.Proofs.YtibelcnjmpedkaaGreatDoor
