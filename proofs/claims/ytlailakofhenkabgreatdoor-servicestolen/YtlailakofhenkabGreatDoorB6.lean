/-
  Own texts put together: EvMayPut, EvMayBe, EvWords, EvWrite, EvRead.
-/
import Derived.Test.YtlailakofhenkabGreatDoorB5
import Derived.Test.YtlailakofhenkabGreatDoorB4
import Derived.Test.YtlailakofhenkabGreatDoorB1
namespace Go.Proofs.YtlailakofhenkabGreatDoor
open Go Go.RowKit Tok Sc Ev
set_option maxRecDepth 100000 in
set_option maxHeartbeats 8000000 in
theorem mayBePut_is (f : Fam) (b : Bool) (hb : b = true ↔ mayF f) (hs : Small 5000 f) (w : World) (hL : LenOk w) : Calls Tryz.prog 184 #[famV f] w fun e w' => e = .returned (.bool b) ∧ Below w.heap.size w w' := by
  obtain ⟨f1, f2, f3, f4, f5, f6, f7, f8, f9⟩ := f
  unfold Small at hs
  unfold mayF at hb
  simp only at hs hb
  obtain ⟨s2, s3, s4, s8⟩ := hs
  have HBD : Hid (Below w.heap.size w ((w.alloc (.cells #[.int .i64 f1, .string f2, .string f3, .string f4, .int .i64 f5, .int .i64 f6, .int .i64 f7, .string f8, .bool f9] 40)).alloc (.cells #[.int .i64 f1, .int .i64 f5, .int .i64 f6, .int .i64 f7] 3))) := by
    show Below _ _ _
    repeat (first | exact Below.refl _ _ | refine Below.alloc ?_ (by simp; try omega) _)
  have HB : Hid (b = true ↔ (okN f1 ∧ okN f5 ∧ okN f6 ∧ okN f7) ∧ nameB f2.data.toList = true ∧ nameB f3.data.toList = true ∧ (f8.data.toList = [] ∨ nameB f8.data.toList = true) ∧ Lst f4.data.toList) := hb
  have HL : Hid (LenOk ((w.alloc (.cells #[.int .i64 f1, .string f2, .string f3, .string f4, .int .i64 f5, .int .i64 f6, .int .i64 f7, .string f8, .bool f9] 40)).alloc (.cells #[.int .i64 f1, .int .i64 f5, .int .i64 f6, .int .i64 f7] 3))) := hL.below HBD.out
  clear hb hL
  have hbo : Calls Tryz.prog 185 #[.slice (some ⟨w.heap.size + 1, 0, none⟩) 4 4] ((w.alloc (.cells #[.int .i64 f1, .string f2, .string f3, .string f4, .int .i64 f5, .int .i64 f6, .int .i64 f7, .string f8, .bool f9] 40)).alloc (.cells #[.int .i64 f1, .int .i64 f5, .int .i64 f6, .int .i64 f7] 3)) fun e w' => e = .returned (.bool ([f1, f5, f6, f7].all okB)) ∧ ∃ q, w' = ((w.alloc (.cells #[.int .i64 f1, .string f2, .string f3, .string f4, .int .i64 f5, .int .i64 f6, .int .i64 f7, .string f8, .bool f9] 40)).alloc (.cells #[.int .i64 f1, .int .i64 f5, .int .i64 f6, .int .i64 f7] 3)).drewN q :=
    bounds_is [f1, f5, f6, f7] (w.heap.size + 1) 4 ((w.alloc (.cells #[.int .i64 f1, .string f2, .string f3, .string f4, .int .i64 f5, .int .i64 f6, .int .i64 f7, .string f8, .bool f9] 40)).alloc (.cells #[.int .i64 f1, .int .i64 f5, .int .i64 f6, .int .i64 f7] 3)) (by simp) (fun j hj => by
      match j, hj with
      | 0, _ => exact (World.cell?_alloc_at _ _ _ _ (by simp)).trans rfl
      | 1, _ => exact (World.cell?_alloc_at _ _ _ _ (by simp)).trans rfl
      | 2, _ => exact (World.cell?_alloc_at _ _ _ _ (by simp)).trans rfl
      | 3, _ => exact (World.cell?_alloc_at _ _ _ _ (by simp)).trans rfl)
  have m1 : ((w.alloc (.cells #[.int .i64 f1, .string f2, .string f3, .string f4, .int .i64 f5, .int .i64 f6, .int .i64 f7, .string f8, .bool f9] 40)).alloc (.cells #[.int .i64 f1, .int .i64 f5, .int .i64 f6, .int .i64 f7] 3)).cell? ⟨w.heap.size, 1, none⟩ = some (.string f2) := Lib.cell?_alloc_some _ ((World.cell?_alloc_at _ _ _ _ (by simp)).trans rfl)
  have m2 : ((w.alloc (.cells #[.int .i64 f1, .string f2, .string f3, .string f4, .int .i64 f5, .int .i64 f6, .int .i64 f7, .string f8, .bool f9] 40)).alloc (.cells #[.int .i64 f1, .int .i64 f5, .int .i64 f6, .int .i64 f7] 3)).cell? ⟨w.heap.size, 2, none⟩ = some (.string f3) := Lib.cell?_alloc_some _ ((World.cell?_alloc_at _ _ _ _ (by simp)).trans rfl)
  have m3 : ((w.alloc (.cells #[.int .i64 f1, .string f2, .string f3, .string f4, .int .i64 f5, .int .i64 f6, .int .i64 f7, .string f8, .bool f9] 40)).alloc (.cells #[.int .i64 f1, .int .i64 f5, .int .i64 f6, .int .i64 f7] 3)).cell? ⟨w.heap.size, 3, none⟩ = some (.string f4) := Lib.cell?_alloc_some _ ((World.cell?_alloc_at _ _ _ _ (by simp)).trans rfl)
  have m7 : ((w.alloc (.cells #[.int .i64 f1, .string f2, .string f3, .string f4, .int .i64 f5, .int .i64 f6, .int .i64 f7, .string f8, .bool f9] 40)).alloc (.cells #[.int .i64 f1, .int .i64 f5, .int .i64 f6, .int .i64 f7] 3)).cell? ⟨w.heap.size, 7, none⟩ = some (.string f8) := Lib.cell?_alloc_some _ ((World.cell?_alloc_at _ _ _ _ (by simp)).trans rfl)
  unfold famV famCs
  simp only
  cases hbb : [f1, f5, f6, f7].all okB with
  | false =>
    have HQ : Hid (b = false) := bool_f HB.out (fun h => by
      obtain ⟨⟨h1, h5, h6, h7⟩, _⟩ := h
      simp [okB_t h1, okB_t h5, okB_t h6, okB_t h7] at hbb)
    rw [hbb] at hbo
    clear hbb HB
    go_enter Tryz.func184, Tryz.ntmps184
    go_wp2_with fail
    refine hbo.mono ?_
    rintro e w' ⟨rfl, q, rfl⟩
    have HBQ : Hid (Below w.heap.size w (((w.alloc (.cells #[.int .i64 f1, .string f2, .string f3, .string f4, .int .i64 f5, .int .i64 f6, .int .i64 f7, .string f8, .bool f9] 40)).alloc (.cells #[.int .i64 f1, .int .i64 f5, .int .i64 f6, .int .i64 f7] 3)).drewN q)) := below_drewN' HBD.out q
    generalize ((w.alloc (.cells #[.int .i64 f1, .string f2, .string f3, .string f4, .int .i64 f5, .int .i64 f6, .int .i64 f7, .string f8, .bool f9] 40)).alloc (.cells #[.int .i64 f1, .int .i64 f5, .int .i64 f6, .int .i64 f7] 3)) = W at *
    go_wp2_with fail
    go_ret
    exact ⟨by rw [HQ.out]; rfl, HBQ.out⟩
  | true =>
    have HOK : Hid (okN f1 ∧ okN f5 ∧ okN f6 ∧ okN f7) := by show _ ∧ _; simpa [okB_iff] using hbb
    rw [hbb] at hbo
    clear hbb
    go_enter Tryz.func184, Tryz.ntmps184
    go_wp2_with fail
    refine hbo.mono ?_
    rintro e w' ⟨rfl, q, rfl⟩
    have HBQ : Hid (Below w.heap.size w (((w.alloc (.cells #[.int .i64 f1, .string f2, .string f3, .string f4, .int .i64 f5, .int .i64 f6, .int .i64 f7, .string f8, .bool f9] 40)).alloc (.cells #[.int .i64 f1, .int .i64 f5, .int .i64 f6, .int .i64 f7] 3)).drewN q)) := below_drewN' HBD.out q
    have HLQ : Hid (LenOk (((w.alloc (.cells #[.int .i64 f1, .string f2, .string f3, .string f4, .int .i64 f5, .int .i64 f6, .int .i64 f7, .string f8, .bool f9] 40)).alloc (.cells #[.int .i64 f1, .int .i64 f5, .int .i64 f6, .int .i64 f7] 3)).drewN q)) := HL.out.below (below_drewN' (Below.refl _ _) q)
    clear hbo HL
    generalize ((w.alloc (.cells #[.int .i64 f1, .string f2, .string f3, .string f4, .int .i64 f5, .int .i64 f6, .int .i64 f7, .string f8, .bool f9] 40)).alloc (.cells #[.int .i64 f1, .int .i64 f5, .int .i64 f6, .int .i64 f7] 3)) = W at *
    cases h2 : nameB f2.data.toList with
    | false =>
      have HQ : Hid (b = false) := bool_f HB.out (fun h => by have := h.2.1; rw [h2] at this; cases this)
      have HC2 : Hid (nameB f2.data.toList = false) := h2
      clear h2 HB HOK
      go_wp2_with fail
      refine (name_is f2 _ (by omega)).mono ?_
      rintro e w' ⟨rfl, rfl⟩
      rw [HC2.out]
      go_wp2_with fail
      go_ret
      exact ⟨by rw [HQ.out]; rfl, HBQ.out⟩
    | true =>
      have HC2 : Hid (nameB f2.data.toList = true) := h2
      cases h3 : nameB f3.data.toList with
      | false =>
        have HQ : Hid (b = false) := bool_f HB.out (fun h => by have := h.2.2.1; rw [h3] at this; cases this)
        have HC3 : Hid (nameB f3.data.toList = false) := h3
        clear h2 h3 HB HOK
        go_wp2_with fail
        refine (name_is f2 _ (by omega)).mono ?_
        rintro e w' ⟨rfl, rfl⟩
        rw [HC2.out]
        go_wp2_with fail
        refine (name_is f3 _ (by omega)).mono ?_
        rintro e w' ⟨rfl, rfl⟩
        rw [HC3.out]
        go_wp2_with fail
        go_ret
        exact ⟨by rw [HQ.out]; rfl, HBQ.out⟩
      | true =>
        have HC3 : Hid (nameB f3.data.toList = true) := h3
        have HR : Hid (b = true ↔ (f8.data.toList = [] ∨ nameB f8.data.toList = true) ∧ Lst f4.data.toList) := by
          show b = true ↔ _
          rw [HB.out, h2, h3]
          have := HOK.out
          simp [this]
        clear HB HOK h2 h3
        by_cases h8 : f8.data.toList = []
        · have he : f8.toList.isEmpty = true := by rw [ByteArray.toList_eq, h8]; rfl
          have HR2 : Hid (b = true ↔ Lst f4.data.toList) := by
            show b = true ↔ _
            rw [HR.out]
            simp [h8]
          clear HR h8
          go_wp2_with fail
          refine (name_is f2 _ (by omega)).mono ?_
          rintro e w' ⟨rfl, rfl⟩
          rw [HC2.out]
          go_wp2_with fail
          refine (name_is f3 _ (by omega)).mono ?_
          rintro e w' ⟨rfl, rfl⟩
          rw [HC3.out]
          go_wp2_with fail
          refine (isLeast_is f4 b HR2.out _ s4 HLQ.out).mono ?_
          rintro e w' ⟨rfl, hbe⟩
          have HBE : Hid (Below w.heap.size w w') := HBQ.out.trans (hbe.mono HBQ.out.size)
          clear hbe
          go_wp2_with fail
          go_ret
          exact ⟨rfl, HBE.out⟩
        · have he : f8.toList.isEmpty = false := by rw [ByteArray.toList_eq, List.isEmpty_eq_false_iff]; exact h8
          cases hn8 : nameB f8.data.toList with
          | true =>
            have HC8 : Hid (nameB f8.data.toList = true) := hn8
            have HR2 : Hid (b = true ↔ Lst f4.data.toList) := by
              show b = true ↔ _
              rw [HR.out]
              simp [hn8]
            clear HR h8 hn8
            go_wp2_with fail
            refine (name_is f2 _ (by omega)).mono ?_
            rintro e w' ⟨rfl, rfl⟩
            rw [HC2.out]
            go_wp2_with fail
            refine (name_is f3 _ (by omega)).mono ?_
            rintro e w' ⟨rfl, rfl⟩
            rw [HC3.out]
            go_wp2_with fail
            refine (name_is f8 _ (by omega)).mono ?_
            rintro e w' ⟨rfl, rfl⟩
            rw [HC8.out]
            go_wp2_with fail
            refine (isLeast_is f4 b HR2.out _ s4 HLQ.out).mono ?_
            rintro e w' ⟨rfl, hbe⟩
            have HBE : Hid (Below w.heap.size w w') := HBQ.out.trans (hbe.mono HBQ.out.size)
            clear hbe
            go_wp2_with fail
            go_ret
            exact ⟨rfl, HBE.out⟩
          | false =>
            have HC8 : Hid (nameB f8.data.toList = false) := hn8
            have HQ : Hid (b = false) := bool_f HR.out (fun h => by
              rcases h.1 with h | h
              · exact h8 h
              · rw [hn8] at h; cases h)
            clear HR h8 hn8
            go_wp2_with fail
            refine (name_is f2 _ (by omega)).mono ?_
            rintro e w' ⟨rfl, rfl⟩
            rw [HC2.out]
            go_wp2_with fail
            refine (name_is f3 _ (by omega)).mono ?_
            rintro e w' ⟨rfl, rfl⟩
            rw [HC3.out]
            go_wp2_with fail
            refine (name_is f8 _ (by omega)).mono ?_
            rintro e w' ⟨rfl, rfl⟩
            rw [HC8.out]
            go_wp2_with fail
            go_ret
            exact ⟨by rw [HQ.out]; rfl, HBQ.out⟩
end Go.Proofs.YtlailakofhenkabGreatDoor

namespace Go.Proofs.YtlailakofhenkabGreatDoor
open Go Go.RowKit Tok Sc Ev
theorem bounds1 (i : Int) (w : World) (n : Nat) (ho : w.heap.size = n) : Calls Tryz.prog 185 #[.slice (some ⟨n, 0, none⟩) 1 1] (w.alloc (.cells #[.int .i64 i] 3)) fun e w' => e = .returned (.bool (okB i)) ∧ ∃ q, w' = (w.alloc (.cells #[.int .i64 i] 3)).drewN q := by
  have h := bounds_is [i] n 1 (w.alloc (.cells #[.int .i64 i] 3)) (by simp) (fun j hj => by
    match j, hj with
    | 0, _ => exact (World.cell?_alloc_at _ _ _ _ (by simp [ho])).trans rfl)
  simpa using h
set_option maxRecDepth 100000 in
set_option maxHeartbeats 4000000 in
theorem mayBe_1 (f : Fam) (i t : Int) (b : Bool) (hb : b = true ↔ Ev.may ⟨1, f, i, t⟩) (hs : Small 5000 f) (w : World) (hL : LenOk w) : Calls Tryz.prog 113 #[evV ⟨1, f, i, t⟩] w fun e w' => e = .returned (.bool b) ∧ Below w.heap.size w w' := by
  rw [may_1] at hb
  by_cases hi : i = 0
  · by_cases ht : t = 0
    · subst hi; subst ht
      have hb2 : b = true ↔ mayF f := by rw [hb]; simp
      have HM : ∀ W, LenOk W → Calls Tryz.prog 184 #[famV f] W fun e w' => e = .returned (.bool b) ∧ Below W.heap.size W w' := fun W h => mayBePut_is f b hb2 hs W h
      obtain ⟨f1, f2, f3, f4, f5, f6, f7, f8, f9⟩ := f
      unfold famV famCs at HM
      simp only at HM
      have HL : Hid (LenOk (w.alloc (.cells #[.int .i64 1, .int .i64 f1, .string f2, .string f3, .string f4, .int .i64 f5, .int .i64 f6, .int .i64 f7, .string f8, .bool f9, .int .i64 0, .int .i64 0] 42))) := hL.below ((Below.refl _ _).alloc (Nat.le_refl _) _)
      have HB0 : Hid (Below w.heap.size w (w.alloc (.cells #[.int .i64 1, .int .i64 f1, .string f2, .string f3, .string f4, .int .i64 f5, .int .i64 f6, .int .i64 f7, .string f8, .bool f9, .int .i64 0, .int .i64 0] 42))) := (Below.refl _ _).alloc (Nat.le_refl _) _
      clear hb hb2 hs hL
      unfold evV evCs
      simp only
      go_enter Tryz.func113, Tryz.ntmps113
      go_wp2_with fail
      refine (HM _ HL.out).mono ?_
      rintro e w' ⟨rfl, hbe⟩
      have HBE : Hid (Below w.heap.size w w') := HB0.out.trans (hbe.mono HB0.out.size)
      clear hbe
      go_wp2_with fail
      go_ret
      exact ⟨rfl, HBE.out⟩
    · have HQ : Hid (b = false) := bool_f hb (fun h => ht h.2.2)
      have ht' : (t == 0) = false := by rw [beq_eq_false_iff_ne]; exact ht
      subst hi
      obtain ⟨f1, f2, f3, f4, f5, f6, f7, f8, f9⟩ := f
      clear hb hs hL
      unfold evV evCs
      simp only
      go_enter Tryz.func113, Tryz.ntmps113
      go_wp2_with fail
      go_ret
      refine ⟨by rw [HQ.out]; rfl, ?_⟩
      repeat (first | exact Below.refl _ _ | refine Below.alloc ?_ (by simp) _)
  · have HQ : Hid (b = false) := bool_f hb (fun h => hi h.2.1)
    have hi' : (i == 0) = false := by rw [beq_eq_false_iff_ne]; exact hi
    obtain ⟨f1, f2, f3, f4, f5, f6, f7, f8, f9⟩ := f
    clear hb hs hL
    unfold evV evCs
    simp only
    go_enter Tryz.func113, Tryz.ntmps113
    go_wp2_with fail
    go_ret
    refine ⟨by rw [HQ.out]; rfl, ?_⟩
    repeat (first | exact Below.refl _ _ | refine Below.alloc ?_ (by simp) _)
set_option maxRecDepth 100000 in
set_option maxHeartbeats 4000000 in
theorem mayBe_2 (f : Fam) (i t : Int) (b : Bool) (hb : b = true ↔ Ev.may ⟨2, f, i, t⟩) (w : World) : Calls Tryz.prog 113 #[evV ⟨2, f, i, t⟩] w fun e w' => e = .returned (.bool b) ∧ Below w.heap.size w w' := by
  rw [may_2] at hb
  by_cases hz : f = zeroF ∧ t = 0
  · obtain ⟨rfl, rfl⟩ := hz
    have HB : Hid (b = okB i) := by
      show b = okB i
      rw [Bool.eq_iff_iff, okB_iff, hb]
      simp
    clear hb
    have h1 := fun (W : World) n ho => bounds1 i W n ho
    unfold evV evCs zeroF
    simp only
    go_enter Tryz.func113, Tryz.ntmps113
    go_wp2_with fail
    refine (h1 _ _ (by simp)).mono ?_
    rintro e w' ⟨rfl, q, rfl⟩
    go_wp2_with fail
    go_ret
    refine ⟨by rw [HB.out]; rfl, below_drewN' ?_ q⟩
    repeat (first | exact Below.refl _ _ | refine Below.alloc ?_ (by simp) _)
  · have HB : Hid (b = false) := bool_f hb (fun h => hz ⟨h.1, h.2.2⟩)
    have HZ : Hid (¬ (f = zeroF ∧ t = 0)) := hz
    clear hb hz
    obtain ⟨f1, f2, f3, f4, f5, f6, f7, f8, f9⟩ := f
    unfold evV evCs
    simp only
    go_enter Tryz.func113, Tryz.ntmps113
    go_wp2_with fail
    all_goals first
      | (exfalso; refine HZ.out ?_; unfold zeroF; simp_all [toList_nil]; done)
      | (go_ret; refine ⟨by rw [HB.out]; rfl, ?_⟩; repeat (first | exact Below.refl _ _ | refine Below.alloc ?_ (by simp) _))
set_option maxRecDepth 100000 in
set_option maxHeartbeats 4000000 in
theorem mayBe_3 (f : Fam) (i t : Int) (b : Bool) (hb : b = true ↔ Ev.may ⟨3, f, i, t⟩) (w : World) : Calls Tryz.prog 113 #[evV ⟨3, f, i, t⟩] w fun e w' => e = .returned (.bool b) ∧ Below w.heap.size w w' := by
  rw [may_3] at hb
  by_cases hz : f = zeroF ∧ i = 0
  · obtain ⟨rfl, rfl⟩ := hz
    have HB : Hid (b = okB t) := by
      show b = okB t
      rw [Bool.eq_iff_iff, okB_iff, hb]
      simp
    clear hb
    have h1 := fun (W : World) n ho => bounds1 t W n ho
    unfold evV evCs zeroF
    simp only
    go_enter Tryz.func113, Tryz.ntmps113
    go_wp2_with fail
    refine (h1 _ _ (by simp)).mono ?_
    rintro e w' ⟨rfl, q, rfl⟩
    go_wp2_with fail
    go_ret
    refine ⟨by rw [HB.out]; rfl, below_drewN' ?_ q⟩
    repeat (first | exact Below.refl _ _ | refine Below.alloc ?_ (by simp) _)
  · have HB : Hid (b = false) := bool_f hb (fun h => hz ⟨h.1, h.2.1⟩)
    have HZ : Hid (¬ (f = zeroF ∧ i = 0)) := hz
    clear hb hz
    obtain ⟨f1, f2, f3, f4, f5, f6, f7, f8, f9⟩ := f
    unfold evV evCs
    simp only
    go_enter Tryz.func113, Tryz.ntmps113
    go_wp2_with fail
    all_goals first
      | (exfalso; refine HZ.out ?_; unfold zeroF; simp_all [toList_nil]; done)
      | (go_ret; refine ⟨by rw [HB.out]; rfl, ?_⟩; repeat (first | exact Below.refl _ _ | refine Below.alloc ?_ (by simp) _))
set_option maxRecDepth 100000 in
set_option maxHeartbeats 4000000 in
theorem mayBe_no (k : Int) (f : Fam) (i t : Int) (b : Bool) (hb : b = true ↔ Ev.may ⟨k, f, i, t⟩) (h1 : k ≠ 1) (h2 : k ≠ 2) (h3 : k ≠ 3) (w : World) : Calls Tryz.prog 113 #[evV ⟨k, f, i, t⟩] w fun e w' => e = .returned (.bool b) ∧ Below w.heap.size w w' := by
  have HB : Hid (b = false) := bool_f hb (may_no h1 h2 h3)
  clear hb
  obtain ⟨f1, f2, f3, f4, f5, f6, f7, f8, f9⟩ := f
  unfold evV evCs
  simp only
  go_enter Tryz.func113, Tryz.ntmps113
  go_wp2_with fail
  go_ret
  refine ⟨by rw [HB.out]; rfl, ?_⟩
  repeat (first | exact Below.refl _ _ | refine Below.alloc ?_ (by simp) _)
theorem mayBeE_is (e : E) (b : Bool) (hb : b = true ↔ Ev.may e) (hs : Small 5000 e.fam) (w : World) (hL : LenOk w) : Calls Tryz.prog 113 #[evV e] w fun e w' => e = .returned (.bool b) ∧ Below w.heap.size w w' := by
  obtain ⟨k, f, i, t⟩ := e
  by_cases h1 : k = 1
  · subst h1; exact mayBe_1 f i t b hb hs w hL
  by_cases h2 : k = 2
  · subst h2; exact mayBe_2 f i t b hb w
  by_cases h3 : k = 3
  · subst h3; exact mayBe_3 f i t b hb w
  exact mayBe_no k f i t b hb h1 h2 h3 w
end Go.Proofs.YtlailakofhenkabGreatDoor

namespace Go.Proofs.YtlailakofhenkabGreatDoor
open Go Go.RowKit Tok Sc Ev
abbrev bs8 (l : List UInt8) : ByteArray := ⟨l.toArray⟩
set_option maxHeartbeats 1000000 in
theorem wordOf_is (s : ByteArray) (w : World) : Calls Tryz.prog 187 #[.string s] w fun e w' => e = .returned (.string (bs8 (wordL s.data.toList))) ∧ w' = w := by
  by_cases h : s.data.toList = []
  · have he : s.toList.isEmpty = true := by rw [ByteArray.toList_eq, h]; rfl
    have HW : Hid (wordL s.data.toList = [95]) := by show _ = _; rw [h]; rfl
    clear h
    go_enter Tryz.func187, Tryz.ntmps187
    go_wp2_with fail
    go_ret
    exact ⟨by rw [HW.out]; rfl, rfl⟩
  · have he : s.toList.isEmpty = false := by rw [ByteArray.toList_eq, List.isEmpty_eq_false_iff]; exact h
    have HW : Hid (wordL s.data.toList = s.data.toList) := if_neg h
    clear h
    go_enter Tryz.func187, Tryz.ntmps187
    go_wp2_with fail
    go_ret
    exact ⟨by rw [HW.out]; rfl, rfl⟩
set_option maxHeartbeats 1000000 in
theorem lifeWord_is (d : Bool) (w : World) : Calls Tryz.prog 188 #[.bool d] w fun e w' => e = .returned (.string (bs8 (lifeL d))) ∧ w' = w := by
  cases d
  · go_enter Tryz.func188, Tryz.ntmps188
    go_wp2_with fail
    go_ret
    exact ⟨rfl, rfl⟩
  · go_enter Tryz.func188, Tryz.ntmps188
    go_wp2_with fail
    go_ret
    exact ⟨rfl, rfl⟩
def WordsAt (w : World) (g : Nat) (xs : List ByteArray) : Prop := g < w.heap.size ∧ ∀ (j : Nat) x, xs[j]? = some x → w.cell? ⟨g, 0 + j, none⟩ = some (.string x)
theorem wordsAt_new (w : World) (xs : List ByteArray) (t : TypeId) : WordsAt (w.alloc (.cells (xs.map Value.string).toArray t)) w.heap.size xs := by
  refine ⟨by simp, fun j x hj => ?_⟩
  rw [World.cell?_alloc_at _ _ _ _ rfl]
  simp [hj]
set_option maxRecDepth 100000 in
set_option maxHeartbeats 8000000 in
theorem words_1 (f : Fam) (w : World) (h : mayF f) (hL : LibsE w) : Calls Tryz.prog 115 #[evV ⟨1, f, 0, 0⟩] w fun e w' => ∃ g, e = .returned (.slice (some ⟨g, 0, none⟩) 10 10) ∧ WordsAt w' g ((putWs f).map bs8) ∧ Below w.heap.size w w' := by
  obtain ⟨⟨h1, h5, h6, h7⟩, _⟩ := h
  have i1 := fun (W : World) (hW : LibsE W) => itoaE_is f.id W h1.1 (by have := h1.2; omega) hW
  have i5 := fun (W : World) (hW : LibsE W) => itoaE_is f.gen W h5.1 (by have := h5.2; omega) hW
  have i6 := fun (W : World) (hW : LibsE W) => itoaE_is f.made W h6.1 (by have := h6.2; omega) hW
  have i7 := fun (W : World) (hW : LibsE W) => itoaE_is f.used W h7.1 (by have := h7.2; omega) hW
  clear h1 h5 h6 h7
  obtain ⟨f1, f2, f3, f4, f5, f6, f7, f8, f9⟩ := f
  simp only at i1 i5 i6 i7
  have HBD : Hid (Below w.heap.size w ((w.alloc (.cells #[.int .i64 1, .int .i64 f1, .string f2, .string f3, .string f4, .int .i64 f5, .int .i64 f6, .int .i64 f7, .string f8, .bool f9, .int .i64 0, .int .i64 0] 42)).alloc (.cells #[.int .i64 f1, .string f2, .string f3, .string f4, .int .i64 f5, .int .i64 f6, .int .i64 f7, .string f8, .bool f9] 40))) := by
    show Below _ _ _
    repeat (first | exact Below.refl _ _ | refine Below.alloc ?_ (by simp; try omega) _)
  unfold evV evCs
  simp only
  go_enter Tryz.func115, Tryz.ntmps115
  have hws : WS w (w.heap.size + 1) ⟨f1, f2, f3, f4, f5, f6, f7, f8, f9⟩ ((w.alloc (.cells #[.int .i64 1, .int .i64 f1, .string f2, .string f3, .string f4, .int .i64 f5, .int .i64 f6, .int .i64 f7, .string f8, .bool f9, .int .i64 0, .int .i64 0] 42)).alloc (.cells #[.int .i64 f1, .string f2, .string f3, .string f4, .int .i64 f5, .int .i64 f6, .int .i64 f7, .string f8, .bool f9] 40)) :=
    ⟨hL.below HBD.out, famAt_made _ ⟨f1, f2, f3, f4, f5, f6, f7, f8, f9⟩ _ _ (by simp), by simp, HBD.out⟩
  go_wp2_with fail
  generalize hg : w.heap.size + 1 = g at *
  generalize ((w.alloc (.cells #[.int .i64 1, .int .i64 f1, .string f2, .string f3, .string f4, .int .i64 f5, .int .i64 f6, .int .i64 f7, .string f8, .bool f9, .int .i64 0, .int .i64 0] 42)).alloc (.cells #[.int .i64 f1, .string f2, .string f3, .string f4, .int .i64 f5, .int .i64 f6, .int .i64 f7, .string f8, .bool f9] 40)) = W at *
  go_region_held3 (fun w' => (w'.cell? ⟨g, 0, none⟩ = some (.int .i64 f1) ∧ w'.cell? ⟨g, 1, none⟩ = some (.string f2) ∧ w'.cell? ⟨g, 2, none⟩ = some (.string f3) ∧ w'.cell? ⟨g, 3, none⟩ = some (.string f4) ∧ w'.cell? ⟨g, 4, none⟩ = some (.int .i64 f5) ∧ w'.cell? ⟨g, 5, none⟩ = some (.int .i64 f6) ∧ w'.cell? ⟨g, 6, none⟩ = some (.int .i64 f7) ∧ w'.cell? ⟨g, 7, none⟩ = some (.string f8) ∧ w'.cell? ⟨g, 8, none⟩ = some (.bool f9) ∧ WS w g ⟨f1, f2, f3, f4, f5, f6, f7, f8, f9⟩ w')) (first | exact ws_drew hws | exact ws_keep (by assumption) (by assumption) | exact ws_keep (by assumption) ((Below.refl _ _).alloc (Nat.le_refl _) _))
    (first
      | (go_at_call_of 57 (Value.int IntKind.i64 f1); refine (i1 _ (ws_libs (by assumption))).mono ?_; rintro e w' ⟨rfl, hb⟩)
      | (go_at_call_of 57 (Value.int IntKind.i64 f5); refine (i5 _ (ws_libs (by assumption))).mono ?_; rintro e w' ⟨rfl, hb⟩)
      | (go_at_call_of 57 (Value.int IntKind.i64 f6); refine (i6 _ (ws_libs (by assumption))).mono ?_; rintro e w' ⟨rfl, hb⟩)
      | (go_at_call_of 57 (Value.int IntKind.i64 f7); refine (i7 _ (ws_libs (by assumption))).mono ?_; rintro e w' ⟨rfl, hb⟩)
      | (go_at_call_of 187 (Value.string f4); refine (wordOf_is f4 _).mono ?_; rintro e w' ⟨rfl, rfl⟩; have hb := Below.refl w'.heap.size w')
      | (go_at_call_of 187 (Value.string f8); refine (wordOf_is f8 _).mono ?_; rintro e w' ⟨rfl, rfl⟩; have hb := Below.refl w'.heap.size w')
      | (go_at_call_of 188 (Value.bool f9); refine (lifeWord_is f9 _).mono ?_; rintro e w' ⟨rfl, rfl⟩; have hb := Below.refl w'.heap.size w'))
  rename_i hS
  have HF : Hid (Below w.heap.size w _) := hS.2.2.2.2.2.2.2.2.2.below
  clear hS
  go_wp2_with fail
  go_ret
  exact ⟨_, rfl, wordsAt_new _ ((putWs ⟨f1, f2, f3, f4, f5, f6, f7, f8, f9⟩).map bs8) _, HF.out⟩
set_option maxRecDepth 100000 in
set_option maxHeartbeats 4000000 in
theorem words_2 (i : Int) (w : World) (h : okN i) (hL : LibsE w) : Calls Tryz.prog 115 #[evV ⟨2, zeroF, i, 0⟩] w fun e w' => ∃ g, e = .returned (.slice (some ⟨g, 0, none⟩) 2 2) ∧ WordsAt w' g (([[100], Lib.itoa i] : List Word).map bs8) ∧ Below w.heap.size w w' := by
  have i1 := fun (W : World) (hW : LibsE W) => itoaE_is i W h.1 (by have := h.2; omega) hW
  have HL : Hid (LibsE w) := hL
  clear hL
  unfold evV evCs zeroF
  simp only
  go_enter Tryz.func115, Tryz.ntmps115
  go_wp2_with fail
  have hbd : Below w.heap.size w ((w.alloc (.cells #[.int .i64 2, .int .i64 0, .string ⟨#[]⟩, .string ⟨#[]⟩, .string ⟨#[]⟩, .int .i64 0, .int .i64 0, .int .i64 0, .string ⟨#[]⟩, .bool false, .int .i64 i, .int .i64 0] 42)).alloc (.cells #[.int .i64 0, .string ⟨#[]⟩, .string ⟨#[]⟩, .string ⟨#[]⟩, .int .i64 0, .int .i64 0, .int .i64 0, .string ⟨#[]⟩, .bool false] 40)) := by
    repeat (first | exact Below.refl _ _ | refine Below.alloc ?_ (by simp; try omega) _)
  refine (i1 _ (HL.out.below hbd)).mono ?_
  rintro e w' ⟨rfl, hb⟩
  have HF : Hid (Below w.heap.size w (w'.alloc (.cells #[.string ⟨#[100]⟩, .string ⟨(Lib.itoa i).toArray⟩] 9))) := (hbd.trans (hb.mono hbd.size)).alloc (hbd.trans (hb.mono hbd.size)).size _
  clear hbd hb
  go_wp2_with fail
  go_ret
  exact ⟨_, rfl, wordsAt_new w' (([[100], Lib.itoa i] : List Word).map bs8) _, HF.out⟩
set_option maxRecDepth 100000 in
set_option maxHeartbeats 4000000 in
theorem words_3 (i : Int) (w : World) (h : okN i) (hL : LibsE w) : Calls Tryz.prog 115 #[evV ⟨3, zeroF, 0, i⟩] w fun e w' => ∃ g, e = .returned (.slice (some ⟨g, 0, none⟩) 2 2) ∧ WordsAt w' g (([[99], Lib.itoa i] : List Word).map bs8) ∧ Below w.heap.size w w' := by
  have i1 := fun (W : World) (hW : LibsE W) => itoaE_is i W h.1 (by have := h.2; omega) hW
  have HL : Hid (LibsE w) := hL
  clear hL
  unfold evV evCs zeroF
  simp only
  go_enter Tryz.func115, Tryz.ntmps115
  go_wp2_with fail
  have hbd : Below w.heap.size w ((w.alloc (.cells #[.int .i64 3, .int .i64 0, .string ⟨#[]⟩, .string ⟨#[]⟩, .string ⟨#[]⟩, .int .i64 0, .int .i64 0, .int .i64 0, .string ⟨#[]⟩, .bool false, .int .i64 0, .int .i64 i] 42)).alloc (.cells #[.int .i64 0, .string ⟨#[]⟩, .string ⟨#[]⟩, .string ⟨#[]⟩, .int .i64 0, .int .i64 0, .int .i64 0, .string ⟨#[]⟩, .bool false] 40)) := by
    repeat (first | exact Below.refl _ _ | refine Below.alloc ?_ (by simp; try omega) _)
  refine (i1 _ (HL.out.below hbd)).mono ?_
  rintro e w' ⟨rfl, hb⟩
  have HF : Hid (Below w.heap.size w (w'.alloc (.cells #[.string ⟨#[99]⟩, .string ⟨(Lib.itoa i).toArray⟩] 9))) := (hbd.trans (hb.mono hbd.size)).alloc (hbd.trans (hb.mono hbd.size)).size _
  clear hbd hb
  go_wp2_with fail
  go_ret
  exact ⟨_, rfl, wordsAt_new w' (([[99], Lib.itoa i] : List Word).map bs8) _, HF.out⟩
theorem wordsE_is (e : E) (w : World) (h : Ev.may e) (hL : LibsE w) : Calls Tryz.prog 115 #[evV e] w fun r w' => ∃ g, r = .returned (.slice (some ⟨g, 0, none⟩) (wordsOf e).length (wordsOf e).length) ∧ WordsAt w' g ((wordsOf e).map bs8) ∧ Below w.heap.size w w' := by
  obtain ⟨k, f, i, t⟩ := e
  rcases h with ⟨hk, hf, hi, ht⟩ | ⟨hk, hf, hi, ht⟩ | ⟨hk, hf, hi, ht⟩ <;> simp only at hk hf hi ht <;> subst hk
  · subst hi; subst ht
    exact words_1 f w hf hL
  · subst hf; subst ht
    exact words_2 i w hi hL
  · subst hf; subst hi
    exact words_3 t w ht hL
end Go.Proofs.YtlailakofhenkabGreatDoor

namespace Go.Proofs.YtlailakofhenkabGreatDoor
open Go Go.RowKit Tok Sc Ev
theorem map_bs8 (l : List Word) : (l.map bs8).map (·.data.toList) = l := by
  rw [List.map_map]
  exact List.map_id' l
theorem joinE_is (e : E) (g : Nat) (w : World) (h : Ev.may e) (hw : WordsAt w g ((wordsOf e).map bs8)) : Calls Tryz.prog 114 #[.slice (some ⟨g, 0, none⟩) (wordsOf e).length (wordsOf e).length, .string ⟨#[32]⟩] w fun r w' => r = .returned (.string (bs8 (line e))) ∧ Below w.heap.size w w' := by
  have hl := line_len h
  have hn : (wordsOf e).length ≤ 10 := by obtain ⟨x, l, h1, h2⟩ := words_cons e; rw [h1]; simp; omega
  have hj := Tryz.strings_Join g 0 (wordsOf e).length ((wordsOf e).map bs8) ⟨#[32]⟩ w hw.2 hw.1 (by rw [List.length_map]; omega) (by rw [List.length_map]; exact Nat.le_refl _) (by rw [map_bs8]; unfold line at hl; exact Nat.le_trans hl (by omega))
  rw [List.length_map, map_bs8] at hj
  exact hj
set_option maxRecDepth 100000 in
set_option maxHeartbeats 4000000 in
theorem writeE_yes (e : E) (w : World) (h : Ev.may e) (hs : Small 5000 e.fam) (hL : LibsE w) : Calls Tryz.prog 55 #[evV e] w fun r w' => r = .returned (.tuple #[.string (bs8 (line e)), .nilIface]) ∧ Below w.heap.size w w' := by
  have HM := fun (W : World) (hW : LenOk W) => mayBeE_is e true (by simp [h]) hs W hW
  have HW := fun (W : World) (hW : LibsE W) => wordsE_is e W h hW
  have HJ := fun (g : Nat) (W : World) (hW : WordsAt W g ((wordsOf e).map bs8)) => joinE_is e g W h hW
  have HL : Hid (LibsE w) := hL
  have HX : Hid (line e = line e) := rfl
  clear h hs hL
  generalize hln : line e = LN at *
  generalize hwl : (wordsOf e).length = n at *
  generalize (wordsOf e).map bs8 = ws at *
  clear hln hwl HX
  obtain ⟨k, ⟨f1, f2, f3, f4, f5, f6, f7, f8, f9⟩, i, t⟩ := e
  unfold evV evCs at *
  simp only at HM HW ⊢
  have HB0 : Hid (Below w.heap.size w (w.alloc (.cells #[.int .i64 k, .int .i64 f1, .string f2, .string f3, .string f4, .int .i64 f5, .int .i64 f6, .int .i64 f7, .string f8, .bool f9, .int .i64 i, .int .i64 t] 42))) := (Below.refl _ _).alloc (Nat.le_refl _) _
  have hx : ∀ (w' : World), Below (w.heap.size + 1) (w.alloc (.cells #[.int .i64 k, .int .i64 f1, .string f2, .string f3, .string f4, .int .i64 f5, .int .i64 f6, .int .i64 f7, .string f8, .bool f9, .int .i64 i, .int .i64 t] 42)) w' → ∀ j, w'.cell? ⟨w.heap.size, j, none⟩ = (w.alloc (.cells #[.int .i64 k, .int .i64 f1, .string f2, .string f3, .string f4, .int .i64 f5, .int .i64 f6, .int .i64 f7, .string f8, .bool f9, .int .i64 i, .int .i64 t] 42)).cell? ⟨w.heap.size, j, none⟩ := fun w' hb j => hb.cell (p := ⟨w.heap.size, j, none⟩) (Nat.lt_succ_self _)
  have hsz : (w.alloc (.cells #[.int .i64 k, .int .i64 f1, .string f2, .string f3, .string f4, .int .i64 f5, .int .i64 f6, .int .i64 f7, .string f8, .bool f9, .int .i64 i, .int .i64 t] 42)).heap.size = w.heap.size + 1 := by simp
  go_enter Tryz.func55, Tryz.ntmps55
  go_wp2_with fail
  refine (HM _ (HL.out.below HB0.out).len).mono ?_
  rintro e1 w1 ⟨rfl, hb1⟩
  have HB1 : Hid (Below w.heap.size w w1) := HB0.out.trans (hb1.mono HB0.out.size)
  rw [hsz] at hb1
  have q := hx w1 hb1
  clear hx hb1 hsz
  have k0 : w1.cell? ⟨w.heap.size, 0, none⟩ = some (.int .i64 k) := (q 0).trans ((World.cell?_alloc_at _ _ _ _ rfl).trans rfl)
  have k1 : w1.cell? ⟨w.heap.size, 1, none⟩ = some (.int .i64 f1) := (q 1).trans ((World.cell?_alloc_at _ _ _ _ rfl).trans rfl)
  have k2 : w1.cell? ⟨w.heap.size, 2, none⟩ = some (.string f2) := (q 2).trans ((World.cell?_alloc_at _ _ _ _ rfl).trans rfl)
  have k3 : w1.cell? ⟨w.heap.size, 3, none⟩ = some (.string f3) := (q 3).trans ((World.cell?_alloc_at _ _ _ _ rfl).trans rfl)
  have k4 : w1.cell? ⟨w.heap.size, 4, none⟩ = some (.string f4) := (q 4).trans ((World.cell?_alloc_at _ _ _ _ rfl).trans rfl)
  have k5 : w1.cell? ⟨w.heap.size, 5, none⟩ = some (.int .i64 f5) := (q 5).trans ((World.cell?_alloc_at _ _ _ _ rfl).trans rfl)
  have k6 : w1.cell? ⟨w.heap.size, 6, none⟩ = some (.int .i64 f6) := (q 6).trans ((World.cell?_alloc_at _ _ _ _ rfl).trans rfl)
  have k7 : w1.cell? ⟨w.heap.size, 7, none⟩ = some (.int .i64 f7) := (q 7).trans ((World.cell?_alloc_at _ _ _ _ rfl).trans rfl)
  have k8 : w1.cell? ⟨w.heap.size, 8, none⟩ = some (.string f8) := (q 8).trans ((World.cell?_alloc_at _ _ _ _ rfl).trans rfl)
  have k9 : w1.cell? ⟨w.heap.size, 9, none⟩ = some (.bool f9) := (q 9).trans ((World.cell?_alloc_at _ _ _ _ rfl).trans rfl)
  have k10 : w1.cell? ⟨w.heap.size, 10, none⟩ = some (.int .i64 i) := (q 10).trans ((World.cell?_alloc_at _ _ _ _ rfl).trans rfl)
  have k11 : w1.cell? ⟨w.heap.size, 11, none⟩ = some (.int .i64 t) := (q 11).trans ((World.cell?_alloc_at _ _ _ _ rfl).trans rfl)
  clear q
  go_wp2_with fail
  refine (HW _ (HL.out.below HB1.out)).mono ?_
  rintro e2 w2 ⟨g, rfl, hg, hb2⟩
  have HB2 : Hid (Below w.heap.size w w2) := HB1.out.trans (hb2.mono HB1.out.size)
  have HG : Hid (WordsAt w2 g ws) := hg
  clear hb2 hg k0 k1 k2 k3 k4 k5 k6 k7 k8 k9 k10 k11
  go_wp2_with fail
  refine (HJ g _ HG.out).mono ?_
  rintro e3 w3 ⟨rfl, hb3⟩
  have HB3 : Hid (Below w.heap.size w w3) := HB2.out.trans (hb3.mono HB2.out.size)
  clear hb3
  go_wp2_with fail
  go_ret2
  exact ⟨rfl, HB3.out⟩
set_option maxRecDepth 100000 in
set_option maxHeartbeats 4000000 in
theorem writeE_no (e : E) (w : World) (h : ¬ Ev.may e) (hs : Small 5000 e.fam) (hL : LenOk w) : Calls Tryz.prog 55 #[evV e] w fun r w' => r = .returned (.tuple #[.string ⟨#[]⟩, .iface 47 (.int .i64 1)]) ∧ Below w.heap.size w w' := by
  have HM := fun (W : World) (hW : LenOk W) => mayBeE_is e false (by simp [h]) hs W hW
  have HL : Hid (LenOk w) := hL
  clear h hs hL
  obtain ⟨k, ⟨f1, f2, f3, f4, f5, f6, f7, f8, f9⟩, i, t⟩ := e
  unfold evV evCs at *
  simp only at HM ⊢
  have HB0 : Hid (Below w.heap.size w (w.alloc (.cells #[.int .i64 k, .int .i64 f1, .string f2, .string f3, .string f4, .int .i64 f5, .int .i64 f6, .int .i64 f7, .string f8, .bool f9, .int .i64 i, .int .i64 t] 42))) := (Below.refl _ _).alloc (Nat.le_refl _) _
  go_enter Tryz.func55, Tryz.ntmps55
  go_wp2_with fail
  refine (HM _ (HL.out.below HB0.out)).mono ?_
  rintro e1 w1 ⟨rfl, hb1⟩
  have HB1 : Hid (Below w.heap.size w w1) := HB0.out.trans (hb1.mono HB0.out.size)
  clear hb1
  go_wp2_with fail
  go_ret2
  exact ⟨rfl, HB1.out⟩
end Go.Proofs.YtlailakofhenkabGreatDoor

namespace Go.Proofs.YtlailakofhenkabGreatDoor
open Go Go.RowKit Tok Sc Ev
def IsNum (s : ByteArray) (v : Int) : Prop := ∀ m, okN m → s.data.toList = Lib.itoa m → v = m
def IsText (s t : ByteArray) : Prop := t.size ≤ s.size ∧ ∀ x : List UInt8, (95 : UInt8) ∉ x → s.data.toList = wordL x → t.data.toList = x
set_option maxHeartbeats 1000000 in
theorem numberOf_is (s : ByteArray) (w : World) (hs : s.size ≤ 10000) (hL : LibsA w) : Calls Tryz.prog 193 #[.string s] w fun e w' => ∃ v, e = .returned (.int .i64 v) ∧ Below w.heap.size w w' ∧ IsNum s v := by
  have HL : Hid (LibsA w) := hL
  clear hL
  go_enter Tryz.func193, Tryz.ntmps193
  go_wp2_with fail
  refine (atoiE_any s _ hs HL.out).mono ?_
  rintro e w' ⟨v, err, rfl, hb, hv⟩
  have HB : Hid (Below w.heap.size w w') := hb
  have HV : Hid (IsNum s v) := hv
  clear hb hv
  go_wp2_with fail
  go_ret
  exact ⟨v, rfl, HB.out, HV.out⟩
theorem isText_no {s : ByteArray} (h : s ≠ ⟨#[95]⟩) : IsText s s := by
  refine ⟨Nat.le_refl _, fun x hx hs => ?_⟩
  unfold wordL at hs
  split at hs
  · exact absurd (bytes_eq hs) h
  · exact hs
theorem isText_yes : IsText ⟨#[95]⟩ ⟨#[]⟩ := by
  refine ⟨by simp [ByteArray.size], fun x hx hs => ?_⟩
  unfold wordL at hs
  split at hs
  · rename_i h; exact h.symm
  · exfalso; rw [← hs] at hx; simp at hx
set_option maxHeartbeats 1000000 in
theorem textOf_is (s : ByteArray) (w : World) (hs : s.size ≤ 10000) : Calls Tryz.prog 194 #[.string s] w fun e w' => ∃ t, e = .returned (.string t) ∧ Below w.heap.size w w' ∧ IsText s t := by
  by_cases h : s = ⟨#[95]⟩
  · subst h
    go_enter Tryz.func194, Tryz.ntmps194
    go_wp2_with fail
    go_ret
    exact ⟨_, rfl, Below.refl _ _, isText_yes⟩
  · have hne : (s.toList == [95]) = false := by
      rw [beq_eq_false_iff_ne, ByteArray.toList_eq]
      intro he
      exact h (bytes_eq he)
    have HT : Hid (IsText s s) := isText_no h
    clear h
    go_enter Tryz.func194, Tryz.ntmps194
    go_wp2_with fail
    refine (clone_is s _ hs).mono ?_
    rintro e w' ⟨rfl, hb⟩
    have HB : Hid (Below w.heap.size w w') := hb
    clear hb
    go_wp2_with fail
    go_ret
    exact ⟨s, rfl, HB.out, HT.out⟩
end Go.Proofs.YtlailakofhenkabGreatDoor
