/-
  Which family may be put, as the program has it.
-/
import Derived.Test.YtibelcnjmpedkaaGreatDoorEvMayP
namespace Go.Proofs.YtibelcnjmpedkaaGreatDoor
open Go Go.RowKit Tok Sc Ev
set_option maxRecDepth 100000 in
set_option maxHeartbeats 8000000 in
theorem mayBePut_is (f : Fam) (b : Bool) (hb : b = true ↔ mayF f) (hs : Small 1000 f) (w : World) (hL : LenOk w) : Calls Tryz.prog 98 #[famV f] w fun e w' => e = .returned (.bool b) ∧ Below w.heap.size w w' := by
  obtain ⟨f1, f2, f3, f4, f5, f6, f7, f8, f9⟩ := f
  unfold Small at hs
  unfold mayF at hb
  simp only at hs hb
  obtain ⟨s2, s3, s4, s8⟩ := hs
  have HBD : Hid (Below w.heap.size w ((w.alloc (.cells #[.int .i64 f1, .string f2, .string f3, .string f4, .int .i64 f5, .int .i64 f6, .int .i64 f7, .string f8, .bool f9] 38)).alloc (.cells #[.int .i64 f1, .int .i64 f5, .int .i64 f6, .int .i64 f7] 3))) := by
    show Below _ _ _
    repeat (first | exact Below.refl _ _ | refine Below.alloc ?_ (by simp; try omega) _)
  have HB : Hid (b = true ↔ (okN f1 ∧ okN f5 ∧ okN f6 ∧ okN f7) ∧ nameB f2.data.toList = true ∧ nameB f3.data.toList = true ∧ (f8.data.toList = [] ∨ nameB f8.data.toList = true) ∧ Lst f4.data.toList) := hb
  have HL : Hid (LenOk ((w.alloc (.cells #[.int .i64 f1, .string f2, .string f3, .string f4, .int .i64 f5, .int .i64 f6, .int .i64 f7, .string f8, .bool f9] 38)).alloc (.cells #[.int .i64 f1, .int .i64 f5, .int .i64 f6, .int .i64 f7] 3))) := hL.below HBD.out
  clear hb hL
  have hbo : Calls Tryz.prog 99 #[.slice (some ⟨w.heap.size + 1, 0, none⟩) 4 4] ((w.alloc (.cells #[.int .i64 f1, .string f2, .string f3, .string f4, .int .i64 f5, .int .i64 f6, .int .i64 f7, .string f8, .bool f9] 38)).alloc (.cells #[.int .i64 f1, .int .i64 f5, .int .i64 f6, .int .i64 f7] 3)) fun e w' => e = .returned (.bool ([f1, f5, f6, f7].all okB)) ∧ ∃ q, w' = ((w.alloc (.cells #[.int .i64 f1, .string f2, .string f3, .string f4, .int .i64 f5, .int .i64 f6, .int .i64 f7, .string f8, .bool f9] 38)).alloc (.cells #[.int .i64 f1, .int .i64 f5, .int .i64 f6, .int .i64 f7] 3)).drewN q :=
    bounds_is [f1, f5, f6, f7] (w.heap.size + 1) 4 ((w.alloc (.cells #[.int .i64 f1, .string f2, .string f3, .string f4, .int .i64 f5, .int .i64 f6, .int .i64 f7, .string f8, .bool f9] 38)).alloc (.cells #[.int .i64 f1, .int .i64 f5, .int .i64 f6, .int .i64 f7] 3)) (by simp) (fun j hj => by
      match j, hj with
      | 0, _ => exact (World.cell?_alloc_at _ _ _ _ (by simp)).trans rfl
      | 1, _ => exact (World.cell?_alloc_at _ _ _ _ (by simp)).trans rfl
      | 2, _ => exact (World.cell?_alloc_at _ _ _ _ (by simp)).trans rfl
      | 3, _ => exact (World.cell?_alloc_at _ _ _ _ (by simp)).trans rfl)
  have m1 : ((w.alloc (.cells #[.int .i64 f1, .string f2, .string f3, .string f4, .int .i64 f5, .int .i64 f6, .int .i64 f7, .string f8, .bool f9] 38)).alloc (.cells #[.int .i64 f1, .int .i64 f5, .int .i64 f6, .int .i64 f7] 3)).cell? ⟨w.heap.size, 1, none⟩ = some (.string f2) := Lib.cell?_alloc_some _ ((World.cell?_alloc_at _ _ _ _ (by simp)).trans rfl)
  have m2 : ((w.alloc (.cells #[.int .i64 f1, .string f2, .string f3, .string f4, .int .i64 f5, .int .i64 f6, .int .i64 f7, .string f8, .bool f9] 38)).alloc (.cells #[.int .i64 f1, .int .i64 f5, .int .i64 f6, .int .i64 f7] 3)).cell? ⟨w.heap.size, 2, none⟩ = some (.string f3) := Lib.cell?_alloc_some _ ((World.cell?_alloc_at _ _ _ _ (by simp)).trans rfl)
  have m3 : ((w.alloc (.cells #[.int .i64 f1, .string f2, .string f3, .string f4, .int .i64 f5, .int .i64 f6, .int .i64 f7, .string f8, .bool f9] 38)).alloc (.cells #[.int .i64 f1, .int .i64 f5, .int .i64 f6, .int .i64 f7] 3)).cell? ⟨w.heap.size, 3, none⟩ = some (.string f4) := Lib.cell?_alloc_some _ ((World.cell?_alloc_at _ _ _ _ (by simp)).trans rfl)
  have m7 : ((w.alloc (.cells #[.int .i64 f1, .string f2, .string f3, .string f4, .int .i64 f5, .int .i64 f6, .int .i64 f7, .string f8, .bool f9] 38)).alloc (.cells #[.int .i64 f1, .int .i64 f5, .int .i64 f6, .int .i64 f7] 3)).cell? ⟨w.heap.size, 7, none⟩ = some (.string f8) := Lib.cell?_alloc_some _ ((World.cell?_alloc_at _ _ _ _ (by simp)).trans rfl)
  unfold famV famCs
  simp only
  cases hbb : [f1, f5, f6, f7].all okB with
  | false =>
    have HQ : Hid (b = false) := bool_f HB.out (fun h => by
      obtain ⟨⟨h1, h5, h6, h7⟩, _⟩ := h
      simp [okB_t h1, okB_t h5, okB_t h6, okB_t h7] at hbb)
    rw [hbb] at hbo
    clear hbb HB
    go_enter Tryz.func98, Tryz.ntmps98
    go_wp2_with fail
    refine hbo.mono ?_
    rintro e w' ⟨rfl, q, rfl⟩
    have HBQ : Hid (Below w.heap.size w (((w.alloc (.cells #[.int .i64 f1, .string f2, .string f3, .string f4, .int .i64 f5, .int .i64 f6, .int .i64 f7, .string f8, .bool f9] 38)).alloc (.cells #[.int .i64 f1, .int .i64 f5, .int .i64 f6, .int .i64 f7] 3)).drewN q)) := below_drewN' HBD.out q
    generalize ((w.alloc (.cells #[.int .i64 f1, .string f2, .string f3, .string f4, .int .i64 f5, .int .i64 f6, .int .i64 f7, .string f8, .bool f9] 38)).alloc (.cells #[.int .i64 f1, .int .i64 f5, .int .i64 f6, .int .i64 f7] 3)) = W at *
    go_wp2_with fail
    go_ret
    exact ⟨by rw [HQ.out]; rfl, HBQ.out⟩
  | true =>
    have HOK : Hid (okN f1 ∧ okN f5 ∧ okN f6 ∧ okN f7) := by show _ ∧ _; simpa [okB_iff] using hbb
    rw [hbb] at hbo
    clear hbb
    go_enter Tryz.func98, Tryz.ntmps98
    go_wp2_with fail
    refine hbo.mono ?_
    rintro e w' ⟨rfl, q, rfl⟩
    have HBQ : Hid (Below w.heap.size w (((w.alloc (.cells #[.int .i64 f1, .string f2, .string f3, .string f4, .int .i64 f5, .int .i64 f6, .int .i64 f7, .string f8, .bool f9] 38)).alloc (.cells #[.int .i64 f1, .int .i64 f5, .int .i64 f6, .int .i64 f7] 3)).drewN q)) := below_drewN' HBD.out q
    have HLQ : Hid (LenOk (((w.alloc (.cells #[.int .i64 f1, .string f2, .string f3, .string f4, .int .i64 f5, .int .i64 f6, .int .i64 f7, .string f8, .bool f9] 38)).alloc (.cells #[.int .i64 f1, .int .i64 f5, .int .i64 f6, .int .i64 f7] 3)).drewN q)) := HL.out.below (below_drewN' (Below.refl _ _) q)
    clear hbo HL
    generalize ((w.alloc (.cells #[.int .i64 f1, .string f2, .string f3, .string f4, .int .i64 f5, .int .i64 f6, .int .i64 f7, .string f8, .bool f9] 38)).alloc (.cells #[.int .i64 f1, .int .i64 f5, .int .i64 f6, .int .i64 f7] 3)) = W at *
    cases h2 : nameB f2.data.toList with
    | false =>
      have HQ : Hid (b = false) := bool_f HB.out (fun h => by have := h.2.1; rw [h2] at this; cases this)
      have HC2 : Hid (nameB f2.data.toList = false) := h2
      clear h2 HB HOK
      go_wp2_with fail
      refine (name_is f2 _ (by omega)).mono ?_
      rintro e w' ⟨rfl, rfl⟩
      rw [HC2.out]
      go_wp2_with fail
      go_ret
      exact ⟨by rw [HQ.out]; rfl, HBQ.out⟩
    | true =>
      have HC2 : Hid (nameB f2.data.toList = true) := h2
      cases h3 : nameB f3.data.toList with
      | false =>
        have HQ : Hid (b = false) := bool_f HB.out (fun h => by have := h.2.2.1; rw [h3] at this; cases this)
        have HC3 : Hid (nameB f3.data.toList = false) := h3
        clear h2 h3 HB HOK
        go_wp2_with fail
        refine (name_is f2 _ (by omega)).mono ?_
        rintro e w' ⟨rfl, rfl⟩
        rw [HC2.out]
        go_wp2_with fail
        refine (name_is f3 _ (by omega)).mono ?_
        rintro e w' ⟨rfl, rfl⟩
        rw [HC3.out]
        go_wp2_with fail
        go_ret
        exact ⟨by rw [HQ.out]; rfl, HBQ.out⟩
      | true =>
        have HC3 : Hid (nameB f3.data.toList = true) := h3
        have HR : Hid (b = true ↔ (f8.data.toList = [] ∨ nameB f8.data.toList = true) ∧ Lst f4.data.toList) := by
          show b = true ↔ _
          rw [HB.out, h2, h3]
          have := HOK.out
          simp [this]
        clear HB HOK h2 h3
        by_cases h8 : f8.data.toList = []
        · have he : f8.toList.isEmpty = true := by rw [ByteArray.toList_eq, h8]; rfl
          have HR2 : Hid (b = true ↔ Lst f4.data.toList) := by
            show b = true ↔ _
            rw [HR.out]
            simp [h8]
          clear HR h8
          go_wp2_with fail
          refine (name_is f2 _ (by omega)).mono ?_
          rintro e w' ⟨rfl, rfl⟩
          rw [HC2.out]
          go_wp2_with fail
          refine (name_is f3 _ (by omega)).mono ?_
          rintro e w' ⟨rfl, rfl⟩
          rw [HC3.out]
          go_wp2_with fail
          refine (isLeast_is f4 b HR2.out _ s4 HLQ.out).mono ?_
          rintro e w' ⟨rfl, hbe⟩
          have HBE : Hid (Below w.heap.size w w') := HBQ.out.trans (hbe.mono HBQ.out.size)
          clear hbe
          go_wp2_with fail
          go_ret
          exact ⟨rfl, HBE.out⟩
        · have he : f8.toList.isEmpty = false := by rw [ByteArray.toList_eq, List.isEmpty_eq_false_iff]; exact h8
          cases hn8 : nameB f8.data.toList with
          | true =>
            have HC8 : Hid (nameB f8.data.toList = true) := hn8
            have HR2 : Hid (b = true ↔ Lst f4.data.toList) := by
              show b = true ↔ _
              rw [HR.out]
              simp [hn8]
            clear HR h8 hn8
            go_wp2_with fail
            refine (name_is f2 _ (by omega)).mono ?_
            rintro e w' ⟨rfl, rfl⟩
            rw [HC2.out]
            go_wp2_with fail
            refine (name_is f3 _ (by omega)).mono ?_
            rintro e w' ⟨rfl, rfl⟩
            rw [HC3.out]
            go_wp2_with fail
            refine (name_is f8 _ (by omega)).mono ?_
            rintro e w' ⟨rfl, rfl⟩
            rw [HC8.out]
            go_wp2_with fail
            refine (isLeast_is f4 b HR2.out _ s4 HLQ.out).mono ?_
            rintro e w' ⟨rfl, hbe⟩
            have HBE : Hid (Below w.heap.size w w') := HBQ.out.trans (hbe.mono HBQ.out.size)
            clear hbe
            go_wp2_with fail
            go_ret
            exact ⟨rfl, HBE.out⟩
          | false =>
            have HC8 : Hid (nameB f8.data.toList = false) := hn8
            have HQ : Hid (b = false) := bool_f HR.out (fun h => by
              rcases h.1 with h | h
              · exact h8 h
              · rw [hn8] at h; cases h)
            clear HR h8 hn8
            go_wp2_with fail
            refine (name_is f2 _ (by omega)).mono ?_
            rintro e w' ⟨rfl, rfl⟩
            rw [HC2.out]
            go_wp2_with fail
            refine (name_is f3 _ (by omega)).mono ?_
            rintro e w' ⟨rfl, rfl⟩
            rw [HC3.out]
            go_wp2_with fail
            refine (name_is f8 _ (by omega)).mono ?_
            rintro e w' ⟨rfl, rfl⟩
            rw [HC8.out]
            go_wp2_with fail
            go_ret
            exact ⟨by rw [HQ.out]; rfl, HBQ.out⟩
end Go.Proofs.YtibelcnjmpedkaaGreatDoor
