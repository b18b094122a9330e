/-
  What may be an event, as the document's answer has it: a family that is put.
-/
import Derived.Test.YtibelcnjmpedkaaGreatDoorEvRefMay
namespace Go.Proofs.YtibelcnjmpedkaaGreatDoor
open Go Go.RowKit Tok Sc Ev
set_option maxRecDepth 100000 in
set_option maxHeartbeats 8000000 in
theorem refMay_1 (f : Fam) (i t : Int) (b : Bool) (hb : b = true ↔ may ⟨1, f, i, t⟩) (hs : Small 1000 f) (w : World) : Calls Tryz.prog 53 #[evV ⟨1, f, i, t⟩] w fun e w' => e = .returned (.bool b) ∧ Below w.heap.size w w' := by
  rw [may_1] at hb
  obtain ⟨f1, f2, f3, f4, f5, f6, f7, f8, f9⟩ := f
  unfold Small at hs
  unfold mayF at hb
  simp only at hs hb
  obtain ⟨s2, s3, s4, s8⟩ := hs
  have HBD : Hid (Below w.heap.size w (((w.alloc (.cells #[.int .i64 1, .int .i64 f1, .string f2, .string f3, .string f4, .int .i64 f5, .int .i64 f6, .int .i64 f7, .string f8, .bool f9, .int .i64 i, .int .i64 t] 44)).alloc (.cells #[.int .i64 f1, .string f2, .string f3, .string f4, .int .i64 f5, .int .i64 f6, .int .i64 f7, .string f8, .bool f9] 38)).alloc (.cells #[.int .i64 f1, .int .i64 f5, .int .i64 f6, .int .i64 f7] 3))) := by
    show Below _ _ _
    repeat (first | exact Below.refl _ _ | refine Below.alloc ?_ (by simp; try omega) _)
  have HB : Hid (b = true ↔ ((okN f1 ∧ okN f5 ∧ okN f6 ∧ okN f7) ∧ nameB f2.data.toList = true ∧ nameB f3.data.toList = true ∧ (f8.data.toList = [] ∨ nameB f8.data.toList = true) ∧ Lst f4.data.toList) ∧ i = 0 ∧ t = 0) := hb
  clear hb
  have HN : Hid (∀ j : Nat, j < 4 → okB ([f1, f5, f6, f7].getD j 0) = false → b = false) := fun j hj h => bool_f HB.out (fun hh => by
    obtain ⟨⟨⟨h1, h5, h6, h7⟩, _⟩, _⟩ := hh
    match j, hj with
    | 0, _ => rw [show [f1, f5, f6, f7].getD 0 0 = f1 from rfl, okB_t h1] at h; cases h
    | 1, _ => rw [show [f1, f5, f6, f7].getD 1 0 = f5 from rfl, okB_t h5] at h; cases h
    | 2, _ => rw [show [f1, f5, f6, f7].getD 2 0 = f6 from rfl, okB_t h6] at h; cases h
    | 3, _ => rw [show [f1, f5, f6, f7].getD 3 0 = f7 from rfl, okB_t h7] at h; cases h)
  unfold evV evCs
  simp only
  go_enter Tryz.func53, Tryz.ntmps53
  go_wp2_with fail
  go_loopg [24] 4 (fun gk iv wr => ∃ j : Nat, j + gk = 4 ∧ iv = .int .i64 j ∧ Hid (∀ k : Nat, k < j → okB ([f1, f5, f6, f7].getD k 0) = true) ∧ wr = (((w.alloc (.cells #[.int .i64 1, .int .i64 f1, .string f2, .string f3, .string f4, .int .i64 f5, .int .i64 f6, .int .i64 f7, .string f8, .bool f9, .int .i64 i, .int .i64 t] 44)).alloc (.cells #[.int .i64 f1, .string f2, .string f3, .string f4, .int .i64 f5, .int .i64 f6, .int .i64 f7, .string f8, .bool f9] 38)).alloc (.cells #[.int .i64 f1, .int .i64 f5, .int .i64 f6, .int .i64 f7] 3)))
  case atStart => exact ⟨0, by omega, rfl, (fun k hk => absurd hk (Nat.not_lt_zero _)), rfl⟩
  case round =>
    obtain ⟨j, hj, rfl, HA, rfl⟩ := hrel
    have HJ : Hid (j + gk = 4) := hj
    have hj4 : j ≤ 4 := by omega
    clear hj
    by_cases hlt : j < 4
    · have hcell : (((w.alloc (.cells #[.int .i64 1, .int .i64 f1, .string f2, .string f3, .string f4, .int .i64 f5, .int .i64 f6, .int .i64 f7, .string f8, .bool f9, .int .i64 i, .int .i64 t] 44)).alloc (.cells #[.int .i64 f1, .string f2, .string f3, .string f4, .int .i64 f5, .int .i64 f6, .int .i64 f7, .string f8, .bool f9] 38)).alloc (.cells #[.int .i64 f1, .int .i64 f5, .int .i64 f6, .int .i64 f7] 3)).cell? ⟨w.heap.size + 1 + 1, j, none⟩ = some (.int .i64 ([f1, f5, f6, f7].getD j 0)) := by
        match j, hlt with
        | 0, _ => exact (World.cell?_alloc_at _ _ _ _ (by simp)).trans rfl
        | 1, _ => exact (World.cell?_alloc_at _ _ _ _ (by simp)).trans rfl
        | 2, _ => exact (World.cell?_alloc_at _ _ _ _ (by simp)).trans rfl
        | 3, _ => exact (World.cell?_alloc_at _ _ _ _ (by simp)).trans rfl
      have HNJ : Hid (okB ([f1, f5, f6, f7].getD j 0) = false → b = false) := HN.out j hlt
      have HAN : Hid (okB ([f1, f5, f6, f7].getD j 0) = true → ∀ k : Nat, k < j + 1 → okB ([f1, f5, f6, f7].getD k 0) = true) := fun h k hk => by
        by_cases hkj : k = j
        · rw [hkj]; exact h
        · exact HA.out k (by omega)
      generalize [f1, f5, f6, f7].getD j 0 = n at *
      have hltI : (j : Int) < 4 := by omega
      go_wp2_with fail
      refine (in_ok n _).mono ?_
      rintro e w' ⟨rfl, rfl⟩
      cases hq : okB n with
      | true =>
        have HQ := HAN.out hq
        have HQ2 : Hid (∀ k : Nat, k < j + 1 → okB ([f1, f5, f6, f7].getD k 0) = true) := HQ
        clear hq HQ
        go_wp2_with fail
        go_roundg (gk - 1)
        case measure => have := HJ.out; omega
        case rel => exact ⟨j + 1, by have := HJ.out; omega, by go_num, HQ2, rfl⟩
      | false =>
        have HQ : Hid (b = false) := HNJ.out hq
        clear hq
        go_wp2_with fail
        go_ret
        exact ⟨by rw [HQ.out]; rfl, HBD.out⟩
    · obtain rfl : j = 4 := by omega
      have HOK : Hid (okN f1 ∧ okN f5 ∧ okN f6 ∧ okN f7) := ⟨okB_iff.1 (HA.out 0 (by omega)), okB_iff.1 (HA.out 1 (by omega)), okB_iff.1 (HA.out 2 (by omega)), okB_iff.1 (HA.out 3 (by omega))⟩
      clear HA HJ hj4 hlt
      go_wp2_with fail
      refine (refLeast_is f4 _ s4).mono ?_
      rintro e w4 ⟨l, n, rfl, ho, hb4⟩
      have HB4 : Hid (Below w.heap.size w w4) := HBD.out.trans (hb4.mono HBD.out.size)
      have HO : Hid (Out f4.data.toList l n) := ho
      have kc : ∀ (g o : Nat) (v : Value), g < w.heap.size + 1 + 1 + 1 → (((w.alloc (.cells #[.int .i64 1, .int .i64 f1, .string f2, .string f3, .string f4, .int .i64 f5, .int .i64 f6, .int .i64 f7, .string f8, .bool f9, .int .i64 i, .int .i64 t] 44)).alloc (.cells #[.int .i64 f1, .string f2, .string f3, .string f4, .int .i64 f5, .int .i64 f6, .int .i64 f7, .string f8, .bool f9] 38)).alloc (.cells #[.int .i64 f1, .int .i64 f5, .int .i64 f6, .int .i64 f7] 3)).cell? ⟨g, o, none⟩ = some v → w4.cell? ⟨g, o, none⟩ = some v := fun g o v hg h => (hb4.cell (p := ⟨g, o, none⟩) (by simpa using hg)).trans h
      have k10 := kc w.heap.size 10 (.int .i64 i) (by omega) (Lib.cell?_alloc_some _ (Lib.cell?_alloc_some _ ((World.cell?_alloc_at _ _ _ _ rfl).trans rfl)))
      have k11 := kc w.heap.size 11 (.int .i64 t) (by omega) (Lib.cell?_alloc_some _ (Lib.cell?_alloc_some _ ((World.cell?_alloc_at _ _ _ _ rfl).trans rfl)))
      have m1 := kc (w.heap.size + 1) 1 (.string f2) (by omega) (Lib.cell?_alloc_some _ ((World.cell?_alloc_at _ _ _ _ (by simp)).trans rfl))
      have m2 := kc (w.heap.size + 1) 2 (.string f3) (by omega) (Lib.cell?_alloc_some _ ((World.cell?_alloc_at _ _ _ _ (by simp)).trans rfl))
      have m3 := kc (w.heap.size + 1) 3 (.string f4) (by omega) (Lib.cell?_alloc_some _ ((World.cell?_alloc_at _ _ _ _ (by simp)).trans rfl))
      have m7 := kc (w.heap.size + 1) 7 (.string f8) (by omega) (Lib.cell?_alloc_some _ ((World.cell?_alloc_at _ _ _ _ (by simp)).trans rfl))
      clear kc hb4 ho
      generalize hJJ : joined l = J
      have HJJ : Hid (joined l = J) := hJJ
      clear hJJ
      by_cases hi : i = 0
      · subst hi
        by_cases ht : t = 0
        · subst ht
          cases h2 : nameB f2.data.toList with
          | true =>
            cases h3 : nameB f3.data.toList with
            | true =>
              have HR : Hid (b = true ↔ (f8.data.toList = [] ∨ nameB f8.data.toList = true) ∧ Lst f4.data.toList) := by
                show b = true ↔ _
                rw [HB.out, h2, h3]
                have := HOK.out
                simp [this]
              clear HB HOK
              have HC2 : Hid (nameB f2.data.toList = true) := h2
              have HC3 : Hid (nameB f3.data.toList = true) := h3
              clear h2 h3
              by_cases h8 : f8.data.toList = []
              · have he : f8.toList.isEmpty = true := by rw [ByteArray.toList_eq, h8]; rfl
                have HR2 : Hid (b = true ↔ Lst f4.data.toList) := by
                  show b = true ↔ _
                  rw [HR.out]
                  simp [h8]
                clear HR h8
                cases n with
                | succ n =>
                  have HQ : Hid (b = false) := bool_f HR2.out (lst_not HO.out)
                  have hn : (((n + 1 : Nat) : Int) == 0) = false := by rw [beq_eq_false_iff_ne]; omega
                  have hn2 : ((n : Int) + 1 == 0) = false := by rw [beq_eq_false_iff_ne]; omega
                  clear HR2
                  go_wp2_with fail
                  refine (refName_is f2 _ (by omega)).mono ?_
                  rintro e w' ⟨rfl, rfl⟩
                  rw [HC2.out]
                  go_wp2_with fail
                  refine (refName_is f3 _ (by omega)).mono ?_
                  rintro e w' ⟨rfl, rfl⟩
                  rw [HC3.out]
                  go_wp2_with fail
                  go_ret
                  exact ⟨by rw [HQ.out]; rfl, HB4.out⟩
                | zero =>
                  rw [show ((0 : Nat) : Int) = 0 from rfl]
                  by_cases hJ : J = f4.data.toList
                  · have HQ : Hid (b = true) := HR2.out.2 ((lst_of HO.out).2 (HJJ.out.trans hJ))
                    have hf4 : f4 = ⟨J.toArray⟩ := bytes_eq hJ.symm
                    clear HR2 HO hJ
                    subst hf4
                    go_wp2_with fail
                    refine (refName_is f2 _ (by omega)).mono ?_
                    rintro e w' ⟨rfl, rfl⟩
                    rw [HC2.out]
                    go_wp2_with fail
                    refine (refName_is f3 _ (by omega)).mono ?_
                    rintro e w' ⟨rfl, rfl⟩
                    rw [HC3.out]
                    go_wp2_with fail
                    go_ret
                    exact ⟨by rw [HQ.out]; rfl, HB4.out⟩
                  · have HQ : Hid (b = false) := bool_f HR2.out (fun h => hJ (HJJ.out.symm.trans ((lst_of HO.out).1 h)))
                    have hne : (J == f4.toList) = false := by rw [ByteArray.toList_eq, beq_eq_false_iff_ne]; exact hJ
                    clear HR2 HO hJ
                    go_wp2_with fail
                    refine (refName_is f2 _ (by omega)).mono ?_
                    rintro e w' ⟨rfl, rfl⟩
                    rw [HC2.out]
                    go_wp2_with fail
                    refine (refName_is f3 _ (by omega)).mono ?_
                    rintro e w' ⟨rfl, rfl⟩
                    rw [HC3.out]
                    go_wp2_with fail
                    go_ret
                    exact ⟨by rw [HQ.out]; rfl, HB4.out⟩
              · have he : f8.toList.isEmpty = false := by rw [ByteArray.toList_eq, List.isEmpty_eq_false_iff]; exact h8
                cases hn8 : nameB f8.data.toList with
                | true =>
                  have HC8 : Hid (nameB f8.data.toList = true) := hn8
                  have HR2 : Hid (b = true ↔ Lst f4.data.toList) := by
                    show b = true ↔ _
                    rw [HR.out]
                    simp [hn8]
                  clear HR h8 hn8
                  cases n with
                  | succ n =>
                    have HQ : Hid (b = false) := bool_f HR2.out (lst_not HO.out)
                    have hn : (((n + 1 : Nat) : Int) == 0) = false := by rw [beq_eq_false_iff_ne]; omega
                    have hn2 : ((n : Int) + 1 == 0) = false := by rw [beq_eq_false_iff_ne]; omega
                    clear HR2
                    go_wp2_with fail
                    refine (refName_is f2 _ (by omega)).mono ?_
                    rintro e w' ⟨rfl, rfl⟩
                    rw [HC2.out]
                    go_wp2_with fail
                    refine (refName_is f3 _ (by omega)).mono ?_
                    rintro e w' ⟨rfl, rfl⟩
                    rw [HC3.out]
                    go_wp2_with fail
                    refine (refName_is f8 _ (by omega)).mono ?_
                    rintro e w' ⟨rfl, rfl⟩
                    rw [HC8.out]
                    go_wp2_with fail
                    go_ret
                    exact ⟨by rw [HQ.out]; rfl, HB4.out⟩
                  | zero =>
                    rw [show ((0 : Nat) : Int) = 0 from rfl]
                    by_cases hJ : J = f4.data.toList
                    · have HQ : Hid (b = true) := HR2.out.2 ((lst_of HO.out).2 (HJJ.out.trans hJ))
                      have hf4 : f4 = ⟨J.toArray⟩ := bytes_eq hJ.symm
                      clear HR2 HO hJ
                      subst hf4
                      go_wp2_with fail
                      refine (refName_is f2 _ (by omega)).mono ?_
                      rintro e w' ⟨rfl, rfl⟩
                      rw [HC2.out]
                      go_wp2_with fail
                      refine (refName_is f3 _ (by omega)).mono ?_
                      rintro e w' ⟨rfl, rfl⟩
                      rw [HC3.out]
                      go_wp2_with fail
                      refine (refName_is f8 _ (by omega)).mono ?_
                      rintro e w' ⟨rfl, rfl⟩
                      rw [HC8.out]
                      go_wp2_with fail
                      go_ret
                      exact ⟨by rw [HQ.out]; rfl, HB4.out⟩
                    · have HQ : Hid (b = false) := bool_f HR2.out (fun h => hJ (HJJ.out.symm.trans ((lst_of HO.out).1 h)))
                      have hne : (J == f4.toList) = false := by rw [ByteArray.toList_eq, beq_eq_false_iff_ne]; exact hJ
                      clear HR2 HO hJ
                      go_wp2_with fail
                      refine (refName_is f2 _ (by omega)).mono ?_
                      rintro e w' ⟨rfl, rfl⟩
                      rw [HC2.out]
                      go_wp2_with fail
                      refine (refName_is f3 _ (by omega)).mono ?_
                      rintro e w' ⟨rfl, rfl⟩
                      rw [HC3.out]
                      go_wp2_with fail
                      refine (refName_is f8 _ (by omega)).mono ?_
                      rintro e w' ⟨rfl, rfl⟩
                      rw [HC8.out]
                      go_wp2_with fail
                      go_ret
                      exact ⟨by rw [HQ.out]; rfl, HB4.out⟩
                | false =>
                  have HC8 : Hid (nameB f8.data.toList = false) := hn8
                  have HQ : Hid (b = false) := bool_f HR.out (fun h => by
                    rcases h.1 with h | h
                    · exact h8 h
                    · rw [hn8] at h; cases h)
                  clear HR h8 hn8
                  go_wp2_with fail
                  refine (refName_is f2 _ (by omega)).mono ?_
                  rintro e w' ⟨rfl, rfl⟩
                  rw [HC2.out]
                  go_wp2_with fail
                  refine (refName_is f3 _ (by omega)).mono ?_
                  rintro e w' ⟨rfl, rfl⟩
                  rw [HC3.out]
                  go_wp2_with fail
                  refine (refName_is f8 _ (by omega)).mono ?_
                  rintro e w' ⟨rfl, rfl⟩
                  rw [HC8.out]
                  go_wp2_with fail
                  go_ret
                  exact ⟨by rw [HQ.out]; rfl, HB4.out⟩
            | false =>
              have HQ : Hid (b = false) := bool_f HB.out (fun h => by have := h.1.2.2.1; rw [h3] at this; cases this)
              have HC2 : Hid (nameB f2.data.toList = true) := h2
              have HC3 : Hid (nameB f3.data.toList = false) := h3
              clear h2 h3 HB
              go_wp2_with fail
              refine (refName_is f2 _ (by omega)).mono ?_
              rintro e w' ⟨rfl, rfl⟩
              rw [HC2.out]
              go_wp2_with fail
              refine (refName_is f3 _ (by omega)).mono ?_
              rintro e w' ⟨rfl, rfl⟩
              rw [HC3.out]
              go_wp2_with fail
              go_ret
              exact ⟨by rw [HQ.out]; rfl, HB4.out⟩
          | false =>
            have HQ : Hid (b = false) := bool_f HB.out (fun h => by have := h.1.2.1; rw [h2] at this; cases this)
            have HC2 : Hid (nameB f2.data.toList = false) := h2
            clear h2 HB
            go_wp2_with fail
            refine (refName_is f2 _ (by omega)).mono ?_
            rintro e w' ⟨rfl, rfl⟩
            rw [HC2.out]
            go_wp2_with fail
            go_ret
            exact ⟨by rw [HQ.out]; rfl, HB4.out⟩
        · have HQ : Hid (b = false) := bool_f HB.out (fun h => ht h.2.2)
          have ht' : (t == 0) = false := by rw [beq_eq_false_iff_ne]; exact ht
          go_wp2_with fail
          go_ret
          exact ⟨by rw [HQ.out]; rfl, HB4.out⟩
      · have HQ : Hid (b = false) := bool_f HB.out (fun h => hi h.2.1)
        have hi' : (i == 0) = false := by rw [beq_eq_false_iff_ne]; exact hi
        go_wp2_with fail
        go_ret
        exact ⟨by rw [HQ.out]; rfl, HB4.out⟩
end Go.Proofs.YtibelcnjmpedkaaGreatDoor
