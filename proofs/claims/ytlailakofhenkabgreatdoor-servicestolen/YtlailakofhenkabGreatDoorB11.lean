/-
  Own texts put together: EvRefMay1, EvRefMay3, EvRefMayA, EvRefTold, EvRefWrite, EvRefWrite1, ErrAs.
-/
import Derived.Test.YtlailakofhenkabGreatDoorB8
import Derived.Test.YtlailakofhenkabGreatDoorB4
import Derived.Test.YtlailakofhenkabGreatDoorB5
import Derived.Test.YtlailakofhenkabGreatDoorB6
import Derived.Test.YtlailakofhenkabGreatDoorB1
import Derived.WalkKit
import Derived.WalkSpells
import Derived.WalkLawsBesides
import Derived.LaidEql
import Derived.Stop.Asserts
import Derived.RowKitTokens
import Derived.BigQuiet
/-
  What may be an event, as the document's answer has it: a family that is put.
-/

namespace Go.Proofs.YtlailakofhenkabGreatDoor
open Go Go.RowKit Tok Sc Ev
set_option maxRecDepth 100000 in
set_option maxHeartbeats 8000000 in
theorem refMay_1 (f : Fam) (i t : Int) (b : Bool) (hb : b = true ↔ may ⟨1, f, i, t⟩) (hs : Small 5000 f) (w : World) : Calls Tryz.prog 140 #[evV ⟨1, f, i, t⟩] w fun e w' => e = .returned (.bool b) ∧ Below w.heap.size w w' := by
  rw [may_1] at hb
  obtain ⟨f1, f2, f3, f4, f5, f6, f7, f8, f9⟩ := f
  unfold Small at hs
  unfold mayF at hb
  simp only at hs hb
  obtain ⟨s2, s3, s4, s8⟩ := hs
  have HBD : Hid (Below w.heap.size w (((w.alloc (.cells #[.int .i64 1, .int .i64 f1, .string f2, .string f3, .string f4, .int .i64 f5, .int .i64 f6, .int .i64 f7, .string f8, .bool f9, .int .i64 i, .int .i64 t] 154)).alloc (.cells #[.int .i64 f1, .string f2, .string f3, .string f4, .int .i64 f5, .int .i64 f6, .int .i64 f7, .string f8, .bool f9] 40)).alloc (.cells #[.int .i64 f1, .int .i64 f5, .int .i64 f6, .int .i64 f7] 3))) := by
    show Below _ _ _
    repeat (first | exact Below.refl _ _ | refine Below.alloc ?_ (by simp; try omega) _)
  have HB : Hid (b = true ↔ ((okN f1 ∧ okN f5 ∧ okN f6 ∧ okN f7) ∧ nameB f2.data.toList = true ∧ nameB f3.data.toList = true ∧ (f8.data.toList = [] ∨ nameB f8.data.toList = true) ∧ Lst f4.data.toList) ∧ i = 0 ∧ t = 0) := hb
  clear hb
  have HN : Hid (∀ j : Nat, j < 4 → okB ([f1, f5, f6, f7].getD j 0) = false → b = false) := fun j hj h => bool_f HB.out (fun hh => by
    obtain ⟨⟨⟨h1, h5, h6, h7⟩, _⟩, _⟩ := hh
    match j, hj with
    | 0, _ => rw [show [f1, f5, f6, f7].getD 0 0 = f1 from rfl, okB_t h1] at h; cases h
    | 1, _ => rw [show [f1, f5, f6, f7].getD 1 0 = f5 from rfl, okB_t h5] at h; cases h
    | 2, _ => rw [show [f1, f5, f6, f7].getD 2 0 = f6 from rfl, okB_t h6] at h; cases h
    | 3, _ => rw [show [f1, f5, f6, f7].getD 3 0 = f7 from rfl, okB_t h7] at h; cases h)
  unfold evV evCs
  simp only
  go_enter Tryz.func140, Tryz.ntmps140
  go_wp2_with fail
  go_loopg [24] 4 (fun gk iv wr => ∃ j : Nat, j + gk = 4 ∧ iv = .int .i64 j ∧ Hid (∀ k : Nat, k < j → okB ([f1, f5, f6, f7].getD k 0) = true) ∧ wr = (((w.alloc (.cells #[.int .i64 1, .int .i64 f1, .string f2, .string f3, .string f4, .int .i64 f5, .int .i64 f6, .int .i64 f7, .string f8, .bool f9, .int .i64 i, .int .i64 t] 154)).alloc (.cells #[.int .i64 f1, .string f2, .string f3, .string f4, .int .i64 f5, .int .i64 f6, .int .i64 f7, .string f8, .bool f9] 40)).alloc (.cells #[.int .i64 f1, .int .i64 f5, .int .i64 f6, .int .i64 f7] 3)))
  case atStart => exact ⟨0, by omega, rfl, (fun k hk => absurd hk (Nat.not_lt_zero _)), rfl⟩
  case round =>
    obtain ⟨j, hj, rfl, HA, rfl⟩ := hrel
    have HJ : Hid (j + gk = 4) := hj
    have hj4 : j ≤ 4 := by omega
    clear hj
    by_cases hlt : j < 4
    · have hcell : (((w.alloc (.cells #[.int .i64 1, .int .i64 f1, .string f2, .string f3, .string f4, .int .i64 f5, .int .i64 f6, .int .i64 f7, .string f8, .bool f9, .int .i64 i, .int .i64 t] 154)).alloc (.cells #[.int .i64 f1, .string f2, .string f3, .string f4, .int .i64 f5, .int .i64 f6, .int .i64 f7, .string f8, .bool f9] 40)).alloc (.cells #[.int .i64 f1, .int .i64 f5, .int .i64 f6, .int .i64 f7] 3)).cell? ⟨w.heap.size + 1 + 1, j, none⟩ = some (.int .i64 ([f1, f5, f6, f7].getD j 0)) := by
        match j, hlt with
        | 0, _ => exact (World.cell?_alloc_at _ _ _ _ (by simp)).trans rfl
        | 1, _ => exact (World.cell?_alloc_at _ _ _ _ (by simp)).trans rfl
        | 2, _ => exact (World.cell?_alloc_at _ _ _ _ (by simp)).trans rfl
        | 3, _ => exact (World.cell?_alloc_at _ _ _ _ (by simp)).trans rfl
      have HNJ : Hid (okB ([f1, f5, f6, f7].getD j 0) = false → b = false) := HN.out j hlt
      have HAN : Hid (okB ([f1, f5, f6, f7].getD j 0) = true → ∀ k : Nat, k < j + 1 → okB ([f1, f5, f6, f7].getD k 0) = true) := fun h k hk => by
        by_cases hkj : k = j
        · rw [hkj]; exact h
        · exact HA.out k (by omega)
      generalize [f1, f5, f6, f7].getD j 0 = n at *
      have hltI : (j : Int) < 4 := by omega
      go_wp2_with fail
      refine (in_ok n _).mono ?_
      rintro e w' ⟨rfl, rfl⟩
      cases hq : okB n with
      | true =>
        have HQ := HAN.out hq
        have HQ2 : Hid (∀ k : Nat, k < j + 1 → okB ([f1, f5, f6, f7].getD k 0) = true) := HQ
        clear hq HQ
        go_wp2_with fail
        go_roundg (gk - 1)
        case measure => have := HJ.out; omega
        case rel => exact ⟨j + 1, by have := HJ.out; omega, by go_num, HQ2, rfl⟩
      | false =>
        have HQ : Hid (b = false) := HNJ.out hq
        clear hq
        go_wp2_with fail
        go_ret
        exact ⟨by rw [HQ.out]; rfl, HBD.out⟩
    · obtain rfl : j = 4 := by omega
      have HOK : Hid (okN f1 ∧ okN f5 ∧ okN f6 ∧ okN f7) := ⟨okB_iff.1 (HA.out 0 (by omega)), okB_iff.1 (HA.out 1 (by omega)), okB_iff.1 (HA.out 2 (by omega)), okB_iff.1 (HA.out 3 (by omega))⟩
      clear HA HJ hj4 hlt
      go_wp2_with fail
      refine (refLeast_is f4 _ s4).mono ?_
      rintro e w4 ⟨l, n, rfl, ho, hb4⟩
      have HB4 : Hid (Below w.heap.size w w4) := HBD.out.trans (hb4.mono HBD.out.size)
      have HO : Hid (Out f4.data.toList l n) := ho
      have kc : ∀ (g o : Nat) (v : Value), g < w.heap.size + 1 + 1 + 1 → (((w.alloc (.cells #[.int .i64 1, .int .i64 f1, .string f2, .string f3, .string f4, .int .i64 f5, .int .i64 f6, .int .i64 f7, .string f8, .bool f9, .int .i64 i, .int .i64 t] 154)).alloc (.cells #[.int .i64 f1, .string f2, .string f3, .string f4, .int .i64 f5, .int .i64 f6, .int .i64 f7, .string f8, .bool f9] 40)).alloc (.cells #[.int .i64 f1, .int .i64 f5, .int .i64 f6, .int .i64 f7] 3)).cell? ⟨g, o, none⟩ = some v → w4.cell? ⟨g, o, none⟩ = some v := fun g o v hg h => (hb4.cell (p := ⟨g, o, none⟩) (by simpa using hg)).trans h
      have k10 := kc w.heap.size 10 (.int .i64 i) (by omega) (Lib.cell?_alloc_some _ (Lib.cell?_alloc_some _ ((World.cell?_alloc_at _ _ _ _ rfl).trans rfl)))
      have k11 := kc w.heap.size 11 (.int .i64 t) (by omega) (Lib.cell?_alloc_some _ (Lib.cell?_alloc_some _ ((World.cell?_alloc_at _ _ _ _ rfl).trans rfl)))
      have m1 := kc (w.heap.size + 1) 1 (.string f2) (by omega) (Lib.cell?_alloc_some _ ((World.cell?_alloc_at _ _ _ _ (by simp)).trans rfl))
      have m2 := kc (w.heap.size + 1) 2 (.string f3) (by omega) (Lib.cell?_alloc_some _ ((World.cell?_alloc_at _ _ _ _ (by simp)).trans rfl))
      have m3 := kc (w.heap.size + 1) 3 (.string f4) (by omega) (Lib.cell?_alloc_some _ ((World.cell?_alloc_at _ _ _ _ (by simp)).trans rfl))
      have m7 := kc (w.heap.size + 1) 7 (.string f8) (by omega) (Lib.cell?_alloc_some _ ((World.cell?_alloc_at _ _ _ _ (by simp)).trans rfl))
      clear kc hb4 ho
      generalize hJJ : joined l = J
      have HJJ : Hid (joined l = J) := hJJ
      clear hJJ
      by_cases hi : i = 0
      · subst hi
        by_cases ht : t = 0
        · subst ht
          cases h2 : nameB f2.data.toList with
          | true =>
            cases h3 : nameB f3.data.toList with
            | true =>
              have HR : Hid (b = true ↔ (f8.data.toList = [] ∨ nameB f8.data.toList = true) ∧ Lst f4.data.toList) := by
                show b = true ↔ _
                rw [HB.out, h2, h3]
                have := HOK.out
                simp [this]
              clear HB HOK
              have HC2 : Hid (nameB f2.data.toList = true) := h2
              have HC3 : Hid (nameB f3.data.toList = true) := h3
              clear h2 h3
              by_cases h8 : f8.data.toList = []
              · have he : f8.toList.isEmpty = true := by rw [ByteArray.toList_eq, h8]; rfl
                have HR2 : Hid (b = true ↔ Lst f4.data.toList) := by
                  show b = true ↔ _
                  rw [HR.out]
                  simp [h8]
                clear HR h8
                cases n with
                | succ n =>
                  have HQ : Hid (b = false) := bool_f HR2.out (lst_not HO.out)
                  have hn : (((n + 1 : Nat) : Int) == 0) = false := by rw [beq_eq_false_iff_ne]; omega
                  have hn2 : ((n : Int) + 1 == 0) = false := by rw [beq_eq_false_iff_ne]; omega
                  clear HR2
                  go_wp2_with fail
                  refine (refName_is f2 _ (by omega)).mono ?_
                  rintro e w' ⟨rfl, rfl⟩
                  rw [HC2.out]
                  go_wp2_with fail
                  refine (refName_is f3 _ (by omega)).mono ?_
                  rintro e w' ⟨rfl, rfl⟩
                  rw [HC3.out]
                  go_wp2_with fail
                  go_ret
                  exact ⟨by rw [HQ.out]; rfl, HB4.out⟩
                | zero =>
                  rw [show ((0 : Nat) : Int) = 0 from rfl]
                  by_cases hJ : J = f4.data.toList
                  · have HQ : Hid (b = true) := HR2.out.2 ((lst_of HO.out).2 (HJJ.out.trans hJ))
                    have hf4 : f4 = ⟨J.toArray⟩ := bytes_eq hJ.symm
                    clear HR2 HO hJ
                    subst hf4
                    go_wp2_with fail
                    refine (refName_is f2 _ (by omega)).mono ?_
                    rintro e w' ⟨rfl, rfl⟩
                    rw [HC2.out]
                    go_wp2_with fail
                    refine (refName_is f3 _ (by omega)).mono ?_
                    rintro e w' ⟨rfl, rfl⟩
                    rw [HC3.out]
                    go_wp2_with fail
                    go_ret
                    exact ⟨by rw [HQ.out]; rfl, HB4.out⟩
                  · have HQ : Hid (b = false) := bool_f HR2.out (fun h => hJ (HJJ.out.symm.trans ((lst_of HO.out).1 h)))
                    have hne : (J == f4.toList) = false := by rw [ByteArray.toList_eq, beq_eq_false_iff_ne]; exact hJ
                    clear HR2 HO hJ
                    go_wp2_with fail
                    refine (refName_is f2 _ (by omega)).mono ?_
                    rintro e w' ⟨rfl, rfl⟩
                    rw [HC2.out]
                    go_wp2_with fail
                    refine (refName_is f3 _ (by omega)).mono ?_
                    rintro e w' ⟨rfl, rfl⟩
                    rw [HC3.out]
                    go_wp2_with fail
                    go_ret
                    exact ⟨by rw [HQ.out]; rfl, HB4.out⟩
              · have he : f8.toList.isEmpty = false := by rw [ByteArray.toList_eq, List.isEmpty_eq_false_iff]; exact h8
                cases hn8 : nameB f8.data.toList with
                | true =>
                  have HC8 : Hid (nameB f8.data.toList = true) := hn8
                  have HR2 : Hid (b = true ↔ Lst f4.data.toList) := by
                    show b = true ↔ _
                    rw [HR.out]
                    simp [hn8]
                  clear HR h8 hn8
                  cases n with
                  | succ n =>
                    have HQ : Hid (b = false) := bool_f HR2.out (lst_not HO.out)
                    have hn : (((n + 1 : Nat) : Int) == 0) = false := by rw [beq_eq_false_iff_ne]; omega
                    have hn2 : ((n : Int) + 1 == 0) = false := by rw [beq_eq_false_iff_ne]; omega
                    clear HR2
                    go_wp2_with fail
                    refine (refName_is f2 _ (by omega)).mono ?_
                    rintro e w' ⟨rfl, rfl⟩
                    rw [HC2.out]
                    go_wp2_with fail
                    refine (refName_is f3 _ (by omega)).mono ?_
                    rintro e w' ⟨rfl, rfl⟩
                    rw [HC3.out]
                    go_wp2_with fail
                    refine (refName_is f8 _ (by omega)).mono ?_
                    rintro e w' ⟨rfl, rfl⟩
                    rw [HC8.out]
                    go_wp2_with fail
                    go_ret
                    exact ⟨by rw [HQ.out]; rfl, HB4.out⟩
                  | zero =>
                    rw [show ((0 : Nat) : Int) = 0 from rfl]
                    by_cases hJ : J = f4.data.toList
                    · have HQ : Hid (b = true) := HR2.out.2 ((lst_of HO.out).2 (HJJ.out.trans hJ))
                      have hf4 : f4 = ⟨J.toArray⟩ := bytes_eq hJ.symm
                      clear HR2 HO hJ
                      subst hf4
                      go_wp2_with fail
                      refine (refName_is f2 _ (by omega)).mono ?_
                      rintro e w' ⟨rfl, rfl⟩
                      rw [HC2.out]
                      go_wp2_with fail
                      refine (refName_is f3 _ (by omega)).mono ?_
                      rintro e w' ⟨rfl, rfl⟩
                      rw [HC3.out]
                      go_wp2_with fail
                      refine (refName_is f8 _ (by omega)).mono ?_
                      rintro e w' ⟨rfl, rfl⟩
                      rw [HC8.out]
                      go_wp2_with fail
                      go_ret
                      exact ⟨by rw [HQ.out]; rfl, HB4.out⟩
                    · have HQ : Hid (b = false) := bool_f HR2.out (fun h => hJ (HJJ.out.symm.trans ((lst_of HO.out).1 h)))
                      have hne : (J == f4.toList) = false := by rw [ByteArray.toList_eq, beq_eq_false_iff_ne]; exact hJ
                      clear HR2 HO hJ
                      go_wp2_with fail
                      refine (refName_is f2 _ (by omega)).mono ?_
                      rintro e w' ⟨rfl, rfl⟩
                      rw [HC2.out]
                      go_wp2_with fail
                      refine (refName_is f3 _ (by omega)).mono ?_
                      rintro e w' ⟨rfl, rfl⟩
                      rw [HC3.out]
                      go_wp2_with fail
                      refine (refName_is f8 _ (by omega)).mono ?_
                      rintro e w' ⟨rfl, rfl⟩
                      rw [HC8.out]
                      go_wp2_with fail
                      go_ret
                      exact ⟨by rw [HQ.out]; rfl, HB4.out⟩
                | false =>
                  have HC8 : Hid (nameB f8.data.toList = false) := hn8
                  have HQ : Hid (b = false) := bool_f HR.out (fun h => by
                    rcases h.1 with h | h
                    · exact h8 h
                    · rw [hn8] at h; cases h)
                  clear HR h8 hn8
                  go_wp2_with fail
                  refine (refName_is f2 _ (by omega)).mono ?_
                  rintro e w' ⟨rfl, rfl⟩
                  rw [HC2.out]
                  go_wp2_with fail
                  refine (refName_is f3 _ (by omega)).mono ?_
                  rintro e w' ⟨rfl, rfl⟩
                  rw [HC3.out]
                  go_wp2_with fail
                  refine (refName_is f8 _ (by omega)).mono ?_
                  rintro e w' ⟨rfl, rfl⟩
                  rw [HC8.out]
                  go_wp2_with fail
                  go_ret
                  exact ⟨by rw [HQ.out]; rfl, HB4.out⟩
            | false =>
              have HQ : Hid (b = false) := bool_f HB.out (fun h => by have := h.1.2.2.1; rw [h3] at this; cases this)
              have HC2 : Hid (nameB f2.data.toList = true) := h2
              have HC3 : Hid (nameB f3.data.toList = false) := h3
              clear h2 h3 HB
              go_wp2_with fail
              refine (refName_is f2 _ (by omega)).mono ?_
              rintro e w' ⟨rfl, rfl⟩
              rw [HC2.out]
              go_wp2_with fail
              refine (refName_is f3 _ (by omega)).mono ?_
              rintro e w' ⟨rfl, rfl⟩
              rw [HC3.out]
              go_wp2_with fail
              go_ret
              exact ⟨by rw [HQ.out]; rfl, HB4.out⟩
          | false =>
            have HQ : Hid (b = false) := bool_f HB.out (fun h => by have := h.1.2.1; rw [h2] at this; cases this)
            have HC2 : Hid (nameB f2.data.toList = false) := h2
            clear h2 HB
            go_wp2_with fail
            refine (refName_is f2 _ (by omega)).mono ?_
            rintro e w' ⟨rfl, rfl⟩
            rw [HC2.out]
            go_wp2_with fail
            go_ret
            exact ⟨by rw [HQ.out]; rfl, HB4.out⟩
        · have HQ : Hid (b = false) := bool_f HB.out (fun h => ht h.2.2)
          have ht' : (t == 0) = false := by rw [beq_eq_false_iff_ne]; exact ht
          go_wp2_with fail
          go_ret
          exact ⟨by rw [HQ.out]; rfl, HB4.out⟩
      · have HQ : Hid (b = false) := bool_f HB.out (fun h => hi h.2.1)
        have hi' : (i == 0) = false := by rw [beq_eq_false_iff_ne]; exact hi
        go_wp2_with fail
        go_ret
        exact ⟨by rw [HQ.out]; rfl, HB4.out⟩
end Go.Proofs.YtlailakofhenkabGreatDoor

/-
  What may be an event, as the document's answer has it: the time, and other kinds.
-/

namespace Go.Proofs.YtlailakofhenkabGreatDoor
open Go Go.RowKit Tok Sc Ev
set_option maxRecDepth 100000 in
set_option maxHeartbeats 4000000 in
theorem refMay_3 (f : Fam) (i t : Int) (b : Bool) (hb : b = true ↔ may ⟨3, f, i, t⟩) (w : World) : Calls Tryz.prog 140 #[evV ⟨3, f, i, t⟩] w fun e w' => e = .returned (.bool b) ∧ Below w.heap.size w w' := by
  rw [may_3] at hb
  by_cases hz : f = zeroF
  · subst hz
    by_cases ht : i = 0
    · subst ht
      have HB : Hid (b = okB t) := by
        show b = okB t
        rw [Bool.eq_iff_iff, okB_iff, hb]
        simp
      clear hb
      unfold evV evCs zeroF
      simp only
      go_enter Tryz.func140, Tryz.ntmps140
      go_wp2_with fail
      refine (in_ok t _).mono ?_
      rintro e w' ⟨rfl, rfl⟩
      go_wp2_with fail
      go_ret
      refine ⟨by rw [HB.out]; rfl, ?_⟩
      repeat (first | exact Below.refl _ _ | refine Below.alloc ?_ (by simp) _)
    · have HB : Hid (b = false) := bool_f hb (fun h => ht h.2.1)
      have ht' : (i == 0) = false := by rw [beq_eq_false_iff_ne]; exact ht
      clear hb
      unfold evV evCs zeroF
      simp only
      go_enter Tryz.func140, Tryz.ntmps140
      go_wp2_with fail
      go_ret
      refine ⟨by rw [HB.out]; rfl, ?_⟩
      repeat (first | exact Below.refl _ _ | refine Below.alloc ?_ (by simp) _)
  · have HB : Hid (b = false) := bool_f hb (fun h => hz h.1)
    have HZ : Hid (¬ f = zeroF) := hz
    clear hb hz
    obtain ⟨f1, f2, f3, f4, f5, f6, f7, f8, f9⟩ := f
    unfold evV evCs
    simp only
    go_enter Tryz.func140, Tryz.ntmps140
    go_wp2_with fail
    all_goals first
      | (exfalso; refine HZ.out ?_; unfold zeroF; simp_all [toList_nil]; done)
      | (go_ret; refine ⟨by rw [HB.out]; rfl, ?_⟩; repeat (first | exact Below.refl _ _ | refine Below.alloc ?_ (by simp) _))
set_option maxRecDepth 100000 in
set_option maxHeartbeats 4000000 in
theorem refMay_no (k : Int) (f : Fam) (i t : Int) (b : Bool) (hb : b = true ↔ may ⟨k, f, i, t⟩) (h1 : k ≠ 1) (h2 : k ≠ 2) (h3 : k ≠ 3) (w : World) : Calls Tryz.prog 140 #[evV ⟨k, f, i, t⟩] w fun e w' => e = .returned (.bool b) ∧ Below w.heap.size w w' := by
  have HB : Hid (b = false) := bool_f hb (may_no h1 h2 h3)
  clear hb
  obtain ⟨f1, f2, f3, f4, f5, f6, f7, f8, f9⟩ := f
  unfold evV evCs
  simp only
  go_enter Tryz.func140, Tryz.ntmps140
  go_wp2_with fail
  go_ret
  refine ⟨by rw [HB.out]; rfl, ?_⟩
  repeat (first | exact Below.refl _ _ | refine Below.alloc ?_ (by simp) _)
end Go.Proofs.YtlailakofhenkabGreatDoor

/-
  What may be an event, as the document's answer has it: all kinds; what the law makes of an event.
-/

namespace Go.Proofs.YtlailakofhenkabGreatDoor
open Go Go.RowKit Tok Sc Ev
theorem refMay_is (e : E) (b : Bool) (hb : b = true ↔ Ev.may e) (hs : Small 5000 e.fam) (w : World) : Calls Tryz.prog 140 #[evV e] w fun e w' => e = .returned (.bool b) ∧ Below w.heap.size w w' := by
  obtain ⟨k, f, i, t⟩ := e
  by_cases h1 : k = 1
  · subst h1; exact refMay_1 f i t b hb hs w
  by_cases h2 : k = 2
  · subst h2; exact refMay_2 f i t b hb w
  by_cases h3 : k = 3
  · subst h3; exact refMay_3 f i t b hb w
  exact refMay_no k f i t b hb h1 h2 h3 w
def lens (f : Fam) : Nat := f.client.size + f.subject.size + f.scope.size + f.request.size
end Go.Proofs.YtlailakofhenkabGreatDoor

/-
  Numbers with blanks between, as the document's answer tells them.
-/

namespace Go.Proofs.YtlailakofhenkabGreatDoor
open Go Go.RowKit Tok Sc Ev
def told (ns : List Int) : List UInt8 := Lib.join (ns.map Lib.itoa) [32]
def toldB (ns : List Int) : List ByteArray := ns.map fun n => (⟨(Lib.itoa n).toArray⟩ : ByteArray)
theorem toldB_take (ns : List Int) (j : Nat) (h : j < ns.length) : toldB (ns.take (j + 1)) = toldB (ns.take j) ++ [⟨(Lib.itoa ns[j]).toArray⟩] := by
  unfold toldB
  rw [List.take_succ_eq_append_getElem h, List.map_append]
  rfl
theorem toldB_lists (ns : List Int) : (toldB ns).map (·.data.toList) = ns.map Lib.itoa := by
  unfold toldB
  rw [List.map_map]
  rfl
theorem told_len : ∀ (ns : List Int), (∀ n ∈ ns, okN n) → (told ns).length ≤ 14 * ns.length
  | [], _ => by simp [told, Lib.join_nil]
  | [a], h => by
    have := digits13 (h a (by simp))
    simp [told, Lib.join_one]
    omega
  | a :: b :: l, h => by
    have h1 := digits13 (h a (by simp))
    have h2 := told_len (b :: l) (fun n hn => h n (by simp [hn]))
    unfold told at *
    rw [List.map_cons, List.map_cons, glue_two]
    simp at h2 ⊢
    omega
/-- A row of numbers. -/
def TRow (w : World) (g : Nat) (ns : List Int) : Prop := g < w.heap.size ∧ ∀ j (h : j < ns.length), w.cell? ⟨g, j, none⟩ = some (.int .i64 ns[j])
theorem TRow.on {w w' : World} {g : Nat} {ns : List Int} (h : TRow w g ns) (hb : Below w.heap.size w w') : TRow w' g ns :=
  ⟨Nat.lt_of_lt_of_le h.1 hb.size, fun j hj => (hb.cell (p := ⟨g, j, none⟩) h.1).trans (h.2 j hj)⟩
theorem TRow.alloc {w : World} {g : Nat} {ns : List Int} (h : TRow w g ns) (o : Obj) : TRow (w.alloc o) g ns := h.on ((Below.refl _ _).alloc (Nat.le_refl _) _)
theorem trow1 (w : World) (a : Int) (t : TypeId) (g : Nat) (hg : g = w.heap.size) : TRow (w.alloc (.cells #[.int .i64 a] t)) g [a] :=
  ⟨by simp [hg], fun j hj => by
    match j, hj with
    | 0, _ => exact (World.cell?_alloc_at _ _ _ _ hg).trans rfl⟩
theorem trow3 (w : World) (a b c : Int) (t : TypeId) (g : Nat) (hg : g = w.heap.size) : TRow (w.alloc (.cells #[.int .i64 a, .int .i64 b, .int .i64 c] t)) g [a, b, c] :=
  ⟨by simp [hg], fun j hj => by
    match j, hj with
    | 0, _ => exact (World.cell?_alloc_at _ _ _ _ hg).trans rfl
    | 1, _ => exact (World.cell?_alloc_at _ _ _ _ hg).trans rfl
    | 2, _ => exact (World.cell?_alloc_at _ _ _ _ hg).trans rfl⟩
theorem joinB_is {B : Nat} {w : World} {v : Value} {xs : List ByteArray} (h : Words B w v xs) (hn : (Lib.join (xs.map (·.data.toList)) [32]).length ≤ 100000) (hx : xs.length ≤ 5000) :
    Calls Tryz.prog 114 #[v, .string ⟨#[32]⟩] w fun e w' => e = .returned (.string ⟨(Lib.join (xs.map (·.data.toList)) [32]).toArray⟩) ∧ Below w.heap.size w w' := by
  rcases h with ⟨rfl, rfl⟩ | ⟨g, c, rfl, hr⟩
  · refine (Tryz.strings_Join_none none 0 ⟨#[32]⟩ w).mono ?_
    rintro e w' ⟨rfl, rfl⟩
    exact ⟨rfl, Below.refl _ _⟩
  · refine Tryz.strings_Join g 0 c xs ⟨#[32]⟩ w (fun j x hj => ?_) hr.lt (by omega) hr.le (Nat.le_trans hn (by omega))
    rw [Nat.zero_add]
    refine hr.holds j _ ?_
    rw [List.getElem?_map, hj]
    rfl
set_option maxHeartbeats 1000000 in
theorem refWord_is (s : ByteArray) (w : World) : Calls Tryz.prog 162 #[.string s] w fun e w' => e = .returned (.string ⟨(wordL s.data.toList).toArray⟩) ∧ w' = w := by
  by_cases h : s.data.toList = []
  · have he : s.toList.isEmpty = true := by rw [ByteArray.toList_eq, h]; rfl
    have HW : Hid (wordL s.data.toList = [95]) := by show _ = _; rw [h]; rfl
    clear h
    go_enter Tryz.func162, Tryz.ntmps162
    go_wp2_with fail
    go_ret
    exact ⟨by rw [HW.out]; rfl, rfl⟩
  · have he : s.toList.isEmpty = false := by rw [ByteArray.toList_eq, List.isEmpty_eq_false_iff]; exact h
    have HW : Hid (wordL s.data.toList = s.data.toList) := if_neg h
    clear h
    go_enter Tryz.func162, Tryz.ntmps162
    go_wp2_with fail
    go_ret
    exact ⟨by rw [HW.out]; rfl, rfl⟩
theorem info_strE : (Tryz.prog.info? 9).map (fun i => (i.zero, i.size, i.bytes)) = some (some (.string ⟨#[]⟩), 1, 16) := by kernel_rfl
theorem info_strsE : ∃ i, Tryz.prog.info? 9 = some i ∧ i.zero = some (.string ⟨#[]⟩) ∧ i.size = 1 ∧ i.bytes = 16 := by
  have h := info_strE
  cases hi : Tryz.prog.info? 9 with
  | none => rw [hi] at h; cases h
  | some i =>
    rw [hi] at h
    simp only [Option.map_some, Option.some.injEq, Prod.mk.injEq] at h
    exact ⟨i, rfl, h.1, h.2.1, h.2.2⟩
set_option maxRecDepth 100000 in
set_option maxHeartbeats 4000000 in
theorem told_is (ns : List Int) (g c : Nat) (w : World) (hn : ns.length ≤ 4) (hok : ∀ n ∈ ns, okN n) (hr : TRow w g ns) (hL : LibsE w) : Calls Tryz.prog 104 #[.slice (some ⟨g, 0, none⟩) ns.length c] w fun e w' => e = .returned (.string ⟨(told ns).toArray⟩) ∧ Below w.heap.size w w' := by
  obtain ⟨i0, hi, hz0, hz1, hz2⟩ := info_strsE
  have HL : Hid (LibsE w) := hL
  have HR : Hid (TRow w g ns) := hr
  have HOK : Hid (∀ n ∈ ns, okN n) := hok
  have HLEN : Hid ((told ns).length ≤ 100000) := by have := told_len ns hok; show _ ≤ _; omega
  clear hL hr hok
  go_enter Tryz.func104, Tryz.ntmps104
  go_wp2_with fail
  go_loopg [3, 8] ns.length (fun gk ov iv wr => ∃ j : Nat, j + gk = ns.length ∧ iv = .int .i64 j ∧ Hid (Words w.heap.size wr ov (toldB (ns.take j))) ∧ Hid (Below w.heap.size w wr))
  case atStart => exact ⟨0, by omega, rfl, .inl ⟨rfl, rfl⟩, Below.refl _ _⟩
  case round =>
    obtain ⟨j, hj, rfl, HW, HB⟩ := hrel
    have HJ : Hid (j + gk = ns.length) := hj
    have hjl : j ≤ ns.length := by omega
    clear hj
    by_cases hlt : j < ns.length
    · have hltI : (j : Int) < (ns.length : Int) := by omega
      have hcell : wr.cell? ⟨g, j, none⟩ = some (.int .i64 ns[j]) := ((HR.out.on HB.out).2 j hlt)
      have HNJ : Hid (okN ns[j]) := HOK.out _ (List.getElem_mem hlt)
      have HT : Hid (toldB (ns.take (j + 1)) = toldB (ns.take j) ++ [⟨(Lib.itoa ns[j]).toArray⟩]) := toldB_take ns j hlt
      have hlx : (toldB (ns.take j)).length ≤ 1000000 := by unfold toldB; simp; omega
      generalize ns[j] = n at *
      go_wp2_with fail
      refine (itoaE_is n _ HNJ.out.1 (by have := HNJ.out.2; omega) (HL.out.below HB.out)).mono ?_
      rintro e w1 ⟨rfl, hb1⟩
      have HB1 : Hid (Below w.heap.size w w1) := HB.out.trans (hb1.mono HB.out.size)
      have HW1 : Hid (Words w.heap.size w1 _ (toldB (ns.take j))) := HW.out.below hb1 (Nat.le_refl _)
      clear hb1 hcell
      have HB2 : Hid (Below w.heap.size w (w1.alloc (.cells #[.string ⟨(Lib.itoa n).toArray⟩] 9))) := HB1.out.alloc HB1.out.size _
      have HW2 : Hid (Words w.heap.size (w1.alloc (.cells #[.string ⟨(Lib.itoa n).toArray⟩] 9)) _ (toldB (ns.take j))) := HW1.out.below ((Below.refl _ _).alloc (Nat.le_refl _) _) (Nat.le_refl _)
      go_wp2_with (at_builtin; refine wpList_append_words _ rfl _ _ 66 rfl 9 i0 Tryz.underlying66 hi hz0 hz1 hz2 w.heap.size _ _ rfl HW2.out HB2.out.size ⟨w1.heap.size, 0, none⟩ 1 ⟨(Lib.itoa n).toArray⟩ rfl ((World.cell?_alloc_at _ _ _ _ rfl).trans rfl) hlx ?_)
      intro v' w2 hw2 hb2
      have HB3 : Hid (Below w.heap.size w w2) := HB2.out.trans hb2
      have HW3 : Hid (Words w.heap.size w2 v' (toldB (ns.take (j + 1)))) := by show Words _ _ _ _; rw [HT.out]; exact hw2
      clear hw2 hb2
      go_wp2_with fail
      go_roundg (gk - 1)
      case measure => have := HJ.out; omega
      case rel => exact ⟨j + 1, by have := HJ.out; omega, by go_num, HW3, HB3⟩
    · obtain rfl : j = ns.length := by omega
      have hwf := HW.out
      rw [List.take_of_length_le (Nat.le_refl _)] at hwf
      have HWF : Hid _ := hwf
      clear hwf
      have hjn := fun (W : World) v (hW : Words w.heap.size W v (toldB ns)) => joinB_is hW (by rw [toldB_lists]; exact HLEN.out) (by unfold toldB; simp; omega)
      simp only [toldB_lists] at hjn
      go_wp2_with fail
      refine (hjn _ _ HWF.out).mono ?_
      rintro e w1 ⟨rfl, hb1⟩
      have HB1 : Hid (Below w.heap.size w w1) := HB.out.trans (hb1.mono HB.out.size)
      clear hb1
      go_wp2_with fail
      go_ret
      exact ⟨rfl, HB1.out⟩
end Go.Proofs.YtlailakofhenkabGreatDoor

/-
  An event's line, as the document's answer writes it.
-/

namespace Go.Proofs.YtlailakofhenkabGreatDoor
open Go Go.RowKit Tok Sc Ev
theorem bapp (a b : List UInt8) : (⟨a.toArray⟩ : ByteArray) ++ ⟨b.toArray⟩ = ⟨(a ++ b).toArray⟩ := by
  apply ByteArray.ext
  simp [ByteArray.data_append]
theorem bself (x : ByteArray) : x = ⟨x.data.toList.toArray⟩ := rfl
def bodyL (f : Fam) : List UInt8 := [112, 32] ++ told [f.id] ++ [32] ++ f.client.data.toList ++ [32] ++ f.subject.data.toList ++ [32] ++ wordL f.scope.data.toList ++ [32] ++ told [f.gen, f.made, f.used] ++ [32] ++ wordL f.request.data.toList
theorem line_1 (f : Fam) : line ⟨1, f, 0, 0⟩ = bodyL f ++ 32 :: lifeL f.dead := by
  unfold line wordsOf putWs bodyL told
  rw [if_pos rfl]
  simp [glue_two, Lib.join_one]
theorem body_str (f : Fam) : (⟨#[112, 32]⟩ : ByteArray) ++ ⟨(told [f.id]).toArray⟩ ++ ⟨#[32]⟩ ++ f.client ++ ⟨#[32]⟩ ++ f.subject ++ ⟨#[32]⟩ ++ ⟨(wordL f.scope.data.toList).toArray⟩ ++ ⟨#[32]⟩ ++ ⟨(told [f.gen, f.made, f.used]).toArray⟩ ++ ⟨#[32]⟩ ++ ⟨(wordL f.request.data.toList).toArray⟩ = ⟨(bodyL f).toArray⟩ := by
  apply ByteArray.ext
  simp [ByteArray.data_append, bodyL]
theorem lineB_len (f : Fam) (h : mayF f) : (bodyL f).length ≤ 180 := by
  have := line_len (e := ⟨1, f, 0, 0⟩) (.inl ⟨rfl, h, rfl, rfl⟩)
  rw [line_1] at this
  simp at this
  omega
theorem line_2 (i : Int) : line ⟨2, zeroF, i, 0⟩ = [100, 32] ++ told [i] := by
  unfold line wordsOf told
  simp [glue_two, Lib.join_one]
theorem line_3 (i : Int) : line ⟨3, zeroF, 0, i⟩ = [99, 32] ++ told [i] := by
  unfold line wordsOf told
  simp [glue_two, Lib.join_one]
end Go.Proofs.YtlailakofhenkabGreatDoor

/-
  The line of a family that is put, as the document's answer writes it.
-/

namespace Go.Proofs.YtlailakofhenkabGreatDoor
open Go Go.RowKit Tok Sc Ev
end Go.Proofs.YtlailakofhenkabGreatDoor

namespace Go.Proofs.YtlailakofhenkabGreatDoor
open Go.RowKit Go.Extern.Stop Go.Stop Go.Extern
namespace ErrAs
theorem valueOfPE (t : Addr) (w : World) : (ReflectliteValue.unpack (.iface 123 (.pointer (some t)))).run Tryz.prog w
    = .ok (.agg #[.pointer (some ⟨10, 123, none⟩), .pointer (some ⟨w.heap.size, 0, none⟩), .int .u64 150]) (w.alloc (.cells #[.pointer (some t)] 123)) := by kernel_rfl
theorem typePE (a : Addr) (w : World) : (ReflectliteValue.methodAny (ReflectliteValue.valueError "reflectlite.Value.Type" 0) (fun t _ _ _ => ReflectliteType.toType t) #[.agg #[.pointer (some ⟨10, 123, none⟩), .pointer (some a), .int .u64 150]]).run Tryz.prog w
    = .ok (.iface 283 (.agg #[.pointer (some ⟨10, 123, none⟩)])) w := by kernel_rfl
theorem kindPE (w : World) : ((ReflectliteType.abiMethod fun t => (fun a : Nat => Value.int IntKind.u8 (a : Int)) <$> Rtype.kind t) #[.pointer (some ⟨10, 123, none⟩)]).run Tryz.prog w = .ok (.int .u8 22) w := by kernel_rfl
theorem kindE (w : World) : ((ReflectliteType.abiMethod fun t => (fun a : Nat => Value.int IntKind.u8 (a : Int)) <$> Rtype.kind t) #[.pointer (some ⟨10, 47, none⟩)]).run Tryz.prog w = .ok (.int .u8 2) w := by kernel_rfl
theorem rlm (z : Sem Value) (f : TypeId → Addr → Nat → Nat → Sem Value) (v : Value) :
    ReflectliteValue.method z f #[v] = (do match ← ReflectliteValue.parts v with | none => z | some (t, a, fl) => f t a fl (fl % 32)) := rfl
theorem partsPE (a : Addr) (w : World) : (ReflectliteValue.parts (.agg #[.pointer (some ⟨10, 123, none⟩), .pointer (some a), .int .u64 150])).run Tryz.prog w = .ok (some (123, a, 150)) w := by kernel_rfl
theorem isNilPE (a p : Addr) (W : World) (ha : W.cell? a = some (.pointer (some p))) :
    (ReflectliteValue.method (ReflectliteValue.valueError "reflectlite.Value.IsNil" 0) ReflectliteValue.isNil #[.agg #[.pointer (some ⟨10, 123, none⟩), .pointer (some a), .int .u64 150]]).run Tryz.prog W = .ok (.bool false) W := by
  rw [rlm]
  simp only [Sem.run_bind, partsPE, Result.andThen]
  simp [ReflectliteValue.isNil, loadVar, isAgg, underlying, Tryz.underlying123, ha, Result.andThen]
theorem methodKind (h : Value) (w : World) : (Go.method 552 283 (.agg #[h]) "Kind").run Tryz.prog w = .ok (401, h) w := by kernel_rfl
theorem methodElem (h : Value) (w : World) : (Go.method 552 283 (.agg #[h]) "Elem").run Tryz.prog w = .ok (414, .agg #[h]) w := by kernel_rfl
theorem methodImplements (h : Value) (w : World) : (Go.method 552 283 (.agg #[h]) "Implements").run Tryz.prog w = .ok (415, .agg #[h]) w := by kernel_rfl
theorem methodAssignableTo (h : Value) (w : World) : (Go.method 552 283 (.agg #[h]) "AssignableTo").run Tryz.prog w = .ok (412, .agg #[h]) w := by kernel_rfl
theorem elemPE (w : World) : (ReflectliteType.method ReflectliteType.elem #[.agg #[.pointer (some ⟨10, 123, none⟩)]]).run Tryz.prog w = .ok (.iface 283 (.agg #[.pointer (some ⟨10, 47, none⟩)])) w := by kernel_rfl
theorem implementsE (w : World) : (ReflectliteType.relation "Implements" ReflectliteType.implements_ #[.agg #[.pointer (some ⟨10, 47, none⟩)], .iface 283 (.agg #[.pointer (some ⟨10, 31, none⟩)])]).run Tryz.prog w = .ok (.bool true) w := by kernel_rfl
theorem typeOfE (v : Value) (w : World) : (ReflectliteType.typeOf #[.iface 47 v]).run Tryz.prog w = .ok (.iface 283 (.agg #[.pointer (some ⟨10, 47, none⟩)])) w := by kernel_rfl
theorem assignableE (w : World) : (ReflectliteType.relation "AssignableTo" ReflectliteType.assignableTo #[.agg #[.pointer (some ⟨10, 47, none⟩)], .iface 283 (.agg #[.pointer (some ⟨10, 47, none⟩)])]).run Tryz.prog w = .ok (.bool true) w := by kernel_rfl
theorem valueOfE (n : Int) (w : World) : (ReflectliteValue.unpack (.iface 47 (.int .i64 n))).run Tryz.prog w
    = .ok (.agg #[.pointer (some ⟨10, 47, none⟩), .pointer (some ⟨w.heap.size, 0, none⟩), .int .u64 130]) (w.alloc (.cells #[.int .i64 n] 47)) := by kernel_rfl
theorem elemOfPE (w : World) : (Rtype.elem? 123).run Tryz.prog w = .ok (some 47) w := by kernel_rfl
theorem mkE (p : Addr) (w : World) : (ReflectliteValue.mk 47 p ReflectliteValue.flagAddr).run Tryz.prog w = .ok (.agg #[.pointer (some ⟨10, 47, none⟩), .pointer (some p), .int .u64 386]) w := by kernel_rfl
theorem elemVPE (a p : Addr) (W : World) (ha : W.cell? a = some (.pointer (some p))) :
    (ReflectliteValue.method (ReflectliteValue.valueError "reflectlite.Value.Elem" 0) ReflectliteValue.elem #[.agg #[.pointer (some ⟨10, 123, none⟩), .pointer (some a), .int .u64 150]]).run Tryz.prog W
      = .ok (.agg #[.pointer (some ⟨10, 47, none⟩), .pointer (some p), .int .u64 386]) W := by
  rw [rlm]
  simp only [Sem.run_bind, partsPE, Result.andThen]
  simp [ReflectliteValue.elem, loadVar, isAgg, underlying, Tryz.underlying123, ha, Result.andThen, elemOfPE, mkE]
theorem rls (v x : Value) : ReflectliteValue.set #[v, x] = (do
    let (some (dst, a, fl), some (src, b, _)) := (← ReflectliteValue.parts v, ← ReflectliteValue.parts x)
      | unsupported (.noEntry "extern/(internal/reflectlite.Value).Set.zeroValue")
    if fl / ReflectliteValue.flagAddr % 2 == 0 then unsupported (.noEntry "extern/(internal/reflectlite.Value).Set.unaddressable")
    let val ← loadVar src b
    if ← Rtype.directlyAssignable dst src then storeVar dst a val
    else if ← Rtype.implements dst src then
      if (← Rtype.kind src) == 20 then
        match val with
        | .nilIface => unsupported (.noEntry "extern/reflectlite: a nil value of one interface type handed on as a value of another")
        | _ => storeVar dst a val
      else storeVar dst a (.iface src val)
    else panicString ("reflectlite.Set: value of type " ++ (← Rtype.spelt src) ++ " is not assignable to type " ++ (← Rtype.spelt dst))
    pure (.tuple #[])) := rfl
theorem partsEa (a : Addr) (w : World) : (ReflectliteValue.parts (.agg #[.pointer (some ⟨10, 47, none⟩), .pointer (some a), .int .u64 386])).run Tryz.prog w = .ok (some (47, a, 386)) w := by kernel_rfl
theorem partsE (a : Addr) (w : World) : (ReflectliteValue.parts (.agg #[.pointer (some ⟨10, 47, none⟩), .pointer (some a), .int .u64 130])).run Tryz.prog w = .ok (some (47, a, 130)) w := by kernel_rfl
theorem directE (w : World) : (Rtype.directlyAssignable 47 47).run Tryz.prog w = .ok true w := by kernel_rfl
theorem setE (ta b : Addr) (n : Int) (old : Value) (W : World) (hb : W.cell? b = some (.int .i64 n)) (ht : W.cell? ta = some old) (hf : W.frozen? ta = false) :
    (ReflectliteValue.set #[.agg #[.pointer (some ⟨10, 47, none⟩), .pointer (some ta), .int .u64 386], .agg #[.pointer (some ⟨10, 47, none⟩), .pointer (some b), .int .u64 130]]).run Tryz.prog W
      = .ok (.tuple #[]) (W.setCell ta (.int .i64 n)) := by
  rw [rls]
  simp only [Sem.run_bind, partsEa, partsE, Result.andThen]
  simp [ReflectliteValue.flagAddr, loadVar, isAgg, underlying, Tryz.underlying47, hb, Result.andThen, directE, storeVar, Value.cells, storeCells, Addr.add]
  rw [run_store Tryz.prog W ta _ _ (by rfl)]
  simp [ht, hf]
end ErrAs
end Go.Proofs.YtlailakofhenkabGreatDoor
