/-
  The line of a family that is put, as the document's answer writes it.
-/
import Derived.Test.YtibelcnjmpedkaaGreatDoorEvRefWrite
namespace Go.Proofs.YtibelcnjmpedkaaGreatDoor
open Go Go.RowKit Tok Sc Ev
set_option maxRecDepth 100000 in
set_option maxHeartbeats 16000000 in
theorem refWrite_1 (f : Fam) (w : World) (h : mayF f) (hs : Small 1000 f) (hL : LibsE w) : Calls Tryz.prog 14 #[evV ⟨1, f, 0, 0⟩] w fun r w' => r = .returned (.tuple #[.string ⟨(line ⟨1, f, 0, 0⟩).toArray⟩, .int .i64 0]) ∧ Below w.heap.size w w' := by
  have HM := fun (W : World) => refMay_is ⟨1, f, 0, 0⟩ true (by simp [may_1, h]) hs W
  have hq1 : ∀ n ∈ [f.id], okN n := by simpa using h.1.1
  have hq3 : ∀ n ∈ [f.gen, f.made, f.used], okN n := by simpa using h.1.2
  have HT1 := fun (g : Nat) (W : World) (hr : TRow W g [f.id]) (hL : LibsE W) => told_is [f.id] g 1 W (by simp) hq1 hr hL
  have HT3 := fun (g : Nat) (W : World) (hr : TRow W g [f.gen, f.made, f.used]) (hL : LibsE W) => told_is [f.gen, f.made, f.used] g 3 W (by simp) hq3 hr hL
  have l1 := told_len [f.id] hq1
  have l3 := told_len [f.gen, f.made, f.used] hq3
  have HX : Hid ((⟨#[112, 32]⟩ : ByteArray) ++ ⟨(told [f.id]).toArray⟩ ++ ⟨#[32]⟩ ++ f.client ++ ⟨#[32]⟩ ++ f.subject ++ ⟨#[32]⟩ ++ ⟨(wordL f.scope.data.toList).toArray⟩ ++ ⟨#[32]⟩ ++ ⟨(told [f.gen, f.made, f.used]).toArray⟩ ++ ⟨#[32]⟩ ++ ⟨(wordL f.request.data.toList).toArray⟩ = ⟨(bodyL f).toArray⟩) := body_str f
  have hbl := body_len f h

  rw [line_1]
  generalize bodyL f = BODY at *
  have nB : ¬ 9223372036854775807 < BODY.length + 2 := by omega
  clear hbl
  clear hq1 hq3 h
  have HL : Hid (LibsE w) := hL
  clear hL
  have HW4 := fun (W : World) => refWord_is f.scope W
  have HW8 := fun (W : World) => refWord_is f.request W
  have l4 := wordL_len f.scope.data.toList
  have l8 := wordL_len f.request.data.toList
  obtain ⟨f1, f2, f3, f4, f5, f6, f7, f8, f9⟩ := f
  obtain ⟨s2, s3, s4, s8⟩ := hs
  simp only at HT1 HT3 l1 l3 HW4 HW8 l4 l8 s2 s3 s4 s8 ⊢
  have e4 : f4.data.toList.length = f4.size := Array.length_toList
  have e8 : f8.data.toList.length = f8.size := Array.length_toList
  rw [e4] at l4
  rw [e8] at l8
  clear e4 e8
  generalize told [f1] = T1 at *
  generalize told [f5, f6, f7] = T3 at *
  generalize wordL f4.data.toList = W4 at *
  generalize wordL f8.data.toList = W8 at *
  simp only [List.length_cons, List.length_nil] at l1 l3
  have n0 : ¬ 9223372036854775807 < 2 + T1.length := by omega
  have n1 : ¬ 9223372036854775807 < 2 + T1.length + 1 := by omega
  have n2 : ¬ 9223372036854775807 < 2 + T1.length + 1 + f2.size := by omega
  have n3 : ¬ 9223372036854775807 < 2 + T1.length + 1 + f2.size + 1 := by omega
  have n4 : ¬ 9223372036854775807 < 2 + T1.length + 1 + f2.size + 1 + f3.size := by omega
  have n5 : ¬ 9223372036854775807 < 2 + T1.length + 1 + f2.size + 1 + f3.size + 1 := by omega
  have n6 : ¬ 9223372036854775807 < 2 + T1.length + 1 + f2.size + 1 + f3.size + 1 + W4.length := by omega
  have n7 : ¬ 9223372036854775807 < 2 + T1.length + 1 + f2.size + 1 + f3.size + 1 + W4.length + 1 := by omega
  have n8 : ¬ 9223372036854775807 < 2 + T1.length + 1 + f2.size + 1 + f3.size + 1 + W4.length + 1 + T3.length := by omega
  have n9 : ¬ 9223372036854775807 < 2 + T1.length + 1 + f2.size + 1 + f3.size + 1 + W4.length + 1 + T3.length + 1 := by omega
  have n10 : ¬ 9223372036854775807 < 2 + T1.length + 1 + f2.size + 1 + f3.size + 1 + W4.length + 1 + T3.length + 1 + W8.length := by omega
  have n11 : ¬ 9223372036854775807 < 2 + T1.length + 1 + f2.size + 1 + f3.size + 1 + W4.length + 1 + T3.length + 1 + W8.length + 2 := by omega
  clear l1 l3 l4 l8 s2 s3 s4 s8
  unfold evV evCs at *
  simp only at HM ⊢
  have HB0 : Hid (Below w.heap.size w (w.alloc (.cells #[.int .i64 1, .int .i64 f1, .string f2, .string f3, .string f4, .int .i64 f5, .int .i64 f6, .int .i64 f7, .string f8, .bool f9, .int .i64 0, .int .i64 0] 44))) := (Below.refl _ _).alloc (Nat.le_refl _) _
  have hsz : (w.alloc (.cells #[.int .i64 1, .int .i64 f1, .string f2, .string f3, .string f4, .int .i64 f5, .int .i64 f6, .int .i64 f7, .string f8, .bool f9, .int .i64 0, .int .i64 0] 44)).heap.size = w.heap.size + 1 := by simp
  have hx : ∀ (w' : World), Below (w.heap.size + 1) (w.alloc (.cells #[.int .i64 1, .int .i64 f1, .string f2, .string f3, .string f4, .int .i64 f5, .int .i64 f6, .int .i64 f7, .string f8, .bool f9, .int .i64 0, .int .i64 0] 44)) w' → ∀ j, w'.cell? ⟨w.heap.size, j, none⟩ = (w.alloc (.cells #[.int .i64 1, .int .i64 f1, .string f2, .string f3, .string f4, .int .i64 f5, .int .i64 f6, .int .i64 f7, .string f8, .bool f9, .int .i64 0, .int .i64 0] 44)).cell? ⟨w.heap.size, j, none⟩ := fun w' hb j => hb.cell (p := ⟨w.heap.size, j, none⟩) (Nat.lt_succ_self _)
  go_enter Tryz.func14, Tryz.ntmps14
  go_wp2_with fail
  refine (HM _).mono ?_
  rintro e1 w1 ⟨rfl, hb1⟩
  have HB1 : Hid (Below w.heap.size w w1) := HB0.out.trans (hb1.mono HB0.out.size)
  rw [hsz] at hb1
  have hlt1 : w.heap.size < w1.heap.size := by have := hb1.size; rw [hsz] at this; omega
  have hne1 : ¬ w.heap.size = w1.heap.size := by omega
  have q := hx w1 hb1
  clear hx hb1 hsz
  have k0 : w1.cell? ⟨w.heap.size, 0, none⟩ = some (.int .i64 1) := (q 0).trans ((World.cell?_alloc_at _ _ _ _ rfl).trans rfl)
  have k1 : w1.cell? ⟨w.heap.size, 1, none⟩ = some (.int .i64 f1) := (q 1).trans ((World.cell?_alloc_at _ _ _ _ rfl).trans rfl)
  have k2 : w1.cell? ⟨w.heap.size, 2, none⟩ = some (.string f2) := (q 2).trans ((World.cell?_alloc_at _ _ _ _ rfl).trans rfl)
  have k3 : w1.cell? ⟨w.heap.size, 3, none⟩ = some (.string f3) := (q 3).trans ((World.cell?_alloc_at _ _ _ _ rfl).trans rfl)
  have k4 : w1.cell? ⟨w.heap.size, 4, none⟩ = some (.string f4) := (q 4).trans ((World.cell?_alloc_at _ _ _ _ rfl).trans rfl)
  have k5 : w1.cell? ⟨w.heap.size, 5, none⟩ = some (.int .i64 f5) := (q 5).trans ((World.cell?_alloc_at _ _ _ _ rfl).trans rfl)
  have k6 : w1.cell? ⟨w.heap.size, 6, none⟩ = some (.int .i64 f6) := (q 6).trans ((World.cell?_alloc_at _ _ _ _ rfl).trans rfl)
  have k7 : w1.cell? ⟨w.heap.size, 7, none⟩ = some (.int .i64 f7) := (q 7).trans ((World.cell?_alloc_at _ _ _ _ rfl).trans rfl)
  have k8 : w1.cell? ⟨w.heap.size, 8, none⟩ = some (.string f8) := (q 8).trans ((World.cell?_alloc_at _ _ _ _ rfl).trans rfl)
  have k9 : w1.cell? ⟨w.heap.size, 9, none⟩ = some (.bool f9) := (q 9).trans ((World.cell?_alloc_at _ _ _ _ rfl).trans rfl)
  have k10 : w1.cell? ⟨w.heap.size, 10, none⟩ = some (.int .i64 0) := (q 10).trans ((World.cell?_alloc_at _ _ _ _ rfl).trans rfl)
  have k11 : w1.cell? ⟨w.heap.size, 11, none⟩ = some (.int .i64 0) := (q 11).trans ((World.cell?_alloc_at _ _ _ _ rfl).trans rfl)
  clear q
  have hws : WS w w1.heap.size ⟨f1, f2, f3, f4, f5, f6, f7, f8, f9⟩ (w1.alloc (.cells #[.int .i64 f1, .string f2, .string f3, .string f4, .int .i64 f5, .int .i64 f6, .int .i64 f7, .string f8, .bool f9] 38)) :=
    ⟨HL.out.below (HB1.out.alloc HB1.out.size _), famAt_made _ ⟨f1, f2, f3, f4, f5, f6, f7, f8, f9⟩ _ _ rfl, by simp, HB1.out.alloc HB1.out.size _⟩
  go_wp2_with fail
  clear k0 k1 k2 k3 k4 k5 k6 k7 k8 k9 k10 k11 hlt1 hne1
  have HBW : Hid (Below w.heap.size w w1) := HB1
  clear HM HL HB0 HB1
  generalize hg : w1.heap.size = g at *
  generalize w1.alloc (.cells #[.int .i64 f1, .string f2, .string f3, .string f4, .int .i64 f5, .int .i64 f6, .int .i64 f7, .string f8, .bool f9] 38) = W at *
  go_region_held3 (fun w' => (w'.cell? ⟨g, 0, none⟩ = some (.int .i64 f1) ∧ w'.cell? ⟨g, 1, none⟩ = some (.string f2) ∧ w'.cell? ⟨g, 2, none⟩ = some (.string f3) ∧ w'.cell? ⟨g, 3, none⟩ = some (.string f4) ∧ w'.cell? ⟨g, 4, none⟩ = some (.int .i64 f5) ∧ w'.cell? ⟨g, 5, none⟩ = some (.int .i64 f6) ∧ w'.cell? ⟨g, 6, none⟩ = some (.int .i64 f7) ∧ w'.cell? ⟨g, 7, none⟩ = some (.string f8) ∧ w'.cell? ⟨g, 8, none⟩ = some (.bool f9) ∧ WS w g ⟨f1, f2, f3, f4, f5, f6, f7, f8, f9⟩ w')) (first | assumption | exact ws_drew hws | exact ws_keep (by assumption) (by assumption) | exact ws_keep (by assumption) ((Below.refl _ _).alloc (Nat.le_refl _) _))
    (first
      | (go_at_call_of 54 (3 : Nat); refine (HT3 _ _ ?_ (ws_libs (by assumption))).mono ?_; (repeat (first | exact trow3 _ f5 f6 f7 _ _ (by first | rfl | simp) | refine TRow.alloc ?_ _ | refine TRow.on ?_ (by assumption))); rintro e w' ⟨rfl, hb⟩)
      | (go_at_call 54; refine (HT1 _ _ ?_ (ws_libs (by assumption))).mono ?_; (repeat (first | exact trow1 _ f1 _ _ (by first | rfl | simp) | refine TRow.alloc ?_ _ | refine TRow.on ?_ (by assumption))); rintro e w' ⟨rfl, hb⟩)
      | (go_at_call_of 55 (Value.string f4); refine (HW4 _).mono ?_; rintro e w' ⟨rfl, rfl⟩)
      | (go_at_call_of 55 (Value.string f8); refine (HW8 _).mono ?_; rintro e w' ⟨rfl, rfl⟩))
  all_goals (
    rename_i hS
    have HF : Hid (Below w.heap.size w _) := hS.2.2.2.2.2.2.2.2.2.below
    have hd := hS.2.2.2.2.2.2.2.2.1
    clear hS hws
    rw [HX.out]
    cases f9
    · go_wp2_with fail
      go_ret2
      refine ⟨?_, HF.out⟩
      show Ending.returned (.tuple #[.string ((⟨BODY.toArray⟩ : ByteArray) ++ ⟨#[32, 48]⟩), .int .i64 0]) = _
      rw [show (⟨BODY.toArray⟩ : ByteArray) ++ ⟨#[32, 48]⟩ = ⟨(BODY ++ [32, 48]).toArray⟩ from bapp BODY [32, 48]]
      rfl
    · go_wp2_with fail
      go_ret2
      refine ⟨?_, HF.out⟩
      show Ending.returned (.tuple #[.string ((⟨BODY.toArray⟩ : ByteArray) ++ ⟨#[32, 49]⟩), .int .i64 0]) = _
      rw [show (⟨BODY.toArray⟩ : ByteArray) ++ ⟨#[32, 49]⟩ = ⟨(BODY ++ [32, 49]).toArray⟩ from bapp BODY [32, 49]]
      rfl)
end Go.Proofs.YtibelcnjmpedkaaGreatDoor
