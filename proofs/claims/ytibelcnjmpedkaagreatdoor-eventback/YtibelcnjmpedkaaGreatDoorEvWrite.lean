/-
  An event's line, as the program writes it.
-/
import Derived.Test.YtibelcnjmpedkaaGreatDoorEvWords
namespace Go.Proofs.YtibelcnjmpedkaaGreatDoor
open Go Go.RowKit Tok Sc Ev
theorem map_bs8 (l : List Word) : (l.map bs8).map (·.data.toList) = l := by
  rw [List.map_map]
  exact List.map_id' l
theorem joinE_is (e : E) (g : Nat) (w : World) (h : Ev.may e) (hw : WordsAt w g ((wordsOf e).map bs8)) : Calls Tryz.prog 57 #[.slice (some ⟨g, 0, none⟩) (wordsOf e).length (wordsOf e).length, .string ⟨#[32]⟩] w fun r w' => r = .returned (.string (bs8 (line e))) ∧ Below w.heap.size w w' := by
  have hl := line_len h
  have hn : (wordsOf e).length ≤ 10 := by obtain ⟨x, l, h1, h2⟩ := words_cons e; rw [h1]; simp; omega
  have hj := Tryz.strings_Join g 0 (wordsOf e).length ((wordsOf e).map bs8) ⟨#[32]⟩ w hw.2 hw.1 (by rw [List.length_map]; omega) (by rw [List.length_map]; exact Nat.le_refl _) (by rw [map_bs8]; unfold line at hl; exact Nat.le_trans hl (by omega))
  rw [List.length_map, map_bs8] at hj
  exact hj
set_option maxRecDepth 100000 in
set_option maxHeartbeats 4000000 in
theorem writeE_yes (e : E) (w : World) (h : Ev.may e) (hs : Small 1000 e.fam) (hL : LibsE w) : Calls Tryz.prog 16 #[evV e] w fun r w' => r = .returned (.tuple #[.string (bs8 (line e)), .nilIface]) ∧ Below w.heap.size w w' := by
  have HM := fun (W : World) (hW : LenOk W) => mayBeE_is e true (by simp [h]) hs W hW
  have HW := fun (W : World) (hW : LibsE W) => wordsE_is e W h hW
  have HJ := fun (g : Nat) (W : World) (hW : WordsAt W g ((wordsOf e).map bs8)) => joinE_is e g W h hW
  have HL : Hid (LibsE w) := hL
  have HX : Hid (line e = line e) := rfl
  clear h hs hL
  generalize hln : line e = LN at *
  generalize hwl : (wordsOf e).length = n at *
  generalize (wordsOf e).map bs8 = ws at *
  clear hln hwl HX
  obtain ⟨k, ⟨f1, f2, f3, f4, f5, f6, f7, f8, f9⟩, i, t⟩ := e
  unfold evV evCs at *
  simp only at HM HW ⊢
  have HB0 : Hid (Below w.heap.size w (w.alloc (.cells #[.int .i64 k, .int .i64 f1, .string f2, .string f3, .string f4, .int .i64 f5, .int .i64 f6, .int .i64 f7, .string f8, .bool f9, .int .i64 i, .int .i64 t] 40))) := (Below.refl _ _).alloc (Nat.le_refl _) _
  have hx : ∀ (w' : World), Below (w.heap.size + 1) (w.alloc (.cells #[.int .i64 k, .int .i64 f1, .string f2, .string f3, .string f4, .int .i64 f5, .int .i64 f6, .int .i64 f7, .string f8, .bool f9, .int .i64 i, .int .i64 t] 40)) w' → ∀ j, w'.cell? ⟨w.heap.size, j, none⟩ = (w.alloc (.cells #[.int .i64 k, .int .i64 f1, .string f2, .string f3, .string f4, .int .i64 f5, .int .i64 f6, .int .i64 f7, .string f8, .bool f9, .int .i64 i, .int .i64 t] 40)).cell? ⟨w.heap.size, j, none⟩ := fun w' hb j => hb.cell (p := ⟨w.heap.size, j, none⟩) (Nat.lt_succ_self _)
  have hsz : (w.alloc (.cells #[.int .i64 k, .int .i64 f1, .string f2, .string f3, .string f4, .int .i64 f5, .int .i64 f6, .int .i64 f7, .string f8, .bool f9, .int .i64 i, .int .i64 t] 40)).heap.size = w.heap.size + 1 := by simp
  go_enter Tryz.func16, Tryz.ntmps16
  go_wp2_with fail
  refine (HM _ (HL.out.below HB0.out).len).mono ?_
  rintro e1 w1 ⟨rfl, hb1⟩
  have HB1 : Hid (Below w.heap.size w w1) := HB0.out.trans (hb1.mono HB0.out.size)
  rw [hsz] at hb1
  have q := hx w1 hb1
  clear hx hb1 hsz
  have k0 : w1.cell? ⟨w.heap.size, 0, none⟩ = some (.int .i64 k) := (q 0).trans ((World.cell?_alloc_at _ _ _ _ rfl).trans rfl)
  have k1 : w1.cell? ⟨w.heap.size, 1, none⟩ = some (.int .i64 f1) := (q 1).trans ((World.cell?_alloc_at _ _ _ _ rfl).trans rfl)
  have k2 : w1.cell? ⟨w.heap.size, 2, none⟩ = some (.string f2) := (q 2).trans ((World.cell?_alloc_at _ _ _ _ rfl).trans rfl)
  have k3 : w1.cell? ⟨w.heap.size, 3, none⟩ = some (.string f3) := (q 3).trans ((World.cell?_alloc_at _ _ _ _ rfl).trans rfl)
  have k4 : w1.cell? ⟨w.heap.size, 4, none⟩ = some (.string f4) := (q 4).trans ((World.cell?_alloc_at _ _ _ _ rfl).trans rfl)
  have k5 : w1.cell? ⟨w.heap.size, 5, none⟩ = some (.int .i64 f5) := (q 5).trans ((World.cell?_alloc_at _ _ _ _ rfl).trans rfl)
  have k6 : w1.cell? ⟨w.heap.size, 6, none⟩ = some (.int .i64 f6) := (q 6).trans ((World.cell?_alloc_at _ _ _ _ rfl).trans rfl)
  have k7 : w1.cell? ⟨w.heap.size, 7, none⟩ = some (.int .i64 f7) := (q 7).trans ((World.cell?_alloc_at _ _ _ _ rfl).trans rfl)
  have k8 : w1.cell? ⟨w.heap.size, 8, none⟩ = some (.string f8) := (q 8).trans ((World.cell?_alloc_at _ _ _ _ rfl).trans rfl)
  have k9 : w1.cell? ⟨w.heap.size, 9, none⟩ = some (.bool f9) := (q 9).trans ((World.cell?_alloc_at _ _ _ _ rfl).trans rfl)
  have k10 : w1.cell? ⟨w.heap.size, 10, none⟩ = some (.int .i64 i) := (q 10).trans ((World.cell?_alloc_at _ _ _ _ rfl).trans rfl)
  have k11 : w1.cell? ⟨w.heap.size, 11, none⟩ = some (.int .i64 t) := (q 11).trans ((World.cell?_alloc_at _ _ _ _ rfl).trans rfl)
  clear q
  go_wp2_with fail
  refine (HW _ (HL.out.below HB1.out)).mono ?_
  rintro e2 w2 ⟨g, rfl, hg, hb2⟩
  have HB2 : Hid (Below w.heap.size w w2) := HB1.out.trans (hb2.mono HB1.out.size)
  have HG : Hid (WordsAt w2 g ws) := hg
  clear hb2 hg k0 k1 k2 k3 k4 k5 k6 k7 k8 k9 k10 k11
  go_wp2_with fail
  refine (HJ g _ HG.out).mono ?_
  rintro e3 w3 ⟨rfl, hb3⟩
  have HB3 : Hid (Below w.heap.size w w3) := HB2.out.trans (hb3.mono HB2.out.size)
  clear hb3
  go_wp2_with fail
  go_ret2
  exact ⟨rfl, HB3.out⟩
set_option maxRecDepth 100000 in
set_option maxHeartbeats 4000000 in
theorem writeE_no (e : E) (w : World) (h : ¬ Ev.may e) (hs : Small 1000 e.fam) (hL : LenOk w) : Calls Tryz.prog 16 #[evV e] w fun r w' => r = .returned (.tuple #[.string ⟨#[]⟩, .iface 26 (.int .i64 1)]) ∧ Below w.heap.size w w' := by
  have HM := fun (W : World) (hW : LenOk W) => mayBeE_is e false (by simp [h]) hs W hW
  have HL : Hid (LenOk w) := hL
  clear h hs hL
  obtain ⟨k, ⟨f1, f2, f3, f4, f5, f6, f7, f8, f9⟩, i, t⟩ := e
  unfold evV evCs at *
  simp only at HM ⊢
  have HB0 : Hid (Below w.heap.size w (w.alloc (.cells #[.int .i64 k, .int .i64 f1, .string f2, .string f3, .string f4, .int .i64 f5, .int .i64 f6, .int .i64 f7, .string f8, .bool f9, .int .i64 i, .int .i64 t] 40))) := (Below.refl _ _).alloc (Nat.le_refl _) _
  go_enter Tryz.func16, Tryz.ntmps16
  go_wp2_with fail
  refine (HM _ (HL.out.below HB0.out)).mono ?_
  rintro e1 w1 ⟨rfl, hb1⟩
  have HB1 : Hid (Below w.heap.size w w1) := HB0.out.trans (hb1.mono HB0.out.size)
  clear hb1
  go_wp2_with fail
  go_ret2
  exact ⟨rfl, HB1.out⟩
end Go.Proofs.YtibelcnjmpedkaaGreatDoor
