/-
  An event's line, as the document's answer writes it.
-/
import Derived.Test.YtibelcnjmpedkaaGreatDoorEvWS
import Derived.Test.YtibelcnjmpedkaaGreatDoorEvRefTold
namespace Go.Proofs.YtibelcnjmpedkaaGreatDoor
open Go Go.RowKit Tok Sc Ev
theorem bapp (a b : List UInt8) : (⟨a.toArray⟩ : ByteArray) ++ ⟨b.toArray⟩ = ⟨(a ++ b).toArray⟩ := by
  apply ByteArray.ext
  simp [ByteArray.data_append]
theorem bself (x : ByteArray) : x = ⟨x.data.toList.toArray⟩ := rfl
def bodyL (f : Fam) : List UInt8 := [112, 32] ++ told [f.id] ++ [32] ++ f.client.data.toList ++ [32] ++ f.subject.data.toList ++ [32] ++ wordL f.scope.data.toList ++ [32] ++ told [f.gen, f.made, f.used] ++ [32] ++ wordL f.request.data.toList
theorem line_1 (f : Fam) : line ⟨1, f, 0, 0⟩ = bodyL f ++ 32 :: lifeL f.dead := by
  unfold line wordsOf putWs bodyL told
  rw [if_pos rfl]
  simp [glue_two, Lib.join_one]
theorem body_str (f : Fam) : (⟨#[112, 32]⟩ : ByteArray) ++ ⟨(told [f.id]).toArray⟩ ++ ⟨#[32]⟩ ++ f.client ++ ⟨#[32]⟩ ++ f.subject ++ ⟨#[32]⟩ ++ ⟨(wordL f.scope.data.toList).toArray⟩ ++ ⟨#[32]⟩ ++ ⟨(told [f.gen, f.made, f.used]).toArray⟩ ++ ⟨#[32]⟩ ++ ⟨(wordL f.request.data.toList).toArray⟩ = ⟨(bodyL f).toArray⟩ := by
  apply ByteArray.ext
  simp [ByteArray.data_append, bodyL]
theorem body_len (f : Fam) (h : mayF f) : (bodyL f).length ≤ 180 := by
  have := line_len (e := ⟨1, f, 0, 0⟩) (.inl ⟨rfl, h, rfl, rfl⟩)
  rw [line_1] at this
  simp at this
  omega
theorem line_2 (i : Int) : line ⟨2, zeroF, i, 0⟩ = [100, 32] ++ told [i] := by
  unfold line wordsOf told
  simp [glue_two, Lib.join_one]
theorem line_3 (i : Int) : line ⟨3, zeroF, 0, i⟩ = [99, 32] ++ told [i] := by
  unfold line wordsOf told
  simp [glue_two, Lib.join_one]
set_option maxRecDepth 100000 in
set_option maxHeartbeats 4000000 in
theorem refWrite_no (e : E) (w : World) (h : ¬ Ev.may e) (hs : Small 1000 e.fam) : Calls Tryz.prog 14 #[evV e] w fun r w' => r = .returned (.tuple #[.string ⟨#[]⟩, .int .i64 1]) ∧ Below w.heap.size w w' := by
  have HM := fun (W : World) => refMay_is e false (by simp [h]) hs W
  clear h hs
  obtain ⟨k, ⟨f1, f2, f3, f4, f5, f6, f7, f8, f9⟩, i, t⟩ := e
  unfold evV evCs at *
  simp only at HM ⊢
  have HB0 : Hid (Below w.heap.size w (w.alloc (.cells #[.int .i64 k, .int .i64 f1, .string f2, .string f3, .string f4, .int .i64 f5, .int .i64 f6, .int .i64 f7, .string f8, .bool f9, .int .i64 i, .int .i64 t] 44))) := (Below.refl _ _).alloc (Nat.le_refl _) _
  go_enter Tryz.func14, Tryz.ntmps14
  go_wp2_with fail
  refine (HM _).mono ?_
  rintro e1 w1 ⟨rfl, hb1⟩
  have HB1 : Hid (Below w.heap.size w w1) := HB0.out.trans (hb1.mono HB0.out.size)
  clear hb1
  go_wp2_with fail
  go_ret2
  exact ⟨rfl, HB1.out⟩
set_option maxRecDepth 100000 in
set_option maxHeartbeats 4000000 in
theorem refWrite_2 (i : Int) (w : World) (h : okN i) (hL : LibsE w) : Calls Tryz.prog 14 #[evV ⟨2, zeroF, i, 0⟩] w fun r w' => r = .returned (.tuple #[.string ⟨(line ⟨2, zeroF, i, 0⟩).toArray⟩, .int .i64 0]) ∧ Below w.heap.size w w' := by
  have HM := fun (W : World) => refMay_is ⟨2, zeroF, i, 0⟩ true (by simp [may_2, h]) (by simp [Small, zeroF, ByteArray.size]) W
  have HT := fun (g : Nat) (W : World) (hr : TRow W g [i]) (hL : LibsE W) => told_is [i] g 1 W (by simp) (by simpa using h) hr hL
  have htl := told_len [i] (by simpa using h)
  rw [line_2]
  have HL : Hid (LibsE w) := hL
  clear hL h
  generalize told [i] = T at *
  have n1 : ¬ 9223372036854775807 < 2 + T.length := by simp at htl; omega
  unfold evV evCs zeroF at *
  simp only at HM ⊢
  have HB0 : Hid (Below w.heap.size w (w.alloc (.cells #[.int .i64 2, .int .i64 0, .string ⟨#[]⟩, .string ⟨#[]⟩, .string ⟨#[]⟩, .int .i64 0, .int .i64 0, .int .i64 0, .string ⟨#[]⟩, .bool false, .int .i64 i, .int .i64 0] 44))) := (Below.refl _ _).alloc (Nat.le_refl _) _
  have hsz : (w.alloc (.cells #[.int .i64 2, .int .i64 0, .string ⟨#[]⟩, .string ⟨#[]⟩, .string ⟨#[]⟩, .int .i64 0, .int .i64 0, .int .i64 0, .string ⟨#[]⟩, .bool false, .int .i64 i, .int .i64 0] 44)).heap.size = w.heap.size + 1 := by simp
  have hx : ∀ (w' : World), Below (w.heap.size + 1) (w.alloc (.cells #[.int .i64 2, .int .i64 0, .string ⟨#[]⟩, .string ⟨#[]⟩, .string ⟨#[]⟩, .int .i64 0, .int .i64 0, .int .i64 0, .string ⟨#[]⟩, .bool false, .int .i64 i, .int .i64 0] 44)) w' → ∀ j, w'.cell? ⟨w.heap.size, j, none⟩ = (w.alloc (.cells #[.int .i64 2, .int .i64 0, .string ⟨#[]⟩, .string ⟨#[]⟩, .string ⟨#[]⟩, .int .i64 0, .int .i64 0, .int .i64 0, .string ⟨#[]⟩, .bool false, .int .i64 i, .int .i64 0] 44)).cell? ⟨w.heap.size, j, none⟩ := fun w' hb j => hb.cell (p := ⟨w.heap.size, j, none⟩) (Nat.lt_succ_self _)
  go_enter Tryz.func14, Tryz.ntmps14
  go_wp2_with fail
  refine (HM _).mono ?_
  rintro e1 w1 ⟨rfl, hb1⟩
  have HB1 : Hid (Below w.heap.size w w1) := HB0.out.trans (hb1.mono HB0.out.size)
  rw [hsz] at hb1
  have hlt1 : w.heap.size < w1.heap.size := by have := hb1.size; rw [hsz] at this; omega
  have hne1 : ¬ w.heap.size = w1.heap.size := by omega
  have q := hx w1 hb1
  clear hx hb1 hsz
  have k0 : w1.cell? ⟨w.heap.size, 0, none⟩ = some (.int .i64 2) := (q 0).trans ((World.cell?_alloc_at _ _ _ _ rfl).trans rfl)
  have k1 : w1.cell? ⟨w.heap.size, 1, none⟩ = some (.int .i64 0) := (q 1).trans ((World.cell?_alloc_at _ _ _ _ rfl).trans rfl)
  have k2 : w1.cell? ⟨w.heap.size, 2, none⟩ = some (.string ⟨#[]⟩) := (q 2).trans ((World.cell?_alloc_at _ _ _ _ rfl).trans rfl)
  have k3 : w1.cell? ⟨w.heap.size, 3, none⟩ = some (.string ⟨#[]⟩) := (q 3).trans ((World.cell?_alloc_at _ _ _ _ rfl).trans rfl)
  have k4 : w1.cell? ⟨w.heap.size, 4, none⟩ = some (.string ⟨#[]⟩) := (q 4).trans ((World.cell?_alloc_at _ _ _ _ rfl).trans rfl)
  have k5 : w1.cell? ⟨w.heap.size, 5, none⟩ = some (.int .i64 0) := (q 5).trans ((World.cell?_alloc_at _ _ _ _ rfl).trans rfl)
  have k6 : w1.cell? ⟨w.heap.size, 6, none⟩ = some (.int .i64 0) := (q 6).trans ((World.cell?_alloc_at _ _ _ _ rfl).trans rfl)
  have k7 : w1.cell? ⟨w.heap.size, 7, none⟩ = some (.int .i64 0) := (q 7).trans ((World.cell?_alloc_at _ _ _ _ rfl).trans rfl)
  have k8 : w1.cell? ⟨w.heap.size, 8, none⟩ = some (.string ⟨#[]⟩) := (q 8).trans ((World.cell?_alloc_at _ _ _ _ rfl).trans rfl)
  have k9 : w1.cell? ⟨w.heap.size, 9, none⟩ = some (.bool false) := (q 9).trans ((World.cell?_alloc_at _ _ _ _ rfl).trans rfl)
  have k10 : w1.cell? ⟨w.heap.size, 10, none⟩ = some (.int .i64 i) := (q 10).trans ((World.cell?_alloc_at _ _ _ _ rfl).trans rfl)
  have k11 : w1.cell? ⟨w.heap.size, 11, none⟩ = some (.int .i64 0) := (q 11).trans ((World.cell?_alloc_at _ _ _ _ rfl).trans rfl)
  clear q
  have HB2 : Hid (Below w.heap.size w ((w1.alloc (.cells #[.int .i64 0, .string ⟨#[]⟩, .string ⟨#[]⟩, .string ⟨#[]⟩, .int .i64 0, .int .i64 0, .int .i64 0, .string ⟨#[]⟩, .bool false] 38)).alloc (.cells #[.int .i64 i] 3))) := (HB1.out.alloc HB1.out.size _).alloc (by simp; have := HB1.out.size; omega) _
  go_wp2_with fail
  refine (HT (w1.heap.size + 1) _ (trow1 (w1.alloc (.cells #[.int .i64 0, .string ⟨#[]⟩, .string ⟨#[]⟩, .string ⟨#[]⟩, .int .i64 0, .int .i64 0, .int .i64 0, .string ⟨#[]⟩, .bool false] 38)) i _ _ (by simp)) (HL.out.below HB2.out)).mono ?_
  rintro e2 w2 ⟨rfl, hb2⟩
  have HB3 : Hid (Below w.heap.size w w2) := HB2.out.trans (hb2.mono HB2.out.size)
  clear hb2
  go_wp2_with fail
  go_ret2
  refine ⟨?_, HB3.out⟩
  show Ending.returned (.tuple #[.string ((⟨#[100, 32]⟩ : ByteArray) ++ ⟨T.toArray⟩), .int .i64 0]) = _
  rw [show (⟨#[100, 32]⟩ : ByteArray) ++ ⟨T.toArray⟩ = ⟨([100, 32] ++ T).toArray⟩ from bapp [100, 32] T]
  rfl
set_option maxRecDepth 100000 in
set_option maxHeartbeats 4000000 in
theorem refWrite_3 (i : Int) (w : World) (h : okN i) (hL : LibsE w) : Calls Tryz.prog 14 #[evV ⟨3, zeroF, 0, i⟩] w fun r w' => r = .returned (.tuple #[.string ⟨(line ⟨3, zeroF, 0, i⟩).toArray⟩, .int .i64 0]) ∧ Below w.heap.size w w' := by
  have HM := fun (W : World) => refMay_is ⟨3, zeroF, 0, i⟩ true (by simp [may_3, h]) (by simp [Small, zeroF, ByteArray.size]) W
  have HT := fun (g : Nat) (W : World) (hr : TRow W g [i]) (hL : LibsE W) => told_is [i] g 1 W (by simp) (by simpa using h) hr hL
  have htl := told_len [i] (by simpa using h)
  rw [line_3]
  have HL : Hid (LibsE w) := hL
  clear hL h
  generalize told [i] = T at *
  have n1 : ¬ 9223372036854775807 < 2 + T.length := by simp at htl; omega
  unfold evV evCs zeroF at *
  simp only at HM ⊢
  have HB0 : Hid (Below w.heap.size w (w.alloc (.cells #[.int .i64 3, .int .i64 0, .string ⟨#[]⟩, .string ⟨#[]⟩, .string ⟨#[]⟩, .int .i64 0, .int .i64 0, .int .i64 0, .string ⟨#[]⟩, .bool false, .int .i64 0, .int .i64 i] 44))) := (Below.refl _ _).alloc (Nat.le_refl _) _
  have hsz : (w.alloc (.cells #[.int .i64 3, .int .i64 0, .string ⟨#[]⟩, .string ⟨#[]⟩, .string ⟨#[]⟩, .int .i64 0, .int .i64 0, .int .i64 0, .string ⟨#[]⟩, .bool false, .int .i64 0, .int .i64 i] 44)).heap.size = w.heap.size + 1 := by simp
  have hx : ∀ (w' : World), Below (w.heap.size + 1) (w.alloc (.cells #[.int .i64 3, .int .i64 0, .string ⟨#[]⟩, .string ⟨#[]⟩, .string ⟨#[]⟩, .int .i64 0, .int .i64 0, .int .i64 0, .string ⟨#[]⟩, .bool false, .int .i64 0, .int .i64 i] 44)) w' → ∀ j, w'.cell? ⟨w.heap.size, j, none⟩ = (w.alloc (.cells #[.int .i64 3, .int .i64 0, .string ⟨#[]⟩, .string ⟨#[]⟩, .string ⟨#[]⟩, .int .i64 0, .int .i64 0, .int .i64 0, .string ⟨#[]⟩, .bool false, .int .i64 0, .int .i64 i] 44)).cell? ⟨w.heap.size, j, none⟩ := fun w' hb j => hb.cell (p := ⟨w.heap.size, j, none⟩) (Nat.lt_succ_self _)
  go_enter Tryz.func14, Tryz.ntmps14
  go_wp2_with fail
  refine (HM _).mono ?_
  rintro e1 w1 ⟨rfl, hb1⟩
  have HB1 : Hid (Below w.heap.size w w1) := HB0.out.trans (hb1.mono HB0.out.size)
  rw [hsz] at hb1
  have hlt1 : w.heap.size < w1.heap.size := by have := hb1.size; rw [hsz] at this; omega
  have hne1 : ¬ w.heap.size = w1.heap.size := by omega
  have q := hx w1 hb1
  clear hx hb1 hsz
  have k0 : w1.cell? ⟨w.heap.size, 0, none⟩ = some (.int .i64 3) := (q 0).trans ((World.cell?_alloc_at _ _ _ _ rfl).trans rfl)
  have k1 : w1.cell? ⟨w.heap.size, 1, none⟩ = some (.int .i64 0) := (q 1).trans ((World.cell?_alloc_at _ _ _ _ rfl).trans rfl)
  have k2 : w1.cell? ⟨w.heap.size, 2, none⟩ = some (.string ⟨#[]⟩) := (q 2).trans ((World.cell?_alloc_at _ _ _ _ rfl).trans rfl)
  have k3 : w1.cell? ⟨w.heap.size, 3, none⟩ = some (.string ⟨#[]⟩) := (q 3).trans ((World.cell?_alloc_at _ _ _ _ rfl).trans rfl)
  have k4 : w1.cell? ⟨w.heap.size, 4, none⟩ = some (.string ⟨#[]⟩) := (q 4).trans ((World.cell?_alloc_at _ _ _ _ rfl).trans rfl)
  have k5 : w1.cell? ⟨w.heap.size, 5, none⟩ = some (.int .i64 0) := (q 5).trans ((World.cell?_alloc_at _ _ _ _ rfl).trans rfl)
  have k6 : w1.cell? ⟨w.heap.size, 6, none⟩ = some (.int .i64 0) := (q 6).trans ((World.cell?_alloc_at _ _ _ _ rfl).trans rfl)
  have k7 : w1.cell? ⟨w.heap.size, 7, none⟩ = some (.int .i64 0) := (q 7).trans ((World.cell?_alloc_at _ _ _ _ rfl).trans rfl)
  have k8 : w1.cell? ⟨w.heap.size, 8, none⟩ = some (.string ⟨#[]⟩) := (q 8).trans ((World.cell?_alloc_at _ _ _ _ rfl).trans rfl)
  have k9 : w1.cell? ⟨w.heap.size, 9, none⟩ = some (.bool false) := (q 9).trans ((World.cell?_alloc_at _ _ _ _ rfl).trans rfl)
  have k10 : w1.cell? ⟨w.heap.size, 10, none⟩ = some (.int .i64 0) := (q 10).trans ((World.cell?_alloc_at _ _ _ _ rfl).trans rfl)
  have k11 : w1.cell? ⟨w.heap.size, 11, none⟩ = some (.int .i64 i) := (q 11).trans ((World.cell?_alloc_at _ _ _ _ rfl).trans rfl)
  clear q
  have HB2 : Hid (Below w.heap.size w ((w1.alloc (.cells #[.int .i64 0, .string ⟨#[]⟩, .string ⟨#[]⟩, .string ⟨#[]⟩, .int .i64 0, .int .i64 0, .int .i64 0, .string ⟨#[]⟩, .bool false] 38)).alloc (.cells #[.int .i64 i] 3))) := (HB1.out.alloc HB1.out.size _).alloc (by simp; have := HB1.out.size; omega) _
  go_wp2_with fail
  refine (HT (w1.heap.size + 1) _ (trow1 (w1.alloc (.cells #[.int .i64 0, .string ⟨#[]⟩, .string ⟨#[]⟩, .string ⟨#[]⟩, .int .i64 0, .int .i64 0, .int .i64 0, .string ⟨#[]⟩, .bool false] 38)) i _ _ (by simp)) (HL.out.below HB2.out)).mono ?_
  rintro e2 w2 ⟨rfl, hb2⟩
  have HB3 : Hid (Below w.heap.size w w2) := HB2.out.trans (hb2.mono HB2.out.size)
  clear hb2
  go_wp2_with fail
  go_ret2
  refine ⟨?_, HB3.out⟩
  show Ending.returned (.tuple #[.string ((⟨#[99, 32]⟩ : ByteArray) ++ ⟨T.toArray⟩), .int .i64 0]) = _
  rw [show (⟨#[99, 32]⟩ : ByteArray) ++ ⟨T.toArray⟩ = ⟨([99, 32] ++ T).toArray⟩ from bapp [99, 32] T]
  rfl
end Go.Proofs.YtibelcnjmpedkaaGreatDoor
