/-
  Two states are the same.
-/
import Derived.Test.YtibelcnjmpedkaaGreatDoorEvSrc
namespace Go.Proofs.YtibelcnjmpedkaaGreatDoor
open Go Go.RowKit Ev
/-- The two boxes that Same goes by. -/
structure SB (w0 : World) (c n : Int) (va vb : Value) (l : List Fam) (w : World) : Prop where
  a0 : w.cell? ⟨w0.heap.size, 0, none⟩ = some (.int .i64 c)
  a1 : w.cell? ⟨w0.heap.size, 1, none⟩ = some (.int .i64 n)
  a2 : w.cell? ⟨w0.heap.size, 2, none⟩ = some va
  b0 : w.cell? ⟨w0.heap.size + 1, 0, none⟩ = some (.int .i64 c)
  b1 : w.cell? ⟨w0.heap.size + 1, 1, none⟩ = some (.int .i64 n)
  b2 : w.cell? ⟨w0.heap.size + 1, 2, none⟩ = some vb
  sa : SrcF w0.heap.size w va l
  sb : SrcF w0.heap.size w vb l
  size : w0.heap.size + 2 ≤ w.heap.size
  below : Below w0.heap.size w0 w
theorem SB.drew {w0 : World} {c n : Int} {va vb : Value} {l : List Fam} {w : World} (h : SB w0 c n va vb l w) : SB w0 c n va vb l w.drew := by
  have hb : Below w.heap.size w w.drew := (Below.refl _ _).drew
  have hs := h.size
  exact ⟨(hb.cell (p := ⟨_, 0, none⟩) (by show w0.heap.size < _; omega)).trans h.a0, (hb.cell (p := ⟨_, 1, none⟩) (by show w0.heap.size < _; omega)).trans h.a1, (hb.cell (p := ⟨_, 2, none⟩) (by show w0.heap.size < _; omega)).trans h.a2,
    (hb.cell (p := ⟨_, 0, none⟩) (by show w0.heap.size + 1 < _; omega)).trans h.b0, (hb.cell (p := ⟨_, 1, none⟩) (by show w0.heap.size + 1 < _; omega)).trans h.b1, (hb.cell (p := ⟨_, 2, none⟩) (by show w0.heap.size + 1 < _; omega)).trans h.b2,
    h.sa.on hb (by omega), h.sb.on hb (by omega), Nat.le_trans hs hb.size, h.below.trans (hb.mono (by omega))⟩
theorem sb_made {Ba Bb : Nat} (w : World) (c n : Int) (va vb : Value) (l : List Fam) (ha : Fams Ba w va l) (hb : Fams Bb w vb l) (t1 t2 : TypeId) : SB w c n va vb l ((w.alloc (.cells #[.int .i64 c, .int .i64 n, va] t1)).alloc (.cells #[.int .i64 c, .int .i64 n, vb] t2)) := by
  have hbl : Below w.heap.size w ((w.alloc (.cells #[.int .i64 c, .int .i64 n, va] t1)).alloc (.cells #[.int .i64 c, .int .i64 n, vb] t2)) := by
    repeat (first | exact Below.refl _ _ | refine Below.alloc ?_ (by simp; try omega) _)
  exact ⟨Lib.cell?_alloc_some _ ((World.cell?_alloc_at _ _ _ _ rfl).trans rfl), Lib.cell?_alloc_some _ ((World.cell?_alloc_at _ _ _ _ rfl).trans rfl), Lib.cell?_alloc_some _ ((World.cell?_alloc_at _ _ _ _ rfl).trans rfl),
    (World.cell?_alloc_at _ _ _ _ (by simp)).trans rfl, (World.cell?_alloc_at _ _ _ _ (by simp)).trans rfl, (World.cell?_alloc_at _ _ _ _ (by simp)).trans rfl, (srcF_of ha).on hbl (Nat.le_refl _), (srcF_of hb).on hbl (Nat.le_refl _), by simp, hbl⟩
set_option maxRecDepth 100000 in
set_option maxHeartbeats 16000000 in
theorem same_is {Ba Bb : Nat} {w : World} {va vb : Value} {l : List Fam} (c n : Int) (ha : Fams Ba w va l) (hb : Fams Bb w vb l) (hn : l.length ≤ 1000) :
    Calls Tryz.prog 22 #[stV c n va, stV c n vb] w fun r w' => r = .returned (.bool true) ∧ Below w.heap.size w w' := by
  have hsb := sb_made w c n va vb l ha hb 57 57
  obtain ⟨basea, capa, rfl⟩ := ha.slice
  obtain ⟨baseb, capb, rfl⟩ := hb.slice
  clear ha hb
  unfold stV
  go_enter Tryz.func22, Tryz.ntmps22
  go_wp2_with fail
  go_loopg [30] l.length (fun gk iv wr => ∃ (j : Nat), j + gk = l.length ∧ iv = .int .i64 j ∧ Hid (SB w c n (.slice basea l.length capa) (.slice baseb l.length capb) l wr))
  case atStart => exact ⟨0, by omega, rfl, hsb⟩
  case round =>
    obtain ⟨j, hj, rfl, HR⟩ := hrel
    have HJ : Hid (j + gk = l.length) := hj
    clear hj hsb
    by_cases hlt : j < l.length
    · have hltI : (j : Int) < (l.length : Int) := by omega
      obtain ⟨ga, rfl, hca⟩ := HR.out.sa.fam j hlt
      obtain ⟨gb, rfl, hcb⟩ := HR.out.sb.fam j hlt
      generalize l[j] = y at *
      obtain ⟨y1, y2, y3, y4, y5, y6, y7, y8, y9⟩ := y
      have p0 := hca.c0; have p1 := hca.c1; have p2 := hca.c2; have p3 := hca.c3; have p4 := hca.c4; have p5 := hca.c5; have p6 := hca.c6; have p7 := hca.c7; have p8 := hca.c8
      have q0 := hcb.c0; have q1 := hcb.c1; have q2 := hcb.c2; have q3 := hcb.c3; have q4 := hcb.c4; have q5 := hcb.c5; have q6 := hcb.c6; have q7 := hcb.c7; have q8 := hcb.c8
      have e2 := HR.out.a2
      have f2 := HR.out.b2
      simp only at p0 p1 p2 p3 p4 p5 p6 p7 p8 q0 q1 q2 q3 q4 q5 q6 q7 q8
      clear hca hcb
      go_wp2_with fail
      go_region
      go_wp2_with fail
      go_roundg (gk - 1)
      case measure => have := HJ.out; omega
      case rel => exact ⟨j + 1, by have := HJ.out; omega, by go_num, HR.out.drew⟩
    · obtain rfl : j = l.length := by have := HJ.out; omega
      go_wp2_with fail
      go_ret
      exact ⟨rfl, HR.out.below⟩
end Go.Proofs.YtibelcnjmpedkaaGreatDoor
