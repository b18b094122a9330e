/-
  A copy of families; where one stands.
-/
import Derived.Test.YtibelcnjmpedkaaGreatDoorEvSl2
namespace Go.Proofs.YtibelcnjmpedkaaGreatDoor
open Go Go.RowKit Ev
theorem info_famM : (Tryz.prog.info? 38).map (fun i => (i.zero, i.size, decide (i.bytes ≤ 1000))) = some (some (famV zeroF), 9, true) := by kernel_rfl
theorem info_fam : ∃ i, Tryz.prog.info? 38 = some i ∧ i.zero = some (famV zeroF) ∧ i.size = 9 ∧ i.bytes ≤ 1000 := by
  have h := info_famM
  cases hi : Tryz.prog.info? 38 with
  | none => rw [hi] at h; cases h
  | some i =>
    rw [hi] at h
    simp only [Option.map_some, Option.some.injEq, Prod.mk.injEq, decide_eq_true_eq] at h
    exact ⟨i, rfl, h.1, h.2.1, h.2.2⟩
theorem zero_cells : (famV zeroF).cells.size = 9 := rfl
theorem eqNil (w : World) (a : Option Addr) (n c n' c' : Nat) : (binOp .eql 55 (.slice a n c) (.slice none n' c')).run Tryz.prog w = .ok (.bool a.isNone) w := Lib.run_eql_slice_nil w _ _ a n c n' c' Tryz.underlying55
theorem rowsK_empty (w : World) (cs : Array Value) (t : TypeId) (h : cs = #[]) : RowsK 9 w.heap.size (w.alloc (.cells cs t)) (.slice (some ⟨w.heap.size, 0, none⟩) 0 0) 0 [] := by
  subst h
  exact .inr ⟨w.heap.size, 0, rfl, ⟨Nat.le_refl _, by simp, rfl, Nat.le_refl _, by unfold maxLen; omega, fun _ h => (by cases h), fun j u h => (by cases h), fun j h => (by omega)⟩⟩
set_option maxRecDepth 100000 in
set_option maxHeartbeats 4000000 in
theorem clone_fams {B : Nat} {w : World} {v : Value} {l : List Fam} (h : Fams B w v l) (hn : l.length ≤ 1000) :
    Calls Tryz.prog 65 #[v] w fun e w' => ∃ v', e = .returned v' ∧ Fams w.heap.size w' v' l ∧ Below w.heap.size w w' := by
  obtain ⟨i0, hi, hz0, hz1, hz2⟩ := info_fam
  have q := eqNil
  rcases h with ⟨rfl, h0, h1⟩ | ⟨g, c, rfl, hr⟩
  · obtain rfl : l = [] := List.length_eq_zero_iff.1 h0
    clear hi
    go_enter Tryz.func65, Tryz.ntmps65
    go_wp2_with fail
    go_ret
    exact ⟨_, rfl, Fams.nil _ _, Below.refl _ _⟩
  · have HR : Hid (RowsK 9 B w (.slice (some ⟨g, 0, none⟩) l.length c) l.length (famsCs l)) := .inr ⟨g, c, rfl, hr⟩
    have hl0 := hr.lt
    clear hr
    generalize hlen : l.length = n at *
    have HN : Hid (l.length = n) := hlen
    clear hlen
    have HW : Hid (RowsK 9 w.heap.size (w.alloc (.cells #[] 38)) (.slice (some ⟨w.heap.size, 0, none⟩) 0 0) 0 []) := rowsK_empty w _ _ rfl
    have HRW : Hid (RowsK 9 B (w.alloc (.cells #[] 38)) (.slice (some ⟨g, 0, none⟩) n c) n (famsCs l)) := HR.out.below ((Below.refl _ _).alloc (Nat.le_refl _) _) (Nat.le_refl _)
    go_enter Tryz.func65, Tryz.ntmps65
    go_wp2_with (at_builtin; refine wpList_append_rowsK _ rfl _ _ 55 rfl 38 i0 _ 9 i0.bytes Tryz.underlying55 hi hz0 hz1 rfl zero_cells w.heap.size _ 0 [] rfl HW.out (by simp) _ n (famsCs l) rfl (HRW.out.src Tryz.underlying55) (by omega) (by omega) ?_)
    intro v' w' h1 h2 h3
    rw [← HN.out] at h1
    have HF : Hid (Fams w.heap.size w' v' l) := h1
    have HB : Hid (Below w.heap.size w w') := ((Below.refl _ _).alloc (Nat.le_refl _) _).trans h2
    clear h1 h2 h3
    go_wp2_with fail
    go_ret
    exact ⟨v', rfl, HF.out, HB.out⟩
set_option maxHeartbeats 2000000 in
theorem place_is {B : Nat} {w : World} {v : Value} {l : List Fam} (h : Fams B w v l) (hr : Rising l) (hn : l.length ≤ 1000) (n : Int) :
    Calls Tryz.prog 104 #[v, .int .i64 n] w fun e w' => e = .returned (.tuple #[.int .i64 (rank l n : Nat), .bool (thereB l n)]) ∧ Below w.heap.size w w' := by
  have HB := bsearch_is h hr hn n
  clear h
  go_enter Tryz.func104, Tryz.ntmps104
  go_wp2_with fail
  refine HB.mono ?_
  rintro e w' ⟨rfl, hb⟩
  have HB2 : Hid (Below w.heap.size w w') := hb
  clear hb
  go_wp2_with fail
  go_ret2
  exact ⟨rfl, HB2.out⟩
set_option maxRecDepth 100000 in
set_option maxHeartbeats 4000000 in
theorem insert_end {B : Nat} {w : World} {v : Value} {l : List Fam} (h : Fams B w v l) (hn : l.length ≤ 1000) (hB : B ≤ w.heap.size) (f : Fam) (t : TypeId) :
    Calls Tryz.prog 105 #[v, .int .i64 (l.length : Nat), .slice (some ⟨w.heap.size, 0, none⟩) 1 1] (w.alloc (.cells (famCs f).toArray t)) fun e w' => ∃ v', e = .returned v' ∧ Fams B w' v' (l ++ [f]) ∧ Below B w w' := by
  obtain ⟨i0, hi, hz0, hz1, hz2⟩ := info_fam
  have HBW : Hid (Below B w (w.alloc (.cells (famCs f).toArray t))) := (Below.refl _ _).alloc hB _
  have HW : Hid (Fams B (w.alloc (.cells (famCs f).toArray t)) v l) := h.below ((Below.refl w.heap.size w).alloc (Nat.le_refl _) _) (Nat.le_refl _)
  have hsz : B ≤ (w.alloc (.cells (famCs f).toArray t)).heap.size := by simp; omega
  have hsrc : Src Tryz.prog 9 55 (.slice (some ⟨w.heap.size, 0, none⟩) 1 1) 1 (famCs f) (w.alloc (.cells (famCs f).toArray t)) := Src.ofSlice _ Tryz.underlying55 ⟨w.heap.size, 0, none⟩ 1 1 (famCs f) (by simp [famCs_len]) (fun j u hj => by
    rw [Addr.add_lit, Nat.zero_add, World.cell?_alloc_at _ _ _ _ rfl]
    simpa using hj) (famCs_one f)
  obtain ⟨base, c, rfl⟩ := h.slice
  clear h
  generalize hWW : w.alloc (.cells (famCs f).toArray t) = W at *
  have HWW : Hid (w.alloc (.cells (famCs f).toArray t) = W) := hWW
  clear hWW
  generalize w.heap.size = b at *
  go_enter Tryz.func105, Tryz.ntmps105
  go_wp2_with (at_builtin; refine wpList_append_rowsK _ rfl _ _ 55 rfl 38 i0 _ 9 i0.bytes Tryz.underlying55 hi hz0 hz1 rfl zero_cells B _ l.length (famsCs l) rfl HW.out hsz _ 1 (famCs f) rfl hsrc (by omega) (by omega) ?_)
  all_goals (
    intro v' w' h1 h2 h3
    have HF : Hid (Fams B w' v' (l ++ [f])) := by
      show RowsK _ _ _ _ _ _
      rw [List.length_append, List.length_singleton, famsCs_app, famsCs_one1]
      exact h1
    have HB : Hid (Below B w w') := HBW.out.trans h2
    clear h1 h2 h3
    go_wp2_with fail
    go_ret
    exact ⟨v', rfl, HF.out, HB.out⟩)
end Go.Proofs.YtibelcnjmpedkaaGreatDoor
