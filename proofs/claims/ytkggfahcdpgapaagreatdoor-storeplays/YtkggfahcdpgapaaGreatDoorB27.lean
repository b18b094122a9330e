/-
  Own texts put together: EvRefApp, EvRefApp1, EvRefApp2, EvRefApp3, EvRefApply.
-/
import Derived.Test.YtkggfahcdpgapaaGreatDoorB26
import Derived.Test.YtkggfahcdpgapaaGreatDoorB19
/-
  A state behind an event, as the document's answer makes it: what its loops go by.
-/

namespace Go.Proofs.YtkggfahcdpgapaaGreatDoor
open Go Go.RowKit Ev
/-- What the document's Apply goes by: its boxes, the list that it makes in a box of its own, the list that it was given. -/
structure RA (w0 : World) (c n : Int) (v : Value) (l : List Fam) (e : E) (vl : Value) (L : List Fam) (w : World) : Prop where
  ab : AB (w0.heap.size + 4) w0.heap.size c n v e w
  l0 : w.cell? ⟨w0.heap.size + 3, 0, none⟩ = some vl
  lf : w.frozen? ⟨w0.heap.size + 3, 0, none⟩ = false
  fl : Fams (w0.heap.size + 4) w vl L
  src : SrcF w0.heap.size w v l
  below : Below w0.heap.size w0 w
theorem RA.on {w0 : World} {c n : Int} {v : Value} {l : List Fam} {e : E} {vl : Value} {L : List Fam} {w w' : World} (h : RA w0 c n v l e vl L w) (hb : Below w.heap.size w w') : RA w0 c n v l e vl L w' := by
  have hs := h.ab.size
  have hb4 : Below (w0.heap.size + 4) w w' := hb.mono hs
  exact ⟨h.ab.on hb4, (hb4.cell (p := ⟨w0.heap.size + 3, 0, none⟩) (Nat.lt_succ_self _)).trans h.l0, (hb4.frozen (p := ⟨w0.heap.size + 3, 0, none⟩) (Nat.lt_succ_self _)).trans h.lf, h.fl.below hb (Nat.le_refl _), h.src.on hb4 (by omega), h.below.trans (hb4.mono (by omega))⟩
/-- Behind what wrote the list's own row alone: the boxes, and the list given. -/
structure RB (w0 : World) (c n : Int) (v : Value) (l : List Fam) (e : E) (vl : Value) (w : World) : Prop where
  ab : AB (w0.heap.size + 4) w0.heap.size c n v e w
  l0 : w.cell? ⟨w0.heap.size + 3, 0, none⟩ = some vl
  lf : w.frozen? ⟨w0.heap.size + 3, 0, none⟩ = false
  src : SrcF w0.heap.size w v l
  below : Below w0.heap.size w0 w
theorem RA.rb {w0 : World} {c n : Int} {v : Value} {l : List Fam} {e : E} {vl : Value} {L : List Fam} {w w' : World} (h : RA w0 c n v l e vl L w) (hb4 : Below (w0.heap.size + 4) w w') : RB w0 c n v l e vl w' :=
  ⟨h.ab.on hb4, (hb4.cell (p := ⟨w0.heap.size + 3, 0, none⟩) (Nat.lt_succ_self _)).trans h.l0, (hb4.frozen (p := ⟨w0.heap.size + 3, 0, none⟩) (Nat.lt_succ_self _)).trans h.lf, h.src.on hb4 (by omega), h.below.trans (hb4.mono (by omega))⟩
theorem RB.put {w0 : World} {c n : Int} {v : Value} {l : List Fam} {e : E} {vl : Value} {w : World} (h : RB w0 c n v l e vl w) {vl' : Value} {L' : List Fam} (hf : Fams (w0.heap.size + 4) w vl' L') : RA w0 c n v l e vl' L' (w.setCell ⟨w0.heap.size + 3, 0, none⟩ vl') := by
  have hl := h.ab
  have ho : ∀ g j, g ≠ w0.heap.size + 3 → (w.setCell ⟨w0.heap.size + 3, 0, none⟩ vl').cell? ⟨g, j, none⟩ = w.cell? ⟨g, j, none⟩ := fun g j hg => World.cell?_setCell_other _ _ _ _ (by intro e; injection e with e _ _; exact hg e.symm)
  refine ⟨⟨hl.lt, by simpa using hl.size, (ho _ _ (by omega)).trans hl.s0, (ho _ _ (by omega)).trans hl.s1, (ho _ _ (by omega)).trans hl.s2, hl.ev.other (by show w0.heap.size + 3 ≠ w0.heap.size + 1; omega) _, (ho _ _ (by omega)).trans hl.r0, (ho _ _ (by omega)).trans hl.r1, (ho _ _ (by omega)).trans hl.r2, fun i => by rw [World.frozen?_setCell]; exact hl.fs i, fun i => by rw [World.frozen?_setCell]; exact hl.fr i⟩,
    World.cell?_setCell_same _ _ _ h.l0, by rw [World.frozen?_setCell]; exact h.lf, hf.other (by show w0.heap.size + 3 < w0.heap.size + 4; omega) _, h.src.set (by show w0.heap.size ≤ w0.heap.size + 3; omega) _, h.below.setCell (by show w0.heap.size ≤ w0.heap.size + 3; omega) _⟩
theorem ra_made {B : Nat} (w : World) (c n : Int) (v : Value) (l : List Fam) (e : E) (h : Fams B w v l) (t1 t2 t3 t4 : TypeId) : RA w c n v l e (.slice none 0 0) [] ((((w.alloc (.cells #[.int .i64 c, .int .i64 n, v] t1)).alloc (.cells #[.int .i64 e.kind, .int .i64 e.fam.id, .string e.fam.client, .string e.fam.subject, .string e.fam.scope, .int .i64 e.fam.gen, .int .i64 e.fam.made, .int .i64 e.fam.used, .string e.fam.request, .bool e.fam.dead, .int .i64 e.id, .int .i64 e.time] t2)).alloc (.cells #[.int .i64 0, .int .i64 0, .slice none 0 0] t3)).alloc (.cells #[.slice none 0 0] t4)) := by
  have hbl : Below w.heap.size w ((((w.alloc (.cells #[.int .i64 c, .int .i64 n, v] t1)).alloc (.cells #[.int .i64 e.kind, .int .i64 e.fam.id, .string e.fam.client, .string e.fam.subject, .string e.fam.scope, .int .i64 e.fam.gen, .int .i64 e.fam.made, .int .i64 e.fam.used, .string e.fam.request, .bool e.fam.dead, .int .i64 e.id, .int .i64 e.time] t2)).alloc (.cells #[.int .i64 0, .int .i64 0, .slice none 0 0] t3)).alloc (.cells #[.slice none 0 0] t4)) := by
    repeat (first | exact Below.refl _ _ | refine Below.alloc ?_ (by simp; try omega) _)
  have h1 : ∀ (W : World) (o : Obj) (g i : Nat), g < W.heap.size → (W.alloc o).frozen? ⟨g, i, none⟩ = W.frozen? ⟨g, i, none⟩ := fun W o g i hg => ((Below.refl W.heap.size W).alloc (Nat.le_refl _) o).frozen (p := ⟨g, i, none⟩) hg
  refine ⟨⟨by omega, by simp, ?_, ?_, ?_, ?_, ?_, ?_, ?_, fun i => ?_, fun i => ?_⟩, (World.cell?_alloc_at _ _ _ _ (by simp)).trans rfl, World.frozen?_alloc_at _ _ _ _ (by simp), Fams.nil _ _, (srcF_of h).on hbl (Nat.le_refl _), hbl⟩
  · exact Lib.cell?_alloc_some _ (Lib.cell?_alloc_some _ (Lib.cell?_alloc_some _ ((World.cell?_alloc_at _ _ _ _ rfl).trans rfl)))
  · exact Lib.cell?_alloc_some _ (Lib.cell?_alloc_some _ (Lib.cell?_alloc_some _ ((World.cell?_alloc_at _ _ _ _ rfl).trans rfl)))
  · exact Lib.cell?_alloc_some _ (Lib.cell?_alloc_some _ (Lib.cell?_alloc_some _ ((World.cell?_alloc_at _ _ _ _ rfl).trans rfl)))
  · exact ((evAt_made _ e t2 _ (by simp)).on ((Below.refl _ _).alloc (Nat.le_refl _) _)).on ((Below.refl _ _).alloc (Nat.le_refl _) _)
  · exact Lib.cell?_alloc_some _ ((World.cell?_alloc_at _ _ _ _ (by simp)).trans rfl)
  · exact Lib.cell?_alloc_some _ ((World.cell?_alloc_at _ _ _ _ (by simp)).trans rfl)
  · exact Lib.cell?_alloc_some _ ((World.cell?_alloc_at _ _ _ _ (by simp)).trans rfl)
  · rw [h1 _ _ _ _ (by simp; omega), h1 _ _ _ _ (by simp; omega), h1 _ _ _ _ (by simp)]
    exact World.frozen?_alloc_at _ _ _ _ rfl
  · rw [h1 _ _ _ _ (by simp)]
    exact World.frozen?_alloc_at _ _ _ _ (by simp)
theorem dropP_take (l : List Fam) (n : Int) (j : Nat) (hj : j < l.length) : dropP (l.take (j + 1)) n = dropP (l.take j) n ++ (if l[j].id = n then [] else [l[j]]) := by
  unfold dropP
  rw [List.take_succ_eq_append_getElem hj, List.filter_append]
  congr 1
  by_cases h : l[j].id = n
  · rw [if_pos h]
    simp [h]
  · rw [if_neg h]
    simp [h]
end Go.Proofs.YtkggfahcdpgapaaGreatDoor

/-
  A state behind a family that is put, as the document's answer makes it.
-/

namespace Go.Proofs.YtkggfahcdpgapaaGreatDoor
open Go Go.RowKit Ev
set_option maxRecDepth 100000 in
set_option maxHeartbeats 16000000 in
theorem refApply_1 {B : Nat} {w : World} {v : Value} {l : List Fam} (c n : Int) (f : Fam) (h : Fams B w v l) (hr : Rising l) (hn : l.length ≤ 1000) (hf : 0 ≤ f.id ∧ f.id ≤ 1099511627776) :
    Calls Tryz.prog 72 #[stV c n v, evV ⟨1, f, 0, 0⟩] w fun r w' => ∃ v', r = .returned (stV c (if n ≤ f.id then f.id + 1 else n) v') ∧ Fams w.heap.size w' v' (putP l f) ∧ Below w.heap.size w w' := by
  obtain ⟨i0, hi, hz0, hz1, hz2⟩ := info_fam
  have HRA : Hid _ := ra_made w c n v l ⟨1, f, 0, 0⟩ h 57 44 57 55
  have HPS : Hid (∀ d : List Fam, d.Perm (dropP l f.id ++ [f]) → Asc d → d = putP l f) := fun d h1 h2 => put_sorted hr h1 h2
  obtain ⟨base, cap, rfl⟩ := h.slice
  clear h hr
  have HFI : Hid (0 ≤ f.id ∧ f.id ≤ 1099511627776) := hf
  have HE : Hid (EvAt _ _ _) := HRA.out.ab.ev
  obtain ⟨f1, f2, f3, f4, f5, f6, f7, f8, f9⟩ := f
  unfold evV evCs stV
  simp only at hf ⊢
  obtain ⟨hf0, hf1⟩ := hf
  go_enter Tryz.func72, Tryz.ntmps72
  go_wp2_with fail
  clear HE
  go_loopg [24] l.length (fun gk iv wr => ∃ (j : Nat) (vl : Value), j + gk = l.length ∧ iv = .int .i64 j ∧ Hid (RA w c n (.slice base l.length cap) l ⟨1, ⟨f1, f2, f3, f4, f5, f6, f7, f8, f9⟩, 0, 0⟩ vl (dropP (l.take j) f1) wr))
  case atStart => exact ⟨0, _, by omega, rfl, HRA.out⟩
  case round =>
    obtain ⟨j, vl, hj, rfl, HR⟩ := hrel
    obtain ⟨bl, cl, rfl⟩ := HR.out.fl.slice
    have hdl : (dropP (l.take j) f1).length ≤ 1000 := by
      have h1 := drop_len (l.take j) f1
      rw [List.length_take] at h1
      omega
    have HJ : Hid (j + gk = l.length) := hj
    have hjl : j ≤ l.length := by omega
    clear hj HRA
    by_cases hlt : j < l.length
    · have hltI : (j : Int) < (l.length : Int) := by omega
      obtain ⟨g, rfl, hc⟩ := HR.out.src.fam j hlt
      have HDT : Hid (dropP (l.take (j + 1)) f1 = dropP (l.take j) f1 ++ (if l[j].id = f1 then [] else [l[j]])) := dropP_take l f1 j hlt
      generalize l[j] = y at *
      obtain ⟨y1, y2, y3, y4, y5, y6, y7, y8, y9⟩ := y
      have q0 := hc.c0; have q1 := hc.c1; have q2 := hc.c2; have q3 := hc.c3; have q4 := hc.c4; have q5 := hc.c5; have q6 := hc.c6; have q7 := hc.c7; have q8 := hc.c8
      simp only at q0 q1 q2 q3 q4 q5 q6 q7 q8
      have HR1 : Hid (RA w c n _ l _ _ _ (wr.alloc (.cells #[.int .i64 y1, .string y2, .string y3, .string y4, .int .i64 y5, .int .i64 y6, .int .i64 y7, .string y8, .bool y9] 38))) := HR.out.on ((Below.refl _ _).alloc (Nat.le_refl _) _)
      have e0 := HR1.out.ab.ev.fam.c0
      have e1 := HR1.out.l0
      have e2 := HR1.out.lf
      simp only at e0
      clear hc
      by_cases hid : y1 = f1
      · have HDT2 : Hid (dropP (l.take (j + 1)) f1 = dropP (l.take j) f1) := by show _ = _; rw [HDT.out, if_pos hid, List.append_nil]
        have hidb : (y1 == f1) = true := by rw [beq_iff_eq]; exact hid
        clear hid
        go_wp2_with fail
        go_roundg (gk - 1)
        case measure => have := HJ.out; omega
        case rel => exact ⟨j + 1, _, by have := HJ.out; omega, by go_num, by show RA _ _ _ _ _ _ _ _ _; rw [HDT2.out]; exact HR1.out⟩
      · have HDT2 : Hid (dropP (l.take (j + 1)) f1 = dropP (l.take j) f1 ++ [⟨y1, y2, y3, y4, y5, y6, y7, y8, y9⟩]) := by show _ = _; rw [HDT.out, if_neg hid]
        have hidb : (y1 == f1) = false := by rw [beq_eq_false_iff_ne]; exact hid
        clear hid
        have HR2 : Hid (RA w c n _ l _ _ _ ((wr.alloc (.cells #[.int .i64 y1, .string y2, .string y3, .string y4, .int .i64 y5, .int .i64 y6, .int .i64 y7, .string y8, .bool y9] 38)).alloc (.cells #[.int .i64 y1, .string y2, .string y3, .string y4, .int .i64 y5, .int .i64 y6, .int .i64 y7, .string y8, .bool y9] 38))) := HR1.out.on ((Below.refl _ _).alloc (Nat.le_refl _) _)
        have hsrc : Src Tryz.prog 9 55 (.slice (some ⟨wr.heap.size + 1, 0, none⟩) 1 1) 1 (famCs ⟨y1, y2, y3, y4, y5, y6, y7, y8, y9⟩) ((wr.alloc (.cells #[.int .i64 y1, .string y2, .string y3, .string y4, .int .i64 y5, .int .i64 y6, .int .i64 y7, .string y8, .bool y9] 38)).alloc (.cells #[.int .i64 y1, .string y2, .string y3, .string y4, .int .i64 y5, .int .i64 y6, .int .i64 y7, .string y8, .bool y9] 38)) := Src.ofSlice _ Tryz.underlying55 ⟨wr.heap.size + 1, 0, none⟩ 1 1 _ (by simp [famCs_len]) (fun k u hk => by
          rw [Addr.add_lit, Nat.zero_add, World.cell?_alloc_at _ _ _ _ (by simp)]
          simpa [famCs] using hk) (famCs_one _)
        go_wp2_with (at_builtin; refine wpList_append_rowsK _ rfl _ _ 55 rfl 38 i0 _ 9 i0.bytes Tryz.underlying55 hi hz0 hz1 rfl zero_cells (w.heap.size + 4) _ _ _ rfl HR2.out.fl HR2.out.ab.size _ 1 (famCs ⟨y1, y2, y3, y4, y5, y6, y7, y8, y9⟩) rfl hsrc (by omega) (by omega) ?_)
        intro v' w3 h7 h8 h9
        have HRB : Hid _ := HR2.out.rb h8
        have hff : Fams (w.heap.size + 4) w3 v' (dropP (l.take (j + 1)) f1) := by
          show RowsK _ _ _ _ _ _
          rw [HDT2.out, List.length_append, List.length_singleton, famsCs_app, famsCs_one1]
          exact h7
        obtain ⟨b3, c3, rfl⟩ := hff.slice
        have HR3 : Hid _ := HRB.out.put hff
        have z1 := HRB.out.l0
        have z2 := HRB.out.lf
        clear h7 h8 h9 hff hsrc e0 e1 e2 q0 q1 q2 q3 q4 q5 q6 q7 q8
        go_wp2_with fail
        go_roundg (gk - 1)
        case measure => have := HJ.out; omega
        case rel => exact ⟨j + 1, _, by have := HJ.out; omega, by go_num, HR3.out⟩
    · obtain rfl : j = l.length := by omega
      have hrr := HR.out
      rw [List.take_of_length_le (Nat.le_refl _)] at hrr hdl
      have HRE : Hid _ := hrr
      clear hrr HR HJ hlt
      have e1 := HRE.out.l0
      have e2 := HRE.out.lf
      have a1 := HRE.out.ab.ev.fam.c0
      have a2 := HRE.out.ab.ev.fam.c1
      have a3 := HRE.out.ab.ev.fam.c2
      have a4 := HRE.out.ab.ev.fam.c3
      have a5 := HRE.out.ab.ev.fam.c4
      have a6 := HRE.out.ab.ev.fam.c5
      have a7 := HRE.out.ab.ev.fam.c6
      have a8 := HRE.out.ab.ev.fam.c7
      have a9 := HRE.out.ab.ev.fam.c8
      simp only at a1 a2 a3 a4 a5 a6 a7 a8 a9
      have HR2 : Hid _ := HRE.out.on ((Below.refl _ _).alloc (Nat.le_refl _) (.cells #[.int .i64 f1, .string f2, .string f3, .string f4, .int .i64 f5, .int .i64 f6, .int .i64 f7, .string f8, .bool f9] 38))
      have hsrc : Src Tryz.prog 9 55 (.slice (some ⟨wr.heap.size, 0, none⟩) 1 1) 1 (famCs ⟨f1, f2, f3, f4, f5, f6, f7, f8, f9⟩) (wr.alloc (.cells #[.int .i64 f1, .string f2, .string f3, .string f4, .int .i64 f5, .int .i64 f6, .int .i64 f7, .string f8, .bool f9] 38)) := Src.ofSlice _ Tryz.underlying55 ⟨wr.heap.size, 0, none⟩ 1 1 _ (by simp [famCs_len]) (fun k u hk => by
          rw [Addr.add_lit, Nat.zero_add, World.cell?_alloc_at _ _ _ _ rfl]
          simpa [famCs] using hk) (famCs_one _)
      go_wp2_with (at_builtin; refine wpList_append_rowsK _ rfl _ _ 55 rfl 38 i0 _ 9 i0.bytes Tryz.underlying55 hi hz0 hz1 rfl zero_cells (w.heap.size + 4) _ _ _ rfl HR2.out.fl HR2.out.ab.size _ 1 (famCs ⟨f1, f2, f3, f4, f5, f6, f7, f8, f9⟩) rfl hsrc (by omega) (by omega) ?_)
      intro v' w3 h7 h8 h9
      have HRB : Hid _ := HR2.out.rb h8
      have hff : Fams (w.heap.size + 4) w3 v' (dropP l f1 ++ [⟨f1, f2, f3, f4, f5, f6, f7, f8, f9⟩]) := by
        show RowsK _ _ _ _ _ _
        rw [List.length_append, List.length_singleton, famsCs_app, famsCs_one1]
        exact h7
      have hlen : (dropP l f1 ++ [(⟨f1, f2, f3, f4, f5, f6, f7, f8, f9⟩ : Fam)]).length ≤ 100000 := by rw [List.length_append, List.length_singleton]; omega
      have HPS2 : Hid (∀ d : List Fam, d.Perm (dropP l f1 ++ [⟨f1, f2, f3, f4, f5, f6, f7, f8, f9⟩]) → Asc d → d = putP l ⟨f1, f2, f3, f4, f5, f6, f7, f8, f9⟩) := HPS.out
      have hpos : 0 < (dropP l f1 ++ [(⟨f1, f2, f3, f4, f5, f6, f7, f8, f9⟩ : Fam)]).length := by simp
      have hdne : (dropP l f1 ++ [(⟨f1, f2, f3, f4, f5, f6, f7, f8, f9⟩ : Fam)]).length = (dropP l f1 ++ [(⟨f1, f2, f3, f4, f5, f6, f7, f8, f9⟩ : Fam)]).length := rfl
      clear HPS
      generalize dropP l f1 ++ [(⟨f1, f2, f3, f4, f5, f6, f7, f8, f9⟩ : Fam)] = L at *
      rcases hff with ⟨_, h0, _⟩ | ⟨gl, c3, rfl, hrow⟩
      · omega
      have HR3 : Hid (RA w c n _ l _ _ L (w3.setCell ⟨w.heap.size + 3, 0, none⟩ (.slice (some ⟨gl, 0, none⟩) L.length c3))) := HRB.out.put (.inr ⟨gl, c3, rfl, hrow⟩)
      have z1 := HRB.out.l0
      have z2 := HRB.out.lf
      have z3 := HR3.out.l0
      have hgl : w.heap.size + 4 ≤ gl := hrow.new
      have hrow2 : RowK 9 (w.heap.size + 4) (w3.setCell ⟨w.heap.size + 3, 0, none⟩ (.slice (some ⟨gl, 0, none⟩) L.length c3)) gl c3 L.length (famsCs L) := hrow.block (by simp [World.setCell]) (Below.heap_setCell _ _ _ _ (by show gl ≠ w.heap.size + 3; omega))
      have hsort := sort_fams hrow2 hlen z3 (by omega)
      clear h7 h8 h9 hrow hrow2 hsrc e1 e2 a1 a2 a3 a4 a5 a6 a7 a8 a9 hpos hdne hlen
      go_wp2_with fail
      refine hsort.mono ?_
      rintro e5 w5 ⟨rfl, d, hd1, hd2, hd3, hd4⟩
      obtain rfl : d = putP l ⟨f1, f2, f3, f4, f5, f6, f7, f8, f9⟩ := HPS2.out d hd1 hd2
      have HRBF : Hid _ := HR3.out.rb hd4
      have hpl := hd1.length_eq
      generalize hpp : putP l ⟨f1, f2, f3, f4, f5, f6, f7, f8, f9⟩ = D at *
      have HPP : Hid (putP l ⟨f1, f2, f3, f4, f5, f6, f7, f8, f9⟩ = D) := hpp
      have HF5 : Hid (RowsK 9 (w.heap.size + 4) w5 (.slice (some ⟨gl, 0, none⟩) L.length c3) D.length (famsCs D)) := .inr ⟨gl, c3, by rw [hpl], hd3⟩
      clear hpl hpp
      have s0 := HRBF.out.ab.s0
      have s1 := HRBF.out.ab.s1
      have s2 := HRBF.out.ab.s2
      have k1 := HRBF.out.ab.ev.fam.c0
      have fz := HRBF.out.ab.fs
      have fr : ∀ i, w5.frozen? ⟨w.heap.size + 1 + 1, i, none⟩ = false := HRBF.out.ab.fr
      have r0 : w5.cell? ⟨w.heap.size + 1 + 1, 0, none⟩ = _ := HRBF.out.ab.r0
      have r1 : w5.cell? ⟨w.heap.size + 1 + 1, 1, none⟩ = _ := HRBF.out.ab.r1
      have r2 : w5.cell? ⟨w.heap.size + 1 + 1, 2, none⟩ = _ := HRBF.out.ab.r2
      have l0 := HRBF.out.l0
      have HB5 : Hid (Below w.heap.size w w5) := HRBF.out.below
      simp only at k1
      have HSET : Hid (∀ (W : World) (g i : Nat) (u : Value), g < w.heap.size + 4 → RowsK 9 (w.heap.size + 4) W (.slice (some ⟨gl, 0, none⟩) L.length c3) D.length (famsCs D) → RowsK 9 (w.heap.size + 4) (W.setCell ⟨g, i, none⟩ u) (.slice (some ⟨gl, 0, none⟩) L.length c3) D.length (famsCs D)) := fun W g i u hg hw => hw.other (a := ⟨g, i, none⟩) hg u
      clear hd1 hd2 hd3 hd4 z1 z2 z3 hgl hsort HRBF
      generalize hb : w.heap.size = b at *
      have HWB : Hid (w.heap.size = b) := hb
      clear hb
      by_cases hnx : n ≤ f1
      · have HX : Hid ((if n ≤ f1 then f1 + 1 else n) = f1 + 1) := if_pos hnx
        have HFN : Hid (RowsK 9 b (((((w5.setCell ⟨b, 1, none⟩ (.int .i64 (f1 + 1))).setCell ⟨b, 2, none⟩ (.slice (some ⟨gl, 0, none⟩) L.length c3)).setCell ⟨b + 1 + 1, 0, none⟩ (.int .i64 c)).setCell ⟨b + 1 + 1, 1, none⟩ (.int .i64 (f1 + 1))).setCell ⟨b + 1 + 1, 2, none⟩ (.slice (some ⟨gl, 0, none⟩) L.length c3)) (.slice (some ⟨gl, 0, none⟩) L.length c3) D.length (famsCs D)) := by
          refine RowsK.mono (B := b + 4) ?_ (by omega)
          repeat (first | exact HF5.out | refine HSET.out _ _ _ _ (by omega) ?_)
        have HBN : Hid (Below b w (((((w5.setCell ⟨b, 1, none⟩ (.int .i64 (f1 + 1))).setCell ⟨b, 2, none⟩ (.slice (some ⟨gl, 0, none⟩) L.length c3)).setCell ⟨b + 1 + 1, 0, none⟩ (.int .i64 c)).setCell ⟨b + 1 + 1, 1, none⟩ (.int .i64 (f1 + 1))).setCell ⟨b + 1 + 1, 2, none⟩ (.slice (some ⟨gl, 0, none⟩) L.length c3))) := by
          show Below _ _ _
          repeat (first | exact HB5.out | refine Below.setCell ?_ (by simp; try omega) _)
        go_wp2_with fail
        obtain ⟨q0, q1, q2⟩ := @three_set ((w5.setCell ⟨b, 1, none⟩ (.int .i64 (f1 + 1))).setCell ⟨b, 2, none⟩ (.slice (some ⟨gl, 0, none⟩) L.length c3)) (b + 1 + 1) (.int .i64 c) (.int .i64 (f1 + 1)) (.slice (some ⟨gl, 0, none⟩) L.length c3) _ _ _ (set_other (set_other r0 (by omega)) (by omega)) (set_other (set_other r1 (by omega)) (by omega)) (set_other (set_other r2 (by omega)) (by omega))
        have HFN2 := HFN.out
        have HBN2 := HBN.out
        clear HFN HBN s0 s1 s2 fz fr r0 r1 r2 l0
        generalize World.setCell _ ⟨b + 1 + 1, 2, none⟩ _ = WW at *
        exact bodyPost_ret (v := .agg #[.int .i64 c, .int .i64 (f1 + 1), .slice (some ⟨gl, 0, none⟩) L.length c3]) (by simp [results, Tryz.results72, go_sem, q0, q1, q2]) rfl ⟨_, rfl, by rw [HWB.out]; first | exact HFN2 | (rw [HPP.out]; exact HFN2), by rw [HWB.out]; exact HBN2⟩
      · have HX : Hid ((if n ≤ f1 then f1 + 1 else n) = n) := if_neg hnx
        have hnx2 : ¬ n ≤ f1 := hnx
        have HFN : Hid (RowsK 9 b ((((w5.setCell ⟨b, 2, none⟩ (.slice (some ⟨gl, 0, none⟩) L.length c3)).setCell ⟨b + 1 + 1, 0, none⟩ (.int .i64 c)).setCell ⟨b + 1 + 1, 1, none⟩ (.int .i64 n)).setCell ⟨b + 1 + 1, 2, none⟩ (.slice (some ⟨gl, 0, none⟩) L.length c3)) (.slice (some ⟨gl, 0, none⟩) L.length c3) D.length (famsCs D)) := by
          refine RowsK.mono (B := b + 4) ?_ (by omega)
          repeat (first | exact HF5.out | refine HSET.out _ _ _ _ (by omega) ?_)
        have HBN : Hid (Below b w ((((w5.setCell ⟨b, 2, none⟩ (.slice (some ⟨gl, 0, none⟩) L.length c3)).setCell ⟨b + 1 + 1, 0, none⟩ (.int .i64 c)).setCell ⟨b + 1 + 1, 1, none⟩ (.int .i64 n)).setCell ⟨b + 1 + 1, 2, none⟩ (.slice (some ⟨gl, 0, none⟩) L.length c3))) := by
          show Below _ _ _
          repeat (first | exact HB5.out | refine Below.setCell ?_ (by simp; try omega) _)
        go_wp2_with fail
        obtain ⟨q0, q1, q2⟩ := @three_set (w5.setCell ⟨b, 2, none⟩ (.slice (some ⟨gl, 0, none⟩) L.length c3)) (b + 1 + 1) (.int .i64 c) (.int .i64 n) (.slice (some ⟨gl, 0, none⟩) L.length c3) _ _ _ (set_other r0 (by omega)) (set_other r1 (by omega)) (set_other r2 (by omega))
        have HFN2 := HFN.out
        have HBN2 := HBN.out
        clear HFN HBN s0 s1 s2 fz fr r0 r1 r2 l0
        generalize World.setCell _ ⟨b + 1 + 1, 2, none⟩ _ = WW at *
        exact bodyPost_ret (v := .agg #[.int .i64 c, .int .i64 n, .slice (some ⟨gl, 0, none⟩) L.length c3]) (by simp [results, Tryz.results72, go_sem, q0, q1, q2]) rfl ⟨_, rfl, by rw [HWB.out]; first | exact HFN2 | (rw [HPP.out]; exact HFN2), by rw [HWB.out]; exact HBN2⟩
end Go.Proofs.YtkggfahcdpgapaaGreatDoor

/-
  A state behind a family dropped, as the document's answer makes it.
-/

namespace Go.Proofs.YtkggfahcdpgapaaGreatDoor
open Go Go.RowKit Ev
set_option maxRecDepth 100000 in
set_option maxHeartbeats 16000000 in
theorem refApply_2 {B : Nat} {w : World} {v : Value} {l : List Fam} (c n d : Int) (h : Fams B w v l) (hn : l.length ≤ 1000) :
    Calls Tryz.prog 72 #[stV c n v, evV ⟨2, zeroF, d, 0⟩] w fun r w' => ∃ v', r = .returned (stV c n v') ∧ Fams w.heap.size w' v' (dropP l d) ∧ Below w.heap.size w w' := by
  obtain ⟨i0, hi, hz0, hz1, hz2⟩ := info_fam
  have HRA : Hid _ := ra_made w c n v l ⟨2, zeroF, d, 0⟩ h 57 44 57 55
  obtain ⟨base, cap, rfl⟩ := h.slice
  clear h
  have HE : Hid (EvAt _ _ _) := HRA.out.ab.ev
  have HRA0 : Hid _ := HRA.out
  unfold evV evCs stV
  unfold zeroF at HRA0
  simp only [zeroF]
  simp only at HRA0
  go_enter Tryz.func72, Tryz.ntmps72
  go_wp2_with fail
  clear HE
  go_loopg [64] l.length (fun gk iv wr => ∃ (j : Nat) (vl : Value), j + gk = l.length ∧ iv = .int .i64 j ∧ Hid (RA w c n (.slice base l.length cap) l ⟨2, zeroF, d, 0⟩ vl (dropP (l.take j) d) wr))
  case atStart => exact ⟨0, _, by omega, rfl, HRA.out⟩
  case round =>
    obtain ⟨j, vl, hj, rfl, HR⟩ := hrel
    obtain ⟨bl, cl, rfl⟩ := HR.out.fl.slice
    have hdl : (dropP (l.take j) d).length ≤ 1000 := by
      have h1 := drop_len (l.take j) d
      rw [List.length_take] at h1
      omega
    have HJ : Hid (j + gk = l.length) := hj
    have hjl : j ≤ l.length := by omega
    clear hj HRA
    by_cases hlt : j < l.length
    · have hltI : (j : Int) < (l.length : Int) := by omega
      obtain ⟨g, rfl, hc⟩ := HR.out.src.fam j hlt
      have HDT : Hid (dropP (l.take (j + 1)) d = dropP (l.take j) d ++ (if l[j].id = d then [] else [l[j]])) := dropP_take l d j hlt
      generalize l[j] = y at *
      obtain ⟨y1, y2, y3, y4, y5, y6, y7, y8, y9⟩ := y
      have q0 := hc.c0; have q1 := hc.c1; have q2 := hc.c2; have q3 := hc.c3; have q4 := hc.c4; have q5 := hc.c5; have q6 := hc.c6; have q7 := hc.c7; have q8 := hc.c8
      simp only at q0 q1 q2 q3 q4 q5 q6 q7 q8
      have HR1 : Hid (RA w c n _ l _ _ _ (wr.alloc (.cells #[.int .i64 y1, .string y2, .string y3, .string y4, .int .i64 y5, .int .i64 y6, .int .i64 y7, .string y8, .bool y9] 38))) := HR.out.on ((Below.refl _ _).alloc (Nat.le_refl _) _)
      have e0 := HR1.out.ab.ev.c10
      have e1 := HR1.out.l0
      have e2 := HR1.out.lf
      simp only at e0
      clear hc
      by_cases hid : y1 = d
      · have HDT2 : Hid (dropP (l.take (j + 1)) d = dropP (l.take j) d) := by show _ = _; rw [HDT.out, if_pos hid, List.append_nil]
        have hidb : (y1 == d) = true := by rw [beq_iff_eq]; exact hid
        clear hid
        go_wp2_with fail
        go_roundg (gk - 1)
        case measure => have := HJ.out; omega
        case rel => exact ⟨j + 1, _, by have := HJ.out; omega, by go_num, by show RA _ _ _ _ _ _ _ _ _; rw [HDT2.out]; exact HR1.out⟩
      · have HDT2 : Hid (dropP (l.take (j + 1)) d = dropP (l.take j) d ++ [⟨y1, y2, y3, y4, y5, y6, y7, y8, y9⟩]) := by show _ = _; rw [HDT.out, if_neg hid]
        have hidb : (y1 == d) = false := by rw [beq_eq_false_iff_ne]; exact hid
        clear hid
        have HR2 : Hid (RA w c n _ l _ _ _ ((wr.alloc (.cells #[.int .i64 y1, .string y2, .string y3, .string y4, .int .i64 y5, .int .i64 y6, .int .i64 y7, .string y8, .bool y9] 38)).alloc (.cells #[.int .i64 y1, .string y2, .string y3, .string y4, .int .i64 y5, .int .i64 y6, .int .i64 y7, .string y8, .bool y9] 38))) := HR1.out.on ((Below.refl _ _).alloc (Nat.le_refl _) _)
        have hsrc : Src Tryz.prog 9 55 (.slice (some ⟨wr.heap.size + 1, 0, none⟩) 1 1) 1 (famCs ⟨y1, y2, y3, y4, y5, y6, y7, y8, y9⟩) ((wr.alloc (.cells #[.int .i64 y1, .string y2, .string y3, .string y4, .int .i64 y5, .int .i64 y6, .int .i64 y7, .string y8, .bool y9] 38)).alloc (.cells #[.int .i64 y1, .string y2, .string y3, .string y4, .int .i64 y5, .int .i64 y6, .int .i64 y7, .string y8, .bool y9] 38)) := Src.ofSlice _ Tryz.underlying55 ⟨wr.heap.size + 1, 0, none⟩ 1 1 _ (by simp [famCs_len]) (fun k u hk => by
          rw [Addr.add_lit, Nat.zero_add, World.cell?_alloc_at _ _ _ _ (by simp)]
          simpa [famCs] using hk) (famCs_one _)
        go_wp2_with (at_builtin; refine wpList_append_rowsK _ rfl _ _ 55 rfl 38 i0 _ 9 i0.bytes Tryz.underlying55 hi hz0 hz1 rfl zero_cells (w.heap.size + 4) _ _ _ rfl HR2.out.fl HR2.out.ab.size _ 1 (famCs ⟨y1, y2, y3, y4, y5, y6, y7, y8, y9⟩) rfl hsrc (by omega) (by omega) ?_)
        intro v' w3 h7 h8 h9
        have HRB : Hid _ := HR2.out.rb h8
        have hff : Fams (w.heap.size + 4) w3 v' (dropP (l.take (j + 1)) d) := by
          show RowsK _ _ _ _ _ _
          rw [HDT2.out, List.length_append, List.length_singleton, famsCs_app, famsCs_one1]
          exact h7
        obtain ⟨b3, c3, rfl⟩ := hff.slice
        have HR3 : Hid _ := HRB.out.put hff
        have z1 := HRB.out.l0
        have z2 := HRB.out.lf
        clear h7 h8 h9 hff hsrc e0 e1 e2 q0 q1 q2 q3 q4 q5 q6 q7 q8
        go_wp2_with fail
        go_roundg (gk - 1)
        case measure => have := HJ.out; omega
        case rel => exact ⟨j + 1, _, by have := HJ.out; omega, by go_num, HR3.out⟩
    · obtain rfl : j = l.length := by omega
      have hrr := HR.out
      rw [List.take_of_length_le (Nat.le_refl _)] at hrr hdl
      have HRE : Hid _ := hrr
      clear hrr HR HJ hlt
      generalize hpp : dropP l d = D at *
      have HPP : Hid (dropP l d = D) := hpp
      have HF5 : Hid (Fams (w.heap.size + 4) wr (.slice bl D.length cl) D) := HRE.out.fl
      have s0 := HRE.out.ab.s0
      have s1 := HRE.out.ab.s1
      have s2 := HRE.out.ab.s2
      have fz := HRE.out.ab.fs
      have fr : ∀ i, wr.frozen? ⟨w.heap.size + 1 + 1, i, none⟩ = false := HRE.out.ab.fr
      have r0 : wr.cell? ⟨w.heap.size + 1 + 1, 0, none⟩ = _ := HRE.out.ab.r0
      have r1 : wr.cell? ⟨w.heap.size + 1 + 1, 1, none⟩ = _ := HRE.out.ab.r1
      have r2 : wr.cell? ⟨w.heap.size + 1 + 1, 2, none⟩ = _ := HRE.out.ab.r2
      have l0 := HRE.out.l0
      have HB5 : Hid (Below w.heap.size w wr) := HRE.out.below
      have HSET : Hid (∀ (W : World) (g i : Nat) (u : Value), g < w.heap.size + 4 → Fams (w.heap.size + 4) W (.slice bl D.length cl) D → Fams (w.heap.size + 4) (W.setCell ⟨g, i, none⟩ u) (.slice bl D.length cl) D) := fun W g i u hg hw => hw.other (a := ⟨g, i, none⟩) hg u
      clear hpp HRE hdl
      generalize hb : w.heap.size = b at *
      have HWB : Hid (w.heap.size = b) := hb
      clear hb
      have HFN : Hid (Fams b ((((wr.setCell ⟨b, 2, none⟩ (.slice bl D.length cl)).setCell ⟨b + 1 + 1, 0, none⟩ (.int .i64 c)).setCell ⟨b + 1 + 1, 1, none⟩ (.int .i64 n)).setCell ⟨b + 1 + 1, 2, none⟩ (.slice bl D.length cl)) (.slice bl D.length cl) D) := by
        refine RowsK.mono (B := b + 4) ?_ (by omega)
        repeat (first | exact HF5.out | refine HSET.out _ _ _ _ (by omega) ?_)
      have HBN : Hid (Below b w ((((wr.setCell ⟨b, 2, none⟩ (.slice bl D.length cl)).setCell ⟨b + 1 + 1, 0, none⟩ (.int .i64 c)).setCell ⟨b + 1 + 1, 1, none⟩ (.int .i64 n)).setCell ⟨b + 1 + 1, 2, none⟩ (.slice bl D.length cl))) := by
        show Below _ _ _
        repeat (first | exact HB5.out | refine Below.setCell ?_ (by simp; try omega) _)
      go_wp2_with fail
      obtain ⟨q0, q1, q2⟩ := @three_set (wr.setCell ⟨b, 2, none⟩ (.slice bl D.length cl)) (b + 1 + 1) (.int .i64 c) (.int .i64 n) (.slice bl D.length cl) _ _ _ (set_other r0 (by omega)) (set_other r1 (by omega)) (set_other r2 (by omega))
      have HFN2 := HFN.out
      have HBN2 := HBN.out
      clear HFN HBN s0 s1 s2 fz fr r0 r1 r2 l0
      generalize World.setCell _ ⟨b + 1 + 1, 2, none⟩ _ = WW at *
      exact bodyPost_ret (v := .agg #[.int .i64 c, .int .i64 n, .slice bl D.length cl]) (by simp [results, Tryz.results72, go_sem, q0, q1, q2]) rfl ⟨_, rfl, by rw [HWB.out]; first | exact HFN2 | (rw [HPP.out]; exact HFN2), by rw [HWB.out]; exact HBN2⟩
end Go.Proofs.YtkggfahcdpgapaaGreatDoor

/-
  A state behind a time, as the document's answer makes it.
-/

namespace Go.Proofs.YtkggfahcdpgapaaGreatDoor
open Go Go.RowKit Ev
set_option maxRecDepth 100000 in
set_option maxHeartbeats 16000000 in
theorem refApply_3 {B : Nat} {w : World} {v : Value} {l : List Fam} (c n d : Int) (h : Fams B w v l) (hn : l.length ≤ 1000) :
    Calls Tryz.prog 72 #[stV c n v, evV ⟨3, zeroF, 0, d⟩] w fun r w' => ∃ v', r = .returned (stV d n v') ∧ Fams w.heap.size w' v' l ∧ Below w.heap.size w w' := by
  obtain ⟨i0, hi, hz0, hz1, hz2⟩ := info_fam
  have HRA : Hid _ := ra_made w c n v l ⟨3, zeroF, 0, d⟩ h 57 44 57 55
  obtain ⟨base, cap, rfl⟩ := h.slice
  clear h
  have hsrc := HRA.out.src.src
  have hfl := HRA.out.fl
  have hsz := HRA.out.ab.size
  unfold zeroF at hsrc hfl hsz
  unfold evV evCs stV
  simp only [zeroF]
  simp only at hsrc hfl hsz
  go_enter Tryz.func72, Tryz.ntmps72
  go_wp2_with (at_builtin; refine wpList_append_rowsK _ rfl _ _ 55 rfl 38 i0 _ 9 i0.bytes Tryz.underlying55 hi hz0 hz1 rfl zero_cells (w.heap.size + 4) _ _ _ rfl hfl hsz _ l.length (famsCs l) rfl hsrc (by first | omega | (simp; done) | (simp; omega)) (by first | omega | (simp; done) | (simp; omega)) ?_)
  intro v' w3 h7 h8 h9
  have HRB : Hid _ := HRA.out.rb h8
  have hff : Fams (w.heap.size + 4) w3 v' l := by
    show RowsK _ _ _ _ _ _
    simpa [famsCs] using h7
  obtain ⟨bl, cl, rfl⟩ := hff.slice
  have HR3 : Hid _ := HRB.out.put hff
  have z1 := HRB.out.l0
  have z2 := HRB.out.lf
  clear h7 h8 h9 hff hsrc HRA hfl hsz
  have s0 := HRB.out.ab.s0
  have s1 := HRB.out.ab.s1
  have s2 := HRB.out.ab.s2
  have k1 := HRB.out.ab.ev.c11
  have fz := HRB.out.ab.fs
  have fr : ∀ i, w3.frozen? ⟨w.heap.size + 1 + 1, i, none⟩ = false := HRB.out.ab.fr
  have r0 : w3.cell? ⟨w.heap.size + 1 + 1, 0, none⟩ = _ := HRB.out.ab.r0
  have r1 : w3.cell? ⟨w.heap.size + 1 + 1, 1, none⟩ = _ := HRB.out.ab.r1
  have r2 : w3.cell? ⟨w.heap.size + 1 + 1, 2, none⟩ = _ := HRB.out.ab.r2
  simp only at k1
  have HF5 : Hid (Fams (w.heap.size + 4) (w3.setCell ⟨w.heap.size + 3, 0, none⟩ (.slice bl l.length cl)) (.slice bl l.length cl) l) := HR3.out.fl
  have HB5 : Hid (Below w.heap.size w (w3.setCell ⟨w.heap.size + 3, 0, none⟩ (.slice bl l.length cl))) := HR3.out.below
  have HSET : Hid (∀ (W : World) (g i : Nat) (u : Value), g < w.heap.size + 4 → Fams (w.heap.size + 4) W (.slice bl l.length cl) l → Fams (w.heap.size + 4) (W.setCell ⟨g, i, none⟩ u) (.slice bl l.length cl) l) := fun W g i u hg hw => hw.other (a := ⟨g, i, none⟩) hg u
  clear HRB HR3
  generalize hb : w.heap.size = b at *
  have HWB : Hid (w.heap.size = b) := hb
  clear hb
  have HFN : Hid (Fams b ((((((w3.setCell ⟨b + 1 + 1 + 1, 0, none⟩ (.slice bl l.length cl)).setCell ⟨b, 0, none⟩ (.int .i64 d)).setCell ⟨b, 2, none⟩ (.slice bl l.length cl)).setCell ⟨b + 1 + 1, 0, none⟩ (.int .i64 d)).setCell ⟨b + 1 + 1, 1, none⟩ (.int .i64 n)).setCell ⟨b + 1 + 1, 2, none⟩ (.slice bl l.length cl)) (.slice bl l.length cl) l) := by
    refine RowsK.mono (B := b + 4) ?_ (by omega)
    iterate 5 refine HSET.out _ _ _ _ (by omega) ?_
    exact HF5.out
  have HBN : Hid (Below b w ((((((w3.setCell ⟨b + 1 + 1 + 1, 0, none⟩ (.slice bl l.length cl)).setCell ⟨b, 0, none⟩ (.int .i64 d)).setCell ⟨b, 2, none⟩ (.slice bl l.length cl)).setCell ⟨b + 1 + 1, 0, none⟩ (.int .i64 d)).setCell ⟨b + 1 + 1, 1, none⟩ (.int .i64 n)).setCell ⟨b + 1 + 1, 2, none⟩ (.slice bl l.length cl))) := by
    show Below _ _ _
    iterate 5 refine Below.setCell ?_ (by simp; try omega) _
    exact HB5.out
  go_wp2_with fail
  obtain ⟨q0, q1, q2⟩ := @three_set (((w3.setCell ⟨b + 1 + 1 + 1, 0, none⟩ (.slice bl l.length cl)).setCell ⟨b, 0, none⟩ (.int .i64 d)).setCell ⟨b, 2, none⟩ (.slice bl l.length cl)) (b + 1 + 1) (.int .i64 d) (.int .i64 n) (.slice bl l.length cl) _ _ _ (set_other (set_other (set_other r0 (by omega)) (by omega)) (by omega)) (set_other (set_other (set_other r1 (by omega)) (by omega)) (by omega)) (set_other (set_other (set_other r2 (by omega)) (by omega)) (by omega))
  have HFN2 := HFN.out
  have HBN2 := HBN.out
  clear HFN HBN s0 s1 s2 fz fr r0 r1 r2
  generalize World.setCell _ ⟨b + 1 + 1, 2, none⟩ _ = WW at *
  exact bodyPost_ret (v := .agg #[.int .i64 d, .int .i64 n, .slice bl l.length cl]) (by simp [results, Tryz.results72, go_sem, q0, q1, q2]) rfl ⟨_, rfl, by rw [HWB.out]; exact HFN2, by rw [HWB.out]; exact HBN2⟩
end Go.Proofs.YtkggfahcdpgapaaGreatDoor

/-
  A state behind an event, as the document's answer makes it.
-/

namespace Go.Proofs.YtkggfahcdpgapaaGreatDoor
open Go Go.RowKit Ev
/-- A state behind an event that may be, as the document's answer makes it. -/
theorem refApply_is {B : Nat} {w : World} {v : Value} (s : St) (e : E) (hm : Ev.may e) (h : Fams B w v s.fams) (hr : Rising s.fams) (hn : s.fams.length ≤ 1000) :
    Calls Tryz.prog 72 #[stV s.clock s.next v, evV e] w fun r w' => ∃ v', r = .returned (stV (applyP s e).clock (applyP s e).next v') ∧ Fams w.heap.size w' v' (applyP s e).fams ∧ Below w.heap.size w w' := by
  obtain ⟨c, n, l⟩ := s
  obtain ⟨k, f, i, t⟩ := e
  rcases hm with ⟨hk, hf, hi, ht⟩ | ⟨hk, hf, hi, ht⟩ | ⟨hk, hf, hi, ht⟩ <;> simp only at hk hf hi ht <;> subst hk
  · subst hi; subst ht
    rw [apply_put _ rfl]
    exact refApply_1 c n f h hr hn hf.1.1
  · subst hf; subst ht
    rw [apply_drop _ rfl]
    exact refApply_2 c n i h hn
  · subst hf; subst hi
    rw [apply_clock _ rfl]
    exact refApply_3 c n t h hn
end Go.Proofs.YtkggfahcdpgapaaGreatDoor
