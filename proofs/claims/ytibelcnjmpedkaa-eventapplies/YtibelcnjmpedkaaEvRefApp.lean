/-
  A state behind an event, as the document's answer makes it: what its loops go by.
-/
import Derived.Test.YtibelcnjmpedkaaEvSort
import Derived.Test.YtibelcnjmpedkaaEvSrc
namespace Go.Proofs.Ytibelcnjmpedkaa
open Go Go.RowKit Ev
/-- What the document's Apply goes by: its boxes, the list that it makes in a box of its own, the list that it was given. -/
structure RA (w0 : World) (c n : Int) (v : Value) (l : List Fam) (e : E) (vl : Value) (L : List Fam) (w : World) : Prop where
  ab : AB (w0.heap.size + 4) w0.heap.size c n v e w
  l0 : w.cell? ⟨w0.heap.size + 3, 0, none⟩ = some vl
  lf : w.frozen? ⟨w0.heap.size + 3, 0, none⟩ = false
  fl : Fams (w0.heap.size + 4) w vl L
  src : SrcF w0.heap.size w v l
  below : Below w0.heap.size w0 w
theorem RA.on {w0 : World} {c n : Int} {v : Value} {l : List Fam} {e : E} {vl : Value} {L : List Fam} {w w' : World} (h : RA w0 c n v l e vl L w) (hb : Below w.heap.size w w') : RA w0 c n v l e vl L w' := by
  have hs := h.ab.size
  have hb4 : Below (w0.heap.size + 4) w w' := hb.mono hs
  exact ⟨h.ab.on hb4, (hb4.cell (p := ⟨w0.heap.size + 3, 0, none⟩) (Nat.lt_succ_self _)).trans h.l0, (hb4.frozen (p := ⟨w0.heap.size + 3, 0, none⟩) (Nat.lt_succ_self _)).trans h.lf, h.fl.below hb (Nat.le_refl _), h.src.on hb4 (by omega), h.below.trans (hb4.mono (by omega))⟩
/-- Behind what wrote the list's own row alone: the boxes, and the list given. -/
structure RB (w0 : World) (c n : Int) (v : Value) (l : List Fam) (e : E) (vl : Value) (w : World) : Prop where
  ab : AB (w0.heap.size + 4) w0.heap.size c n v e w
  l0 : w.cell? ⟨w0.heap.size + 3, 0, none⟩ = some vl
  lf : w.frozen? ⟨w0.heap.size + 3, 0, none⟩ = false
  src : SrcF w0.heap.size w v l
  below : Below w0.heap.size w0 w
theorem RA.rb {w0 : World} {c n : Int} {v : Value} {l : List Fam} {e : E} {vl : Value} {L : List Fam} {w w' : World} (h : RA w0 c n v l e vl L w) (hb4 : Below (w0.heap.size + 4) w w') : RB w0 c n v l e vl w' :=
  ⟨h.ab.on hb4, (hb4.cell (p := ⟨w0.heap.size + 3, 0, none⟩) (Nat.lt_succ_self _)).trans h.l0, (hb4.frozen (p := ⟨w0.heap.size + 3, 0, none⟩) (Nat.lt_succ_self _)).trans h.lf, h.src.on hb4 (by omega), h.below.trans (hb4.mono (by omega))⟩
theorem RB.put {w0 : World} {c n : Int} {v : Value} {l : List Fam} {e : E} {vl : Value} {w : World} (h : RB w0 c n v l e vl w) {vl' : Value} {L' : List Fam} (hf : Fams (w0.heap.size + 4) w vl' L') : RA w0 c n v l e vl' L' (w.setCell ⟨w0.heap.size + 3, 0, none⟩ vl') := by
  have hl := h.ab
  have ho : ∀ g j, g ≠ w0.heap.size + 3 → (w.setCell ⟨w0.heap.size + 3, 0, none⟩ vl').cell? ⟨g, j, none⟩ = w.cell? ⟨g, j, none⟩ := fun g j hg => World.cell?_setCell_other _ _ _ _ (by intro e; injection e with e _ _; exact hg e.symm)
  refine ⟨⟨hl.lt, by simpa using hl.size, (ho _ _ (by omega)).trans hl.s0, (ho _ _ (by omega)).trans hl.s1, (ho _ _ (by omega)).trans hl.s2, hl.ev.other (by show w0.heap.size + 3 ≠ w0.heap.size + 1; omega) _, (ho _ _ (by omega)).trans hl.r0, (ho _ _ (by omega)).trans hl.r1, (ho _ _ (by omega)).trans hl.r2, fun i => by rw [World.frozen?_setCell]; exact hl.fs i, fun i => by rw [World.frozen?_setCell]; exact hl.fr i⟩,
    World.cell?_setCell_same _ _ _ h.l0, by rw [World.frozen?_setCell]; exact h.lf, hf.other (by show w0.heap.size + 3 < w0.heap.size + 4; omega) _, h.src.set (by show w0.heap.size ≤ w0.heap.size + 3; omega) _, h.below.setCell (by show w0.heap.size ≤ w0.heap.size + 3; omega) _⟩
theorem ra_made {B : Nat} (w : World) (c n : Int) (v : Value) (l : List Fam) (e : E) (h : Fams B w v l) (t1 t2 t3 t4 : TypeId) : RA w c n v l e (.slice none 0 0) [] ((((w.alloc (.cells #[.int .i64 c, .int .i64 n, v] t1)).alloc (.cells #[.int .i64 e.kind, .int .i64 e.fam.id, .string e.fam.client, .string e.fam.subject, .string e.fam.scope, .int .i64 e.fam.gen, .int .i64 e.fam.made, .int .i64 e.fam.used, .string e.fam.request, .bool e.fam.dead, .int .i64 e.id, .int .i64 e.time] t2)).alloc (.cells #[.int .i64 0, .int .i64 0, .slice none 0 0] t3)).alloc (.cells #[.slice none 0 0] t4)) := by
  have hbl : Below w.heap.size w ((((w.alloc (.cells #[.int .i64 c, .int .i64 n, v] t1)).alloc (.cells #[.int .i64 e.kind, .int .i64 e.fam.id, .string e.fam.client, .string e.fam.subject, .string e.fam.scope, .int .i64 e.fam.gen, .int .i64 e.fam.made, .int .i64 e.fam.used, .string e.fam.request, .bool e.fam.dead, .int .i64 e.id, .int .i64 e.time] t2)).alloc (.cells #[.int .i64 0, .int .i64 0, .slice none 0 0] t3)).alloc (.cells #[.slice none 0 0] t4)) := by
    repeat (first | exact Below.refl _ _ | refine Below.alloc ?_ (by simp; try omega) _)
  have h1 : ∀ (W : World) (o : Obj) (g i : Nat), g < W.heap.size → (W.alloc o).frozen? ⟨g, i, none⟩ = W.frozen? ⟨g, i, none⟩ := fun W o g i hg => ((Below.refl W.heap.size W).alloc (Nat.le_refl _) o).frozen (p := ⟨g, i, none⟩) hg
  refine ⟨⟨by omega, by simp, ?_, ?_, ?_, ?_, ?_, ?_, ?_, fun i => ?_, fun i => ?_⟩, (World.cell?_alloc_at _ _ _ _ (by simp)).trans rfl, World.frozen?_alloc_at _ _ _ _ (by simp), Fams.nil _ _, (srcF_of h).on hbl (Nat.le_refl _), hbl⟩
  · exact Lib.cell?_alloc_some _ (Lib.cell?_alloc_some _ (Lib.cell?_alloc_some _ ((World.cell?_alloc_at _ _ _ _ rfl).trans rfl)))
  · exact Lib.cell?_alloc_some _ (Lib.cell?_alloc_some _ (Lib.cell?_alloc_some _ ((World.cell?_alloc_at _ _ _ _ rfl).trans rfl)))
  · exact Lib.cell?_alloc_some _ (Lib.cell?_alloc_some _ (Lib.cell?_alloc_some _ ((World.cell?_alloc_at _ _ _ _ rfl).trans rfl)))
  · exact ((evAt_made _ e t2 _ (by simp)).on ((Below.refl _ _).alloc (Nat.le_refl _) _)).on ((Below.refl _ _).alloc (Nat.le_refl _) _)
  · exact Lib.cell?_alloc_some _ ((World.cell?_alloc_at _ _ _ _ (by simp)).trans rfl)
  · exact Lib.cell?_alloc_some _ ((World.cell?_alloc_at _ _ _ _ (by simp)).trans rfl)
  · exact Lib.cell?_alloc_some _ ((World.cell?_alloc_at _ _ _ _ (by simp)).trans rfl)
  · rw [h1 _ _ _ _ (by simp; omega), h1 _ _ _ _ (by simp; omega), h1 _ _ _ _ (by simp)]
    exact World.frozen?_alloc_at _ _ _ _ rfl
  · rw [h1 _ _ _ _ (by simp)]
    exact World.frozen?_alloc_at _ _ _ _ (by simp)
theorem dropP_take (l : List Fam) (n : Int) (j : Nat) (hj : j < l.length) : dropP (l.take (j + 1)) n = dropP (l.take j) n ++ (if l[j].id = n then [] else [l[j]]) := by
  unfold dropP
  rw [List.take_succ_eq_append_getElem hj, List.filter_append]
  congr 1
  by_cases h : l[j].id = n
  · rw [if_pos h]
    simp [h]
  · rw [if_neg h]
    simp [h]
end Go.Proofs.Ytibelcnjmpedkaa
