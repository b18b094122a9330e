/-
  Families as cells: nine each; a list of them that the call has made. Of no program.
-/
import Derived.Test.YtibelcnjmpedkaaGreatDoorEvState
import Derived.Test.YtibelcnjmpedkaaGreatDoorRowK
namespace Go.Proofs.YtibelcnjmpedkaaGreatDoor
open Go Go.RowKit Ev
def famCs (f : Fam) : List Value := [.int .i64 f.id, .string f.client, .string f.subject, .string f.scope, .int .i64 f.gen, .int .i64 f.made, .int .i64 f.used, .string f.request, .bool f.dead]
def famV (f : Fam) : Value := .agg (famCs f).toArray
theorem famV_is (f : Fam) : famV f = .agg #[.int .i64 f.id, .string f.client, .string f.subject, .string f.scope, .int .i64 f.gen, .int .i64 f.made, .int .i64 f.used, .string f.request, .bool f.dead] := rfl
theorem famCs_len (f : Fam) : (famCs f).length = 9 := rfl
theorem famCs_one (f : Fam) : ∀ u ∈ famCs f, u.oneCell' = true := by
  intro u hu
  simp only [famCs, List.mem_cons, List.not_mem_nil, or_false] at hu
  rcases hu with rfl | rfl | rfl | rfl | rfl | rfl | rfl | rfl | rfl <;> rfl
def famsCs (l : List Fam) : List Value := l.flatMap famCs
theorem famsCs_nil : famsCs [] = [] := rfl
theorem famsCs_cons (f : Fam) (l : List Fam) : famsCs (f :: l) = famCs f ++ famsCs l := rfl
theorem famsCs_app (l m : List Fam) : famsCs (l ++ m) = famsCs l ++ famsCs m := List.flatMap_append
theorem famsCs_one1 (f : Fam) : famsCs [f] = famCs f := by simp [famsCs]
theorem famsCs_len : ∀ l : List Fam, (famsCs l).length = l.length * 9
  | [] => rfl
  | f :: l => by rw [famsCs_cons, List.length_append, famCs_len, famsCs_len l, List.length_cons]; omega
theorem famsCs_one (l : List Fam) : ∀ u ∈ famsCs l, u.oneCell' = true := by
  intro u hu
  obtain ⟨f, _, hf⟩ := List.mem_flatMap.1 hu
  exact famCs_one f u hf
theorem famsCs_at : ∀ (l : List Fam) (j i : Nat) (hj : j < l.length), i < 9 → (famsCs l)[j * 9 + i]? = (famCs l[j])[i]?
  | f :: l, 0, i, _, hi => by
    rw [famsCs_cons, List.getElem?_append_left (by rw [famCs_len]; omega), Nat.zero_mul, Nat.zero_add]
    rfl
  | f :: l, j + 1, i, hj, hi => by
    rw [famsCs_cons, List.getElem?_append_right (by rw [famCs_len]; omega), famCs_len, show (j + 1) * 9 + i - 9 = j * 9 + i by omega, famsCs_at l j i (by simpa using hj) hi]
    rfl
theorem famsCs_take (l : List Fam) (i : Nat) (hi : i ≤ l.length) : famsCs (l.take i) = (famsCs l).take (i * 9) := by
  have e : famsCs l = famsCs (l.take i) ++ famsCs (l.drop i) := by rw [← famsCs_app, List.take_append_drop]
  have hl : (famsCs (l.take i)).length = i * 9 := by rw [famsCs_len, List.length_take]; congr 1; omega
  rw [e, ← hl, List.take_left]
theorem famsCs_drop (l : List Fam) (i : Nat) (hi : i ≤ l.length) : famsCs (l.drop i) = (famsCs l).drop (i * 9) := by
  have e : famsCs l = famsCs (l.take i) ++ famsCs (l.drop i) := by rw [← famsCs_app, List.take_append_drop]
  have hl : (famsCs (l.take i)).length = i * 9 := by rw [famsCs_len, List.length_take]; congr 1; omega
  rw [e, ← hl, List.drop_left]
abbrev Fams (B : Nat) (w : World) (v : Value) (l : List Fam) : Prop := RowsK 9 B w v l.length (famsCs l)
theorem Fams.nil (B : Nat) (w : World) : Fams B w (.slice none 0 0) [] := .inl ⟨rfl, rfl, rfl⟩
theorem Fams.cell {B : Nat} {w : World} {base : Option Addr} {c : Nat} {l : List Fam} (h : Fams B w (.slice base l.length c) l) (j : Nat) (hj : j < l.length) : ∃ g, base = some ⟨g, 0, none⟩ ∧ g < w.heap.size ∧ ∀ i u, (famCs l[j])[i]? = some u → w.cell? ⟨g, j * 9 + i, none⟩ = some u := by
  rcases h with ⟨_, h0, _⟩ | ⟨g, c', e, hr⟩
  · omega
  · injection e with e _ _
    refine ⟨g, e, hr.lt, fun i u hi => hr.holds _ _ ?_⟩
    have hi9 : i < 9 := by
      have := (List.getElem?_eq_some_iff.1 hi).1
      rwa [famCs_len] at this
    rw [famsCs_at l j i hj hi9]
    exact hi
/-- The nine cells of a family that stands there. -/
structure FamAt (w : World) (g o : Nat) (f : Fam) : Prop where
  c0 : w.cell? ⟨g, o, none⟩ = some (.int .i64 f.id)
  c1 : w.cell? ⟨g, o + 1, none⟩ = some (.string f.client)
  c2 : w.cell? ⟨g, o + 2, none⟩ = some (.string f.subject)
  c3 : w.cell? ⟨g, o + 3, none⟩ = some (.string f.scope)
  c4 : w.cell? ⟨g, o + 4, none⟩ = some (.int .i64 f.gen)
  c5 : w.cell? ⟨g, o + 5, none⟩ = some (.int .i64 f.made)
  c6 : w.cell? ⟨g, o + 6, none⟩ = some (.int .i64 f.used)
  c7 : w.cell? ⟨g, o + 7, none⟩ = some (.string f.request)
  c8 : w.cell? ⟨g, o + 8, none⟩ = some (.bool f.dead)
theorem famAt_of {w : World} {g o : Nat} {f : Fam} (h : ∀ i u, (famCs f)[i]? = some u → w.cell? ⟨g, o + i, none⟩ = some u) : FamAt w g o f :=
  ⟨h 0 _ rfl, h 1 _ rfl, h 2 _ rfl, h 3 _ rfl, h 4 _ rfl, h 5 _ rfl, h 6 _ rfl, h 7 _ rfl, h 8 _ rfl⟩
theorem famAt_made (w : World) (f : Fam) (t : TypeId) (g : Nat) (hg : g = w.heap.size) : FamAt (w.alloc (.cells #[.int .i64 f.id, .string f.client, .string f.subject, .string f.scope, .int .i64 f.gen, .int .i64 f.made, .int .i64 f.used, .string f.request, .bool f.dead] t)) g 0 f := by
  constructor <;> exact (World.cell?_alloc_at _ _ _ _ hg).trans rfl
theorem FamAt.all {w : World} {g o : Nat} {f : Fam} (h : FamAt w g o f) : ∀ i u, (famCs f)[i]? = some u → w.cell? ⟨g, o + i, none⟩ = some u := by
  intro i u hi
  match i, hi with
  | 0, hi => cases hi; exact h.c0
  | 1, hi => cases hi; exact h.c1
  | 2, hi => cases hi; exact h.c2
  | 3, hi => cases hi; exact h.c3
  | 4, hi => cases hi; exact h.c4
  | 5, hi => cases hi; exact h.c5
  | 6, hi => cases hi; exact h.c6
  | 7, hi => cases hi; exact h.c7
  | 8, hi => cases hi; exact h.c8
  | i + 9, hi => simp [famCs] at hi
theorem FamAt.on {w w' : World} {g o B : Nat} {f : Fam} (h : FamAt w g o f) (hb : Below B w w') (hg : g < B) : FamAt w' g o f :=
  famAt_of (fun i u hi => (hb.cell (p := ⟨g, o + i, none⟩) hg).trans (h.all i u hi))
theorem Fams.fam {B : Nat} {w : World} {base : Option Addr} {c : Nat} {l : List Fam} (h : Fams B w (.slice base l.length c) l) (j : Nat) (hj : j < l.length) : ∃ g, base = some ⟨g, 0, none⟩ ∧ g < w.heap.size ∧ FamAt w g (j * 9) l[j] := by
  obtain ⟨g, e, hl, hc⟩ := h.cell j hj
  exact ⟨g, e, hl, famAt_of hc⟩
end Go.Proofs.YtibelcnjmpedkaaGreatDoor
