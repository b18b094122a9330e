/-
  An event's box, and its cells. Of no program.
-/
import Derived.Test.YtibelcnjmpedkaaGreatDoorEvRow
namespace Go.Proofs.YtibelcnjmpedkaaGreatDoor
open Go Go.RowKit Ev
def evCs (e : E) : List Value := [.int .i64 e.kind, .int .i64 e.fam.id, .string e.fam.client, .string e.fam.subject, .string e.fam.scope, .int .i64 e.fam.gen, .int .i64 e.fam.made, .int .i64 e.fam.used, .string e.fam.request, .bool e.fam.dead, .int .i64 e.id, .int .i64 e.time]
def evV (e : E) : Value := .agg (evCs e).toArray
/-- An event's box. -/
structure EvAt (w : World) (g : Nat) (e : E) : Prop where
  lt : g < w.heap.size
  c0 : w.cell? ⟨g, 0, none⟩ = some (.int .i64 e.kind)
  fam : FamAt w g 1 e.fam
  c10 : w.cell? ⟨g, 10, none⟩ = some (.int .i64 e.id)
  c11 : w.cell? ⟨g, 11, none⟩ = some (.int .i64 e.time)
theorem EvAt.on {w w' : World} {g : Nat} {e : E} (h : EvAt w g e) (hb : Below w.heap.size w w') : EvAt w' g e :=
  ⟨Nat.lt_of_lt_of_le h.lt hb.size, (hb.cell (p := ⟨g, 0, none⟩) h.lt).trans h.c0, h.fam.on hb h.lt, (hb.cell (p := ⟨g, 10, none⟩) h.lt).trans h.c10, (hb.cell (p := ⟨g, 11, none⟩) h.lt).trans h.c11⟩
theorem evAt_made (w : World) (e : E) (t : TypeId) (g : Nat) (hg : g = w.heap.size) : EvAt (w.alloc (.cells #[.int .i64 e.kind, .int .i64 e.fam.id, .string e.fam.client, .string e.fam.subject, .string e.fam.scope, .int .i64 e.fam.gen, .int .i64 e.fam.made, .int .i64 e.fam.used, .string e.fam.request, .bool e.fam.dead, .int .i64 e.id, .int .i64 e.time] t)) g e :=
  ⟨by simp [hg], (World.cell?_alloc_at _ _ _ _ hg).trans rfl, by constructor <;> exact (World.cell?_alloc_at _ _ _ _ hg).trans rfl, (World.cell?_alloc_at _ _ _ _ hg).trans rfl, (World.cell?_alloc_at _ _ _ _ hg).trans rfl⟩
end Go.Proofs.YtibelcnjmpedkaaGreatDoor
