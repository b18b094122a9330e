import Derived.Test.YteblegcojhcccaaGreatDoorTokMath
import Derived.Lib.QuietBelow
namespace Go.Proofs.YteblegcojhcccaaGreatDoor
open Go.RowKit Tok
/-- A token's box. -/
structure BoxAt (g : Nat) (t : T) (w : World) : Prop where
  lt : g < w.heap.size
  c0 : w.cell? ⟨g, 0, none⟩ = some (.int .i64 t.k)
  c1 : w.cell? ⟨g, 1, none⟩ = some (.int .i64 t.f)
  c2 : w.cell? ⟨g, 2, none⟩ = some (.int .i64 t.g)
  c3 : w.cell? ⟨g, 3, none⟩ = some (.int .i64 t.e)
theorem BoxAt.on {g B : Nat} {t : T} {w w' : World} (h : BoxAt g t w) (hb : Below B w w') (hg : g < B) : BoxAt g t w' :=
  ⟨Nat.lt_of_lt_of_le h.lt hb.size, (hb.cell (p := ⟨g, 0, none⟩) hg).trans h.c0, (hb.cell (p := ⟨g, 1, none⟩) hg).trans h.c1, (hb.cell (p := ⟨g, 2, none⟩) hg).trans h.c2, (hb.cell (p := ⟨g, 3, none⟩) hg).trans h.c3⟩
theorem BoxAt.made (w : World) (t : T) (ty : TypeId) : BoxAt w.heap.size t (w.alloc (.cells #[.int .i64 t.k, .int .i64 t.f, .int .i64 t.g, .int .i64 t.e] ty)) := by
  constructor <;> simp
theorem BoxAt.set {w : World} {g : Nat} {k f gg e v : Int} (h : BoxAt g ⟨k, f, gg, e⟩ w) : BoxAt g ⟨k, f, gg, v⟩ (w.setCell ⟨g, 3, none⟩ (.int .i64 v)) := by
  have ho : ∀ a : Addr, a ≠ ⟨g, 3, none⟩ → (w.setCell ⟨g, 3, none⟩ (.int .i64 v)).cell? a = w.cell? a := fun a ha => World.cell?_setCell_other _ _ _ _ (Ne.symm ha)
  exact ⟨by simpa using h.lt, (ho _ (by simp)).trans h.c0, (ho _ (by simp)).trans h.c1, (ho _ (by simp)).trans h.c2, World.cell?_setCell_same _ _ _ h.c3⟩
end Go.Proofs.YteblegcojhcccaaGreatDoor
