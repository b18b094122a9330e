/-
  What the regions that make an event's line go by: the library's variables, the family's box.
-/
import Derived.Test.YtibelcnjmpedkaaGreatDoorEvLibs
import Derived.Test.YtibelcnjmpedkaaGreatDoorEvRow
import Derived.Deep.RegionHeld3
namespace Go.Proofs.YtibelcnjmpedkaaGreatDoor
open Go Go.RowKit Tok Sc Ev
/-- What the region goes by: the library's variables, the family's box. -/
structure WS (w0 : World) (g : Nat) (f : Fam) (w' : World) : Prop where
  libs : LibsE w'
  box : FamAt w' g 0 f
  lt : g < w'.heap.size
  below : Below w0.heap.size w0 w'
theorem WS.on {w0 : World} {g : Nat} {f : Fam} {w w' : World} (h : WS w0 g f w) (hb : Below w.heap.size w w') : WS w0 g f w' :=
  ⟨h.libs.below hb, h.box.on hb h.lt, Nat.lt_of_lt_of_le h.lt hb.size, h.below.trans (hb.mono h.below.size)⟩
theorem ws_all {w0 : World} {g : Nat} {f1 : Int} {f2 f3 f4 : ByteArray} {f5 f6 f7 : Int} {f8 : ByteArray} {f9 : Bool} {w : World} (h : WS w0 g ⟨f1, f2, f3, f4, f5, f6, f7, f8, f9⟩ w) : (w.cell? ⟨g, 0, none⟩ = some (.int .i64 f1) ∧ w.cell? ⟨g, 1, none⟩ = some (.string f2) ∧ w.cell? ⟨g, 2, none⟩ = some (.string f3) ∧ w.cell? ⟨g, 3, none⟩ = some (.string f4) ∧ w.cell? ⟨g, 4, none⟩ = some (.int .i64 f5) ∧ w.cell? ⟨g, 5, none⟩ = some (.int .i64 f6) ∧ w.cell? ⟨g, 6, none⟩ = some (.int .i64 f7) ∧ w.cell? ⟨g, 7, none⟩ = some (.string f8) ∧ w.cell? ⟨g, 8, none⟩ = some (.bool f9) ∧ WS w0 g ⟨f1, f2, f3, f4, f5, f6, f7, f8, f9⟩ w) := by
  have b := h.box
  exact ⟨b.c0, b.c1, b.c2, b.c3, b.c4, b.c5, b.c6, b.c7, b.c8, h⟩
theorem ws_keep {w0 : World} {g : Nat} {f1 : Int} {f2 f3 f4 : ByteArray} {f5 f6 f7 : Int} {f8 : ByteArray} {f9 : Bool} {w w' : World} (h : (w.cell? ⟨g, 0, none⟩ = some (.int .i64 f1) ∧ w.cell? ⟨g, 1, none⟩ = some (.string f2) ∧ w.cell? ⟨g, 2, none⟩ = some (.string f3) ∧ w.cell? ⟨g, 3, none⟩ = some (.string f4) ∧ w.cell? ⟨g, 4, none⟩ = some (.int .i64 f5) ∧ w.cell? ⟨g, 5, none⟩ = some (.int .i64 f6) ∧ w.cell? ⟨g, 6, none⟩ = some (.int .i64 f7) ∧ w.cell? ⟨g, 7, none⟩ = some (.string f8) ∧ w.cell? ⟨g, 8, none⟩ = some (.bool f9) ∧ WS w0 g ⟨f1, f2, f3, f4, f5, f6, f7, f8, f9⟩ w)) (hb : Below w.heap.size w w') : (w'.cell? ⟨g, 0, none⟩ = some (.int .i64 f1) ∧ w'.cell? ⟨g, 1, none⟩ = some (.string f2) ∧ w'.cell? ⟨g, 2, none⟩ = some (.string f3) ∧ w'.cell? ⟨g, 3, none⟩ = some (.string f4) ∧ w'.cell? ⟨g, 4, none⟩ = some (.int .i64 f5) ∧ w'.cell? ⟨g, 5, none⟩ = some (.int .i64 f6) ∧ w'.cell? ⟨g, 6, none⟩ = some (.int .i64 f7) ∧ w'.cell? ⟨g, 7, none⟩ = some (.string f8) ∧ w'.cell? ⟨g, 8, none⟩ = some (.bool f9) ∧ WS w0 g ⟨f1, f2, f3, f4, f5, f6, f7, f8, f9⟩ w') := ws_all (h.2.2.2.2.2.2.2.2.2.on hb)
theorem ws_drew {w0 : World} {g : Nat} {f1 : Int} {f2 f3 f4 : ByteArray} {f5 f6 f7 : Int} {f8 : ByteArray} {f9 : Bool} {w : World} (h : WS w0 g ⟨f1, f2, f3, f4, f5, f6, f7, f8, f9⟩ w) : (w.drew.cell? ⟨g, 0, none⟩ = some (.int .i64 f1) ∧ w.drew.cell? ⟨g, 1, none⟩ = some (.string f2) ∧ w.drew.cell? ⟨g, 2, none⟩ = some (.string f3) ∧ w.drew.cell? ⟨g, 3, none⟩ = some (.string f4) ∧ w.drew.cell? ⟨g, 4, none⟩ = some (.int .i64 f5) ∧ w.drew.cell? ⟨g, 5, none⟩ = some (.int .i64 f6) ∧ w.drew.cell? ⟨g, 6, none⟩ = some (.int .i64 f7) ∧ w.drew.cell? ⟨g, 7, none⟩ = some (.string f8) ∧ w.drew.cell? ⟨g, 8, none⟩ = some (.bool f9) ∧ WS w0 g ⟨f1, f2, f3, f4, f5, f6, f7, f8, f9⟩ w.drew) := ws_all (h.on (Below.refl _ _).drew)
theorem ws_libs {w0 : World} {g : Nat} {f1 : Int} {f2 f3 f4 : ByteArray} {f5 f6 f7 : Int} {f8 : ByteArray} {f9 : Bool} {w : World} (h : (w.cell? ⟨g, 0, none⟩ = some (.int .i64 f1) ∧ w.cell? ⟨g, 1, none⟩ = some (.string f2) ∧ w.cell? ⟨g, 2, none⟩ = some (.string f3) ∧ w.cell? ⟨g, 3, none⟩ = some (.string f4) ∧ w.cell? ⟨g, 4, none⟩ = some (.int .i64 f5) ∧ w.cell? ⟨g, 5, none⟩ = some (.int .i64 f6) ∧ w.cell? ⟨g, 6, none⟩ = some (.int .i64 f7) ∧ w.cell? ⟨g, 7, none⟩ = some (.string f8) ∧ w.cell? ⟨g, 8, none⟩ = some (.bool f9) ∧ WS w0 g ⟨f1, f2, f3, f4, f5, f6, f7, f8, f9⟩ w)) : LibsE w := h.2.2.2.2.2.2.2.2.2.libs
end Go.Proofs.YtibelcnjmpedkaaGreatDoor
