/-
  An error by its number, held against that number, as the laws do it.
-/
import Derived.Test.YtibelcnjmpedkaaGreatDoorErrLaw
import Derived.Test.YtibelcnjmpedkaaGreatDoorScUnlike
namespace Go.Proofs.YtibelcnjmpedkaaGreatDoor
open Go Go.RowKit
theorem ErrVar.on {w w' : World} (h : ErrVar w) (hb : Below w.heap.size w w') : ErrVar w' := (hb.cell (p := ⟨4, 0, none⟩) (World.block_lt_of_cell? _ _ h)).trans h
theorem bareQ (n : Nat) (w : World) (hE : ErrVar w) : Calls Tryz.prog 11 #[errQ n, .int .i64 (n : Int)] w fun e w' => e = .returned (.bool true) ∧ Below w.heap.size w w' := by
  match n with
  | 0 => exact (lawBare_nil 0 w).mono (by rintro e w' ⟨rfl, rfl⟩; exact ⟨rfl, Below.refl _ _⟩)
  | n + 1 => exact (lawBare_err (n + 1 : Nat) (n + 1 : Nat) w hE).mono (by rintro e w' ⟨rfl, h⟩; exact ⟨by rw [beq_self_eq_true], h⟩)
end Go.Proofs.YtibelcnjmpedkaaGreatDoor
