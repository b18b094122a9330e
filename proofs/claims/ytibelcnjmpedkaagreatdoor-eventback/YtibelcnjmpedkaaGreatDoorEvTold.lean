/-
  The line of one event that stays the same: what EventBack asks first.
-/
import Derived.Test.YtibelcnjmpedkaaGreatDoorEvReadE
namespace Go.Proofs.YtibelcnjmpedkaaGreatDoor
open Go Go.RowKit Tok Sc Ev
/-- The event that told writes. -/
def toldE : E := ⟨1, ⟨3, ⟨#[97, 112, 112]⟩, ⟨#[97, 110, 110]⟩, ⟨#[114, 101, 97, 100]⟩, 0, 0, 0, ⟨#[]⟩, false⟩, 0, 0⟩
theorem toldE_may : Ev.may toldE := by
  refine .inl ⟨rfl, ⟨⟨⟨by decide, by decide⟩, ⟨by decide, by decide⟩, ⟨by decide, by decide⟩, ⟨by decide, by decide⟩⟩, by decide, by decide, .inl rfl, ⟨[[114, 101, 97, 100]], .inl ⟨rfl, by decide, ⟨by simp, ?_⟩, by decide, ?_⟩, by decide⟩⟩, rfl, rfl⟩
  · intro x
    rw [show words (toldE.fam.scope.data.toList) = [[114, 101, 97, 100]] by decide]
  · intro x hx
    rw [show words (toldE.fam.scope.data.toList) = [[114, 101, 97, 100]] by decide] at hx
    simp at hx
    subst hx
    decide
theorem toldE_line : bs8 (line toldE) = ⟨#[112, 32, 51, 32, 97, 112, 112, 32, 97, 110, 110, 32, 114, 101, 97, 100, 32, 48, 32, 48, 32, 48, 32, 95, 32, 48]⟩ := by kernel_rfl
set_option maxRecDepth 100000 in
set_option maxHeartbeats 4000000 in
theorem toldB_is (w : World) (hL : LibsE w) : Calls Tryz.prog 21 #[] w fun r w' => r = .returned (.bool true) ∧ Below w.heap.size w w' := by
  have hwr := fun (W : World) (hW : LibsE W) => writeE_yes toldE W toldE_may (by unfold toldE Small; decide) hW
  rw [toldE_line] at hwr
  unfold toldE evV evCs at hwr
  simp only at hwr
  have HL : Hid (LibsE w) := hL
  clear hL
  go_enter Tryz.func21, Tryz.ntmps21
  go_wp2_with fail
  refine (hwr _ HL.out).mono ?_
  rintro e w' ⟨rfl, hb⟩
  go_wp2_with fail
  go_ret
  exact ⟨rfl, hb⟩
end Go.Proofs.YtibelcnjmpedkaaGreatDoor
