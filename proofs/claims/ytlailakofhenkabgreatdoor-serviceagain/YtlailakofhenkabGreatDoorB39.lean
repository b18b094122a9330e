/-
  Own texts put together: ServiceAgainC2.
-/
import Derived.Test.YtlailakofhenkabGreatDoorB38
/-
  Closed facts of the row, the second half.
-/

namespace Go.Proofs.YtlailakofhenkabGreatDoor.serviceAgainProof
open Go
theorem c3 : Tryz.pinned.checked.prog.recurses 6 = Rows.serviceAgainRow.recurses := by kernel_rfl
theorem c4 : Tryz.pinned.checked.prog.varsNamed 6 = Rows.serviceAgainRow.named := by kernel_rfl
theorem closed : joinedFacts Tryz.pinned.checked.prog 6 Tryz.f6 Rows.serviceAgainSpec Rows.serviceAgainRow = true := by
  unfold joinedFacts
  rw [c1, c2, c3, c4]
  kernel_rfl
end Go.Proofs.YtlailakofhenkabGreatDoor.serviceAgainProof
