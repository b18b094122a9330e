/-
  Own texts put together: ServiceAgainC1.
-/
import Derived.Test.YtlailakofhenkabGreatDoorRows
import Derived.KernelRfl
import Derived.JoinedCond
import Derived.SevenTiedAt
/-
  Closed facts of the row, the first half.
-/

namespace Go.Proofs.YtlailakofhenkabGreatDoor.serviceAgainProof
open Go
theorem c1 : Tryz.pinned.checked.prog.inPlace 6 = Rows.serviceAgainRow.inPlace := by kernel_rfl
theorem c2 : Tryz.pinned.checked.prog.unfollowed 6 = Rows.serviceAgainRow.unfollowed := by kernel_rfl
theorem goesIt : true = Rows.serviceAgainRow.goesBy Tryz.pinned.checked.prog := by kernel_rfl
end Go.Proofs.YtlailakofhenkabGreatDoor.serviceAgainProof
