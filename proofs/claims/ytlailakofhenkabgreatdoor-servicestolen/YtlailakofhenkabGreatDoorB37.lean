/-
  Own texts put together: ServiceStolenC1.
-/
import Derived.Test.YtlailakofhenkabGreatDoorRows
import Derived.KernelRfl
import Derived.JoinedCond
import Derived.SevenTiedAt
namespace Go.Proofs.YtlailakofhenkabGreatDoor.serviceStolenProof
open Go
theorem c1 : Tryz.pinned.checked.prog.inPlace 5 = Rows.serviceStolenRow.inPlace := by kernel_rfl
theorem c2 : Tryz.pinned.checked.prog.unfollowed 5 = Rows.serviceStolenRow.unfollowed := by kernel_rfl
theorem goesIt : true = Rows.serviceStolenRow.goesBy Tryz.pinned.checked.prog := by kernel_rfl
end Go.Proofs.YtlailakofhenkabGreatDoor.serviceStolenProof
