/-
  Own texts put together: ServiceStolenC2.
-/
import Derived.Test.YtlailakofhenkabGreatDoorB37
namespace Go.Proofs.YtlailakofhenkabGreatDoor.serviceStolenProof
open Go
theorem c3 : Tryz.pinned.checked.prog.recurses 5 = Rows.serviceStolenRow.recurses := by kernel_rfl
theorem c4 : Tryz.pinned.checked.prog.varsNamed 5 = Rows.serviceStolenRow.named := by kernel_rfl
theorem closed : joinedFacts Tryz.pinned.checked.prog 5 Tryz.f5 Rows.serviceStolenSpec Rows.serviceStolenRow = true := by
  unfold joinedFacts
  rw [c1, c2, c3, c4]
  kernel_rfl
end Go.Proofs.YtlailakofhenkabGreatDoor.serviceStolenProof
