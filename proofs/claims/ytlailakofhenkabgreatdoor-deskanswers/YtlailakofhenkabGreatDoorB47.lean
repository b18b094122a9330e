import Derived.Test.YtlailakofhenkabGreatDoorRows
import Derived.JoinedCond
import Derived.SevenTiedAt
import Derived.Test.YtlailakofhenkabGreatDoorB1
namespace Go.Proofs.YtlailakofhenkabGreatDoor.deskAnswersProof
open Go
theorem c1:Tryz.pinned.checked.prog.inPlace 8=Rows.deskAnswersRow.inPlace:=by kernel_rfl
theorem c2:Tryz.pinned.checked.prog.unfollowed 8=Rows.deskAnswersRow.unfollowed:=by kernel_rfl
theorem DD:true=Rows.deskAnswersRow.goesBy Tryz.pinned.checked.prog:=by kernel_rfl
end Go.Proofs.YtlailakofhenkabGreatDoor.deskAnswersProof
