import Derived.Test.YtlailakofhenkabGreatDoorRows
import Derived.JoinedCond
import Derived.SevenTiedAt
namespace Go.Proofs.YtlailakofhenkabGreatDoor.servicePlaysProof
open Go
theorem c1:Tryz.pinned.checked.prog.inPlace 4=Rows.servicePlaysRow.inPlace:=by kernel_rfl
theorem c2:Tryz.pinned.checked.prog.unfollowed 4=Rows.servicePlaysRow.unfollowed:=by kernel_rfl
theorem goesIt:true=Rows.servicePlaysRow.goesBy Tryz.pinned.checked.prog:=by kernel_rfl
end Go.Proofs.YtlailakofhenkabGreatDoor.servicePlaysProof
