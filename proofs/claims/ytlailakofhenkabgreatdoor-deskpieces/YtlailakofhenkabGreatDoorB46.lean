import Derived.Test.YtlailakofhenkabGreatDoorRows
import Derived.JoinedCond
import Derived.SevenTiedAt
namespace Go.Proofs.YtlailakofhenkabGreatDoor.deskPiecesProof
open Go
theorem c1:Tryz.pinned.checked.prog.inPlace 7=Rows.deskPiecesRow.inPlace:=by kernel_rfl
theorem c2:Tryz.pinned.checked.prog.unfollowed 7=Rows.deskPiecesRow.unfollowed:=by kernel_rfl
theorem goesIt:true=Rows.deskPiecesRow.goesBy Tryz.pinned.checked.prog:=by kernel_rfl
end Go.Proofs.YtlailakofhenkabGreatDoor.deskPiecesProof
