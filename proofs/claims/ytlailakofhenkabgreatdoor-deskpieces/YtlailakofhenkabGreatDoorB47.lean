import Derived.Test.YtlailakofhenkabGreatDoorB46
namespace Go.Proofs.YtlailakofhenkabGreatDoor.deskPiecesProof
open Go
theorem c3:Tryz.pinned.checked.prog.recurses 7=Rows.deskPiecesRow.recurses:=by kernel_rfl
theorem c4:Tryz.pinned.checked.prog.varsNamed 7=Rows.deskPiecesRow.named:=by kernel_rfl
theorem closed:joinedFacts Tryz.pinned.checked.prog 7 Tryz.f7 Rows.deskPiecesSpec Rows.deskPiecesRow=true:=by
 unfold joinedFacts;rw [c1,c2,c3,c4];kernel_rfl
end Go.Proofs.YtlailakofhenkabGreatDoor.deskPiecesProof
