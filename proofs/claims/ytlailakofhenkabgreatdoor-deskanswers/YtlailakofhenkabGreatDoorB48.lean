import Derived.Test.YtlailakofhenkabGreatDoorB47
namespace Go.Proofs.YtlailakofhenkabGreatDoor.deskAnswersProof
open Go
theorem c3:Tryz.pinned.checked.prog.recurses 8=Rows.deskAnswersRow.recurses:=by kernel_rfl
theorem c4:Tryz.pinned.checked.prog.varsNamed 8=Rows.deskAnswersRow.named:=by kernel_rfl
theorem DE:joinedFacts Tryz.pinned.checked.prog 8 Tryz.f8 Rows.deskAnswersSpec Rows.deskAnswersRow=true:=by
 unfold joinedFacts;rw[c1,c2,c3,c4];kernel_rfl
end Go.Proofs.YtlailakofhenkabGreatDoor.deskAnswersProof
