import Derived.Test.YtlailakofhenkabGreatDoorB45
namespace Go.Proofs.YtlailakofhenkabGreatDoor.servicePlaysProof
open Go
theorem c3:Tryz.pinned.checked.prog.recurses 4=Rows.servicePlaysRow.recurses:=by kernel_rfl
theorem c4:Tryz.pinned.checked.prog.varsNamed 4=Rows.servicePlaysRow.named:=by kernel_rfl
theorem closed:joinedFacts Tryz.pinned.checked.prog 4 Tryz.f4 Rows.servicePlaysSpec Rows.servicePlaysRow=true:=by
 unfold joinedFacts;rw [c1,c2,c3,c4];kernel_rfl
end Go.Proofs.YtlailakofhenkabGreatDoor.servicePlaysProof
