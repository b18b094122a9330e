/-
  DERIVED. GIVEN WITH THE SEED: THE CARDS: each row of YtlailakofhenkabGreatDoorRows.lean that lists a variable, with what it lists TIED to the program's text (the seventh form; the later family's looks); each row that meets fmt, with fmt's text TOLD by the authors' own Lean function (tested against real Go, not proved from fmt's source: count such statements apart). THE CARD IS WHAT COUNTS. Prove the row's statement (the work); the ties are given (YtlailakofhenkabGreatDoorTie.lean); close each card by the builder's one call (the guide's Derived/Test/ToyasCard.lean, 'card_holds'). Laid BY PROGRAM, IN A SANDBOX (cutbox-door.mjs). By AI agents, Wed Nov 11 2026. No macro, syntax, notation, axiom, sorry.
-/
import Derived.Test.YtlailakofhenkabGreatDoorRows
import GoSem.ClaimSeven
namespace Go.Proofs.YtlailakofhenkabGreatDoor
namespace Rows

/-- THE TIED CARD OF 'rotorkeep.StoreCrashes'. -/
def storeCrashesCard : Claim7 := { stood := { row := storeCrashesRow, standIns := [], harness := (true, "84fcadd921349af66463ecffc3e00277a9702cddb53952e375654a18820f2991"), looks := true }, kinds := [], alts := [], goes := true, laidByText := true, laidKinds := [.data, .data, .data, .data, .handle, .sentinel, .sentinel, .pinned], laidTests := true, laidLooks := .later }
def StoreCrashesCardSaid : Prop := Claim7.holds Tryz.pinned (.plain (OpenSpec.ofChange storeCrashesSpec)) storeCrashesCard

/-- THE TIED CARD OF 'rotorlaw.ServicePlays'. -/
def servicePlaysCard : Claim7 := { stood := { row := servicePlaysRow, standIns := [], harness := (true, "84fcadd921349af66463ecffc3e00277a9702cddb53952e375654a18820f2991"), looks := true }, kinds := [], alts := [], goes := true, laidByText := true, laidKinds := [.data, .data, .data, .data, .handle, .sentinel, .sentinel, .pinned], laidTests := true, laidLooks := .later }
def ServicePlaysCardSaid : Prop := Claim7.holds Tryz.pinned (.plain (OpenSpec.ofChange servicePlaysSpec)) servicePlaysCard

/-- THE TIED CARD OF 'rotorkeep.ServiceStolen'. -/
def serviceStolenCard : Claim7 := { stood := { row := serviceStolenRow, standIns := [], harness := (true, "84fcadd921349af66463ecffc3e00277a9702cddb53952e375654a18820f2991"), looks := true }, kinds := [], alts := [], goes := true, laidByText := true, laidKinds := [.data, .data, .data, .data, .handle, .sentinel, .sentinel, .pinned], laidTests := true, laidLooks := .later }
def ServiceStolenCardSaid : Prop := Claim7.holds Tryz.pinned (.plain (OpenSpec.ofChange serviceStolenSpec)) serviceStolenCard

/-- THE TIED CARD OF 'rotorkeep.ServiceAgain'. -/
def serviceAgainCard : Claim7 := { stood := { row := serviceAgainRow, standIns := [], harness := (true, "84fcadd921349af66463ecffc3e00277a9702cddb53952e375654a18820f2991"), looks := true }, kinds := [], alts := [], goes := true, laidByText := true, laidKinds := [.data, .data, .data, .data, .handle, .sentinel, .sentinel, .pinned], laidTests := true, laidLooks := .later }
def ServiceAgainCardSaid : Prop := Claim7.holds Tryz.pinned (.plain (OpenSpec.ofChange serviceAgainSpec)) serviceAgainCard

/-- THE TIED CARD OF 'rotorkeep.DeskPieces'. -/
def deskPiecesCard : Claim7 := { stood := { row := deskPiecesRow, standIns := [], harness := (true, "84fcadd921349af66463ecffc3e00277a9702cddb53952e375654a18820f2991"), looks := true }, kinds := [], alts := [], goes := true, laidByText := true, laidKinds := [.data, .data, .data, .data, .handle, .sentinel, .sentinel, .pinned], laidTests := true, laidLooks := .later }
def DeskPiecesCardSaid : Prop := Claim7.holds Tryz.pinned (.plain (OpenSpec.ofChange deskPiecesSpec)) deskPiecesCard

/-- THE TIED CARD OF 'rotorlaw.DeskAnswers'. -/
def deskAnswersCard : Claim7 := { stood := { row := deskAnswersRow, standIns := [], harness := (true, "84fcadd921349af66463ecffc3e00277a9702cddb53952e375654a18820f2991"), looks := true }, kinds := [], alts := [], goes := true, laidByText := true, laidKinds := [.data, .data, .data, .data, .handle, .sentinel, .sentinel, .mapped, .pinned], laidTests := true, laidLooks := .later }
def DeskAnswersCardSaid : Prop := Claim7.holds Tryz.pinned (.plain (OpenSpec.ofChange deskAnswersSpec)) deskAnswersCard

/-- THE TIED CARD OF 'rotorkeep.ManyWorkers'. -/
def manyWorkersCard : Claim7 := { stood := { row := manyWorkersRow, standIns := [], harness := (true, "84fcadd921349af66463ecffc3e00277a9702cddb53952e375654a18820f2991"), looks := true }, kinds := [], alts := [], goes := true, laidByText := true, laidKinds := [.data, .data, .data, .data, .handle, .sentinel, .sentinel, .pinned], laidTests := true, laidLooks := .later }
def ManyWorkersCardSaid : Prop := Claim7.holds Tryz.pinned (.plain (OpenSpec.ofChange manyWorkersSpec)) manyWorkersCard

/-- THE TIED CARD OF 'rotorlaw.ManyAnswers'. -/
def manyAnswersCard : Claim7 := { stood := { row := manyAnswersRow, standIns := [], harness := (true, "84fcadd921349af66463ecffc3e00277a9702cddb53952e375654a18820f2991"), looks := true }, kinds := [], alts := [], goes := true, laidByText := true, laidKinds := [.data, .data, .data, .data, .handle, .sentinel, .sentinel, .mapped, .pinned], laidTests := true, laidLooks := .later }
def ManyAnswersCardSaid : Prop := Claim7.holds Tryz.pinned (.plain (OpenSpec.ofChange manyAnswersSpec)) manyAnswersCard

/-- THE SECOND FORM's CARD OF 'rotorkeep.StoreCrashes'. -/
def storeCrashesUptoCard : Claim7 := { stood := { row := storeCrashesUptoRow, standIns := [], harness := (true, "84fcadd921349af66463ecffc3e00277a9702cddb53952e375654a18820f2991"), looks := true }, kinds := [], alts := [], goes := true, laidByText := true, laidKinds := [.data, .data, .data, .data, .handle, .sentinel, .sentinel, .pinned], laidTests := true, laidLooks := .later }
def StoreCrashesUptoCardSaid : Prop := Claim7.holds Tryz.pinned (.plain (OpenSpec.upto storeCrashesSpec)) storeCrashesUptoCard

/-- THE SECOND FORM's CARD OF 'rotorlaw.ServicePlays'. -/
def servicePlaysUptoCard : Claim7 := { stood := { row := servicePlaysUptoRow, standIns := [], harness := (true, "84fcadd921349af66463ecffc3e00277a9702cddb53952e375654a18820f2991"), looks := true }, kinds := [], alts := [], goes := true, laidByText := true, laidKinds := [.data, .data, .data, .data, .handle, .sentinel, .sentinel, .pinned], laidTests := true, laidLooks := .later }
def ServicePlaysUptoCardSaid : Prop := Claim7.holds Tryz.pinned (.plain (OpenSpec.upto servicePlaysSpec)) servicePlaysUptoCard

/-- THE SECOND FORM's CARD OF 'rotorkeep.ServiceStolen'. -/
def serviceStolenUptoCard : Claim7 := { stood := { row := serviceStolenUptoRow, standIns := [], harness := (true, "84fcadd921349af66463ecffc3e00277a9702cddb53952e375654a18820f2991"), looks := true }, kinds := [], alts := [], goes := true, laidByText := true, laidKinds := [.data, .data, .data, .data, .handle, .sentinel, .sentinel, .pinned], laidTests := true, laidLooks := .later }
def ServiceStolenUptoCardSaid : Prop := Claim7.holds Tryz.pinned (.plain (OpenSpec.upto serviceStolenSpec)) serviceStolenUptoCard

/-- THE SECOND FORM's CARD OF 'rotorkeep.ServiceAgain'. -/
def serviceAgainUptoCard : Claim7 := { stood := { row := serviceAgainUptoRow, standIns := [], harness := (true, "84fcadd921349af66463ecffc3e00277a9702cddb53952e375654a18820f2991"), looks := true }, kinds := [], alts := [], goes := true, laidByText := true, laidKinds := [.data, .data, .data, .data, .handle, .sentinel, .sentinel, .pinned], laidTests := true, laidLooks := .later }
def ServiceAgainUptoCardSaid : Prop := Claim7.holds Tryz.pinned (.plain (OpenSpec.upto serviceAgainSpec)) serviceAgainUptoCard

/-- THE SECOND FORM's CARD OF 'rotorkeep.DeskPieces'. -/
def deskPiecesUptoCard : Claim7 := { stood := { row := deskPiecesUptoRow, standIns := [], harness := (true, "84fcadd921349af66463ecffc3e00277a9702cddb53952e375654a18820f2991"), looks := true }, kinds := [], alts := [], goes := true, laidByText := true, laidKinds := [.data, .data, .data, .data, .handle, .sentinel, .sentinel, .pinned], laidTests := true, laidLooks := .later }
def DeskPiecesUptoCardSaid : Prop := Claim7.holds Tryz.pinned (.plain (OpenSpec.upto deskPiecesSpec)) deskPiecesUptoCard

/-- THE SECOND FORM's CARD OF 'rotorlaw.DeskAnswers'. -/
def deskAnswersUptoCard : Claim7 := { stood := { row := deskAnswersUptoRow, standIns := [], harness := (true, "84fcadd921349af66463ecffc3e00277a9702cddb53952e375654a18820f2991"), looks := true }, kinds := [], alts := [], goes := true, laidByText := true, laidKinds := [.data, .data, .data, .data, .handle, .sentinel, .sentinel, .mapped, .pinned], laidTests := true, laidLooks := .later }
def DeskAnswersUptoCardSaid : Prop := Claim7.holds Tryz.pinned (.plain (OpenSpec.upto deskAnswersSpec)) deskAnswersUptoCard

/-- THE SECOND FORM's CARD OF 'rotorkeep.ManyWorkers'. -/
def manyWorkersUptoCard : Claim7 := { stood := { row := manyWorkersUptoRow, standIns := [], harness := (true, "84fcadd921349af66463ecffc3e00277a9702cddb53952e375654a18820f2991"), looks := true }, kinds := [], alts := [], goes := true, laidByText := true, laidKinds := [.data, .data, .data, .data, .handle, .sentinel, .sentinel, .pinned], laidTests := true, laidLooks := .later }
def ManyWorkersUptoCardSaid : Prop := Claim7.holds Tryz.pinned (.plain (OpenSpec.upto manyWorkersSpec)) manyWorkersUptoCard

/-- THE SECOND FORM's CARD OF 'rotorlaw.ManyAnswers'. -/
def manyAnswersUptoCard : Claim7 := { stood := { row := manyAnswersUptoRow, standIns := [], harness := (true, "84fcadd921349af66463ecffc3e00277a9702cddb53952e375654a18820f2991"), looks := true }, kinds := [], alts := [], goes := true, laidByText := true, laidKinds := [.data, .data, .data, .data, .handle, .sentinel, .sentinel, .mapped, .pinned], laidTests := true, laidLooks := .later }
def ManyAnswersUptoCardSaid : Prop := Claim7.holds Tryz.pinned (.plain (OpenSpec.upto manyAnswersSpec)) manyAnswersUptoCard
end Rows
end Go.Proofs.YtlailakofhenkabGreatDoor
