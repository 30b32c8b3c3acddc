/-
  DERIVED. GIVEN WITH THE SEED: THE CARDS: each row of YtgpphkdoanciiabGreatDoorRows.lean that lists a variable, with what it lists TIED to the program's text (the seventh form; the later family's looks); each row that meets fmt, with fmt's text TOLD by the authors' own Lean function (tested against real Go, not proved from fmt's source: count such statements apart). THE CARD IS WHAT COUNTS. Prove the row's statement (the work); the ties are given (YtgpphkdoanciiabGreatDoorTie.lean); close each card by the builder's one call (the guide's Derived/Test/ToyasCard.lean, 'card_holds'). Laid BY PROGRAM, IN A SANDBOX (cutbox-door.mjs). By AI agents, Wed Nov 11 2026. No macro, syntax, notation, axiom, sorry.
-/
import Derived.Test.YtgpphkdoanciiabGreatDoorRows
import GoSem.ClaimSeven
namespace Go.Proofs.YtgpphkdoanciiabGreatDoor
namespace Rows

/-- THE TIED CARD OF 'attickeep.Squared'. -/
def squaredCard : Claim7 := { stood := { row := squaredRow, standIns := [], harness := (true, "7cc1126754d9098b0a4d2949b2dfa9b113db4512289ea3e736df06048d434a57"), looks := false }, kinds := [], alts := [], goes := true, laidByText := true, laidKinds := [.data, .data, .data, .data], laidTests := true, laidLooks := .later }
def SquaredCardSaid : Prop := Claim7.holds Tryz.pinned (.plain (OpenSpec.ofChange squaredSpec)) squaredCard

/-- THE TIED CARD OF 'attickeep.Summed'. -/
def summedCard : Claim7 := { stood := { row := summedRow, standIns := [], harness := (true, "7cc1126754d9098b0a4d2949b2dfa9b113db4512289ea3e736df06048d434a57"), looks := false }, kinds := [], alts := [], goes := true, laidByText := true, laidKinds := [.data, .data, .data, .data], laidTests := true, laidLooks := .later }
def SummedCardSaid : Prop := Claim7.holds Tryz.pinned (.plain (OpenSpec.ofChange summedSpec)) summedCard

/-- THE TIED CARD OF 'atticlaw.All'. -/
def allCard : Claim7 := { stood := { row := allRow, standIns := [], harness := (true, "7cc1126754d9098b0a4d2949b2dfa9b113db4512289ea3e736df06048d434a57"), looks := false }, kinds := [], alts := [], goes := true, laidByText := true, laidKinds := [.data, .data, .data, .data], laidTests := true, laidLooks := .later }
def AllCardSaid : Prop := Claim7.holds Tryz.pinned (.plain (OpenSpec.ofChange allSpec)) allCard

/-- THE SECOND FORM's CARD OF 'attickeep.Squared'. -/
def squaredUptoCard : Claim7 := { stood := { row := squaredUptoRow, standIns := [], harness := (true, "7cc1126754d9098b0a4d2949b2dfa9b113db4512289ea3e736df06048d434a57"), looks := false }, kinds := [], alts := [], goes := true, laidByText := true, laidKinds := [.data, .data, .data, .data], laidTests := true, laidLooks := .later }
def SquaredUptoCardSaid : Prop := Claim7.holds Tryz.pinned (.plain (OpenSpec.upto squaredSpec)) squaredUptoCard

/-- THE SECOND FORM's CARD OF 'attickeep.Summed'. -/
def summedUptoCard : Claim7 := { stood := { row := summedUptoRow, standIns := [], harness := (true, "7cc1126754d9098b0a4d2949b2dfa9b113db4512289ea3e736df06048d434a57"), looks := false }, kinds := [], alts := [], goes := true, laidByText := true, laidKinds := [.data, .data, .data, .data], laidTests := true, laidLooks := .later }
def SummedUptoCardSaid : Prop := Claim7.holds Tryz.pinned (.plain (OpenSpec.upto summedSpec)) summedUptoCard

/-- THE SECOND FORM's CARD OF 'atticlaw.All'. -/
def allUptoCard : Claim7 := { stood := { row := allUptoRow, standIns := [], harness := (true, "7cc1126754d9098b0a4d2949b2dfa9b113db4512289ea3e736df06048d434a57"), looks := false }, kinds := [], alts := [], goes := true, laidByText := true, laidKinds := [.data, .data, .data, .data], laidTests := true, laidLooks := .later }
def AllUptoCardSaid : Prop := Claim7.holds Tryz.pinned (.plain (OpenSpec.upto allSpec)) allUptoCard
end Rows
end Go.Proofs.YtgpphkdoanciiabGreatDoor
