/-
  DERIVED. GIVEN WITH THE SEED: THE CARDS: each row of YtgnppdghjlnlhaaGreatDoorRows.lean that lists a variable, with what it lists TIED to the program's text (the seventh form; the later family's looks); each row that meets fmt, with fmt's text TOLD by the authors' own Lean function (tested against real Go, not proved from fmt's source: count such statements apart). THE CARD IS WHAT COUNTS. Prove the row's statement (the work); the ties are given (YtgnppdghjlnlhaaGreatDoorTie.lean); close each card by the builder's one call (the guide's Derived/Test/ToyasCard.lean, 'card_holds'). Laid BY PROGRAM, IN A SANDBOX (cutbox-door.mjs). By AI agents, Wed Nov 11 2026. No macro, syntax, notation, axiom, sorry.
-/
import Derived.Test.YtgnppdghjlnlhaaGreatDoorRows
import GoSem.ClaimSeven
namespace Go.Proofs.YtgnppdghjlnlhaaGreatDoor
namespace Rows

/-- THE TIED CARD OF 'laws.FnExactNodeCheckpoint'. -/
def fnExactNodeCheckpointCard : Claim7 := { stood := { row := fnExactNodeCheckpointRow, standIns := [], harness := (true, "0339eabecb72023ff468eda067ce9baf08c2a436b4740614abdb3c0593cb2700"), looks := true }, kinds := [], alts := [], laidByText := true, laidKinds := [.data, .data, .data], laidTests := true, laidLooks := .later }
def FnExactNodeCheckpointCardSaid : Prop := Claim7.holds Tryz.pinned (.plain (OpenSpec.ofChange fnExactNodeCheckpointSpec)) fnExactNodeCheckpointCard

/-- THE SECOND FORM's CARD OF 'laws.FnExactNodeCheckpoint'. -/
def fnExactNodeCheckpointUptoCard : Claim7 := { stood := { row := fnExactNodeCheckpointUptoRow, standIns := [], harness := (true, "0339eabecb72023ff468eda067ce9baf08c2a436b4740614abdb3c0593cb2700"), looks := true }, kinds := [], alts := [], laidByText := true, laidKinds := [.data, .data, .data], laidTests := true, laidLooks := .later }
def FnExactNodeCheckpointUptoCardSaid : Prop := Claim7.holds Tryz.pinned (.plain (OpenSpec.upto fnExactNodeCheckpointSpec)) fnExactNodeCheckpointUptoCard
end Rows
end Go.Proofs.YtgnppdghjlnlhaaGreatDoor
