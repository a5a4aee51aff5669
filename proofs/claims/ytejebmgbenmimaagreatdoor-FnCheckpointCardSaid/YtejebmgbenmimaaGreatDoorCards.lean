/-
  DERIVED. GIVEN WITH THE SEED: THE CARDS: each row of YtejebmgbenmimaaGreatDoorRows.lean that lists a variable, with what it lists TIED to the program's text (the seventh form; the later family's looks); each row that meets fmt, with fmt's text TOLD by the authors' own Lean function (tested against real Go, not proved from fmt's source: count such statements apart). THE CARD IS WHAT COUNTS. Prove the row's statement (the work); the ties are given (YtejebmgbenmimaaGreatDoorTie.lean); close each card by the builder's one call (the guide's Derived/Test/ToyasCard.lean, 'card_holds'). Laid BY PROGRAM, IN A SANDBOX (cutbox-door.mjs). By AI agents, Wed Nov 11 2026. No macro, syntax, notation, axiom, sorry.
-/
import Derived.Test.YtejebmgbenmimaaGreatDoorRows
import GoSem.ClaimSeven
namespace Go.Proofs.YtejebmgbenmimaaGreatDoor
namespace Rows

/-- THE TIED CARD OF 'laws.FnCheckpoint'. -/
def fnCheckpointCard : Claim7 := { stood := { row := fnCheckpointRow, standIns := [], harness := (true, "52cc6e60583fe924b411af1ffaa2084226f064194e0fc1f7f6885c5bb267e98d"), looks := true }, kinds := [], alts := [], laidByText := true, laidKinds := [.data, .data, .data, .data, .sentinel, .sentinel, .wider, .pinned], laidTests := true, laidLooks := .later }
def FnCheckpointCardSaid : Prop := Claim7.holds Tryz.pinned (.plain (OpenSpec.ofChange fnCheckpointSpec)) fnCheckpointCard

/-- THE SECOND FORM's CARD OF 'laws.FnCheckpoint'. -/
def fnCheckpointUptoCard : Claim7 := { stood := { row := fnCheckpointUptoRow, standIns := [], harness := (true, "52cc6e60583fe924b411af1ffaa2084226f064194e0fc1f7f6885c5bb267e98d"), looks := true }, kinds := [], alts := [], laidByText := true, laidKinds := [.data, .data, .data, .data, .sentinel, .sentinel, .wider, .pinned], laidTests := true, laidLooks := .later }
def FnCheckpointUptoCardSaid : Prop := Claim7.holds Tryz.pinned (.plain (OpenSpec.upto fnCheckpointSpec)) fnCheckpointUptoCard
end Rows
end Go.Proofs.YtejebmgbenmimaaGreatDoor
