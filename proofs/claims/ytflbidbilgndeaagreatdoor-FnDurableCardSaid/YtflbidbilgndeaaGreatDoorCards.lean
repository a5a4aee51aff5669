/-
  DERIVED. GIVEN WITH THE SEED: THE CARDS: each row of YtflbidbilgndeaaGreatDoorRows.lean that lists a variable, with what it lists TIED to the program's text (the seventh form; the later family's looks); each row that meets fmt, with fmt's text TOLD by the authors' own Lean function (tested against real Go, not proved from fmt's source: count such statements apart). THE CARD IS WHAT COUNTS. Prove the row's statement (the work); the ties are given (YtflbidbilgndeaaGreatDoorTie.lean); close each card by the builder's one call (the guide's Derived/Test/ToyasCard.lean, 'card_holds'). Laid BY PROGRAM, IN A SANDBOX (cutbox-door.mjs). By AI agents, Wed Nov 11 2026. No macro, syntax, notation, axiom, sorry.
-/
import Derived.Test.YtflbidbilgndeaaGreatDoorRows
import GoSem.ClaimSeven
namespace Go.Proofs.YtflbidbilgndeaaGreatDoor
namespace Rows

/-- THE TIED CARD OF 'laws.FnDurable'. -/
def fnDurableCard : Claim7 := { stood := { row := fnDurableRow, standIns := [], harness := (true, "d23d5eee2dc77222f36c96fa77960e98dbe293bc824308b6e20ec36955129fff"), looks := true }, kinds := [], alts := [], laidByText := true, laidKinds := [.data, .data, .data, .data, .sentinel, .sentinel, .wider, .pinned], laidTests := true, laidLooks := .later }
def FnDurableCardSaid : Prop := Claim7.holds Tryz.pinned (.plain (OpenSpec.ofChange fnDurableSpec)) fnDurableCard

/-- THE SECOND FORM's CARD OF 'laws.FnDurable'. -/
def fnDurableUptoCard : Claim7 := { stood := { row := fnDurableUptoRow, standIns := [], harness := (true, "d23d5eee2dc77222f36c96fa77960e98dbe293bc824308b6e20ec36955129fff"), looks := true }, kinds := [], alts := [], laidByText := true, laidKinds := [.data, .data, .data, .data, .sentinel, .sentinel, .wider, .pinned], laidTests := true, laidLooks := .later }
def FnDurableUptoCardSaid : Prop := Claim7.holds Tryz.pinned (.plain (OpenSpec.upto fnDurableSpec)) fnDurableUptoCard
end Rows
end Go.Proofs.YtflbidbilgndeaaGreatDoor
