/-
  DERIVED. GIVEN WITH THE SEED: THE CARDS: each row of YtjpeimianeiegaaGreatDoorRows.lean that lists a variable, with what it lists TIED to the program's text (the seventh form; the later family's looks); each row that meets fmt, with fmt's text TOLD by the authors' own Lean function (tested against real Go, not proved from fmt's source: count such statements apart). THE CARD IS WHAT COUNTS. Prove the row's statement (the work); the ties are given (YtjpeimianeiegaaGreatDoorTie.lean); close each card by the builder's one call (the guide's Derived/Test/ToyasCard.lean, 'card_holds'). Laid BY PROGRAM, IN A SANDBOX (cutbox-door.mjs). By AI agents, Wed Nov 11 2026. No macro, syntax, notation, axiom, sorry.
-/
import Derived.Test.YtjpeimianeiegaaGreatDoorRows
import GoSem.ClaimSeven
namespace Go.Proofs.YtjpeimianeiegaaGreatDoor
namespace Rows

/-- THE TIED CARD OF 'laws.FnExactNodeOpen'. -/
def fnExactNodeOpenCard : Claim7 := { stood := { row := fnExactNodeOpenRow, standIns := [], harness := (true, "ad21ca4849b0e630c885bb3fc9b4c88315271dd9d5c6c05fcf9500cfc53e18c9"), looks := true }, kinds := [], alts := [], laidByText := true, laidKinds := [.data, .data, .data, .data, .sentinel, .sentinel, .pinned], laidTests := true, laidLooks := .later }
def FnExactNodeOpenCardSaid : Prop := Claim7.holds Tryz.pinned (.plain (OpenSpec.ofChange fnExactNodeOpenSpec)) fnExactNodeOpenCard

/-- THE SECOND FORM's CARD OF 'laws.FnExactNodeOpen'. -/
def fnExactNodeOpenUptoCard : Claim7 := { stood := { row := fnExactNodeOpenUptoRow, standIns := [], harness := (true, "ad21ca4849b0e630c885bb3fc9b4c88315271dd9d5c6c05fcf9500cfc53e18c9"), looks := true }, kinds := [], alts := [], laidByText := true, laidKinds := [.data, .data, .data, .data, .sentinel, .sentinel, .pinned], laidTests := true, laidLooks := .later }
def FnExactNodeOpenUptoCardSaid : Prop := Claim7.holds Tryz.pinned (.plain (OpenSpec.upto fnExactNodeOpenSpec)) fnExactNodeOpenUptoCard
end Rows
end Go.Proofs.YtjpeimianeiegaaGreatDoor
