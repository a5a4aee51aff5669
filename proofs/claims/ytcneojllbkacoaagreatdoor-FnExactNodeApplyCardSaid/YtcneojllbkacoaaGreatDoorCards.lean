/-
  DERIVED. GIVEN WITH THE SEED: THE CARDS: each row of YtcneojllbkacoaaGreatDoorRows.lean that lists a variable, with what it lists TIED to the program's text (the seventh form; the later family's looks); each row that meets fmt, with fmt's text TOLD by the authors' own Lean function (tested against real Go, not proved from fmt's source: count such statements apart). THE CARD IS WHAT COUNTS. Prove the row's statement (the work); the ties are given (YtcneojllbkacoaaGreatDoorTie.lean); close each card by the builder's one call (the guide's Derived/Test/ToyasCard.lean, 'card_holds'). Laid BY PROGRAM, IN A SANDBOX (cutbox-door.mjs). By AI agents, Wed Nov 11 2026. No macro, syntax, notation, axiom, sorry.
-/
import Derived.Test.YtcneojllbkacoaaGreatDoorRows
import GoSem.ClaimSeven
namespace Go.Proofs.YtcneojllbkacoaaGreatDoor
namespace Rows

/-- THE TIED CARD OF 'laws.FnExactNodeApply'. -/
def fnExactNodeApplyCard : Claim7 := { stood := { row := fnExactNodeApplyRow, standIns := [], harness := (true, "06dd79a5cefc17922c9950f863f9882a072cdce357fd6d6f03de26fce34bd49f"), looks := true }, kinds := [], alts := [], laidByText := true, laidKinds := [.data, .data, .data, .data, .pinned], laidTests := true, laidLooks := .later }
def FnExactNodeApplyCardSaid : Prop := Claim7.holds Tryz.pinned (.plain (OpenSpec.ofChange fnExactNodeApplySpec)) fnExactNodeApplyCard

/-- THE SECOND FORM's CARD OF 'laws.FnExactNodeApply'. -/
def fnExactNodeApplyUptoCard : Claim7 := { stood := { row := fnExactNodeApplyUptoRow, standIns := [], harness := (true, "06dd79a5cefc17922c9950f863f9882a072cdce357fd6d6f03de26fce34bd49f"), looks := true }, kinds := [], alts := [], laidByText := true, laidKinds := [.data, .data, .data, .data, .pinned], laidTests := true, laidLooks := .later }
def FnExactNodeApplyUptoCardSaid : Prop := Claim7.holds Tryz.pinned (.plain (OpenSpec.upto fnExactNodeApplySpec)) fnExactNodeApplyUptoCard
end Rows
end Go.Proofs.YtcneojllbkacoaaGreatDoor
