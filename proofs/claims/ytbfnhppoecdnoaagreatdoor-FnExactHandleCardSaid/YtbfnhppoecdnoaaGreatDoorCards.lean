/-
  DERIVED. GIVEN WITH THE SEED: THE CARDS: each row of YtbfnhppoecdnoaaGreatDoorRows.lean that lists a variable, with what it lists TIED to the program's text (the seventh form; the later family's looks); each row that meets fmt, with fmt's text TOLD by the authors' own Lean function (tested against real Go, not proved from fmt's source: count such statements apart). THE CARD IS WHAT COUNTS. Prove the row's statement (the work); the ties are given (YtbfnhppoecdnoaaGreatDoorTie.lean); close each card by the builder's one call (the guide's Derived/Test/ToyasCard.lean, 'card_holds'). Laid BY PROGRAM, IN A SANDBOX (cutbox-door.mjs). By AI agents, Wed Nov 11 2026. No macro, syntax, notation, axiom, sorry.
-/
import Derived.Test.YtbfnhppoecdnoaaGreatDoorRows
import GoSem.ClaimSeven
namespace Go.Proofs.YtbfnhppoecdnoaaGreatDoor
namespace Rows

/-- THE TIED CARD OF 'laws.FnExactHandle'. -/
def fnExactHandleCard : Claim7 := { stood := { row := fnExactHandleRow, standIns := [], harness := (true, "a39ef0a1d8962935b66737c7cd6d9a65135505611d18c94f7de90e3cf8877941"), looks := true }, kinds := [], alts := [], laidByText := true, laidKinds := [.data, .data, .data, .data, .wider, .pinned], laidTests := true, laidLooks := .later }
def FnExactHandleCardSaid : Prop := Claim7.holds Tryz.pinned (.plain (OpenSpec.ofChange fnExactHandleSpec)) fnExactHandleCard

/-- THE SECOND FORM's CARD OF 'laws.FnExactHandle'. -/
def fnExactHandleUptoCard : Claim7 := { stood := { row := fnExactHandleUptoRow, standIns := [], harness := (true, "a39ef0a1d8962935b66737c7cd6d9a65135505611d18c94f7de90e3cf8877941"), looks := true }, kinds := [], alts := [], laidByText := true, laidKinds := [.data, .data, .data, .data, .wider, .pinned], laidTests := true, laidLooks := .later }
def FnExactHandleUptoCardSaid : Prop := Claim7.holds Tryz.pinned (.plain (OpenSpec.upto fnExactHandleSpec)) fnExactHandleUptoCard
end Rows
end Go.Proofs.YtbfnhppoecdnoaaGreatDoor
