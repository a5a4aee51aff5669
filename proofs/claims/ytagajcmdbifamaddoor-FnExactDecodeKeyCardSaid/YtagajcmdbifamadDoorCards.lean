/-
  DERIVED. GIVEN WITH THE SEED: THE CARDS: each row of YtagajcmdbifamadDoorRows.lean that lists a variable, with what it lists TIED to the program's text (the seventh form; the later family's looks); each row that meets fmt, with fmt's text TOLD by the authors' own Lean function (tested against real Go, not proved from fmt's source: count such statements apart). THE CARD IS WHAT COUNTS. Prove the row's statement (the work); the ties are given (YtagajcmdbifamadDoorTie.lean); close each card by the builder's one call (the guide's Derived/Test/ToyasCard.lean, 'card_holds'). Laid BY PROGRAM, IN A SANDBOX (cutbox-door.mjs). By AI agents, Wed Nov 11 2026. No macro, syntax, notation, axiom, sorry.
-/
import Derived.Test.YtagajcmdbifamadDoorRows
import GoSem.ClaimSeven
namespace Go.Proofs.YtagajcmdbifamadDoor
namespace Rows

/-- THE TIED CARD OF 'laws.FnExactDecodeKey'. -/
def fnExactDecodeKeyCard : Claim7 := { stood := { row := fnExactDecodeKeyRow, standIns := [], harness := (true, "c8b710f9a6add67e1f66bd89cf7bbb56e3514c94fcfbff2508978f23ab4e4470"), looks := false }, kinds := [], alts := [], laidByText := true, laidKinds := [.data, .pinned], laidTests := true, laidLooks := .later }
def FnExactDecodeKeyCardSaid : Prop := Claim7.holds Tryd.pinned (.plain (OpenSpec.ofChange fnExactDecodeKeySpec)) fnExactDecodeKeyCard

/-- THE SECOND FORM's CARD OF 'laws.FnExactDecodeKey'. -/
def fnExactDecodeKeyUptoCard : Claim7 := { stood := { row := fnExactDecodeKeyUptoRow, standIns := [], harness := (true, "c8b710f9a6add67e1f66bd89cf7bbb56e3514c94fcfbff2508978f23ab4e4470"), looks := false }, kinds := [], alts := [], laidByText := true, laidKinds := [.data, .pinned], laidTests := true, laidLooks := .later }
def FnExactDecodeKeyUptoCardSaid : Prop := Claim7.holds Tryd.pinned (.plain (OpenSpec.upto fnExactDecodeKeySpec)) fnExactDecodeKeyUptoCard
end Rows
end Go.Proofs.YtagajcmdbifamadDoor
