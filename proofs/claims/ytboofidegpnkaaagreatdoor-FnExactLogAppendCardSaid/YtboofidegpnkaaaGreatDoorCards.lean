/-
  DERIVED. GIVEN WITH THE SEED: THE CARDS: each row of YtboofidegpnkaaaGreatDoorRows.lean that lists a variable, with what it lists TIED to the program's text (the seventh form; the later family's looks); each row that meets fmt, with fmt's text TOLD by the authors' own Lean function (tested against real Go, not proved from fmt's source: count such statements apart). THE CARD IS WHAT COUNTS. Prove the row's statement (the work); the ties are given (YtboofidegpnkaaaGreatDoorTie.lean); close each card by the builder's one call (the guide's Derived/Test/ToyasCard.lean, 'card_holds'). Laid BY PROGRAM, IN A SANDBOX (cutbox-door.mjs). By AI agents, Wed Nov 11 2026. No macro, syntax, notation, axiom, sorry.
-/
import Derived.Test.YtboofidegpnkaaaGreatDoorRows
import GoSem.ClaimSeven
namespace Go.Proofs.YtboofidegpnkaaaGreatDoor
namespace Rows

/-- THE TIED CARD OF 'laws.FnExactLogAppend'. -/
def fnExactLogAppendCard : Claim7 := { stood := { row := fnExactLogAppendRow, standIns := [], harness := (true, "25fc18dd9bf0159326a65eab0e69b36c0a60e3641ff2f50d5eb3d2ef1e1836b3"), looks := true }, kinds := [], alts := [], laidByText := true, laidKinds := [.data, .data, .data], laidTests := true, laidLooks := .later }
def FnExactLogAppendCardSaid : Prop := Claim7.holds Tryz.pinned (.plain (OpenSpec.ofChange fnExactLogAppendSpec)) fnExactLogAppendCard

/-- THE SECOND FORM's CARD OF 'laws.FnExactLogAppend'. -/
def fnExactLogAppendUptoCard : Claim7 := { stood := { row := fnExactLogAppendUptoRow, standIns := [], harness := (true, "25fc18dd9bf0159326a65eab0e69b36c0a60e3641ff2f50d5eb3d2ef1e1836b3"), looks := true }, kinds := [], alts := [], laidByText := true, laidKinds := [.data, .data, .data], laidTests := true, laidLooks := .later }
def FnExactLogAppendUptoCardSaid : Prop := Claim7.holds Tryz.pinned (.plain (OpenSpec.upto fnExactLogAppendSpec)) fnExactLogAppendUptoCard
end Rows
end Go.Proofs.YtboofidegpnkaaaGreatDoor
