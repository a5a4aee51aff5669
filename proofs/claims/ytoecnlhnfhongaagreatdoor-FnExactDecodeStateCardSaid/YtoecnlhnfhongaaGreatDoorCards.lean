/-
  DERIVED. GIVEN WITH THE SEED: THE CARDS: each row of YtoecnlhnfhongaaGreatDoorRows.lean that lists a variable, with what it lists TIED to the program's text (the seventh form; the later family's looks); each row that meets fmt, with fmt's text TOLD by the authors' own Lean function (tested against real Go, not proved from fmt's source: count such statements apart). THE CARD IS WHAT COUNTS. Prove the row's statement (the work); the ties are given (YtoecnlhnfhongaaGreatDoorTie.lean); close each card by the builder's one call (the guide's Derived/Test/ToyasCard.lean, 'card_holds'). Laid BY PROGRAM, IN A SANDBOX (cutbox-door.mjs). By AI agents, Wed Nov 11 2026. No macro, syntax, notation, axiom, sorry.
-/
import Derived.Test.YtoecnlhnfhongaaGreatDoorRows
import GoSem.ClaimSeven
namespace Go.Proofs.YtoecnlhnfhongaaGreatDoor
namespace Rows

/-- THE TIED CARD OF 'laws.FnExactDecodeState'. -/
def fnExactDecodeStateCard : Claim7 := { stood := { row := fnExactDecodeStateRow, standIns := [], harness := (true, "290da2620743af9d4dd1877d42689d91bd2adddbd1df9bd92a56983562145d87"), looks := false }, kinds := [], alts := [], laidByText := true, laidKinds := [.data, .pinned], laidTests := true, laidLooks := .later }
def FnExactDecodeStateCardSaid : Prop := Claim7.holds Tryz.pinned (.plain (OpenSpec.ofChange fnExactDecodeStateSpec)) fnExactDecodeStateCard

/-- THE SECOND FORM's CARD OF 'laws.FnExactDecodeState'. -/
def fnExactDecodeStateUptoCard : Claim7 := { stood := { row := fnExactDecodeStateUptoRow, standIns := [], harness := (true, "290da2620743af9d4dd1877d42689d91bd2adddbd1df9bd92a56983562145d87"), looks := false }, kinds := [], alts := [], laidByText := true, laidKinds := [.data, .pinned], laidTests := true, laidLooks := .later }
def FnExactDecodeStateUptoCardSaid : Prop := Claim7.holds Tryz.pinned (.plain (OpenSpec.upto fnExactDecodeStateSpec)) fnExactDecodeStateUptoCard
end Rows
end Go.Proofs.YtoecnlhnfhongaaGreatDoor
