/-
  DERIVED. GIVEN WITH THE SEED: THE CARDS: each row of YtndaihhjhllfcadGreatDoorRows.lean that lists a variable, with what it lists TIED to the program's text (the seventh form; the later family's looks); each row that meets fmt, with fmt's text TOLD by the authors' own Lean function (tested against real Go, not proved from fmt's source: count such statements apart). THE CARD IS WHAT COUNTS. Prove the row's statement (the work); the ties are given (YtndaihhjhllfcadGreatDoorTie.lean); close each card by the builder's one call (the guide's Derived/Test/ToyasCard.lean, 'card_holds'). Laid BY PROGRAM, IN A SANDBOX (cutbox-door.mjs). By AI agents, Wed Nov 11 2026. No macro, syntax, notation, axiom, sorry.
-/
import Derived.Test.YtndaihhjhllfcadGreatDoorRows
import GoSem.ClaimSeven
namespace Go.Proofs.YtndaihhjhllfcadGreatDoor
namespace Rows

/-- THE TIED CARD OF 'laws.FnExactLogAppend'. -/
def fnExactLogAppendCard : Claim7 := { stood := { row := fnExactLogAppendRow, standIns := [], harness := (true, "1818b591d66131047cece43e0adc67d885d0b745450bfc5435459da7c2779d24"), looks := true }, kinds := [], alts := [], laidByText := true, laidKinds := [.data, .data, .data], laidTests := true, laidLooks := .later }
def FnExactLogAppendCardSaid : Prop := Claim7.holds Tryz.pinned (.plain (OpenSpec.ofChange fnExactLogAppendSpec)) fnExactLogAppendCard

/-- THE TIED CARD OF 'laws.FnIdle'. -/
def fnIdleCard : Claim7 := { stood := { row := fnIdleRow, standIns := [], harness := (true, "1818b591d66131047cece43e0adc67d885d0b745450bfc5435459da7c2779d24"), looks := true }, kinds := [], alts := [], laidByText := true, laidKinds := [.data, .pinned], laidTests := true, laidLooks := .later }
def FnIdleCardSaid : Prop := Claim7.holds Tryz.pinned (.plain (OpenSpec.ofChange fnIdleSpec)) fnIdleCard

/-- THE SECOND FORM's CARD OF 'laws.FnExactLogAppend'. -/
def fnExactLogAppendUptoCard : Claim7 := { stood := { row := fnExactLogAppendUptoRow, standIns := [], harness := (true, "1818b591d66131047cece43e0adc67d885d0b745450bfc5435459da7c2779d24"), looks := true }, kinds := [], alts := [], laidByText := true, laidKinds := [.data, .data, .data], laidTests := true, laidLooks := .later }
def FnExactLogAppendUptoCardSaid : Prop := Claim7.holds Tryz.pinned (.plain (OpenSpec.upto fnExactLogAppendSpec)) fnExactLogAppendUptoCard

/-- THE SECOND FORM's CARD OF 'laws.FnIdle'. -/
def fnIdleUptoCard : Claim7 := { stood := { row := fnIdleUptoRow, standIns := [], harness := (true, "1818b591d66131047cece43e0adc67d885d0b745450bfc5435459da7c2779d24"), looks := true }, kinds := [], alts := [], laidByText := true, laidKinds := [.data, .pinned], laidTests := true, laidLooks := .later }
def FnIdleUptoCardSaid : Prop := Claim7.holds Tryz.pinned (.plain (OpenSpec.upto fnIdleSpec)) fnIdleUptoCard
end Rows
end Go.Proofs.YtndaihhjhllfcadGreatDoor
