/-
  DERIVED. GIVEN WITH THE SEED: THE CARDS: each row of YtndaihhjhllfcaeGreatDoorRows.lean that lists a variable, with what it lists TIED to the program's text (the seventh form; the later family's looks); each row that meets fmt, with fmt's text TOLD by the authors' own Lean function (tested against real Go, not proved from fmt's source: count such statements apart). THE CARD IS WHAT COUNTS. Prove the row's statement (the work); the ties are given (YtndaihhjhllfcaeGreatDoorTie.lean); close each card by the builder's one call (the guide's Derived/Test/ToyasCard.lean, 'card_holds'). Laid BY PROGRAM, IN A SANDBOX (cutbox-door.mjs). By AI agents, Wed Nov 11 2026. No macro, syntax, notation, axiom, sorry.
-/
import Derived.Test.YtndaihhjhllfcaeGreatDoorRows
import GoSem.ClaimSeven
namespace Go.Proofs.YtndaihhjhllfcaeGreatDoor
namespace Rows

/-- THE TIED CARD OF 'laws.FnExactLogOpen'. -/
def fnExactLogOpenCard : Claim7 := { stood := { row := fnExactLogOpenRow, standIns := [], harness := (true, "50a84c0e92ca3e7b31266d6402fab1e961009ec22c0beff36f0315b82d8da839"), looks := true }, kinds := [], alts := [], laidByText := true, laidKinds := [.data, .data, .data, .sentinel, .sentinel], laidTests := true, laidLooks := .later }
def FnExactLogOpenCardSaid : Prop := Claim7.holds Tryz.pinned (.plain (OpenSpec.ofChange fnExactLogOpenSpec)) fnExactLogOpenCard

/-- THE TIED CARD OF 'laws.FnExactStateOK'. -/
def fnExactStateOKCard : Claim7 := { stood := { row := fnExactStateOKRow, standIns := [], harness := (true, "50a84c0e92ca3e7b31266d6402fab1e961009ec22c0beff36f0315b82d8da839"), looks := true }, kinds := [], alts := [], laidByText := true, laidKinds := [.data, .pinned], laidTests := true, laidLooks := .later }
def FnExactStateOKCardSaid : Prop := Claim7.holds Tryz.pinned (.plain (OpenSpec.ofChange fnExactStateOKSpec)) fnExactStateOKCard

/-- THE TIED CARD OF 'laws.FnExactCountOf'. -/
def fnExactCountOfCard : Claim7 := { stood := { row := fnExactCountOfRow, standIns := [], harness := (true, "50a84c0e92ca3e7b31266d6402fab1e961009ec22c0beff36f0315b82d8da839"), looks := true }, kinds := [], alts := [], laidByText := true, laidKinds := [.data, .pinned], laidTests := true, laidLooks := .later }
def FnExactCountOfCardSaid : Prop := Claim7.holds Tryz.pinned (.plain (OpenSpec.ofChange fnExactCountOfSpec)) fnExactCountOfCard

/-- THE TIED CARD OF 'laws.FnAdmit'. -/
def fnAdmitCard : Claim7 := { stood := { row := fnAdmitRow, standIns := [], harness := (true, "50a84c0e92ca3e7b31266d6402fab1e961009ec22c0beff36f0315b82d8da839"), looks := true }, kinds := [], alts := [], laidByText := true, laidKinds := [.data, .pinned], laidTests := true, laidLooks := .later }
def FnAdmitCardSaid : Prop := Claim7.holds Tryz.pinned (.plain (OpenSpec.ofChange fnAdmitSpec)) fnAdmitCard

/-- THE TIED CARD OF 'laws.FnExactTick'. -/
def fnExactTickCard : Claim7 := { stood := { row := fnExactTickRow, standIns := [], harness := (true, "50a84c0e92ca3e7b31266d6402fab1e961009ec22c0beff36f0315b82d8da839"), looks := true }, kinds := [], alts := [], laidByText := true, laidKinds := [.data, .pinned], laidTests := true, laidLooks := .later }
def FnExactTickCardSaid : Prop := Claim7.holds Tryz.pinned (.plain (OpenSpec.ofChange fnExactTickSpec)) fnExactTickCard

/-- THE SECOND FORM's CARD OF 'laws.FnExactLogOpen'. -/
def fnExactLogOpenUptoCard : Claim7 := { stood := { row := fnExactLogOpenUptoRow, standIns := [], harness := (true, "50a84c0e92ca3e7b31266d6402fab1e961009ec22c0beff36f0315b82d8da839"), looks := true }, kinds := [], alts := [], laidByText := true, laidKinds := [.data, .data, .data, .sentinel, .sentinel], laidTests := true, laidLooks := .later }
def FnExactLogOpenUptoCardSaid : Prop := Claim7.holds Tryz.pinned (.plain (OpenSpec.upto fnExactLogOpenSpec)) fnExactLogOpenUptoCard

/-- THE SECOND FORM's CARD OF 'laws.FnExactStateOK'. -/
def fnExactStateOKUptoCard : Claim7 := { stood := { row := fnExactStateOKUptoRow, standIns := [], harness := (true, "50a84c0e92ca3e7b31266d6402fab1e961009ec22c0beff36f0315b82d8da839"), looks := true }, kinds := [], alts := [], laidByText := true, laidKinds := [.data, .pinned], laidTests := true, laidLooks := .later }
def FnExactStateOKUptoCardSaid : Prop := Claim7.holds Tryz.pinned (.plain (OpenSpec.upto fnExactStateOKSpec)) fnExactStateOKUptoCard

/-- THE SECOND FORM's CARD OF 'laws.FnExactCountOf'. -/
def fnExactCountOfUptoCard : Claim7 := { stood := { row := fnExactCountOfUptoRow, standIns := [], harness := (true, "50a84c0e92ca3e7b31266d6402fab1e961009ec22c0beff36f0315b82d8da839"), looks := true }, kinds := [], alts := [], laidByText := true, laidKinds := [.data, .pinned], laidTests := true, laidLooks := .later }
def FnExactCountOfUptoCardSaid : Prop := Claim7.holds Tryz.pinned (.plain (OpenSpec.upto fnExactCountOfSpec)) fnExactCountOfUptoCard

/-- THE SECOND FORM's CARD OF 'laws.FnAdmit'. -/
def fnAdmitUptoCard : Claim7 := { stood := { row := fnAdmitUptoRow, standIns := [], harness := (true, "50a84c0e92ca3e7b31266d6402fab1e961009ec22c0beff36f0315b82d8da839"), looks := true }, kinds := [], alts := [], laidByText := true, laidKinds := [.data, .pinned], laidTests := true, laidLooks := .later }
def FnAdmitUptoCardSaid : Prop := Claim7.holds Tryz.pinned (.plain (OpenSpec.upto fnAdmitSpec)) fnAdmitUptoCard

/-- THE SECOND FORM's CARD OF 'laws.FnExactTick'. -/
def fnExactTickUptoCard : Claim7 := { stood := { row := fnExactTickUptoRow, standIns := [], harness := (true, "50a84c0e92ca3e7b31266d6402fab1e961009ec22c0beff36f0315b82d8da839"), looks := true }, kinds := [], alts := [], laidByText := true, laidKinds := [.data, .pinned], laidTests := true, laidLooks := .later }
def FnExactTickUptoCardSaid : Prop := Claim7.holds Tryz.pinned (.plain (OpenSpec.upto fnExactTickSpec)) fnExactTickUptoCard
end Rows
end Go.Proofs.YtndaihhjhllfcaeGreatDoor
