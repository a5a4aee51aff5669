/-
  DERIVED. GIVEN WITH THE SEED: THE CARDS: each row of YtoecnlhnfhongaaDoorRows.lean that lists a variable, with what it lists TIED to the program's text (the seventh form; the later family's looks); each row that meets fmt, with fmt's text TOLD by the authors' own Lean function (tested against real Go, not proved from fmt's source: count such statements apart). THE CARD IS WHAT COUNTS. Prove the row's statement (the work); the ties are given (YtoecnlhnfhongaaDoorTie.lean); close each card by the builder's one call (the guide's Derived/Test/ToyasCard.lean, 'card_holds'). Laid BY PROGRAM, IN A SANDBOX (cutbox-door.mjs). By AI agents, Wed Nov 11 2026. No macro, syntax, notation, axiom, sorry.
-/
import Derived.Test.YtoecnlhnfhongaaDoorRows
import GoSem.ClaimSeven
namespace Go.Proofs.YtoecnlhnfhongaaDoor
namespace Rows

/-- THE TIED CARD OF 'laws.FnExactEncodeRequest'. -/
def fnExactEncodeRequestCard : Claim7 := { stood := { row := fnExactEncodeRequestRow, standIns := [], harness := (true, "32a53a00971582f65c6372826d18b0fad131dd2251a69be69396a92bda00e980"), looks := false }, kinds := [], alts := [], laidByText := true, laidKinds := [.wider], laidTests := true, laidLooks := .later }
def FnExactEncodeRequestCardSaid : Prop := Claim7.holds Tryd.pinned (.plain (OpenSpec.ofChange fnExactEncodeRequestSpec)) fnExactEncodeRequestCard

/-- THE TIED CARD OF 'laws.FnExactDecodeRequest'. -/
def fnExactDecodeRequestCard : Claim7 := { stood := { row := fnExactDecodeRequestRow, standIns := [], harness := (true, "32a53a00971582f65c6372826d18b0fad131dd2251a69be69396a92bda00e980"), looks := false }, kinds := [], alts := [], laidByText := true, laidKinds := [.wider], laidTests := true, laidLooks := .later }
def FnExactDecodeRequestCardSaid : Prop := Claim7.holds Tryd.pinned (.plain (OpenSpec.ofChange fnExactDecodeRequestSpec)) fnExactDecodeRequestCard

/-- THE SECOND FORM's CARD OF 'laws.FnExactEncodeRequest'. -/
def fnExactEncodeRequestUptoCard : Claim7 := { stood := { row := fnExactEncodeRequestUptoRow, standIns := [], harness := (true, "32a53a00971582f65c6372826d18b0fad131dd2251a69be69396a92bda00e980"), looks := false }, kinds := [], alts := [], laidByText := true, laidKinds := [.wider], laidTests := true, laidLooks := .later }
def FnExactEncodeRequestUptoCardSaid : Prop := Claim7.holds Tryd.pinned (.plain (OpenSpec.upto fnExactEncodeRequestSpec)) fnExactEncodeRequestUptoCard

/-- THE SECOND FORM's CARD OF 'laws.FnExactDecodeRequest'. -/
def fnExactDecodeRequestUptoCard : Claim7 := { stood := { row := fnExactDecodeRequestUptoRow, standIns := [], harness := (true, "32a53a00971582f65c6372826d18b0fad131dd2251a69be69396a92bda00e980"), looks := false }, kinds := [], alts := [], laidByText := true, laidKinds := [.wider], laidTests := true, laidLooks := .later }
def FnExactDecodeRequestUptoCardSaid : Prop := Claim7.holds Tryd.pinned (.plain (OpenSpec.upto fnExactDecodeRequestSpec)) fnExactDecodeRequestUptoCard
end Rows
end Go.Proofs.YtoecnlhnfhongaaDoor
