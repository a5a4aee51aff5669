/-
  DERIVED. GIVEN WITH THE SEED: THE CARDS: each row of YtnbkmmmlhlbfoaaGreatDoorRows.lean that lists a variable, with what it lists TIED to the program's text (the seventh form; the later family's looks); each row that meets fmt, with fmt's text TOLD by the authors' own Lean function (tested against real Go, not proved from fmt's source: count such statements apart). THE CARD IS WHAT COUNTS. Prove the row's statement (the work); the ties are given (YtnbkmmmlhlbfoaaGreatDoorTie.lean); close each card by the builder's one call (the guide's Derived/Test/ToyasCard.lean, 'card_holds'). Laid BY PROGRAM, IN A SANDBOX (cutbox-door.mjs). By AI agents, Wed Nov 11 2026. No macro, syntax, notation, axiom, sorry.
-/
import Derived.Test.YtnbkmmmlhlbfoaaGreatDoorRows
import GoSem.ClaimSeven
namespace Go.Proofs.YtnbkmmmlhlbfoaaGreatDoor
namespace Rows

/-- THE TIED CARD OF 'laws.FnAdmit'. -/
def fnAdmitCard : Claim7 := { stood := { row := fnAdmitRow, standIns := [], harness := (true, "05090026636cf85e11aca793fec26405c15f0badd6b9ff3885539309e670379b"), looks := false }, kinds := [], alts := [], laidByText := true, laidKinds := [.data, .pinned], laidTests := true, laidLooks := .later }
def FnAdmitCardSaid : Prop := Claim7.holds Tryz.pinned (.plain (OpenSpec.ofChange fnAdmitSpec)) fnAdmitCard

/-- THE SECOND FORM's CARD OF 'laws.FnAdmit'. -/
def fnAdmitUptoCard : Claim7 := { stood := { row := fnAdmitUptoRow, standIns := [], harness := (true, "05090026636cf85e11aca793fec26405c15f0badd6b9ff3885539309e670379b"), looks := false }, kinds := [], alts := [], laidByText := true, laidKinds := [.data, .pinned], laidTests := true, laidLooks := .later }
def FnAdmitUptoCardSaid : Prop := Claim7.holds Tryz.pinned (.plain (OpenSpec.upto fnAdmitSpec)) fnAdmitUptoCard
end Rows
end Go.Proofs.YtnbkmmmlhlbfoaaGreatDoor
