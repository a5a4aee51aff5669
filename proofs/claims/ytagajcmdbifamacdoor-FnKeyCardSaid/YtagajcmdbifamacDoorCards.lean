/-
  DERIVED. GIVEN WITH THE SEED: THE CARDS: each row of YtagajcmdbifamacDoorRows.lean that lists a variable, with what it lists TIED to the program's text (the seventh form; the later family's looks); each row that meets fmt, with fmt's text TOLD by the authors' own Lean function (tested against real Go, not proved from fmt's source: count such statements apart). THE CARD IS WHAT COUNTS. Prove the row's statement (the work); the ties are given (YtagajcmdbifamacDoorTie.lean); close each card by the builder's one call (the guide's Derived/Test/ToyasCard.lean, 'card_holds'). Laid BY PROGRAM, IN A SANDBOX (cutbox-door.mjs). By AI agents, Wed Nov 11 2026. No macro, syntax, notation, axiom, sorry.
-/
import Derived.Test.YtagajcmdbifamacDoorRows
import GoSem.ClaimSeven
namespace Go.Proofs.YtagajcmdbifamacDoor
namespace Rows

/-- THE TIED CARD OF 'laws.FnExactEncodeKey'. -/
def fnExactEncodeKeyCard : Claim7 := { stood := { row := fnExactEncodeKeyRow, standIns := [], harness := (true, "cc11a5731ec385d90efed350dce7d94bab4bede1e21f38ddebfa307e7b955ef8"), looks := false }, kinds := [], alts := [], laidByText := true, laidKinds := [.data, .pinned], laidTests := true, laidLooks := .later }
def FnExactEncodeKeyCardSaid : Prop := Claim7.holds Tryd.pinned (.plain (OpenSpec.ofChange fnExactEncodeKeySpec)) fnExactEncodeKeyCard

/-- THE TIED CARD OF 'laws.FnKey'. -/
def fnKeyCard : Claim7 := { stood := { row := fnKeyRow, standIns := [], harness := (true, "cc11a5731ec385d90efed350dce7d94bab4bede1e21f38ddebfa307e7b955ef8"), looks := false }, kinds := [], alts := [], laidByText := true, laidKinds := [.data, .pinned], laidTests := true, laidLooks := .later }
def FnKeyCardSaid : Prop := Claim7.holds Tryd.pinned (.plain (OpenSpec.ofChange fnKeySpec)) fnKeyCard

/-- THE TIED CARD OF 'laws.FnExactMetric'. -/
def fnExactMetricCard : Claim7 := { stood := { row := fnExactMetricRow, standIns := [], harness := (true, "cc11a5731ec385d90efed350dce7d94bab4bede1e21f38ddebfa307e7b955ef8"), looks := false }, kinds := [], alts := [], laidByText := true, laidKinds := [.data, .pinned], laidTests := true, laidLooks := .later }
def FnExactMetricCardSaid : Prop := Claim7.holds Tryd.pinned (.plain (OpenSpec.ofChange fnExactMetricSpec)) fnExactMetricCard

/-- THE SECOND FORM's CARD OF 'laws.FnExactEncodeKey'. -/
def fnExactEncodeKeyUptoCard : Claim7 := { stood := { row := fnExactEncodeKeyUptoRow, standIns := [], harness := (true, "cc11a5731ec385d90efed350dce7d94bab4bede1e21f38ddebfa307e7b955ef8"), looks := false }, kinds := [], alts := [], laidByText := true, laidKinds := [.data, .pinned], laidTests := true, laidLooks := .later }
def FnExactEncodeKeyUptoCardSaid : Prop := Claim7.holds Tryd.pinned (.plain (OpenSpec.upto fnExactEncodeKeySpec)) fnExactEncodeKeyUptoCard

/-- THE SECOND FORM's CARD OF 'laws.FnKey'. -/
def fnKeyUptoCard : Claim7 := { stood := { row := fnKeyUptoRow, standIns := [], harness := (true, "cc11a5731ec385d90efed350dce7d94bab4bede1e21f38ddebfa307e7b955ef8"), looks := false }, kinds := [], alts := [], laidByText := true, laidKinds := [.data, .pinned], laidTests := true, laidLooks := .later }
def FnKeyUptoCardSaid : Prop := Claim7.holds Tryd.pinned (.plain (OpenSpec.upto fnKeySpec)) fnKeyUptoCard

/-- THE SECOND FORM's CARD OF 'laws.FnExactMetric'. -/
def fnExactMetricUptoCard : Claim7 := { stood := { row := fnExactMetricUptoRow, standIns := [], harness := (true, "cc11a5731ec385d90efed350dce7d94bab4bede1e21f38ddebfa307e7b955ef8"), looks := false }, kinds := [], alts := [], laidByText := true, laidKinds := [.data, .pinned], laidTests := true, laidLooks := .later }
def FnExactMetricUptoCardSaid : Prop := Claim7.holds Tryd.pinned (.plain (OpenSpec.upto fnExactMetricSpec)) fnExactMetricUptoCard
end Rows
end Go.Proofs.YtagajcmdbifamacDoor
