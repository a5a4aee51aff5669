/-
  DERIVED. GIVEN WITH THE SEED: THE CARDS: each row of YtkmdbpaeeagccaaGreatDoorRows.lean that lists a variable, with what it lists TIED to the program's text (the seventh form; the later family's looks); each row that meets fmt, with fmt's text TOLD by the authors' own Lean function (tested against real Go, not proved from fmt's source: count such statements apart). THE CARD IS WHAT COUNTS. Prove the row's statement (the work); the ties are given (YtkmdbpaeeagccaaGreatDoorTie.lean); close each card by the builder's one call (the guide's Derived/Test/ToyasCard.lean, 'card_holds'). Laid BY PROGRAM, IN A SANDBOX (cutbox-door.mjs). By AI agents, Wed Nov 11 2026. No macro, syntax, notation, axiom, sorry.
-/
import Derived.Test.YtkmdbpaeeagccaaGreatDoorRows
import GoSem.ClaimSeven
namespace Go.Proofs.YtkmdbpaeeagccaaGreatDoor
namespace Rows

/-- THE TIED CARD OF 'laws.FnExactApplyRecs'. -/
def fnExactApplyRecsCard : Claim7 := { stood := { row := fnExactApplyRecsRow, standIns := [], harness := (true, "1161e7d34634944064d99d6ae3b2d23d430e05252d4b954e3709cdf20142b4ff"), looks := true }, kinds := [], alts := [], laidByText := true, laidKinds := [.data, .pinned], laidTests := true, laidLooks := .later }
def FnExactApplyRecsCardSaid : Prop := Claim7.holds Tryz.pinned (.plain (OpenSpec.ofChange fnExactApplyRecsSpec)) fnExactApplyRecsCard

/-- THE SECOND FORM's CARD OF 'laws.FnExactApplyRecs'. -/
def fnExactApplyRecsUptoCard : Claim7 := { stood := { row := fnExactApplyRecsUptoRow, standIns := [], harness := (true, "1161e7d34634944064d99d6ae3b2d23d430e05252d4b954e3709cdf20142b4ff"), looks := true }, kinds := [], alts := [], laidByText := true, laidKinds := [.data, .pinned], laidTests := true, laidLooks := .later }
def FnExactApplyRecsUptoCardSaid : Prop := Claim7.holds Tryz.pinned (.plain (OpenSpec.upto fnExactApplyRecsSpec)) fnExactApplyRecsUptoCard
end Rows
end Go.Proofs.YtkmdbpaeeagccaaGreatDoor
