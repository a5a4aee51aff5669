/-
  DERIVED. GIVEN WITH THE SEED: THE CARDS: each row of YtojeemogabhaoaaGreatDoorRows.lean that lists a variable, with what it lists TIED to the program's text (the seventh form; the later family's looks); each row that meets fmt, with fmt's text TOLD by the authors' own Lean function (tested against real Go, not proved from fmt's source: count such statements apart). THE CARD IS WHAT COUNTS. Prove the row's statement (the work); the ties are given (YtojeemogabhaoaaGreatDoorTie.lean); close each card by the builder's one call (the guide's Derived/Test/ToyasCard.lean, 'card_holds'). Laid BY PROGRAM, IN A SANDBOX (cutbox-door.mjs). By AI agents, Wed Nov 11 2026. No macro, syntax, notation, axiom, sorry.
-/
import Derived.Test.YtojeemogabhaoaaGreatDoorRows
import GoSem.ClaimSeven
namespace Go.Proofs.YtojeemogabhaoaaGreatDoor
namespace Rows

/-- THE TIED CARD OF 'laws.FnExactStateOK'. -/
def fnExactStateOKCard : Claim7 := { stood := { row := fnExactStateOKRow, standIns := [], harness := (true, "b7e785cc5759a25597b4467899b881975d553cf7c3e0d3d456eddfb69c4ddd6d"), looks := false }, kinds := [], alts := [], laidByText := true, laidKinds := [.data, .pinned], laidTests := true, laidLooks := .later }
def FnExactStateOKCardSaid : Prop := Claim7.holds Tryz.pinned (.plain (OpenSpec.ofChange fnExactStateOKSpec)) fnExactStateOKCard

/-- THE TIED CARD OF 'laws.FnExactCountOf'. -/
def fnExactCountOfCard : Claim7 := { stood := { row := fnExactCountOfRow, standIns := [], harness := (true, "b7e785cc5759a25597b4467899b881975d553cf7c3e0d3d456eddfb69c4ddd6d"), looks := false }, kinds := [], alts := [], laidByText := true, laidKinds := [.data, .pinned], laidTests := true, laidLooks := .later }
def FnExactCountOfCardSaid : Prop := Claim7.holds Tryz.pinned (.plain (OpenSpec.ofChange fnExactCountOfSpec)) fnExactCountOfCard

/-- THE TIED CARD OF 'laws.FnExactSetLimit'. -/
def fnExactSetLimitCard : Claim7 := { stood := { row := fnExactSetLimitRow, standIns := [], harness := (true, "b7e785cc5759a25597b4467899b881975d553cf7c3e0d3d456eddfb69c4ddd6d"), looks := false }, kinds := [], alts := [], laidByText := true, laidKinds := [.data, .pinned], laidTests := true, laidLooks := .later }
def FnExactSetLimitCardSaid : Prop := Claim7.holds Tryz.pinned (.plain (OpenSpec.ofChange fnExactSetLimitSpec)) fnExactSetLimitCard

/-- THE TIED CARD OF 'laws.FnExactShards'. -/
def fnExactShardsCard : Claim7 := { stood := { row := fnExactShardsRow, standIns := [], harness := (true, "b7e785cc5759a25597b4467899b881975d553cf7c3e0d3d456eddfb69c4ddd6d"), looks := false }, kinds := [], alts := [], laidByText := true, laidKinds := [.data, .pinned], laidTests := true, laidLooks := .later }
def FnExactShardsCardSaid : Prop := Claim7.holds Tryz.pinned (.plain (OpenSpec.ofChange fnExactShardsSpec)) fnExactShardsCard

/-- THE SECOND FORM's CARD OF 'laws.FnExactStateOK'. -/
def fnExactStateOKUptoCard : Claim7 := { stood := { row := fnExactStateOKUptoRow, standIns := [], harness := (true, "b7e785cc5759a25597b4467899b881975d553cf7c3e0d3d456eddfb69c4ddd6d"), looks := false }, kinds := [], alts := [], laidByText := true, laidKinds := [.data, .pinned], laidTests := true, laidLooks := .later }
def FnExactStateOKUptoCardSaid : Prop := Claim7.holds Tryz.pinned (.plain (OpenSpec.upto fnExactStateOKSpec)) fnExactStateOKUptoCard

/-- THE SECOND FORM's CARD OF 'laws.FnExactCountOf'. -/
def fnExactCountOfUptoCard : Claim7 := { stood := { row := fnExactCountOfUptoRow, standIns := [], harness := (true, "b7e785cc5759a25597b4467899b881975d553cf7c3e0d3d456eddfb69c4ddd6d"), looks := false }, kinds := [], alts := [], laidByText := true, laidKinds := [.data, .pinned], laidTests := true, laidLooks := .later }
def FnExactCountOfUptoCardSaid : Prop := Claim7.holds Tryz.pinned (.plain (OpenSpec.upto fnExactCountOfSpec)) fnExactCountOfUptoCard

/-- THE SECOND FORM's CARD OF 'laws.FnExactSetLimit'. -/
def fnExactSetLimitUptoCard : Claim7 := { stood := { row := fnExactSetLimitUptoRow, standIns := [], harness := (true, "b7e785cc5759a25597b4467899b881975d553cf7c3e0d3d456eddfb69c4ddd6d"), looks := false }, kinds := [], alts := [], laidByText := true, laidKinds := [.data, .pinned], laidTests := true, laidLooks := .later }
def FnExactSetLimitUptoCardSaid : Prop := Claim7.holds Tryz.pinned (.plain (OpenSpec.upto fnExactSetLimitSpec)) fnExactSetLimitUptoCard

/-- THE SECOND FORM's CARD OF 'laws.FnExactShards'. -/
def fnExactShardsUptoCard : Claim7 := { stood := { row := fnExactShardsUptoRow, standIns := [], harness := (true, "b7e785cc5759a25597b4467899b881975d553cf7c3e0d3d456eddfb69c4ddd6d"), looks := false }, kinds := [], alts := [], laidByText := true, laidKinds := [.data, .pinned], laidTests := true, laidLooks := .later }
def FnExactShardsUptoCardSaid : Prop := Claim7.holds Tryz.pinned (.plain (OpenSpec.upto fnExactShardsSpec)) fnExactShardsUptoCard
end Rows
end Go.Proofs.YtojeemogabhaoaaGreatDoor
