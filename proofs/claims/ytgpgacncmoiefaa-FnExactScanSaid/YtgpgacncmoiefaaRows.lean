/-
  No cell of these rows narrows 'for every input' (looked for: loops, veiled, ifaces, maps, wideKeys, modest, calm, conditions, laid).
  DERIVED. THE GIVEN ROWS OF THIS SEAT. 6 by the template 'for every input the law returns true; each argument reads behind the call as it read before'; 0 by the template 'total and deterministic' (their statements: YtgpgacncmoiefaaTotals.lean).
  GIVEN WITH THE SEED: the statements are not yours to turn. If you find one false, say at which input.
  Laid BY PROGRAM, IN A SANDBOX (cutbox-rows.mjs): the forced cells as the released guide's own fill.sh prints them over the translation 80fbce5a1845bf75… (all of the seat's roots in one cut). By AI agents, Wed Nov 11 2026. No macro, syntax, notation, axiom, sorry.
-/
import Derived.Test.YtgpgacncmoiefaaChecked
import GoSem.Claim
import GoSem.ClaimJoined
import GoSem.ClaimMapViews
import Derived.JoinedTies
import Derived.KernelRfl
namespace Go.Proofs.Ytgpgacncmoiefaa
/- THE CELL 'sum', in the pinned program and in every row, IS THE sha256 OF THE DUMP (.gsa) THAT YtgpgacncmoiefaaProg.lean LOADS. Nothing in Lean hashes anything: it is a label: what it is worth is what the hold of that sum in a sandbox is worth. -/
noncomputable def Try.pinned : Pinned := { name := "ytgpgacncmoiefaa", sum := "80fbce5a1845bf7594df2c69ab97beadbeb24a5ca36804c34a81cc1159889536", checked := Try.checked }
namespace Rows
def none {H : Type} : Left H := { results := [], args := [] }

/-- 'laws.FnExactCrc32c': WHATEVER THE INPUT: true; the input reads as it did. -/
def fnExactCrc32cSpec : ChangeSpec := { name := "fnExactCrc32c", fn := fun _ => fun
  | [d] => { results := [.lit (.bool true)], args := [d] }
  | _ => none }
def fnExactCrc32cRow : OpenClaim := { program := "ytgpgacncmoiefaa", sum := "80fbce5a1845bf7594df2c69ab97beadbeb24a5ca36804c34a81cc1159889536", func := "loop.example/s02176/laws.FnExactCrc32c", spec := "fnExactCrc32c", apart := false }
def FnExactCrc32cSaid : Prop := fnExactCrc32cRow.holds Try.pinned (OpenSpec.ofChange fnExactCrc32cSpec)

/-- ITS FALSE NEIGHBOUR: 'it returns false'. Refute it at one input. -/
def fnExactCrc32cWrong : ChangeSpec := { name := "fnExactCrc32c", fn := fun _ => fun
  | [d] => { results := [.lit (.bool false)], args := [d] }
  | _ => none }
def FnExactCrc32cWrongFalsely : Prop := fnExactCrc32cRow.holds Try.pinned (OpenSpec.ofChange fnExactCrc32cWrong)

/-- 'laws.FnExactFrame': WHATEVER THE INPUT: true; the input reads as it did. -/
def fnExactFrameSpec : ChangeSpec := { name := "fnExactFrame", fn := fun _ => fun
  | [d] => { results := [.lit (.bool true)], args := [d] }
  | _ => none }
def fnExactFrameRow : OpenClaim := { program := "ytgpgacncmoiefaa", sum := "80fbce5a1845bf7594df2c69ab97beadbeb24a5ca36804c34a81cc1159889536", func := "loop.example/s02176/laws.FnExactFrame", spec := "fnExactFrame", apart := false }
def FnExactFrameSaid : Prop := fnExactFrameRow.holds Try.pinned (OpenSpec.ofChange fnExactFrameSpec)

/-- ITS FALSE NEIGHBOUR: 'it returns false'. Refute it at one input. -/
def fnExactFrameWrong : ChangeSpec := { name := "fnExactFrame", fn := fun _ => fun
  | [d] => { results := [.lit (.bool false)], args := [d] }
  | _ => none }
def FnExactFrameWrongFalsely : Prop := fnExactFrameRow.holds Try.pinned (OpenSpec.ofChange fnExactFrameWrong)

/-- 'laws.FnExactScan': WHATEVER THE INPUT: true; the input reads as it did. -/
def fnExactScanSpec : ChangeSpec := { name := "fnExactScan", fn := fun _ => fun
  | [d] => { results := [.lit (.bool true)], args := [d] }
  | _ => none }
def fnExactScanRow : OpenClaim := { program := "ytgpgacncmoiefaa", sum := "80fbce5a1845bf7594df2c69ab97beadbeb24a5ca36804c34a81cc1159889536", func := "loop.example/s02176/laws.FnExactScan", spec := "fnExactScan", unfollowed := true, recurses := true, apart := false }
def FnExactScanSaid : Prop := fnExactScanRow.holds Try.pinned (OpenSpec.ofChange fnExactScanSpec)

/-- ITS FALSE NEIGHBOUR: 'it returns false'. Refute it at one input. -/
def fnExactScanWrong : ChangeSpec := { name := "fnExactScan", fn := fun _ => fun
  | [d] => { results := [.lit (.bool false)], args := [d] }
  | _ => none }
def FnExactScanWrongFalsely : Prop := fnExactScanRow.holds Try.pinned (OpenSpec.ofChange fnExactScanWrong)

/-- 'laws.FnExactEncodeBatch': WHATEVER THE INPUT: true; the input reads as it did. -/
def fnExactEncodeBatchSpec : ChangeSpec := { name := "fnExactEncodeBatch", fn := fun _ => fun
  | [d] => { results := [.lit (.bool true)], args := [d] }
  | _ => none }
def fnExactEncodeBatchRow : OpenClaim := { program := "ytgpgacncmoiefaa", sum := "80fbce5a1845bf7594df2c69ab97beadbeb24a5ca36804c34a81cc1159889536", func := "loop.example/s02176/laws.FnExactEncodeBatch", spec := "fnExactEncodeBatch", inPlace := ["internal/abi.NoEscape", "internal/bytealg.MakeNoZero"], unfollowed := true, recurses := true, apart := false }
def FnExactEncodeBatchSaid : Prop := fnExactEncodeBatchRow.holds Try.pinned (OpenSpec.ofChange fnExactEncodeBatchSpec)

/-- ITS FALSE NEIGHBOUR: 'it returns false'. Refute it at one input. -/
def fnExactEncodeBatchWrong : ChangeSpec := { name := "fnExactEncodeBatch", fn := fun _ => fun
  | [d] => { results := [.lit (.bool false)], args := [d] }
  | _ => none }
def FnExactEncodeBatchWrongFalsely : Prop := fnExactEncodeBatchRow.holds Try.pinned (OpenSpec.ofChange fnExactEncodeBatchWrong)

/-- 'laws.FnExactDecodeBatch': WHATEVER THE INPUT: true; the input reads as it did. -/
def fnExactDecodeBatchSpec : ChangeSpec := { name := "fnExactDecodeBatch", fn := fun _ => fun
  | [d] => { results := [.lit (.bool true)], args := [d] }
  | _ => none }
def fnExactDecodeBatchRow : OpenClaim := { program := "ytgpgacncmoiefaa", sum := "80fbce5a1845bf7594df2c69ab97beadbeb24a5ca36804c34a81cc1159889536", func := "loop.example/s02176/laws.FnExactDecodeBatch", spec := "fnExactDecodeBatch", inPlace := ["internal/abi.NoEscape", "internal/bytealg.MakeNoZero"], unfollowed := true, recurses := true, apart := false }
def FnExactDecodeBatchSaid : Prop := fnExactDecodeBatchRow.holds Try.pinned (OpenSpec.ofChange fnExactDecodeBatchSpec)

/-- ITS FALSE NEIGHBOUR: 'it returns false'. Refute it at one input. -/
def fnExactDecodeBatchWrong : ChangeSpec := { name := "fnExactDecodeBatch", fn := fun _ => fun
  | [d] => { results := [.lit (.bool false)], args := [d] }
  | _ => none }
def FnExactDecodeBatchWrongFalsely : Prop := fnExactDecodeBatchRow.holds Try.pinned (OpenSpec.ofChange fnExactDecodeBatchWrong)

/-- 'laws.FnExactEncodeState': WHATEVER THE INPUT: true; the input reads as it did. -/
def fnExactEncodeStateSpec : ChangeSpec := { name := "fnExactEncodeState", fn := fun _ => fun
  | [d1, d2] => { results := [.lit (.bool true)], args := [d1, d2] }
  | _ => none }
def fnExactEncodeStateRow : OpenClaim := { program := "ytgpgacncmoiefaa", sum := "80fbce5a1845bf7594df2c69ab97beadbeb24a5ca36804c34a81cc1159889536", func := "loop.example/s02176/laws.FnExactEncodeState", spec := "fnExactEncodeState", inPlace := ["internal/abi.NoEscape", "internal/bytealg.MakeNoZero"], apart := false }
def FnExactEncodeStateSaid : Prop := fnExactEncodeStateRow.holds Try.pinned (OpenSpec.ofChange fnExactEncodeStateSpec)

/-- ITS FALSE NEIGHBOUR: 'it returns false'. Refute it at one input. -/
def fnExactEncodeStateWrong : ChangeSpec := { name := "fnExactEncodeState", fn := fun _ => fun
  | [d1, d2] => { results := [.lit (.bool false)], args := [d1, d2] }
  | _ => none }
def FnExactEncodeStateWrongFalsely : Prop := fnExactEncodeStateRow.holds Try.pinned (OpenSpec.ofChange fnExactEncodeStateWrong)

/- THE SECOND FORM. 'bulk': how many values and letters a reading holds, each counted each time it is reached (what is shared counts as often as it is met; a slice's spare places count too). A statement '..UptoSaid' is the law's where the arguments, and the package variables that the reading takes, are together of bulk at most 1048576: NARROWER than '..Said'. Prove '..Said' where nothing that the law and all that it calls make is longer than what came in: it says more and counts as full. Else prove '..UptoSaid'. A law counts once. -/
mutual
def uptoBulk {H : Type} : DataW H → Nat
  | .lit (.string bytes) => bytes.length + 1
  | .lit _ => 1
  | .nil => 1
  | .ptr d => uptoBulk d + 1
  | .slice elems spare => uptoBulkAll elems + uptoBulkAll spare + 1
  | .agg parts => uptoBulkAll parts + 1
  | .iface _ d => uptoBulk d + 1
  | .map entries => uptoBulkEntries entries + 1
  | .held _ => 1
def uptoBulkAll {H : Type} : List (DataW H) → Nat
  | [] => 0
  | d :: r => uptoBulk d + uptoBulkAll r
def uptoBulkEntries {H : Type} : List (Lit × DataW H) → Nat
  | [] => 0
  | x :: r => uptoBulkEntry x + uptoBulkEntries r
def uptoBulkEntry {H : Type} : Lit × DataW H → Nat
  | (.string bytes, d) => bytes.length + uptoBulk d + 1
  | (_, d) => uptoBulk d + 1
 end
def uptoSmall : (H : Type) → List (DataW H) → Bool := fun _ ds => decide (uptoBulkAll ds ≤ 1048576)
def OpenSpec.upto (s : _root_.Go.ChangeSpec) : _root_.Go.OpenSpec := { _root_.Go.OpenSpec.ofChange s with cond := some uptoSmall }

/-- 'laws.FnExactCrc32c', WHERE WHAT IT READS IS OF BULK AT MOST 1048576: true; the input reads as it did. -/
def fnExactCrc32cUptoRow : OpenClaim := { program := "ytgpgacncmoiefaa", sum := "80fbce5a1845bf7594df2c69ab97beadbeb24a5ca36804c34a81cc1159889536", func := "loop.example/s02176/laws.FnExactCrc32c", spec := "fnExactCrc32c", apart := false, narrowed := true }
def FnExactCrc32cUptoSaid : Prop := fnExactCrc32cUptoRow.holds Try.pinned (OpenSpec.upto fnExactCrc32cSpec)

/-- 'laws.FnExactFrame', WHERE WHAT IT READS IS OF BULK AT MOST 1048576: true; the input reads as it did. -/
def fnExactFrameUptoRow : OpenClaim := { program := "ytgpgacncmoiefaa", sum := "80fbce5a1845bf7594df2c69ab97beadbeb24a5ca36804c34a81cc1159889536", func := "loop.example/s02176/laws.FnExactFrame", spec := "fnExactFrame", apart := false, narrowed := true }
def FnExactFrameUptoSaid : Prop := fnExactFrameUptoRow.holds Try.pinned (OpenSpec.upto fnExactFrameSpec)

/-- 'laws.FnExactScan', WHERE WHAT IT READS IS OF BULK AT MOST 1048576: true; the input reads as it did. -/
def fnExactScanUptoRow : OpenClaim := { program := "ytgpgacncmoiefaa", sum := "80fbce5a1845bf7594df2c69ab97beadbeb24a5ca36804c34a81cc1159889536", func := "loop.example/s02176/laws.FnExactScan", spec := "fnExactScan", unfollowed := true, recurses := true, apart := false, narrowed := true }
def FnExactScanUptoSaid : Prop := fnExactScanUptoRow.holds Try.pinned (OpenSpec.upto fnExactScanSpec)

/-- 'laws.FnExactEncodeBatch', WHERE WHAT IT READS IS OF BULK AT MOST 1048576: true; the input reads as it did. -/
def fnExactEncodeBatchUptoRow : OpenClaim := { program := "ytgpgacncmoiefaa", sum := "80fbce5a1845bf7594df2c69ab97beadbeb24a5ca36804c34a81cc1159889536", func := "loop.example/s02176/laws.FnExactEncodeBatch", spec := "fnExactEncodeBatch", inPlace := ["internal/abi.NoEscape", "internal/bytealg.MakeNoZero"], unfollowed := true, recurses := true, apart := false, narrowed := true }
def FnExactEncodeBatchUptoSaid : Prop := fnExactEncodeBatchUptoRow.holds Try.pinned (OpenSpec.upto fnExactEncodeBatchSpec)

/-- 'laws.FnExactDecodeBatch', WHERE WHAT IT READS IS OF BULK AT MOST 1048576: true; the input reads as it did. -/
def fnExactDecodeBatchUptoRow : OpenClaim := { program := "ytgpgacncmoiefaa", sum := "80fbce5a1845bf7594df2c69ab97beadbeb24a5ca36804c34a81cc1159889536", func := "loop.example/s02176/laws.FnExactDecodeBatch", spec := "fnExactDecodeBatch", inPlace := ["internal/abi.NoEscape", "internal/bytealg.MakeNoZero"], unfollowed := true, recurses := true, apart := false, narrowed := true }
def FnExactDecodeBatchUptoSaid : Prop := fnExactDecodeBatchUptoRow.holds Try.pinned (OpenSpec.upto fnExactDecodeBatchSpec)

/-- 'laws.FnExactEncodeState', WHERE WHAT IT READS IS OF BULK AT MOST 1048576: true; the input reads as it did. -/
def fnExactEncodeStateUptoRow : OpenClaim := { program := "ytgpgacncmoiefaa", sum := "80fbce5a1845bf7594df2c69ab97beadbeb24a5ca36804c34a81cc1159889536", func := "loop.example/s02176/laws.FnExactEncodeState", spec := "fnExactEncodeState", inPlace := ["internal/abi.NoEscape", "internal/bytealg.MakeNoZero"], apart := false, narrowed := true }
def FnExactEncodeStateUptoSaid : Prop := fnExactEncodeStateUptoRow.holds Try.pinned (OpenSpec.upto fnExactEncodeStateSpec)

end Rows
end Go.Proofs.Ytgpgacncmoiefaa
