/-
  NARROWER THAN 'FOR EVERY INPUT', by the rows' own cells (each row's printed sentence says how): FnExactCanon: laid · FnExactEncodeKey: laid · FnExactDecodeKey: laid · FnExactMetric: laid · FnKey: laid.
  DERIVED. THE GIVEN ROWS OF THIS SEAT. 5 by the template 'for every input the law returns true; each argument reads behind the call as it read before'; 0 by the template 'total and deterministic' (their statements: YteohobkigjmjlaaDoorTotals.lean).
  GIVEN WITH THE SEED: the statements are not yours to turn. If you find one false, say at which input.
  Laid BY PROGRAM, IN A SANDBOX (cutbox-rows.mjs): the forced cells as the released guide's own fill.sh prints them over the translation 286b93a026af3cdf… (all of the seat's roots in one cut). By AI agents, Wed Nov 11 2026. No macro, syntax, notation, axiom, sorry.
-/
import Derived.Test.YteohobkigjmjlaaDoorChecked
import GoSem.PinnedTables
import GoSem.Claim
import GoSem.ClaimJoined
import GoSem.ClaimMapViews
import Derived.JoinedTies
import Derived.KernelRfl
namespace Go.Proofs.YteohobkigjmjlaaDoor
/- THE CELL 'sum', in the pinned program and in every row, IS THE sha256 OF THE DUMP (.gsa) THAT YteohobkigjmjlaaDoorProg.lean LOADS. Nothing in Lean hashes anything: it is a label: what it is worth is what the hold of that sum in a sandbox is worth. -/
noncomputable def Tryd.pinned : Pinned := { name := "yteohobkigjmjlaadoor", sum := "286b93a026af3cdfde3981c456522bd3bd33d12e81ca6cf6b0e7b434bfec9222", checked := Tryd.checked }
namespace Rows
def none {H : Type} : Left H := { results := [], args := [] }

/- WHAT THE LISTED PACKAGE-LEVEL VARIABLES READ AS WHEN THE CALL BEGINS. Each datum BY PROGRAM (the guide's laid-datum.mjs) off the statement by which the dump's own 'gosem.cut.vars' lays the variable. In a bare row this is a premise. The card (YteohobkigjmjlaaDoorCards.lean) ties it to the program's text. -/
def laid_unicode_utf8_acceptRanges {H : Type} : DataW H := .agg [.agg [.lit (.int .u8 128), .lit (.int .u8 191)], .agg [.lit (.int .u8 160), .lit (.int .u8 191)], .agg [.lit (.int .u8 128), .lit (.int .u8 159)], .agg [.lit (.int .u8 144), .lit (.int .u8 191)], .agg [.lit (.int .u8 128), .lit (.int .u8 143)], .agg [.lit (.int .u8 0), .lit (.int .u8 0)], .agg [.lit (.int .u8 0), .lit (.int .u8 0)], .agg [.lit (.int .u8 0), .lit (.int .u8 0)], .agg [.lit (.int .u8 0), .lit (.int .u8 0)], .agg [.lit (.int .u8 0), .lit (.int .u8 0)], .agg [.lit (.int .u8 0), .lit (.int .u8 0)], .agg [.lit (.int .u8 0), .lit (.int .u8 0)], .agg [.lit (.int .u8 0), .lit (.int .u8 0)], .agg [.lit (.int .u8 0), .lit (.int .u8 0)], .agg [.lit (.int .u8 0), .lit (.int .u8 0)], .agg [.lit (.int .u8 0), .lit (.int .u8 0)]]
/-- One of Go's own tables, pinned by name: the form's constant. -/
def laid_unicode_utf8_first : DataW Unit := Go.Pinned.utf8First

/-- 'laws.FnExactCanon': WHATEVER THE INPUT: true; the input reads as it did. -/
def fnExactCanonSpec : ChangeSpec := { name := "fnExactCanon", fn := fun _ => fun
  | [d] => { results := [.lit (.bool true)], args := [d] }
  | _ => none }
def fnExactCanonRow : OpenClaim := { program := "yteohobkigjmjlaadoor", sum := "286b93a026af3cdfde3981c456522bd3bd33d12e81ca6cf6b0e7b434bfec9222", func := "loop.example/s02176/laws.FnExactCanon", spec := "fnExactCanon", unfollowed := true, recurses := true, named := ["unicode/utf8.first", "unicode/utf8.acceptRanges"], apart := false, laid := [("unicode/utf8.acceptRanges", laid_unicode_utf8_acceptRanges), ("unicode/utf8.first", laid_unicode_utf8_first)] }
def FnExactCanonSaid : Prop := fnExactCanonRow.holds Tryd.pinned (OpenSpec.ofChange fnExactCanonSpec)

/-- ITS FALSE NEIGHBOUR: 'it returns false'. Refute it at one input. -/
def fnExactCanonWrong : ChangeSpec := { name := "fnExactCanon", fn := fun _ => fun
  | [d] => { results := [.lit (.bool false)], args := [d] }
  | _ => none }
def FnExactCanonWrongFalsely : Prop := fnExactCanonRow.holds Tryd.pinned (OpenSpec.ofChange fnExactCanonWrong)

/-- 'laws.FnExactEncodeKey': WHATEVER THE INPUT: true; the input reads as it did. -/
def fnExactEncodeKeySpec : ChangeSpec := { name := "fnExactEncodeKey", fn := fun _ => fun
  | [d] => { results := [.lit (.bool true)], args := [d] }
  | _ => none }
def fnExactEncodeKeyRow : OpenClaim := { program := "yteohobkigjmjlaadoor", sum := "286b93a026af3cdfde3981c456522bd3bd33d12e81ca6cf6b0e7b434bfec9222", func := "loop.example/s02176/laws.FnExactEncodeKey", spec := "fnExactEncodeKey", inPlace := ["internal/abi.NoEscape", "internal/bytealg.MakeNoZero"], unfollowed := true, recurses := true, named := ["unicode/utf8.first", "unicode/utf8.acceptRanges"], apart := false, laid := [("unicode/utf8.acceptRanges", laid_unicode_utf8_acceptRanges), ("unicode/utf8.first", laid_unicode_utf8_first)] }
def FnExactEncodeKeySaid : Prop := fnExactEncodeKeyRow.holds Tryd.pinned (OpenSpec.ofChange fnExactEncodeKeySpec)

/-- ITS FALSE NEIGHBOUR: 'it returns false'. Refute it at one input. -/
def fnExactEncodeKeyWrong : ChangeSpec := { name := "fnExactEncodeKey", fn := fun _ => fun
  | [d] => { results := [.lit (.bool false)], args := [d] }
  | _ => none }
def FnExactEncodeKeyWrongFalsely : Prop := fnExactEncodeKeyRow.holds Tryd.pinned (OpenSpec.ofChange fnExactEncodeKeyWrong)

/-- 'laws.FnExactDecodeKey': WHATEVER THE INPUT: true; the input reads as it did. -/
def fnExactDecodeKeySpec : ChangeSpec := { name := "fnExactDecodeKey", fn := fun _ => fun
  | [d] => { results := [.lit (.bool true)], args := [d] }
  | _ => none }
def fnExactDecodeKeyRow : OpenClaim := { program := "yteohobkigjmjlaadoor", sum := "286b93a026af3cdfde3981c456522bd3bd33d12e81ca6cf6b0e7b434bfec9222", func := "loop.example/s02176/laws.FnExactDecodeKey", spec := "fnExactDecodeKey", unfollowed := true, recurses := true, named := ["unicode/utf8.first", "unicode/utf8.acceptRanges"], apart := false, laid := [("unicode/utf8.acceptRanges", laid_unicode_utf8_acceptRanges), ("unicode/utf8.first", laid_unicode_utf8_first)] }
def FnExactDecodeKeySaid : Prop := fnExactDecodeKeyRow.holds Tryd.pinned (OpenSpec.ofChange fnExactDecodeKeySpec)

/-- ITS FALSE NEIGHBOUR: 'it returns false'. Refute it at one input. -/
def fnExactDecodeKeyWrong : ChangeSpec := { name := "fnExactDecodeKey", fn := fun _ => fun
  | [d] => { results := [.lit (.bool false)], args := [d] }
  | _ => none }
def FnExactDecodeKeyWrongFalsely : Prop := fnExactDecodeKeyRow.holds Tryd.pinned (OpenSpec.ofChange fnExactDecodeKeyWrong)

/-- 'laws.FnExactMetric': WHATEVER THE INPUT: true; the input reads as it did. -/
def fnExactMetricSpec : ChangeSpec := { name := "fnExactMetric", fn := fun _ => fun
  | [d] => { results := [.lit (.bool true)], args := [d] }
  | _ => none }
def fnExactMetricRow : OpenClaim := { program := "yteohobkigjmjlaadoor", sum := "286b93a026af3cdfde3981c456522bd3bd33d12e81ca6cf6b0e7b434bfec9222", func := "loop.example/s02176/laws.FnExactMetric", spec := "fnExactMetric", unfollowed := true, recurses := true, named := ["unicode/utf8.first", "unicode/utf8.acceptRanges"], apart := false, laid := [("unicode/utf8.acceptRanges", laid_unicode_utf8_acceptRanges), ("unicode/utf8.first", laid_unicode_utf8_first)] }
def FnExactMetricSaid : Prop := fnExactMetricRow.holds Tryd.pinned (OpenSpec.ofChange fnExactMetricSpec)

/-- ITS FALSE NEIGHBOUR: 'it returns false'. Refute it at one input. -/
def fnExactMetricWrong : ChangeSpec := { name := "fnExactMetric", fn := fun _ => fun
  | [d] => { results := [.lit (.bool false)], args := [d] }
  | _ => none }
def FnExactMetricWrongFalsely : Prop := fnExactMetricRow.holds Tryd.pinned (OpenSpec.ofChange fnExactMetricWrong)

/-- 'laws.FnKey': WHATEVER THE INPUT: true; the input reads as it did. -/
def fnKeySpec : ChangeSpec := { name := "fnKey", fn := fun _ => fun
  | [d1, d2] => { results := [.lit (.bool true)], args := [d1, d2] }
  | _ => none }
def fnKeyRow : OpenClaim := { program := "yteohobkigjmjlaadoor", sum := "286b93a026af3cdfde3981c456522bd3bd33d12e81ca6cf6b0e7b434bfec9222", func := "loop.example/s02176/laws.FnKey", spec := "fnKey", inPlace := ["internal/abi.NoEscape", "internal/bytealg.MakeNoZero"], unfollowed := true, recurses := true, named := ["unicode/utf8.first", "unicode/utf8.acceptRanges"], apart := false, laid := [("unicode/utf8.acceptRanges", laid_unicode_utf8_acceptRanges), ("unicode/utf8.first", laid_unicode_utf8_first)] }
def FnKeySaid : Prop := fnKeyRow.holds Tryd.pinned (OpenSpec.ofChange fnKeySpec)

/-- ITS FALSE NEIGHBOUR: 'it returns false'. Refute it at one input. -/
def fnKeyWrong : ChangeSpec := { name := "fnKey", fn := fun _ => fun
  | [d1, d2] => { results := [.lit (.bool false)], args := [d1, d2] }
  | _ => none }
def FnKeyWrongFalsely : Prop := fnKeyRow.holds Tryd.pinned (OpenSpec.ofChange fnKeyWrong)

/- THE SECOND FORM. 'bulk': how many values and letters a reading holds, each counted each time it is reached (what is shared counts as often as it is met; a slice's spare places count too). A statement '..UptoSaid' is the law's where the arguments, and the package variables that the reading takes, are together of bulk at most 1048576: NARROWER than '..Said'. Prove '..Said' where nothing that the law and all that it calls make is longer than what came in: it says more and counts as full. Else prove '..UptoSaid'. A law counts once. -/
mutual
def uptoBulk {H : Type} : DataW H → Nat
  | .lit (.string bytes) => bytes.length + 1
  | .lit _ => 1
  | .nil => 1
  | .ptr d => uptoBulk d + 1
  | .slice elems spare => uptoBulkAll elems + uptoBulkAll spare + 1
  | .agg parts => uptoBulkAll parts + 1
  | .iface _ d => uptoBulk d + 1
  | .map entries => uptoBulkEntries entries + 1
  | .held _ => 1
def uptoBulkAll {H : Type} : List (DataW H) → Nat
  | [] => 0
  | d :: r => uptoBulk d + uptoBulkAll r
def uptoBulkEntries {H : Type} : List (Lit × DataW H) → Nat
  | [] => 0
  | x :: r => uptoBulkEntry x + uptoBulkEntries r
def uptoBulkEntry {H : Type} : Lit × DataW H → Nat
  | (.string bytes, d) => bytes.length + uptoBulk d + 1
  | (_, d) => uptoBulk d + 1
 end
def uptoSmall : (H : Type) → List (DataW H) → Bool := fun _ ds => decide (uptoBulkAll ds ≤ 1048576)
def OpenSpec.upto (s : _root_.Go.ChangeSpec) : _root_.Go.OpenSpec := { _root_.Go.OpenSpec.ofChange s with cond := some uptoSmall }

/-- 'laws.FnExactCanon', WHERE WHAT IT READS IS OF BULK AT MOST 1048576: true; the input reads as it did. -/
def fnExactCanonUptoRow : OpenClaim := { program := "yteohobkigjmjlaadoor", sum := "286b93a026af3cdfde3981c456522bd3bd33d12e81ca6cf6b0e7b434bfec9222", func := "loop.example/s02176/laws.FnExactCanon", spec := "fnExactCanon", unfollowed := true, recurses := true, named := ["unicode/utf8.first", "unicode/utf8.acceptRanges"], apart := false, laid := [("unicode/utf8.acceptRanges", laid_unicode_utf8_acceptRanges), ("unicode/utf8.first", laid_unicode_utf8_first)], narrowed := true }
def FnExactCanonUptoSaid : Prop := fnExactCanonUptoRow.holds Tryd.pinned (OpenSpec.upto fnExactCanonSpec)

/-- 'laws.FnExactEncodeKey', WHERE WHAT IT READS IS OF BULK AT MOST 1048576: true; the input reads as it did. -/
def fnExactEncodeKeyUptoRow : OpenClaim := { program := "yteohobkigjmjlaadoor", sum := "286b93a026af3cdfde3981c456522bd3bd33d12e81ca6cf6b0e7b434bfec9222", func := "loop.example/s02176/laws.FnExactEncodeKey", spec := "fnExactEncodeKey", inPlace := ["internal/abi.NoEscape", "internal/bytealg.MakeNoZero"], unfollowed := true, recurses := true, named := ["unicode/utf8.first", "unicode/utf8.acceptRanges"], apart := false, laid := [("unicode/utf8.acceptRanges", laid_unicode_utf8_acceptRanges), ("unicode/utf8.first", laid_unicode_utf8_first)], narrowed := true }
def FnExactEncodeKeyUptoSaid : Prop := fnExactEncodeKeyUptoRow.holds Tryd.pinned (OpenSpec.upto fnExactEncodeKeySpec)

/-- 'laws.FnExactDecodeKey', WHERE WHAT IT READS IS OF BULK AT MOST 1048576: true; the input reads as it did. -/
def fnExactDecodeKeyUptoRow : OpenClaim := { program := "yteohobkigjmjlaadoor", sum := "286b93a026af3cdfde3981c456522bd3bd33d12e81ca6cf6b0e7b434bfec9222", func := "loop.example/s02176/laws.FnExactDecodeKey", spec := "fnExactDecodeKey", unfollowed := true, recurses := true, named := ["unicode/utf8.first", "unicode/utf8.acceptRanges"], apart := false, laid := [("unicode/utf8.acceptRanges", laid_unicode_utf8_acceptRanges), ("unicode/utf8.first", laid_unicode_utf8_first)], narrowed := true }
def FnExactDecodeKeyUptoSaid : Prop := fnExactDecodeKeyUptoRow.holds Tryd.pinned (OpenSpec.upto fnExactDecodeKeySpec)

/-- 'laws.FnExactMetric', WHERE WHAT IT READS IS OF BULK AT MOST 1048576: true; the input reads as it did. -/
def fnExactMetricUptoRow : OpenClaim := { program := "yteohobkigjmjlaadoor", sum := "286b93a026af3cdfde3981c456522bd3bd33d12e81ca6cf6b0e7b434bfec9222", func := "loop.example/s02176/laws.FnExactMetric", spec := "fnExactMetric", unfollowed := true, recurses := true, named := ["unicode/utf8.first", "unicode/utf8.acceptRanges"], apart := false, laid := [("unicode/utf8.acceptRanges", laid_unicode_utf8_acceptRanges), ("unicode/utf8.first", laid_unicode_utf8_first)], narrowed := true }
def FnExactMetricUptoSaid : Prop := fnExactMetricUptoRow.holds Tryd.pinned (OpenSpec.upto fnExactMetricSpec)

/-- 'laws.FnKey', WHERE WHAT IT READS IS OF BULK AT MOST 1048576: true; the input reads as it did. -/
def fnKeyUptoRow : OpenClaim := { program := "yteohobkigjmjlaadoor", sum := "286b93a026af3cdfde3981c456522bd3bd33d12e81ca6cf6b0e7b434bfec9222", func := "loop.example/s02176/laws.FnKey", spec := "fnKey", inPlace := ["internal/abi.NoEscape", "internal/bytealg.MakeNoZero"], unfollowed := true, recurses := true, named := ["unicode/utf8.first", "unicode/utf8.acceptRanges"], apart := false, laid := [("unicode/utf8.acceptRanges", laid_unicode_utf8_acceptRanges), ("unicode/utf8.first", laid_unicode_utf8_first)], narrowed := true }
def FnKeyUptoSaid : Prop := fnKeyUptoRow.holds Tryd.pinned (OpenSpec.upto fnKeySpec)

end Rows
end Go.Proofs.YteohobkigjmjlaaDoor
