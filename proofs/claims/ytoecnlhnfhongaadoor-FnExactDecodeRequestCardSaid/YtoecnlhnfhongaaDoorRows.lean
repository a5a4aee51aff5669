/-
  NARROWER THAN 'FOR EVERY INPUT', by the rows' own cells (each row's printed sentence says how): FnExactEncodeRequest: laid · FnExactDecodeRequest: laid.
  DERIVED. THE GIVEN ROWS OF THIS SEAT. 2 by the template 'for every input the law returns true; each argument reads behind the call as it read before'; 0 by the template 'total and deterministic' (their statements: YtoecnlhnfhongaaDoorTotals.lean).
  GIVEN WITH THE SEED: the statements are not yours to turn. If you find one false, say at which input.
  Laid BY PROGRAM, IN A SANDBOX (cutbox-rows.mjs): the forced cells as the released guide's own fill.sh prints them over the translation 7848b849e698f2fb… (all of the seat's roots in one cut). By AI agents, Wed Nov 11 2026. No macro, syntax, notation, axiom, sorry.
-/
import Derived.Test.YtoecnlhnfhongaaDoorChecked
import GoSem.Claim
import GoSem.ClaimJoined
import GoSem.ClaimMapViews
import Derived.JoinedTies
import Derived.KernelRfl
namespace Go.Proofs.YtoecnlhnfhongaaDoor
/- THE CELL 'sum', in the pinned program and in every row, IS THE sha256 OF THE DUMP (.gsa) THAT YtoecnlhnfhongaaDoorProg.lean LOADS. Nothing in Lean hashes anything: it is a label: what it is worth is what the hold of that sum in a sandbox is worth. -/
noncomputable def Tryd.pinned : Pinned := { name := "ytoecnlhnfhongaadoor", sum := "7848b849e698f2fb557239a83f19bddf3c347a516e2a70f39aa808c16e324453", checked := Tryd.checked }
namespace Rows
def none {H : Type} : Left H := { results := [], args := [] }

/- WHAT THE LISTED PACKAGE-LEVEL VARIABLES READ AS WHEN THE CALL BEGINS. Each datum BY PROGRAM (the guide's laid-datum.mjs) off the statement by which the dump's own 'gosem.cut.vars' lays the variable. In a bare row this is a premise. The card (YtoecnlhnfhongaaDoorCards.lean) ties it to the program's text. -/
def laid_loop_example_s02176_impl_shapes {H : Type} : DataW H := .agg [.agg [.lit (.bool false), .lit (.bool false), .lit (.bool false), .lit (.bool false), .lit (.bool false)], .agg [.lit (.bool true), .lit (.bool true), .lit (.bool false), .lit (.bool false), .lit (.bool true)], .agg [.lit (.bool false), .lit (.bool false), .lit (.bool false), .lit (.bool true), .lit (.bool true)], .agg [.lit (.bool true), .lit (.bool false), .lit (.bool true), .lit (.bool true), .lit (.bool true)], .agg [.lit (.bool false), .lit (.bool false), .lit (.bool false), .lit (.bool false), .lit (.bool true)], .agg [.lit (.bool true), .lit (.bool false), .lit (.bool true), .lit (.bool false), .lit (.bool false)], .agg [.lit (.bool true), .lit (.bool false), .lit (.bool false), .lit (.bool false), .lit (.bool false)]]

/-- 'laws.FnExactEncodeRequest': WHATEVER THE INPUT: true; the input reads as it did. -/
def fnExactEncodeRequestSpec : ChangeSpec := { name := "fnExactEncodeRequest", vars := ["loop.example/s02176/impl.shapes"], fn := fun _ => fun
  | [d, g1] => { results := [.lit (.bool true)], args := [d], vars := [g1] }
  | _ => none }
def fnExactEncodeRequestRow : OpenClaim := { program := "ytoecnlhnfhongaadoor", sum := "7848b849e698f2fb557239a83f19bddf3c347a516e2a70f39aa808c16e324453", func := "loop.example/s02176/laws.FnExactEncodeRequest", spec := "fnExactEncodeRequest", inPlace := ["internal/abi.NoEscape", "internal/bytealg.MakeNoZero"], unfollowed := true, recurses := true, named := ["loop.example/s02176/impl.shapes"], apart := false, laid := [("loop.example/s02176/impl.shapes", laid_loop_example_s02176_impl_shapes)] }
def FnExactEncodeRequestSaid : Prop := fnExactEncodeRequestRow.holds Tryd.pinned (OpenSpec.ofChange fnExactEncodeRequestSpec)

/-- ITS FALSE NEIGHBOUR: 'it returns false'. Refute it at one input. -/
def fnExactEncodeRequestWrong : ChangeSpec := { name := "fnExactEncodeRequest", vars := ["loop.example/s02176/impl.shapes"], fn := fun _ => fun
  | [d, g1] => { results := [.lit (.bool false)], args := [d], vars := [g1] }
  | _ => none }
def FnExactEncodeRequestWrongFalsely : Prop := fnExactEncodeRequestRow.holds Tryd.pinned (OpenSpec.ofChange fnExactEncodeRequestWrong)

/-- 'laws.FnExactDecodeRequest': WHATEVER THE INPUT: true; the input reads as it did. -/
def fnExactDecodeRequestSpec : ChangeSpec := { name := "fnExactDecodeRequest", vars := ["loop.example/s02176/impl.shapes"], fn := fun _ => fun
  | [d, g1] => { results := [.lit (.bool true)], args := [d], vars := [g1] }
  | _ => none }
def fnExactDecodeRequestRow : OpenClaim := { program := "ytoecnlhnfhongaadoor", sum := "7848b849e698f2fb557239a83f19bddf3c347a516e2a70f39aa808c16e324453", func := "loop.example/s02176/laws.FnExactDecodeRequest", spec := "fnExactDecodeRequest", inPlace := ["internal/abi.NoEscape", "internal/bytealg.MakeNoZero"], unfollowed := true, recurses := true, named := ["loop.example/s02176/impl.shapes"], apart := false, laid := [("loop.example/s02176/impl.shapes", laid_loop_example_s02176_impl_shapes)] }
def FnExactDecodeRequestSaid : Prop := fnExactDecodeRequestRow.holds Tryd.pinned (OpenSpec.ofChange fnExactDecodeRequestSpec)

/-- ITS FALSE NEIGHBOUR: 'it returns false'. Refute it at one input. -/
def fnExactDecodeRequestWrong : ChangeSpec := { name := "fnExactDecodeRequest", vars := ["loop.example/s02176/impl.shapes"], fn := fun _ => fun
  | [d, g1] => { results := [.lit (.bool false)], args := [d], vars := [g1] }
  | _ => none }
def FnExactDecodeRequestWrongFalsely : Prop := fnExactDecodeRequestRow.holds Tryd.pinned (OpenSpec.ofChange fnExactDecodeRequestWrong)

/- THE SECOND FORM. 'bulk': how many values and letters a reading holds, each counted each time it is reached (what is shared counts as often as it is met; a slice's spare places count too). A statement '..UptoSaid' is the law's where the arguments, and the package variables that the reading takes, are together of bulk at most 1048576: NARROWER than '..Said'. Prove '..Said' where nothing that the law and all that it calls make is longer than what came in: it says more and counts as full. Else prove '..UptoSaid'. A law counts once. -/
mutual
def uptoBulk {H : Type} : DataW H → Nat
  | .lit (.string bytes) => bytes.length + 1
  | .lit _ => 1
  | .nil => 1
  | .ptr d => uptoBulk d + 1
  | .slice elems spare => uptoBulkAll elems + uptoBulkAll spare + 1
  | .agg parts => uptoBulkAll parts + 1
  | .iface _ d => uptoBulk d + 1
  | .map entries => uptoBulkEntries entries + 1
  | .held _ => 1
def uptoBulkAll {H : Type} : List (DataW H) → Nat
  | [] => 0
  | d :: r => uptoBulk d + uptoBulkAll r
def uptoBulkEntries {H : Type} : List (Lit × DataW H) → Nat
  | [] => 0
  | x :: r => uptoBulkEntry x + uptoBulkEntries r
def uptoBulkEntry {H : Type} : Lit × DataW H → Nat
  | (.string bytes, d) => bytes.length + uptoBulk d + 1
  | (_, d) => uptoBulk d + 1
 end
def uptoSmall : (H : Type) → List (DataW H) → Bool := fun _ ds => decide (uptoBulkAll ds ≤ 1048576)
def OpenSpec.upto (s : _root_.Go.ChangeSpec) : _root_.Go.OpenSpec := { _root_.Go.OpenSpec.ofChange s with cond := some uptoSmall }

/-- 'laws.FnExactEncodeRequest', WHERE WHAT IT READS IS OF BULK AT MOST 1048576: true; the input reads as it did. -/
def fnExactEncodeRequestUptoRow : OpenClaim := { program := "ytoecnlhnfhongaadoor", sum := "7848b849e698f2fb557239a83f19bddf3c347a516e2a70f39aa808c16e324453", func := "loop.example/s02176/laws.FnExactEncodeRequest", spec := "fnExactEncodeRequest", inPlace := ["internal/abi.NoEscape", "internal/bytealg.MakeNoZero"], unfollowed := true, recurses := true, named := ["loop.example/s02176/impl.shapes"], apart := false, laid := [("loop.example/s02176/impl.shapes", laid_loop_example_s02176_impl_shapes)], narrowed := true }
def FnExactEncodeRequestUptoSaid : Prop := fnExactEncodeRequestUptoRow.holds Tryd.pinned (OpenSpec.upto fnExactEncodeRequestSpec)

/-- 'laws.FnExactDecodeRequest', WHERE WHAT IT READS IS OF BULK AT MOST 1048576: true; the input reads as it did. -/
def fnExactDecodeRequestUptoRow : OpenClaim := { program := "ytoecnlhnfhongaadoor", sum := "7848b849e698f2fb557239a83f19bddf3c347a516e2a70f39aa808c16e324453", func := "loop.example/s02176/laws.FnExactDecodeRequest", spec := "fnExactDecodeRequest", inPlace := ["internal/abi.NoEscape", "internal/bytealg.MakeNoZero"], unfollowed := true, recurses := true, named := ["loop.example/s02176/impl.shapes"], apart := false, laid := [("loop.example/s02176/impl.shapes", laid_loop_example_s02176_impl_shapes)], narrowed := true }
def FnExactDecodeRequestUptoSaid : Prop := fnExactDecodeRequestUptoRow.holds Tryd.pinned (OpenSpec.upto fnExactDecodeRequestSpec)

end Rows
end Go.Proofs.YtoecnlhnfhongaaDoor
