/-
  No cell of these rows narrows 'for every input' (looked for: loops, veiled, ifaces, maps, wideKeys, modest, calm, conditions, laid).
  DERIVED. THE GIVEN ROWS OF THIS SEAT. 5 by the template 'for every input the law returns true; each argument reads behind the call as it read before'; 0 by the template 'total and deterministic' (their statements: YtndaihhjhllfcaaTotals.lean).
  GIVEN WITH THE SEED: the statements are not yours to turn. If you find one false, say at which input.
  Laid BY PROGRAM, IN A SANDBOX (cutbox-rows.mjs): the forced cells as the released guide's own fill.sh prints them over the translation b66acae0df2350e7… (all of the seat's roots in one cut). By AI agents, Wed Nov 11 2026. No macro, syntax, notation, axiom, sorry.
-/
import Derived.Test.YtndaihhjhllfcaaChecked
import GoSem.Claim
import GoSem.ClaimJoined
import GoSem.ClaimMapViews
import Derived.JoinedTies
import Derived.KernelRfl
namespace Go.Proofs.Ytndaihhjhllfcaa
/- THE CELL 'sum', in the pinned program and in every row, IS THE sha256 OF THE DUMP (.gsa) THAT YtndaihhjhllfcaaProg.lean LOADS. Nothing in Lean hashes anything: it is a label: what it is worth is what the hold of that sum in a sandbox is worth. -/
noncomputable def Try.pinned : Pinned := { name := "ytndaihhjhllfcaa", sum := "b66acae0df2350e7ed13111fc7ae4b1385cae57ef40a6ab02bd31febb3ec2d9c", checked := Try.checked }
namespace Rows
def none {H : Type} : Left H := { results := [], args := [] }

/-- 'laws.FnExactCrc32c': WHATEVER THE INPUT: true; the input reads as it did. -/
def fnExactCrc32cSpec : ChangeSpec := { name := "fnExactCrc32c", fn := fun _ => fun
  | [d] => { results := [.lit (.bool true)], args := [d] }
  | _ => none }
def fnExactCrc32cRow : OpenClaim := { program := "ytndaihhjhllfcaa", sum := "b66acae0df2350e7ed13111fc7ae4b1385cae57ef40a6ab02bd31febb3ec2d9c", func := "loop.example/s02176/laws.FnExactCrc32c", spec := "fnExactCrc32c", apart := false }
def FnExactCrc32cSaid : Prop := fnExactCrc32cRow.holds Try.pinned (OpenSpec.ofChange fnExactCrc32cSpec)

/-- ITS FALSE NEIGHBOUR: 'it returns false'. Refute it at one input. -/
def fnExactCrc32cWrong : ChangeSpec := { name := "fnExactCrc32c", fn := fun _ => fun
  | [d] => { results := [.lit (.bool false)], args := [d] }
  | _ => none }
def FnExactCrc32cWrongFalsely : Prop := fnExactCrc32cRow.holds Try.pinned (OpenSpec.ofChange fnExactCrc32cWrong)

/-- 'laws.FnExactHash64': WHATEVER THE INPUT: true; the input reads as it did. -/
def fnExactHash64Spec : ChangeSpec := { name := "fnExactHash64", fn := fun _ => fun
  | [d] => { results := [.lit (.bool true)], args := [d] }
  | _ => none }
def fnExactHash64Row : OpenClaim := { program := "ytndaihhjhllfcaa", sum := "b66acae0df2350e7ed13111fc7ae4b1385cae57ef40a6ab02bd31febb3ec2d9c", func := "loop.example/s02176/laws.FnExactHash64", spec := "fnExactHash64", apart := false }
def FnExactHash64Said : Prop := fnExactHash64Row.holds Try.pinned (OpenSpec.ofChange fnExactHash64Spec)

/-- ITS FALSE NEIGHBOUR: 'it returns false'. Refute it at one input. -/
def fnExactHash64Wrong : ChangeSpec := { name := "fnExactHash64", fn := fun _ => fun
  | [d] => { results := [.lit (.bool false)], args := [d] }
  | _ => none }
def FnExactHash64WrongFalsely : Prop := fnExactHash64Row.holds Try.pinned (OpenSpec.ofChange fnExactHash64Wrong)

/-- 'laws.FnExactConfigOK': WHATEVER THE INPUT: true; the input reads as it did. -/
def fnExactConfigOKSpec : ChangeSpec := { name := "fnExactConfigOK", fn := fun _ => fun
  | [d] => { results := [.lit (.bool true)], args := [d] }
  | _ => none }
def fnExactConfigOKRow : OpenClaim := { program := "ytndaihhjhllfcaa", sum := "b66acae0df2350e7ed13111fc7ae4b1385cae57ef40a6ab02bd31febb3ec2d9c", func := "loop.example/s02176/laws.FnExactConfigOK", spec := "fnExactConfigOK", apart := false }
def FnExactConfigOKSaid : Prop := fnExactConfigOKRow.holds Try.pinned (OpenSpec.ofChange fnExactConfigOKSpec)

/-- ITS FALSE NEIGHBOUR: 'it returns false'. Refute it at one input. -/
def fnExactConfigOKWrong : ChangeSpec := { name := "fnExactConfigOK", fn := fun _ => fun
  | [d] => { results := [.lit (.bool false)], args := [d] }
  | _ => none }
def FnExactConfigOKWrongFalsely : Prop := fnExactConfigOKRow.holds Try.pinned (OpenSpec.ofChange fnExactConfigOKWrong)

/-- 'laws.FnExactFrame': WHATEVER THE INPUT: true; the input reads as it did. -/
def fnExactFrameSpec : ChangeSpec := { name := "fnExactFrame", fn := fun _ => fun
  | [d] => { results := [.lit (.bool true)], args := [d] }
  | _ => none }
def fnExactFrameRow : OpenClaim := { program := "ytndaihhjhllfcaa", sum := "b66acae0df2350e7ed13111fc7ae4b1385cae57ef40a6ab02bd31febb3ec2d9c", func := "loop.example/s02176/laws.FnExactFrame", spec := "fnExactFrame", apart := false }
def FnExactFrameSaid : Prop := fnExactFrameRow.holds Try.pinned (OpenSpec.ofChange fnExactFrameSpec)

/-- ITS FALSE NEIGHBOUR: 'it returns false'. Refute it at one input. -/
def fnExactFrameWrong : ChangeSpec := { name := "fnExactFrame", fn := fun _ => fun
  | [d] => { results := [.lit (.bool false)], args := [d] }
  | _ => none }
def FnExactFrameWrongFalsely : Prop := fnExactFrameRow.holds Try.pinned (OpenSpec.ofChange fnExactFrameWrong)

/-- 'laws.FnExactParseConfig': WHATEVER THE INPUT: true; the input reads as it did. -/
def fnExactParseConfigSpec : ChangeSpec := { name := "fnExactParseConfig", fn := fun _ => fun
  | [d] => { results := [.lit (.bool true)], args := [d] }
  | _ => none }
def fnExactParseConfigRow : OpenClaim := { program := "ytndaihhjhllfcaa", sum := "b66acae0df2350e7ed13111fc7ae4b1385cae57ef40a6ab02bd31febb3ec2d9c", func := "loop.example/s02176/laws.FnExactParseConfig", spec := "fnExactParseConfig", recurses := true, apart := false }
def FnExactParseConfigSaid : Prop := fnExactParseConfigRow.holds Try.pinned (OpenSpec.ofChange fnExactParseConfigSpec)

/-- ITS FALSE NEIGHBOUR: 'it returns false'. Refute it at one input. -/
def fnExactParseConfigWrong : ChangeSpec := { name := "fnExactParseConfig", fn := fun _ => fun
  | [d] => { results := [.lit (.bool false)], args := [d] }
  | _ => none }
def FnExactParseConfigWrongFalsely : Prop := fnExactParseConfigRow.holds Try.pinned (OpenSpec.ofChange fnExactParseConfigWrong)

/- THE SECOND FORM. 'bulk': how many values and letters a reading holds, each counted each time it is reached (what is shared counts as often as it is met; a slice's spare places count too). A statement '..UptoSaid' is the law's where the arguments, and the package variables that the reading takes, are together of bulk at most 1048576: NARROWER than '..Said'. Prove '..Said' where nothing that the law and all that it calls make is longer than what came in: it says more and counts as full. Else prove '..UptoSaid'. A law counts once. -/
mutual
def uptoBulk {H : Type} : DataW H → Nat
  | .lit (.string bytes) => bytes.length + 1
  | .lit _ => 1
  | .nil => 1
  | .ptr d => uptoBulk d + 1
  | .slice elems spare => uptoBulkAll elems + uptoBulkAll spare + 1
  | .agg parts => uptoBulkAll parts + 1
  | .iface _ d => uptoBulk d + 1
  | .map entries => uptoBulkEntries entries + 1
  | .held _ => 1
def uptoBulkAll {H : Type} : List (DataW H) → Nat
  | [] => 0
  | d :: r => uptoBulk d + uptoBulkAll r
def uptoBulkEntries {H : Type} : List (Lit × DataW H) → Nat
  | [] => 0
  | x :: r => uptoBulkEntry x + uptoBulkEntries r
def uptoBulkEntry {H : Type} : Lit × DataW H → Nat
  | (.string bytes, d) => bytes.length + uptoBulk d + 1
  | (_, d) => uptoBulk d + 1
 end
def uptoSmall : (H : Type) → List (DataW H) → Bool := fun _ ds => decide (uptoBulkAll ds ≤ 1048576)
def OpenSpec.upto (s : _root_.Go.ChangeSpec) : _root_.Go.OpenSpec := { _root_.Go.OpenSpec.ofChange s with cond := some uptoSmall }

/-- 'laws.FnExactCrc32c', WHERE WHAT IT READS IS OF BULK AT MOST 1048576: true; the input reads as it did. -/
def fnExactCrc32cUptoRow : OpenClaim := { program := "ytndaihhjhllfcaa", sum := "b66acae0df2350e7ed13111fc7ae4b1385cae57ef40a6ab02bd31febb3ec2d9c", func := "loop.example/s02176/laws.FnExactCrc32c", spec := "fnExactCrc32c", apart := false, narrowed := true }
def FnExactCrc32cUptoSaid : Prop := fnExactCrc32cUptoRow.holds Try.pinned (OpenSpec.upto fnExactCrc32cSpec)

/-- 'laws.FnExactHash64', WHERE WHAT IT READS IS OF BULK AT MOST 1048576: true; the input reads as it did. -/
def fnExactHash64UptoRow : OpenClaim := { program := "ytndaihhjhllfcaa", sum := "b66acae0df2350e7ed13111fc7ae4b1385cae57ef40a6ab02bd31febb3ec2d9c", func := "loop.example/s02176/laws.FnExactHash64", spec := "fnExactHash64", apart := false, narrowed := true }
def FnExactHash64UptoSaid : Prop := fnExactHash64UptoRow.holds Try.pinned (OpenSpec.upto fnExactHash64Spec)

/-- 'laws.FnExactConfigOK', WHERE WHAT IT READS IS OF BULK AT MOST 1048576: true; the input reads as it did. -/
def fnExactConfigOKUptoRow : OpenClaim := { program := "ytndaihhjhllfcaa", sum := "b66acae0df2350e7ed13111fc7ae4b1385cae57ef40a6ab02bd31febb3ec2d9c", func := "loop.example/s02176/laws.FnExactConfigOK", spec := "fnExactConfigOK", apart := false, narrowed := true }
def FnExactConfigOKUptoSaid : Prop := fnExactConfigOKUptoRow.holds Try.pinned (OpenSpec.upto fnExactConfigOKSpec)

/-- 'laws.FnExactFrame', WHERE WHAT IT READS IS OF BULK AT MOST 1048576: true; the input reads as it did. -/
def fnExactFrameUptoRow : OpenClaim := { program := "ytndaihhjhllfcaa", sum := "b66acae0df2350e7ed13111fc7ae4b1385cae57ef40a6ab02bd31febb3ec2d9c", func := "loop.example/s02176/laws.FnExactFrame", spec := "fnExactFrame", apart := false, narrowed := true }
def FnExactFrameUptoSaid : Prop := fnExactFrameUptoRow.holds Try.pinned (OpenSpec.upto fnExactFrameSpec)

/-- 'laws.FnExactParseConfig', WHERE WHAT IT READS IS OF BULK AT MOST 1048576: true; the input reads as it did. -/
def fnExactParseConfigUptoRow : OpenClaim := { program := "ytndaihhjhllfcaa", sum := "b66acae0df2350e7ed13111fc7ae4b1385cae57ef40a6ab02bd31febb3ec2d9c", func := "loop.example/s02176/laws.FnExactParseConfig", spec := "fnExactParseConfig", recurses := true, apart := false, narrowed := true }
def FnExactParseConfigUptoSaid : Prop := fnExactParseConfigUptoRow.holds Try.pinned (OpenSpec.upto fnExactParseConfigSpec)

end Rows
end Go.Proofs.Ytndaihhjhllfcaa
