import Derived.Test.YtijaojnbbfodfadProg
import Derived.WalkKit
import Derived.LaidEql
import Derived.Stop.Asserts
import Derived.RowKitTokens
import Derived.Test.YtijaojnbbfodfadBase
namespace Go.Proofs.Ytijaojnbbfodfad
open Go.RowKit Go.Extern.Stop Go.Stop Go.Extern

theorem isTypeOf (v : Value) (w : World) : (Extern.ReflectliteType.typeOf #[.iface 96 v]).run Try.prog w = .ok (.iface 123 (.agg #[.pointer (some ⟨0, 96, none⟩)])) w := by kernel_rfl
theorem isComparable (w : World) : ((Extern.ReflectliteType.method fun t => do Extern.Rtype.noPackHeld "Comparable" t; pure (.bool (← typeInfo t).comparable)) #[.agg #[.pointer (some ⟨0, 96, none⟩)]]).run Try.prog w = .ok (.bool true) w := by kernel_rfl
theorem callComparable (w : World) : (callFunc 102 #[.agg #[.pointer (some ⟨0, 96, none⟩)]]).run Try.prog w = .ok (.value (.bool true)) w := by
  rw [@run_callFunc_extern Try.prog 102 _ (Extern.ReflectliteType.method fun t => do Extern.Rtype.noPackHeld "Comparable" t; pure (.bool (← typeInfo t).comparable)) Try.func102 (by kernel_rfl) (by kernel_rfl) (by kernel_rfl) (by kernel_rfl), isComparable]
  rfl
theorem callTypeOf (v : Value) (w : World) : (callFunc 74 #[.iface 96 v]).run Try.prog w = .ok (.value (.iface 123 (.agg #[.pointer (some ⟨0, 96, none⟩)]))) w := by
  rw [@run_callFunc_extern Try.prog 74 _ Extern.ReflectliteType.typeOf Try.func74 (by kernel_rfl) (by kernel_rfl) (by kernel_rfl) (by kernel_rfl), isTypeOf]
  rfl
theorem isMethodComparable (v : Value) (w : World) : (Go.method 267 123 v "Comparable").run Try.prog w = .ok (102, v) w := by kernel_rfl
theorem isComp : (Try.prog.info? 96).map (·.comparable) = some true := by kernel_rfl
theorem noIs (v : Value) (xT : TypeId) (w : World) : (Instr.typeAssert (.iface 96 v) xT 125 true).run Try.prog w = .ok (.tuple #[.nilIface, .bool false]) w := run_typeAssert_lacksB Try.underlying125 (by kernel_rfl) (by kernel_rfl) v xT w
theorem noUnwrap (v : Value) (xT : TypeId) (w : World) : (Instr.typeAssert (.iface 96 v) xT 128 true).run Try.prog w = .ok (.tuple #[.nilIface, .bool false]) w := run_typeAssert_lacksB Try.underlying128 (by kernel_rfl) (by kernel_rfl) v xT w
theorem noUnwraps (v : Value) (xT : TypeId) (w : World) : (Instr.typeAssert (.iface 96 v) xT 129 true).run Try.prog w = .ok (.tuple #[.nilIface, .bool false]) w := run_typeAssert_lacksB Try.underlying129 (by kernel_rfl) (by kernel_rfl) v xT w

theorem run_eql_iface_str {P : Program} (w : World) {t tx : TypeId} {ms : Array (String × TypeId)} (a b : ByteArray)
    (ht : P.underlying t = some (.interface ms)) (hc : (P.info? tx).map (·.comparable) = some true) (hx : P.underlying tx = some .string) :
    (binOp .eql t (.iface tx (.string a)) (.iface tx (.string b))).run P w = .ok (.bool (a == b)) w := by
  obtain ⟨i, hi, hcc⟩ := Option.map_eq_some_iff.1 hc
  have h : ∀ d : Nat, (Op.equalIn (d + 2) t (.iface tx (.string a)) (.iface tx (.string b))).run P w = .ok (a == b) w := fun d => by
    simp [Op.equalIn, run_underlying ht, run_underlying hx, typeInfo, hi, hcc]
  simp only [binOp]
  simp [Op.equal, Op.maxDepth, h 9998]

set_option maxHeartbeats 1000000 in
set_option maxRecDepth 100000 in
theorem is_any (a b : ByteArray) (r : Bool) (hr : (a == b) = r) (w : World) :
    Calls Try.prog 63 #[.iface 96 (.string a), .iface 96 (.string b)] w fun e w' => e = .returned (.bool r) ∧ w' = w := by
  have tT := callTypeOf
  have cT := callComparable
  have mR := isMethodComparable
  have nE := noIs
  have uE := noUnwrap
  have vE := noUnwraps
  have heq : (binOp .eql 63 (.iface 96 (.string a)) (.iface 96 (.string b))).run Try.prog w = .ok (.bool r) w := by
    rw [run_eql_iface_str w a b Try.underlying63 isComp Try.underlying96, hr]
  clear hr
  cases r
  · go_enter Try.func63, Try.ntmps63
    go_wp2
    refine wp_loop_rounds 1 ?_
    rw [rounds_succ]
    go_wp2
    go_ret
    exact ⟨rfl, rfl⟩
  · go_enter Try.func63, Try.ntmps63
    go_wp2
    refine wp_loop_rounds 1 ?_
    rw [rounds_succ]
    go_wp2
    go_ret
    exact ⟨rfl, rfl⟩
end Go.Proofs.Ytijaojnbbfodfad
