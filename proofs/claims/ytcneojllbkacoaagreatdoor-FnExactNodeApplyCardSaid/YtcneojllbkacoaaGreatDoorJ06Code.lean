import Derived.Stop.Asserts
import Derived.RowKitTokens
import Derived.Test.YtcneojllbkacoaaGreatDoorJ01IFits
set_option maxRecDepth 100000
set_option maxHeartbeats 1000000
namespace Go.Proofs.YtcneojllbkacoaaGreatDoor
open Go.RowKit Go.Extern.Stop Go.Stop Go.Extern
theorem aIz (v:Value) (w:World):(Extern.ReflectliteType.typeOf #[.iface 187 v]).run Tryz.prog w=.ok (.iface 281 (.agg #[.pointer (some ⟨6,187,none⟩)])) w:=by kernel_rfl
theorem OW (w : World) : ((Extern.ReflectliteType.method fun t => do Extern.Rtype.noPackHeld "Comparable" t; pure (.bool (← typeInfo t).comparable)) #[.agg #[.pointer (some ⟨6, 187, none⟩)]]).run Tryz.prog w = .ok (.bool true) w := by kernel_rfl
theorem DT (w:World):(callFunc 326 #[.agg #[.pointer (some ⟨6,187,none⟩)]]).run Tryz.prog w=.ok (.value (.bool true)) w:=by
 rw [@run_callFunc_extern Tryz.prog 326 _ (Extern.ReflectliteType.method fun t => do Extern.Rtype.noPackHeld "Comparable" t; pure (.bool (← typeInfo t).comparable)) Tryz.func326 (by kernel_rfl) (by kernel_rfl) (by kernel_rfl) (by kernel_rfl), OW]
 rfl
theorem YC (v:Value) (w:World):(callFunc 163 #[.iface 187 v]).run Tryz.prog w=.ok (.value (.iface 281 (.agg #[.pointer (some ⟨6,187,none⟩)]))) w:=by
 rw [@run_callFunc_extern Tryz.prog 163 _ Extern.ReflectliteType.typeOf Tryz.func163 (by kernel_rfl) (by kernel_rfl) (by kernel_rfl) (by kernel_rfl),aIz];rfl
theorem cV (v : Value) (w : World) : (Go.method 509 281 v "Comparable").run Tryz.prog w = .ok (326, v) w := by kernel_rfl
theorem aOk:(Tryz.prog.info? 187).map (·.comparable)=some true:=by kernel_rfl
theorem aQe (v:Value) (xT:TypeId) (w:World):(Instr.typeAssert (.iface 187 v) xT 283 true).run Tryz.prog w=.ok (.tuple #[.nilIface,.bool false]) w:=run_typeAssert_lacksB Tryz.underlying283 (by kernel_rfl) (by kernel_rfl) v xT w
theorem aJx (v:Value) (xT:TypeId) (w:World):(Instr.typeAssert (.iface 187 v) xT 286 true).run Tryz.prog w=.ok (.tuple #[.nilIface,.bool false]) w:=run_typeAssert_lacksB Tryz.underlying286 (by kernel_rfl) (by kernel_rfl) v xT w
theorem aGe (v:Value) (xT:TypeId) (w:World):(Instr.typeAssert (.iface 187 v) xT 287 true).run Tryz.prog w=.ok (.tuple #[.nilIface,.bool false]) w:=run_typeAssert_lacksB Tryz.underlying287 (by kernel_rfl) (by kernel_rfl) v xT w
theorem wX {P:Program} (w:World){t tx:TypeId}{ms:Array (String×TypeId)} (a b:ByteArray)
 (ht:P.underlying t=some (.interface ms)) (hc:(P.info? tx).map (·.comparable)=some true) (hx:P.underlying tx=some .string):
 (binOp .eql t (.iface tx (.string a)) (.iface tx (.string b))).run P w=.ok (.bool (a==b)) w:=by
 obtain ⟨i,hi,hcc⟩:=Option.map_eq_some_iff.1 hc;have h:∀d:Nat,(Op.equalIn (d+2) t (.iface tx (.string a)) (.iface tx (.string b))).run P w=.ok (a==b) w:=fun d=>by
  simp [Op.equalIn,run_underlying ht,run_underlying hx,typeInfo,hi,hcc]
 simp only [binOp];simp [Op.equal,Op.maxDepth,h 9998]
theorem nD (a b:ByteArray) (r:Bool) (hr:(a==b)=r) (w:World):
 Calls Tryz.prog 122 #[.iface 187 (.string a),.iface 187 (.string b)] w fun e w'=>e=.returned (.bool r)∧w'=w:=by
 have tT:=YC;have cT:=DT;have mR:=cV;have nE:=aQe;have uE:=aJx;have vE:=aGe;have heq:(binOp .eql 130 (.iface 187 (.string a)) (.iface 187 (.string b))).run Tryz.prog w=.ok (.bool r) w:=by
  rw [wX w a b Tryz.underlying130 aOk Tryz.underlying187,hr]
 clear hr;cases r
 ·go_enter Tryz.func122,Tryz.ntmps122;go_wp2;refine wp_loop_rounds 1 ?_;rw [rounds_succ];go_wp2;go_ret;exact ⟨rfl,rfl⟩
 ·go_enter Tryz.func122,Tryz.ntmps122;go_wp2;refine wp_loop_rounds 1 ?_;rw [rounds_succ];go_wp2;go_ret;exact ⟨rfl,rfl⟩
end Go.Proofs.YtcneojllbkacoaaGreatDoor
namespace Go.Proofs.YtcneojllbkacoaaGreatDoor
open Go.RowKit
def aKy:ByteArray:=⟨#[116,104,101,32,100,105,115,107,32,105,115,32,100,111,119,110]⟩
def QR:ByteArray:=⟨#[116,104,101,32,111,112,101,114,97,116,105,111,110,32,102,97,105,108,101,100]⟩
def aKz:ByteArray:=⟨#[116,104,101,32,100,105,115,107,32,105,115,32,102,117,108,108]⟩
def IA:ByteArray:=⟨#[116,104,101,32,102,105,108,101,32,105,115,32,109,105,115,115,105,110,103]⟩
def QQ:ByteArray:=⟨#[116,104,101,32,102,105,108,101,32,101,120,105,115,116,115]⟩
def aPh:ByteArray:=⟨#[116,104,101,32,111,112,101,114,97,116,105,111,110,32,105,115,32,105,109,112,114,111,112,101,114]⟩
def xF (code:Nat):Value:=match code with
 | 0=>.nilIface
 | 1=>.iface 187 (.string aKy)
 | 2=>.iface 187 (.string QR)
 | 3=>.iface 187 (.string aKz)
 | 4=>.iface 187 (.string IA)
 | 5=>.iface 187 (.string QQ)
 | _=>.iface 187 (.string aPh)
theorem aLw (w:World):Calls Tryz.prog 123 #[.nilIface] w fun e w'=>e=.returned (.int .i64 0)∧w'=w:=by
 go_enter Tryz.func123,Tryz.ntmps123;go_wp2;go_ret;exact ⟨rfl,rfl⟩
theorem aDx (w:World):Calls Tryz.prog 123 #[.iface 187 (.string aKy)] w fun e w'=>e=.returned (.int .i64 1)∧w'=w:=by
 go_enter Tryz.func123,Tryz.ntmps123;go_wp2_with fail;refine (nD _ _ true (by kernel_rfl) _).mono ?_;rintro e w' ⟨rfl,rfl⟩;go_wp2;go_ret;exact ⟨rfl,rfl⟩
theorem SO (w:World):Calls Tryz.prog 123 #[.iface 187 (.string QR)] w fun e w'=>e=.returned (.int .i64 2)∧w'=w:=by
 go_enter Tryz.func123,Tryz.ntmps123;go_wp2_with fail;refine (nD _ _ false (by kernel_rfl) _).mono ?_;rintro e w' ⟨rfl,rfl⟩;go_wp2_with fail;refine (nD _ _ true (by kernel_rfl) _).mono ?_;rintro e w' ⟨rfl,rfl⟩;go_wp2;go_ret;exact ⟨rfl,rfl⟩
theorem aDy (w:World):Calls Tryz.prog 123 #[.iface 187 (.string aKz)] w fun e w'=>e=.returned (.int .i64 3)∧w'=w:=by
 go_enter Tryz.func123,Tryz.ntmps123;go_wp2_with fail;refine (nD _ _ false (by kernel_rfl) _).mono ?_;rintro e w' ⟨rfl,rfl⟩;go_wp2_with fail;refine (nD _ _ false (by kernel_rfl) _).mono ?_;rintro e w' ⟨rfl,rfl⟩;go_wp2_with fail;refine (nD _ _ true (by kernel_rfl) _).mono ?_;rintro e w' ⟨rfl,rfl⟩;go_wp2;go_ret;exact ⟨rfl,rfl⟩
theorem NV (w:World):Calls Tryz.prog 123 #[.iface 187 (.string IA)] w fun e w'=>e=.returned (.int .i64 4)∧w'=w:=by
 go_enter Tryz.func123,Tryz.ntmps123;go_wp2_with fail;refine (nD _ _ false (by kernel_rfl) _).mono ?_;rintro e w' ⟨rfl,rfl⟩;go_wp2_with fail;refine (nD _ _ false (by kernel_rfl) _).mono ?_;rintro e w' ⟨rfl,rfl⟩;go_wp2_with fail;refine (nD _ _ false (by kernel_rfl) _).mono ?_;rintro e w' ⟨rfl,rfl⟩;go_wp2_with fail;refine (nD _ _ true (by kernel_rfl) _).mono ?_;rintro e w' ⟨rfl,rfl⟩;go_wp2;go_ret;exact ⟨rfl,rfl⟩
theorem SN (w:World):Calls Tryz.prog 123 #[.iface 187 (.string QQ)] w fun e w'=>e=.returned (.int .i64 5)∧w'=w:=by
 go_enter Tryz.func123,Tryz.ntmps123;go_wp2_with fail;refine (nD _ _ false (by kernel_rfl) _).mono ?_;rintro e w' ⟨rfl,rfl⟩;go_wp2_with fail;refine (nD _ _ false (by kernel_rfl) _).mono ?_;rintro e w' ⟨rfl,rfl⟩;go_wp2_with fail;refine (nD _ _ false (by kernel_rfl) _).mono ?_;rintro e w' ⟨rfl,rfl⟩;go_wp2_with fail;refine (nD _ _ false (by kernel_rfl) _).mono ?_;rintro e w' ⟨rfl,rfl⟩;go_wp2_with fail;refine (nD _ _ true (by kernel_rfl) _).mono ?_;rintro e w' ⟨rfl,rfl⟩;go_wp2;go_ret;exact ⟨rfl,rfl⟩
theorem aIg (w:World):Calls Tryz.prog 123 #[.iface 187 (.string aPh)] w fun e w'=>e=.returned (.int .i64 6)∧w'=w:=by
 go_enter Tryz.func123,Tryz.ntmps123;go_wp2_with fail;refine (nD _ _ false (by kernel_rfl) _).mono ?_;rintro e w' ⟨rfl,rfl⟩;go_wp2_with fail;refine (nD _ _ false (by kernel_rfl) _).mono ?_;rintro e w' ⟨rfl,rfl⟩;go_wp2_with fail;refine (nD _ _ false (by kernel_rfl) _).mono ?_;rintro e w' ⟨rfl,rfl⟩;go_wp2_with fail;refine (nD _ _ false (by kernel_rfl) _).mono ?_;rintro e w' ⟨rfl,rfl⟩;go_wp2_with fail;refine (nD _ _ false (by kernel_rfl) _).mono ?_;rintro e w' ⟨rfl,rfl⟩;go_wp2;go_ret;exact ⟨rfl,rfl⟩
theorem aIh (code:Nat) (h:code≤6) (w:World):Calls Tryz.prog 123 #[xF code] w fun e w'=>e=.returned (.int .i64 code)∧w'=w:=by
 match code,h with
 | 0,_=>exact aLw w
 | 1,_=>exact aDx w
 | 2,_=>exact SO w
 | 3,_=>exact aDy w
 | 4,_=>exact NV w
 | 5,_=>exact SN w
 | 6,_=>exact aIg w
end Go.Proofs.YtcneojllbkacoaaGreatDoor
