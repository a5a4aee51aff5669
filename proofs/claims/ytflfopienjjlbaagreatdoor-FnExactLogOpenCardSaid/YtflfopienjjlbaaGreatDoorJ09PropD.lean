import Derived.Test.YtflfopienjjlbaaGreatDoorJ08ISegs
import Derived.Test.YtflfopienjjlbaaGreatDoorJ05CrcL
import Derived.Test.YtflfopienjjlbaaGreatDoorProg
import Derived.WalkKit
import Derived.LaidEql
import Derived.Stop.Asserts
import Derived.RowKitTokens
import Derived.Test.YtflfopienjjlbaaGreatDoorJ01SegOfL
import Derived.Test.YtflfopienjjlbaaGreatDoorJ03Nm
namespace Go.Proofs.YtflfopienjjlbaaGreatDoor
open Go.RowKit

theorem decL_go (l : List UInt8) : ∀ acc, l.foldl (fun v c => v * 10 + (c.toNat - 48)) acc = acc * 10 ^ l.length + decL l := by
  induction l with
  | nil => intro acc; simp [decL]
  | cons c r ih =>
    intro acc
    have h0 := ih (0 * 10 + (c.toNat - 48))
    have h1 := ih (acc * 10 + (c.toNat - 48))
    simp only [List.foldl_cons, decL, List.length_cons] at h0 h1 ⊢
    rw [h1, h0, Nat.pow_succ, Nat.add_mul, Nat.add_mul, Nat.mul_assoc acc, Nat.mul_comm 10]
    omega
theorem decL_cons (c : UInt8) (l : List UInt8) : decL (c :: l) = (c.toNat - 48) * 10 ^ l.length + decL l := by
  have h := decL_go l (0 * 10 + (c.toNat - 48))
  show (c :: l).foldl _ 0 = _
  rw [List.foldl_cons, h]
  simp
theorem decL_lt (l : List UInt8) (h : l.all isDig = true) : decL l < 10 ^ l.length := by
  induction l with
  | nil => simp [decL]
  | cons c r ih =>
    simp only [List.all_cons, Bool.and_eq_true] at h
    have h1 := ih h.2
    have h2 : 48 ≤ c.toNat ∧ c.toNat ≤ 57 := by simpa [isDig] using h.1
    have h3 : (c.toNat - 48) * 10 ^ r.length ≤ 9 * 10 ^ r.length := Nat.mul_le_mul_right _ (by omega)
    rw [decL_cons, List.length_cons, Nat.pow_succ]
    omega
theorem dec_less : ∀ (x y : List UInt8), x.length = y.length → x.all isDig = true → y.all isDig = true → Op.bytesLess x y = true → decL x < decL y
  | [], [], _, _, _, h => by simp [Op.bytesLess] at h
  | a :: x, b :: y, hl, hx, hy, h => by
    simp only [List.all_cons, Bool.and_eq_true] at hx hy
    have hl' : x.length = y.length := by simpa using hl
    have ha : 48 ≤ a.toNat ∧ a.toNat ≤ 57 := by simpa [isDig] using hx.1
    have hb : 48 ≤ b.toNat ∧ b.toNat ≤ 57 := by simpa [isDig] using hy.1
    have hdx := decL_lt x hx.2
    rw [decL_cons, decL_cons, ← hl']
    simp only [Op.bytesLess, Bool.or_eq_true, decide_eq_true_eq, Bool.and_eq_true, beq_iff_eq] at h
    rcases h with h | ⟨rfl, h⟩
    · have hn : a.toNat < b.toNat := UInt8.lt_iff_toNat_lt.1 h
      have h3 : (a.toNat - 48 + 1) * 10 ^ x.length ≤ (b.toNat - 48) * 10 ^ x.length := Nat.mul_le_mul_right _ (by omega)
      rw [Nat.add_mul] at h3
      omega
    · have := dec_less x y hl' hx.2 hy.2 h
      omega
theorem segN_less {m n : Nat} (hm : m < 1000000) (hn : n < 1000000) (h : Op.bytesLess (segN m).toList (segN n).toList = true) : m < n := by
  have e : ∀ k, (segN k).toList = 119 :: 97 :: 108 :: 45 :: segD k 6 := fun k => by rw [ByteArray.toList_eq]; rfl
  rw [e, e] at h
  simp only [Op.bytesLess, Bool.or_eq_true, decide_eq_true_eq, Bool.and_eq_true, beq_iff_eq, UInt8.lt_irrefl, false_or, true_and] at h
  have := dec_less _ _ (by rw [segD_length, segD_length]) (segD_dig m) (segD_dig n) h
  rwa [segD_dec hm, segD_dec hn] at this

/-- These numbers rise. -/
def Up (l : List Int) : Prop := l.Pairwise (· < ·)
theorem up_nums {fs : List FileD} (ha : Asc fs) : Up (numsL fs) := by
  have hp : fs.Pairwise fun f g => Op.bytesLess f.name.toList g.name.toList = true := by
    rw [List.pairwise_iff_getElem]
    intro i j hi hj hlt
    exact ha i j hlt hj
  unfold Up numsL
  rw [List.pairwise_map]
  refine (List.Pairwise.filter _ hp).imp_of_mem ?_
  intro f g hf hg h
  simp only [List.mem_filter, decide_eq_true_eq] at hf hg
  obtain ⟨e1, l1⟩ := segOf_pos hf.2
  obtain ⟨e2, l2⟩ := segOf_pos hg.2
  rw [e1, e2] at h
  have := segN_less l1 l2 h
  omega
/-- Rising numbers, no more than their span, leave none out. -/
theorem up_gap {x : Int} {l : List Int} (h : Up (x :: l)) : (∀ i (hi : i < (x :: l).length), (x :: l)[i] = x + i) ↔ (x :: l).getLast (by simp) - x < (x :: l).length := by
  have hge : ∀ i (hi : i < (x :: l).length), x + (i : Int) ≤ (x :: l)[i] := by
    intro i
    induction i with
    | zero => intro _; simp
    | succ k ih =>
      intro hi
      have h1 := ih (by omega)
      have h2 := (List.pairwise_iff_getElem.1 h) k (k + 1) (by omega) hi (by omega)
      omega
  have hup : ∀ j i (hi : i + j < (x :: l).length), (x :: l)[i] + (j : Int) ≤ (x :: l)[i + j] := by
    intro j
    induction j with
    | zero => intro i hi; simp
    | succ k ih =>
      intro i hi
      have h1 := ih i (by omega)
      have h2 := (List.pairwise_iff_getElem.1 h) (i + k) (i + (k + 1)) (by omega) hi (by omega)
      omega
  have hlast : (x :: l).getLast (by simp) = (x :: l)[(x :: l).length - 1] := List.getLast_eq_getElem _
  rw [hlast]
  constructor
  · intro ha
    have := ha ((x :: l).length - 1) (by simp)
    rw [this]
    simp
    omega
  · intro hb i hi
    have h1 := hge i hi
    have h2 := hup ((x :: l).length - 1 - i) i (by omega)
    have e : i + ((x :: l).length - 1 - i) = (x :: l).length - 1 := by omega
    simp only [e] at h2
    omega
end Go.Proofs.YtflfopienjjlbaaGreatDoor

namespace Go.Proofs.YtflfopienjjlbaaGreatDoor
open Go.RowKit Go.Extern.Stop Go.Stop Go.Extern

theorem isTypeOf (v : Value) (w : World) : (Extern.ReflectliteType.typeOf #[.iface 103 v]).run Tryz.prog w = .ok (.iface 147 (.agg #[.pointer (some ⟨6, 103, none⟩)])) w := by kernel_rfl
theorem isComparable (w : World) : ((Extern.ReflectliteType.method fun t => do Extern.Rtype.noPackHeld "Comparable" t; pure (.bool (← typeInfo t).comparable)) #[.agg #[.pointer (some ⟨6, 103, none⟩)]]).run Tryz.prog w = .ok (.bool true) w := by kernel_rfl
theorem callComparable (w : World) : (callFunc 160 #[.agg #[.pointer (some ⟨6, 103, none⟩)]]).run Tryz.prog w = .ok (.value (.bool true)) w := by
  rw [@run_callFunc_extern Tryz.prog 160 _ (Extern.ReflectliteType.method fun t => do Extern.Rtype.noPackHeld "Comparable" t; pure (.bool (← typeInfo t).comparable)) Tryz.func160 (by kernel_rfl) (by kernel_rfl) (by kernel_rfl) (by kernel_rfl), isComparable]
  rfl
theorem callTypeOf (v : Value) (w : World) : (callFunc 93 #[.iface 103 v]).run Tryz.prog w = .ok (.value (.iface 147 (.agg #[.pointer (some ⟨6, 103, none⟩)]))) w := by
  rw [@run_callFunc_extern Tryz.prog 93 _ Extern.ReflectliteType.typeOf Tryz.func93 (by kernel_rfl) (by kernel_rfl) (by kernel_rfl) (by kernel_rfl), isTypeOf]
  rfl
theorem isMethodComparable (v : Value) (w : World) : (Go.method 322 147 v "Comparable").run Tryz.prog w = .ok (160, v) w := by kernel_rfl
theorem isComp : (Tryz.prog.info? 103).map (·.comparable) = some true := by kernel_rfl
theorem noIs (v : Value) (xT : TypeId) (w : World) : (Instr.typeAssert (.iface 103 v) xT 149 true).run Tryz.prog w = .ok (.tuple #[.nilIface, .bool false]) w := run_typeAssert_lacksB Tryz.underlying149 (by kernel_rfl) (by kernel_rfl) v xT w
theorem noUnwrap (v : Value) (xT : TypeId) (w : World) : (Instr.typeAssert (.iface 103 v) xT 152 true).run Tryz.prog w = .ok (.tuple #[.nilIface, .bool false]) w := run_typeAssert_lacksB Tryz.underlying152 (by kernel_rfl) (by kernel_rfl) v xT w
theorem noUnwraps (v : Value) (xT : TypeId) (w : World) : (Instr.typeAssert (.iface 103 v) xT 153 true).run Tryz.prog w = .ok (.tuple #[.nilIface, .bool false]) w := run_typeAssert_lacksB Tryz.underlying153 (by kernel_rfl) (by kernel_rfl) v xT w

theorem run_eql_iface_str {P : Program} (w : World) {t tx : TypeId} {ms : Array (String × TypeId)} (a b : ByteArray)
    (ht : P.underlying t = some (.interface ms)) (hc : (P.info? tx).map (·.comparable) = some true) (hx : P.underlying tx = some .string) :
    (binOp .eql t (.iface tx (.string a)) (.iface tx (.string b))).run P w = .ok (.bool (a == b)) w := by
  obtain ⟨i, hi, hcc⟩ := Option.map_eq_some_iff.1 hc
  have h : ∀ d : Nat, (Op.equalIn (d + 2) t (.iface tx (.string a)) (.iface tx (.string b))).run P w = .ok (a == b) w := fun d => by
    simp [Op.equalIn, run_underlying ht, run_underlying hx, typeInfo, hi, hcc]
  simp only [binOp]
  simp [Op.equal, Op.maxDepth, h 9998]

set_option maxHeartbeats 1000000 in
set_option maxRecDepth 100000 in
theorem is_any (a b : ByteArray) (r : Bool) (hr : (a == b) = r) (w : World) :
    Calls Tryz.prog 68 #[.iface 103 (.string a), .iface 103 (.string b)] w fun e w' => e = .returned (.bool r) ∧ w' = w := by
  have tT := callTypeOf
  have cT := callComparable
  have mR := isMethodComparable
  have nE := noIs
  have uE := noUnwrap
  have vE := noUnwraps
  have heq : (binOp .eql 70 (.iface 103 (.string a)) (.iface 103 (.string b))).run Tryz.prog w = .ok (.bool r) w := by
    rw [run_eql_iface_str w a b Tryz.underlying70 isComp Tryz.underlying103, hr]
  clear hr
  cases r
  · go_enter Tryz.func68, Tryz.ntmps68
    go_wp2
    refine wp_loop_rounds 1 ?_
    rw [rounds_succ]
    go_wp2
    go_ret
    exact ⟨rfl, rfl⟩
  · go_enter Tryz.func68, Tryz.ntmps68
    go_wp2
    refine wp_loop_rounds 1 ?_
    rw [rounds_succ]
    go_wp2
    go_ret
    exact ⟨rfl, rfl⟩
end Go.Proofs.YtflfopienjjlbaaGreatDoor

namespace Go.Proofs.YtflfopienjjlbaaGreatDoor
open Go.RowKit

def tDown : ByteArray := ⟨#[116, 104, 101, 32, 100, 105, 115, 107, 32, 105, 115, 32, 100, 111, 119, 110]⟩
def tFailed : ByteArray := ⟨#[116, 104, 101, 32, 111, 112, 101, 114, 97, 116, 105, 111, 110, 32, 102, 97, 105, 108, 101, 100]⟩
def tFull : ByteArray := ⟨#[116, 104, 101, 32, 100, 105, 115, 107, 32, 105, 115, 32, 102, 117, 108, 108]⟩
def tMissing : ByteArray := ⟨#[116, 104, 101, 32, 102, 105, 108, 101, 32, 105, 115, 32, 109, 105, 115, 115, 105, 110, 103]⟩
def tExists : ByteArray := ⟨#[116, 104, 101, 32, 102, 105, 108, 101, 32, 101, 120, 105, 115, 116, 115]⟩
def tBad : ByteArray := ⟨#[116, 104, 101, 32, 111, 112, 101, 114, 97, 116, 105, 111, 110, 32, 105, 115, 32, 105, 109, 112, 114, 111, 112, 101, 114]⟩

/-- The error of a code. -/
def errV (code : Nat) : Value := match code with
  | 0 => .nilIface
  | 1 => .iface 103 (.string tDown)
  | 2 => .iface 103 (.string tFailed)
  | 3 => .iface 103 (.string tFull)
  | 4 => .iface 103 (.string tMissing)
  | 5 => .iface 103 (.string tExists)
  | _ => .iface 103 (.string tBad)

set_option maxHeartbeats 400000 in
theorem code_ok (w : World) : Calls Tryz.prog 50 #[.nilIface] w fun e w' => e = .returned (.int .i64 0) ∧ w' = w := by
  go_enter Tryz.func50, Tryz.ntmps50
  go_wp2
  go_ret
  exact ⟨rfl, rfl⟩

set_option maxHeartbeats 400000 in
theorem code_Down (w : World) : Calls Tryz.prog 50 #[.iface 103 (.string tDown)] w fun e w' => e = .returned (.int .i64 1) ∧ w' = w := by
  go_enter Tryz.func50, Tryz.ntmps50
  go_wp2_with fail
  refine (is_any _ _ true (by kernel_rfl) _).mono ?_
  rintro e w' ⟨rfl, rfl⟩
  go_wp2
  go_ret
  exact ⟨rfl, rfl⟩

set_option maxHeartbeats 400000 in
theorem code_Failed (w : World) : Calls Tryz.prog 50 #[.iface 103 (.string tFailed)] w fun e w' => e = .returned (.int .i64 2) ∧ w' = w := by
  go_enter Tryz.func50, Tryz.ntmps50
  go_wp2_with fail
  refine (is_any _ _ false (by kernel_rfl) _).mono ?_
  rintro e w' ⟨rfl, rfl⟩
  go_wp2_with fail
  refine (is_any _ _ true (by kernel_rfl) _).mono ?_
  rintro e w' ⟨rfl, rfl⟩
  go_wp2
  go_ret
  exact ⟨rfl, rfl⟩

set_option maxHeartbeats 400000 in
theorem code_Full (w : World) : Calls Tryz.prog 50 #[.iface 103 (.string tFull)] w fun e w' => e = .returned (.int .i64 3) ∧ w' = w := by
  go_enter Tryz.func50, Tryz.ntmps50
  go_wp2_with fail
  refine (is_any _ _ false (by kernel_rfl) _).mono ?_
  rintro e w' ⟨rfl, rfl⟩
  go_wp2_with fail
  refine (is_any _ _ false (by kernel_rfl) _).mono ?_
  rintro e w' ⟨rfl, rfl⟩
  go_wp2_with fail
  refine (is_any _ _ true (by kernel_rfl) _).mono ?_
  rintro e w' ⟨rfl, rfl⟩
  go_wp2
  go_ret
  exact ⟨rfl, rfl⟩

set_option maxHeartbeats 400000 in
theorem code_Missing (w : World) : Calls Tryz.prog 50 #[.iface 103 (.string tMissing)] w fun e w' => e = .returned (.int .i64 4) ∧ w' = w := by
  go_enter Tryz.func50, Tryz.ntmps50
  go_wp2_with fail
  refine (is_any _ _ false (by kernel_rfl) _).mono ?_
  rintro e w' ⟨rfl, rfl⟩
  go_wp2_with fail
  refine (is_any _ _ false (by kernel_rfl) _).mono ?_
  rintro e w' ⟨rfl, rfl⟩
  go_wp2_with fail
  refine (is_any _ _ false (by kernel_rfl) _).mono ?_
  rintro e w' ⟨rfl, rfl⟩
  go_wp2_with fail
  refine (is_any _ _ true (by kernel_rfl) _).mono ?_
  rintro e w' ⟨rfl, rfl⟩
  go_wp2
  go_ret
  exact ⟨rfl, rfl⟩

set_option maxHeartbeats 400000 in
theorem code_Exists (w : World) : Calls Tryz.prog 50 #[.iface 103 (.string tExists)] w fun e w' => e = .returned (.int .i64 5) ∧ w' = w := by
  go_enter Tryz.func50, Tryz.ntmps50
  go_wp2_with fail
  refine (is_any _ _ false (by kernel_rfl) _).mono ?_
  rintro e w' ⟨rfl, rfl⟩
  go_wp2_with fail
  refine (is_any _ _ false (by kernel_rfl) _).mono ?_
  rintro e w' ⟨rfl, rfl⟩
  go_wp2_with fail
  refine (is_any _ _ false (by kernel_rfl) _).mono ?_
  rintro e w' ⟨rfl, rfl⟩
  go_wp2_with fail
  refine (is_any _ _ false (by kernel_rfl) _).mono ?_
  rintro e w' ⟨rfl, rfl⟩
  go_wp2_with fail
  refine (is_any _ _ true (by kernel_rfl) _).mono ?_
  rintro e w' ⟨rfl, rfl⟩
  go_wp2
  go_ret
  exact ⟨rfl, rfl⟩

set_option maxHeartbeats 400000 in
theorem code_Bad (w : World) : Calls Tryz.prog 50 #[.iface 103 (.string tBad)] w fun e w' => e = .returned (.int .i64 6) ∧ w' = w := by
  go_enter Tryz.func50, Tryz.ntmps50
  go_wp2_with fail
  refine (is_any _ _ false (by kernel_rfl) _).mono ?_
  rintro e w' ⟨rfl, rfl⟩
  go_wp2_with fail
  refine (is_any _ _ false (by kernel_rfl) _).mono ?_
  rintro e w' ⟨rfl, rfl⟩
  go_wp2_with fail
  refine (is_any _ _ false (by kernel_rfl) _).mono ?_
  rintro e w' ⟨rfl, rfl⟩
  go_wp2_with fail
  refine (is_any _ _ false (by kernel_rfl) _).mono ?_
  rintro e w' ⟨rfl, rfl⟩
  go_wp2_with fail
  refine (is_any _ _ false (by kernel_rfl) _).mono ?_
  rintro e w' ⟨rfl, rfl⟩
  go_wp2
  go_ret
  exact ⟨rfl, rfl⟩

theorem code_any (code : Nat) (h : code ≤ 6) (w : World) : Calls Tryz.prog 50 #[errV code] w fun e w' => e = .returned (.int .i64 code) ∧ w' = w := by
  match code, h with
  | 0, _ => exact code_ok w
  | 1, _ => exact code_Down w
  | 2, _ => exact code_Failed w
  | 3, _ => exact code_Full w
  | 4, _ => exact code_Missing w
  | 5, _ => exact code_Exists w
  | 6, _ => exact code_Bad w
end Go.Proofs.YtflfopienjjlbaaGreatDoor

namespace Go.Proofs.YtflfopienjjlbaaGreatDoor
open Go.RowKit

def tCorrupt : ByteArray := ⟨#[97, 32, 115, 101, 103, 109, 101, 110, 116, 32, 97, 104, 101, 97, 100, 32, 111, 102, 32, 116, 104, 101, 32, 108, 97, 115, 116, 32, 105, 115, 32, 116, 111, 114, 110]⟩
def tGap : ByteArray := ⟨#[116, 104, 101, 32, 115, 101, 103, 109, 101, 110, 116, 115, 32, 97, 114, 101, 32, 110, 111, 32, 108, 111, 103]⟩
def tTooBig : ByteArray := ⟨#[116, 104, 101, 32, 112, 97, 121, 108, 111, 97, 100, 32, 104, 97, 115, 32, 110, 111, 32, 102, 114, 97, 109, 101]⟩
def tEnd : ByteArray := ⟨#[116, 104, 101, 32, 108, 111, 103, 32, 104, 97, 115, 32, 110, 111, 32, 115, 101, 103, 109, 101, 110, 116, 115, 32, 108, 101, 102, 116]⟩

/-- The error of a log's code. -/
def errW (code : Nat) : Value := match code with
  | 20 => .iface 103 (.string tCorrupt)
  | 21 => .iface 103 (.string tGap)
  | 22 => .iface 103 (.string tTooBig)
  | 23 => .iface 103 (.string tEnd)
  | c => errV c

theorem run_eql_nil_iface {P : Program} (w : World) {t tx : TypeId} {ms : Array (String × TypeId)} (b : ByteArray) (ht : P.underlying t = some (.interface ms)) :
    (binOp .eql t .nilIface (.iface tx (.string b))).run P w = .ok (.bool false) w := by
  have h : ∀ d : Nat, (Op.equalIn (d + 2) t .nilIface (.iface tx (.string b))).run P w = .ok false w := fun d => by
    simp [Op.equalIn, run_underlying ht]
  simp only [binOp]
  simp [Op.equal, Op.maxDepth, h 9998]

set_option maxHeartbeats 1000000 in
set_option maxRecDepth 100000 in
theorem is_nil (b : ByteArray) (w : World) :
    Calls Tryz.prog 68 #[.nilIface, .iface 103 (.string b)] w fun e w' => e = .returned (.bool false) ∧ w' = w := by
  have heq : (binOp .eql 70 .nilIface (.iface 103 (.string b))).run Tryz.prog w = .ok (.bool false) w := run_eql_nil_iface w b Tryz.underlying70
  go_enter Tryz.func68, Tryz.ntmps68
  go_wp2
  go_ret
  exact ⟨rfl, rfl⟩
theorem is_not (code : Nat) (h : code ≤ 6) (b : ByteArray) (w : World) (h1 : (tDown == b) = false) (h2 : (tFailed == b) = false) (h3 : (tFull == b) = false) (h4 : (tMissing == b) = false) (h5 : (tExists == b) = false) (h6 : (tBad == b) = false) :
    Calls Tryz.prog 68 #[errV code, .iface 103 (.string b)] w fun e w' => e = .returned (.bool false) ∧ w' = w := by
  match code, h with
  | 0, _ => exact is_nil b w
  | 1, _ => exact is_any _ _ false h1 w
  | 2, _ => exact is_any _ _ false h2 w
  | 3, _ => exact is_any _ _ false h3 w
  | 4, _ => exact is_any _ _ false h4 w
  | 5, _ => exact is_any _ _ false h5 w
  | 6, _ => exact is_any _ _ false h6 w

set_option maxHeartbeats 400000 in
theorem logCode_disk (code : Nat) (h : code ≤ 6) (w : World) : Calls Tryz.prog 37 #[errV code] w fun e w' => e = .returned (.int .i64 code) ∧ w' = w := by
  have H1 : Hid (∀ W, Calls Tryz.prog 68 #[errV code, .iface 103 (.string tCorrupt)] W fun e w' => e = .returned (.bool false) ∧ w' = W) := fun W => is_not code h _ W (by kernel_rfl) (by kernel_rfl) (by kernel_rfl) (by kernel_rfl) (by kernel_rfl) (by kernel_rfl)
  have H2 : Hid (∀ W, Calls Tryz.prog 68 #[errV code, .iface 103 (.string tGap)] W fun e w' => e = .returned (.bool false) ∧ w' = W) := fun W => is_not code h _ W (by kernel_rfl) (by kernel_rfl) (by kernel_rfl) (by kernel_rfl) (by kernel_rfl) (by kernel_rfl)
  have H3 : Hid (∀ W, Calls Tryz.prog 68 #[errV code, .iface 103 (.string tTooBig)] W fun e w' => e = .returned (.bool false) ∧ w' = W) := fun W => is_not code h _ W (by kernel_rfl) (by kernel_rfl) (by kernel_rfl) (by kernel_rfl) (by kernel_rfl) (by kernel_rfl)
  have H4 : Hid (∀ W, Calls Tryz.prog 68 #[errV code, .iface 103 (.string tEnd)] W fun e w' => e = .returned (.bool false) ∧ w' = W) := fun W => is_not code h _ W (by kernel_rfl) (by kernel_rfl) (by kernel_rfl) (by kernel_rfl) (by kernel_rfl) (by kernel_rfl)
  have H5 : Hid (∀ W, Calls Tryz.prog 50 #[errV code] W fun e w' => e = .returned (.int .i64 code) ∧ w' = W) := fun W => code_any code h W
  generalize errV code = E at *
  go_enter Tryz.func37, Tryz.ntmps37
  go_wp2_with fail
  refine (H1.out _).mono ?_
  rintro e w' ⟨rfl, hw⟩; replace hw := hw.symm; subst hw
  go_wp2_with fail
  refine (H2.out _).mono ?_
  rintro e w' ⟨rfl, hw⟩; replace hw := hw.symm; subst hw
  go_wp2_with fail
  refine (H3.out _).mono ?_
  rintro e w' ⟨rfl, hw⟩; replace hw := hw.symm; subst hw
  go_wp2_with fail
  refine (H4.out _).mono ?_
  rintro e w' ⟨rfl, hw⟩; replace hw := hw.symm; subst hw
  go_wp2_with fail
  refine (H5.out _).mono ?_
  rintro e w' ⟨rfl, hw⟩; replace hw := hw.symm; subst hw
  go_wp2
  go_ret
  exact ⟨rfl, rfl⟩

set_option maxHeartbeats 400000 in
theorem logCode_Corrupt (w : World) : Calls Tryz.prog 37 #[.iface 103 (.string tCorrupt)] w fun e w' => e = .returned (.int .i64 20) ∧ w' = w := by
  go_enter Tryz.func37, Tryz.ntmps37
  go_wp2_with fail
  refine (is_any _ _ true (by kernel_rfl) _).mono ?_
  rintro e w' ⟨rfl, rfl⟩
  go_wp2
  go_ret
  exact ⟨rfl, rfl⟩

set_option maxHeartbeats 400000 in
theorem logCode_Gap (w : World) : Calls Tryz.prog 37 #[.iface 103 (.string tGap)] w fun e w' => e = .returned (.int .i64 21) ∧ w' = w := by
  go_enter Tryz.func37, Tryz.ntmps37
  go_wp2_with fail
  refine (is_any _ _ false (by kernel_rfl) _).mono ?_
  rintro e w' ⟨rfl, rfl⟩
  go_wp2_with fail
  refine (is_any _ _ true (by kernel_rfl) _).mono ?_
  rintro e w' ⟨rfl, rfl⟩
  go_wp2
  go_ret
  exact ⟨rfl, rfl⟩

set_option maxHeartbeats 400000 in
theorem logCode_TooBig (w : World) : Calls Tryz.prog 37 #[.iface 103 (.string tTooBig)] w fun e w' => e = .returned (.int .i64 22) ∧ w' = w := by
  go_enter Tryz.func37, Tryz.ntmps37
  go_wp2_with fail
  refine (is_any _ _ false (by kernel_rfl) _).mono ?_
  rintro e w' ⟨rfl, rfl⟩
  go_wp2_with fail
  refine (is_any _ _ false (by kernel_rfl) _).mono ?_
  rintro e w' ⟨rfl, rfl⟩
  go_wp2_with fail
  refine (is_any _ _ true (by kernel_rfl) _).mono ?_
  rintro e w' ⟨rfl, rfl⟩
  go_wp2
  go_ret
  exact ⟨rfl, rfl⟩

set_option maxHeartbeats 400000 in
theorem logCode_End (w : World) : Calls Tryz.prog 37 #[.iface 103 (.string tEnd)] w fun e w' => e = .returned (.int .i64 23) ∧ w' = w := by
  go_enter Tryz.func37, Tryz.ntmps37
  go_wp2_with fail
  refine (is_any _ _ false (by kernel_rfl) _).mono ?_
  rintro e w' ⟨rfl, rfl⟩
  go_wp2_with fail
  refine (is_any _ _ false (by kernel_rfl) _).mono ?_
  rintro e w' ⟨rfl, rfl⟩
  go_wp2_with fail
  refine (is_any _ _ false (by kernel_rfl) _).mono ?_
  rintro e w' ⟨rfl, rfl⟩
  go_wp2_with fail
  refine (is_any _ _ true (by kernel_rfl) _).mono ?_
  rintro e w' ⟨rfl, rfl⟩
  go_wp2
  go_ret
  exact ⟨rfl, rfl⟩

theorem logCode_any (code : Nat) (h : code ≤ 6 ∨ code = 20 ∨ code = 21 ∨ code = 22 ∨ code = 23) (w : World) : Calls Tryz.prog 37 #[errW code] w fun e w' => e = .returned (.int .i64 code) ∧ w' = w := by
  rcases h with h | rfl | rfl | rfl | rfl
  rotate_left
  · exact logCode_Corrupt w
  · exact logCode_Gap w
  · exact logCode_TooBig w
  · exact logCode_End w
  match code, h with
  | 0, _ => exact logCode_disk 0 (by omega) w
  | 1, _ => exact logCode_disk 1 (by omega) w
  | 2, _ => exact logCode_disk 2 (by omega) w
  | 3, _ => exact logCode_disk 3 (by omega) w
  | 4, _ => exact logCode_disk 4 (by omega) w
  | 5, _ => exact logCode_disk 5 (by omega) w
  | 6, _ => exact logCode_disk 6 (by omega) w
theorem errW_disk {code : Nat} (h : code ≤ 6) : errW code = errV code := by
  match code, h with
  | 0, _ => rfl
  | 1, _ => rfl
  | 2, _ => rfl
  | 3, _ => rfl
  | 4, _ => rfl
  | 5, _ => rfl
  | 6, _ => rfl
end Go.Proofs.YtflfopienjjlbaaGreatDoor

namespace Go.Proofs.YtflfopienjjlbaaGreatDoor
open Go.RowKit

/-- What the segment n holds. -/
def datAt (fs : List FileD) (n : Int) : ByteArray := (fs[posOf (segS n) fs]?.map (·.data)).getD ByteArray.empty
theorem datAt_eq {fs : List FileD} {i : Nat} {n : Int} (ha : Asc fs) (hi : i < fs.length) (hn : fs[i].name = segS n) : datAt fs n = fs[i].data := by
  have e : posOf (segS n) fs = i := by rw [← hn]; exact (posOf_is _ ha).uniq (pos_at ha hi)
  unfold datAt
  rw [e, List.getElem?_eq_getElem hi]
  rfl
/-- The segments read from n on, r of them left: the payloads and the last one's whole size; none where one ahead of the last is torn. -/
def readR (fs : List FileD) (last : Int) : Nat → Int → List ByteArray → Nat → Option (List ByteArray × Nat)
  | 0, _, all, sz => some (all, sz)
  | r + 1, n, all, _ => if (scanV (datAt fs n)).2 < (datAt fs n).size ∧ n < last then none else readR fs last r (n + 1) (all ++ (scanV (datAt fs n)).1) (scanV (datAt fs n)).2
theorem row_but {w w' : World} {B P : Nat} {e : TypeId} {size : Nat} {v : Value} {n : Nat} {xs : List Value} (h : w.ownsRow B e size v n xs) (hb : But P w w') (hP : P < B) : w'.ownsRow B e size v n xs := by
  obtain ⟨h0, h1⟩ := h
  refine ⟨h0, ?_⟩
  rcases h1 with h1 | ⟨g, cap, cur, e1, hB, hg, h2⟩
  · exact Or.inl h1
  · exact Or.inr ⟨g, cap, cur, e1, hB, (hb.block g (lt_of_block hg) (by omega)).trans hg, h2⟩
theorem scanR_len (d : ByteArray) : ∀ n p, (scanR d n p).1.length ≤ n
  | 0, p => by simp [scanR]
  | n + 1, p => by
    rw [scanR]
    split
    · have := scanR_len d n (p + 8 + ((d.extract p d.size).extract 8 (8 + headN (d.extract p d.size))).size)
      exact Nat.succ_le_succ this
    · simp
theorem scanV_len (d : ByteArray) : (scanV d).1.length ≤ d.size + 1 := scanR_len d _ _
/-- What readAll answers. -/
def ReadPost (P D : Nat) (first last : Int) (w : World) (R : Option (List ByteArray × Nat)) (e : Ending) (w' : World) : Prop :=
  But P w w' ∧ match R with
  | none => e = .returned (.tuple #[.slice none 0 0, errW 20]) ∧ ∃ sz : Nat, Blk w' P #[.pointer (some ⟨D, 0, none⟩), .int .i64 first, .int .i64 last, .int .i64 (sz : Nat)] 68
  | some (all, sz) => (∃ a' cap', e = .returned (.tuple #[.slice a' all.length cap', .nilIface]) ∧ w'.ownsRow w.heap.size 9 1 (.slice a' all.length cap') all.length (all.map Value.string)) ∧ Blk w' P #[.pointer (some ⟨D, 0, none⟩), .int .i64 first, .int .i64 last, .int .i64 (sz : Nat)] 68
end Go.Proofs.YtflfopienjjlbaaGreatDoor

namespace Go.Proofs.YtflfopienjjlbaaGreatDoor
open Go.RowKit

/-- What the meter answers: the code, the count behind it, whether the disk is down. -/
def chargeR (k cr fl : Int) (dn : Bool) : Nat × Int × Bool :=
  if dn = true then (1, k, true) else if k = 1000000000000000 then (2, k, false) else if cr ≠ 0 ∧ k + 1 = cr then (1, k + 1, true) else if fl ≠ 0 ∧ k + 1 = fl then (2, k + 1, false) else (0, k + 1, false)

set_option maxRecDepth 100000 in
set_option maxHeartbeats 1000000 in
theorem charge_any (D : Nat) (t : TypeId) (v4 v5 : Value) (k cr fl : Int) (dn : Bool) (w : World) (hb : Blk w D #[.int .i64 k, .int .i64 cr, .int .i64 fl, .bool dn, v4, v5] t) (hk0 : 0 ≤ k) (hk1 : k ≤ 1000000000000000) :
    Calls Tryz.prog 77 #[.pointer (some ⟨D, 0, none⟩)] w fun e w' => e = .returned (errV (chargeR k cr fl dn).1) ∧ But D w w' ∧ Blk w' D #[.int .i64 (chargeR k cr fl dn).2.1, .int .i64 cr, .int .i64 fl, .bool (chargeR k cr fl dn).2.2, v4, v5] t := by
  have c0 := hb.cell 0
  have c3 := hb.cell 3
  simp only [List.getElem?_toArray, List.getElem?_cons_zero, List.getElem?_cons_succ] at c0 c3
  have f0 := hb.free 0
  cases dn with
  | true =>
    have HB : Hid (Blk w D #[.int .i64 k, .int .i64 cr, .int .i64 fl, .bool true, v4, v5] t) := hb
    clear hb
    go_enter Tryz.func77, Tryz.ntmps77
    go_wp2
    go_ret
    exact ⟨rfl, But.refl _ _, HB.out⟩
  | false =>
    by_cases hm : k = 1000000000000000
    · subst hm
      have HB : Hid (Blk w D #[.int .i64 1000000000000000, .int .i64 cr, .int .i64 fl, .bool false, v4, v5] t) := hb
      clear hb
      go_enter Tryz.func77, Tryz.ntmps77
      go_wp2
      go_ret
      exact ⟨rfl, But.refl _ _, HB.out⟩
    · have hb1 := hb.set 0 (.int .i64 (k + 1))
      have HB : Hid (Blk w D #[.int .i64 k, .int .i64 cr, .int .i64 fl, .bool false, v4, v5] t) := hb
      have HB1 : Hid (Blk (w.setCell ⟨D, 0, none⟩ (.int .i64 (k + 1))) D #[.int .i64 (k + 1), .int .i64 cr, .int .i64 fl, .bool false, v4, v5] t) := by show Blk _ _ _ _; simpa using hb1
      clear hb hb1
      have d0 := HB1.out.cell 0
      have d1 := HB1.out.cell 1
      have d2 := HB1.out.cell 2
      have d3 := HB1.out.cell 3
      simp only [List.getElem?_toArray, List.getElem?_cons_zero, List.getElem?_cons_succ] at d0 d1 d2 d3
      have e3 := HB1.out.free 3
      have HBut : Hid (But D w (w.setCell ⟨D, 0, none⟩ (.int .i64 (k + 1)))) := (But.refl _ _).setCell _ _
      have hw1 : IntKind.i64.wrap (k + 1) = k + 1 := by rw [IntKind.wrap_i64]; omega
      by_cases hc : cr = 0
      · subst hc
        by_cases hf : fl = 0
        · subst hf
          have E : Hid (chargeR k 0 0 false = (0, k + 1, false)) := by show _ = _; simp [chargeR, hm]
          go_enter Tryz.func77, Tryz.ntmps77
          go_wp2_with fail
          go_quiet (fail)
          go_wp2_with fail
          go_quiet (fail)
          go_wp2
          go_ret
          rw [E.out]
          first | exact ⟨rfl, HBut.out.trans (But.of (below_drewN (below_drewN (Below.refl _ _) _) _)), HB1.out.later (below_drewN (below_drewN (Below.refl _ _) _) _)⟩ | exact ⟨rfl, HBut.out.trans (But.of (below_drewN (Below.refl _ _) _)), HB1.out.later (below_drewN (Below.refl _ _) _)⟩
        · have hf1 : decide (fl = 0) = false := by simpa using hf
          by_cases hf2 : k + 1 = fl
          · subst hf2
            have E : Hid (chargeR k 0 (k + 1) false = (2, k + 1, false)) := by show _ = _; simp [chargeR, hm, hf]
            go_enter Tryz.func77, Tryz.ntmps77
            go_wp2_with fail
            go_quiet (fail)
            go_wp2_with fail
            go_quiet (fail)
            go_wp2
            go_ret
            rw [E.out]
            first | exact ⟨rfl, HBut.out.trans (But.of (below_drewN (below_drewN (Below.refl _ _) _) _)), HB1.out.later (below_drewN (below_drewN (Below.refl _ _) _) _)⟩ | exact ⟨rfl, HBut.out.trans (But.of (below_drewN (Below.refl _ _) _)), HB1.out.later (below_drewN (Below.refl _ _) _)⟩
          · have hf3 : (k + 1 == fl) = false := by simpa using hf2
            have E : Hid (chargeR k 0 fl false = (0, k + 1, false)) := by show _ = _; simp [chargeR, hm, hf, hf2]
            go_enter Tryz.func77, Tryz.ntmps77
            go_wp2_with fail
            go_quiet (fail)
            go_wp2_with fail
            go_quiet (fail)
            go_wp2
            go_ret
            rw [E.out]
            first | exact ⟨rfl, HBut.out.trans (But.of (below_drewN (below_drewN (Below.refl _ _) _) _)), HB1.out.later (below_drewN (below_drewN (Below.refl _ _) _) _)⟩ | exact ⟨rfl, HBut.out.trans (But.of (below_drewN (Below.refl _ _) _)), HB1.out.later (below_drewN (Below.refl _ _) _)⟩
      · have hc1 : decide (cr = 0) = false := by simpa using hc
        by_cases hc2 : k + 1 = cr
        · subst hc2
          have E : Hid (chargeR k (k + 1) fl false = (1, k + 1, true)) := by show _ = _; simp [chargeR, hm, hc]
          go_enter Tryz.func77, Tryz.ntmps77
          go_wp2_with fail
          go_quiet (fail)
          go_wp2
          go_ret
          rw [E.out]
          refine ⟨rfl, (HBut.out.trans (But.of (below_drewN (Below.refl _ _) _))).setCell _ _, ?_⟩
          have := (HB1.out.later (below_drewN (Below.refl _ _) nq)).set 3 (.bool true)
          simpa using this
        · have hc3 : (k + 1 == cr) = false := by simpa using hc2
          by_cases hf : fl = 0
          · subst hf
            have E : Hid (chargeR k cr 0 false = (0, k + 1, false)) := by show _ = _; simp [chargeR, hm, hc, hc2]
            go_enter Tryz.func77, Tryz.ntmps77
            go_wp2_with fail
            go_quiet (fail)
            go_wp2_with fail
            go_quiet (fail)
            go_wp2
            go_ret
            rw [E.out]
            first | exact ⟨rfl, HBut.out.trans (But.of (below_drewN (below_drewN (Below.refl _ _) _) _)), HB1.out.later (below_drewN (below_drewN (Below.refl _ _) _) _)⟩ | exact ⟨rfl, HBut.out.trans (But.of (below_drewN (Below.refl _ _) _)), HB1.out.later (below_drewN (Below.refl _ _) _)⟩
          · have hf1 : decide (fl = 0) = false := by simpa using hf
            by_cases hf2 : k + 1 = fl
            · subst hf2
              have E : Hid (chargeR k cr (k + 1) false = (2, k + 1, false)) := by show _ = _; simp [chargeR, hm, hc, hc2, hf]
              go_enter Tryz.func77, Tryz.ntmps77
              go_wp2_with fail
              go_quiet (fail)
              go_wp2_with fail
              go_quiet (fail)
              go_wp2
              go_ret
              rw [E.out]
              first | exact ⟨rfl, HBut.out.trans (But.of (below_drewN (below_drewN (Below.refl _ _) _) _)), HB1.out.later (below_drewN (below_drewN (Below.refl _ _) _) _)⟩ | exact ⟨rfl, HBut.out.trans (But.of (below_drewN (Below.refl _ _) _)), HB1.out.later (below_drewN (Below.refl _ _) _)⟩
            · have hf3 : (k + 1 == fl) = false := by simpa using hf2
              have E : Hid (chargeR k cr fl false = (0, k + 1, false)) := by show _ = _; simp [chargeR, hm, hc, hc2, hf, hf2]
              go_enter Tryz.func77, Tryz.ntmps77
              go_wp2_with fail
              go_quiet (fail)
              go_wp2_with fail
              go_quiet (fail)
              go_wp2
              go_ret
              rw [E.out]
              first | exact ⟨rfl, HBut.out.trans (But.of (below_drewN (below_drewN (Below.refl _ _) _) _)), HB1.out.later (below_drewN (below_drewN (Below.refl _ _) _) _)⟩ | exact ⟨rfl, HBut.out.trans (But.of (below_drewN (Below.refl _ _) _)), HB1.out.later (below_drewN (Below.refl _ _) _)⟩
end Go.Proofs.YtflfopienjjlbaaGreatDoor

namespace Go.Proofs.YtflfopienjjlbaaGreatDoor
open Go.RowKit

structure OpD where
  kind : Int
  name : ByteArray
  to : ByteArray
  data : ByteArray
  size : Int

def opB (op : OpD) : Bool := btwB op.kind 1 6 && nameB op.name && (decide (op.kind ≠ 5) || nameB op.to)

/-- What an operation does to the files: its code, the files behind it. -/
def doR (fs : List FileD) (c : Int) (op : OpD) : Nat × List FileD :=
  let i := posOf op.name fs
  if op.kind = 1 then (if hasB fs op.name i = true then (5, fs) else if 1000 ≤ fs.length then (3, fs) else (0, insL fs i ⟨op.name, ByteArray.empty, 0⟩))
  else match fs[i]? with
    | none => (4, fs)
    | some f =>
      if hasB fs op.name i = false then (4, fs)
      else if op.kind = 2 then (if c < sumLen fs + op.data.size then (3, fs) else (0, fs.set i ⟨f.name, f.data ++ op.data, f.synced⟩))
      else if op.kind = 3 then (0, fs.set i ⟨f.name, f.data, f.data.size⟩)
      else if op.kind = 4 then (if btwB op.size 0 f.data.size = true then (0, fs.set i ⟨f.name, f.data.extract 0 op.size.toNat, op.size⟩) else (6, fs))
      else if op.kind = 5 then (0, withL (fs.eraseIdx i) ⟨op.to, f.data, f.synced⟩)
      else (0, fs.eraseIdx i)

theorem isFileName_is {s : ByteArray} {b : Bool} (h : nameB s = b) (w : World) (hs : s.size ≤ maxLen) : Calls Tryz.prog 76 #[.string s] w fun e w' => e = .returned (.bool b) ∧ w' = w := h ▸ isFileName_any s w hs

/-- The five cells of an operation lie at the head of block b. -/
def OpAt (w : World) (b : Nat) (op : OpD) (t : TypeId) : Prop := Blk w b #[.int .i64 op.kind, .string op.name, .string op.to, .string op.data, .int .i64 op.size] t

theorem OpAt.cells {w : World} {b : Nat} {op : OpD} {t : TypeId} (h : OpAt w b op t) : w.cell? ⟨b, 0, none⟩ = some (.int .i64 op.kind) ∧ w.cell? ⟨b, 1, none⟩ = some (.string op.name) ∧ w.cell? ⟨b, 2, none⟩ = some (.string op.to) ∧ w.cell? ⟨b, 3, none⟩ = some (.string op.data) ∧ w.cell? ⟨b, 4, none⟩ = some (.int .i64 op.size) := by
  refine ⟨?_, ?_, ?_, ?_, ?_⟩ <;> rw [Blk.cell h] <;> rfl

end Go.Proofs.YtflfopienjjlbaaGreatDoor

