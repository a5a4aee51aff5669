import Derived.Test.YtndaihhjhllfcadProg
import Derived.Test.YtndaihhjhllfcadErrs
namespace Go.Proofs.Ytndaihhjhllfcad
open Go.RowKit

def tDown : ByteArray := ⟨#[116, 104, 101, 32, 100, 105, 115, 107, 32, 105, 115, 32, 100, 111, 119, 110]⟩
def tFailed : ByteArray := ⟨#[116, 104, 101, 32, 111, 112, 101, 114, 97, 116, 105, 111, 110, 32, 102, 97, 105, 108, 101, 100]⟩
def tFull : ByteArray := ⟨#[116, 104, 101, 32, 100, 105, 115, 107, 32, 105, 115, 32, 102, 117, 108, 108]⟩
def tMissing : ByteArray := ⟨#[116, 104, 101, 32, 102, 105, 108, 101, 32, 105, 115, 32, 109, 105, 115, 115, 105, 110, 103]⟩
def tExists : ByteArray := ⟨#[116, 104, 101, 32, 102, 105, 108, 101, 32, 101, 120, 105, 115, 116, 115]⟩
def tBad : ByteArray := ⟨#[116, 104, 101, 32, 111, 112, 101, 114, 97, 116, 105, 111, 110, 32, 105, 115, 32, 105, 109, 112, 114, 111, 112, 101, 114]⟩

/-- The error of a code. -/
def errV (code : Nat) : Value := match code with
  | 0 => .nilIface
  | 1 => .iface 78 (.string tDown)
  | 2 => .iface 78 (.string tFailed)
  | 3 => .iface 78 (.string tFull)
  | 4 => .iface 78 (.string tMissing)
  | 5 => .iface 78 (.string tExists)
  | _ => .iface 78 (.string tBad)

set_option maxHeartbeats 400000 in
theorem code_ok (w : World) : Calls Try.prog 24 #[.nilIface] w fun e w' => e = .returned (.int .i64 0) ∧ w' = w := by
  go_enter Try.func24, Try.ntmps24
  go_wp2
  go_ret
  exact ⟨rfl, rfl⟩

set_option maxHeartbeats 400000 in
theorem code_Down (w : World) : Calls Try.prog 24 #[.iface 78 (.string tDown)] w fun e w' => e = .returned (.int .i64 1) ∧ w' = w := by
  go_enter Try.func24, Try.ntmps24
  go_wp2_with fail
  refine (is_any _ _ true (by kernel_rfl) _).mono ?_
  rintro e w' ⟨rfl, rfl⟩
  go_wp2
  go_ret
  exact ⟨rfl, rfl⟩

set_option maxHeartbeats 400000 in
theorem code_Failed (w : World) : Calls Try.prog 24 #[.iface 78 (.string tFailed)] w fun e w' => e = .returned (.int .i64 2) ∧ w' = w := by
  go_enter Try.func24, Try.ntmps24
  go_wp2_with fail
  refine (is_any _ _ false (by kernel_rfl) _).mono ?_
  rintro e w' ⟨rfl, rfl⟩
  go_wp2_with fail
  refine (is_any _ _ true (by kernel_rfl) _).mono ?_
  rintro e w' ⟨rfl, rfl⟩
  go_wp2
  go_ret
  exact ⟨rfl, rfl⟩

set_option maxHeartbeats 400000 in
theorem code_Full (w : World) : Calls Try.prog 24 #[.iface 78 (.string tFull)] w fun e w' => e = .returned (.int .i64 3) ∧ w' = w := by
  go_enter Try.func24, Try.ntmps24
  go_wp2_with fail
  refine (is_any _ _ false (by kernel_rfl) _).mono ?_
  rintro e w' ⟨rfl, rfl⟩
  go_wp2_with fail
  refine (is_any _ _ false (by kernel_rfl) _).mono ?_
  rintro e w' ⟨rfl, rfl⟩
  go_wp2_with fail
  refine (is_any _ _ true (by kernel_rfl) _).mono ?_
  rintro e w' ⟨rfl, rfl⟩
  go_wp2
  go_ret
  exact ⟨rfl, rfl⟩

set_option maxHeartbeats 400000 in
theorem code_Missing (w : World) : Calls Try.prog 24 #[.iface 78 (.string tMissing)] w fun e w' => e = .returned (.int .i64 4) ∧ w' = w := by
  go_enter Try.func24, Try.ntmps24
  go_wp2_with fail
  refine (is_any _ _ false (by kernel_rfl) _).mono ?_
  rintro e w' ⟨rfl, rfl⟩
  go_wp2_with fail
  refine (is_any _ _ false (by kernel_rfl) _).mono ?_
  rintro e w' ⟨rfl, rfl⟩
  go_wp2_with fail
  refine (is_any _ _ false (by kernel_rfl) _).mono ?_
  rintro e w' ⟨rfl, rfl⟩
  go_wp2_with fail
  refine (is_any _ _ true (by kernel_rfl) _).mono ?_
  rintro e w' ⟨rfl, rfl⟩
  go_wp2
  go_ret
  exact ⟨rfl, rfl⟩

set_option maxHeartbeats 400000 in
theorem code_Exists (w : World) : Calls Try.prog 24 #[.iface 78 (.string tExists)] w fun e w' => e = .returned (.int .i64 5) ∧ w' = w := by
  go_enter Try.func24, Try.ntmps24
  go_wp2_with fail
  refine (is_any _ _ false (by kernel_rfl) _).mono ?_
  rintro e w' ⟨rfl, rfl⟩
  go_wp2_with fail
  refine (is_any _ _ false (by kernel_rfl) _).mono ?_
  rintro e w' ⟨rfl, rfl⟩
  go_wp2_with fail
  refine (is_any _ _ false (by kernel_rfl) _).mono ?_
  rintro e w' ⟨rfl, rfl⟩
  go_wp2_with fail
  refine (is_any _ _ false (by kernel_rfl) _).mono ?_
  rintro e w' ⟨rfl, rfl⟩
  go_wp2_with fail
  refine (is_any _ _ true (by kernel_rfl) _).mono ?_
  rintro e w' ⟨rfl, rfl⟩
  go_wp2
  go_ret
  exact ⟨rfl, rfl⟩

set_option maxHeartbeats 400000 in
theorem code_Bad (w : World) : Calls Try.prog 24 #[.iface 78 (.string tBad)] w fun e w' => e = .returned (.int .i64 6) ∧ w' = w := by
  go_enter Try.func24, Try.ntmps24
  go_wp2_with fail
  refine (is_any _ _ false (by kernel_rfl) _).mono ?_
  rintro e w' ⟨rfl, rfl⟩
  go_wp2_with fail
  refine (is_any _ _ false (by kernel_rfl) _).mono ?_
  rintro e w' ⟨rfl, rfl⟩
  go_wp2_with fail
  refine (is_any _ _ false (by kernel_rfl) _).mono ?_
  rintro e w' ⟨rfl, rfl⟩
  go_wp2_with fail
  refine (is_any _ _ false (by kernel_rfl) _).mono ?_
  rintro e w' ⟨rfl, rfl⟩
  go_wp2_with fail
  refine (is_any _ _ false (by kernel_rfl) _).mono ?_
  rintro e w' ⟨rfl, rfl⟩
  go_wp2
  go_ret
  exact ⟨rfl, rfl⟩

theorem code_any (code : Nat) (h : code ≤ 6) (w : World) : Calls Try.prog 24 #[errV code] w fun e w' => e = .returned (.int .i64 code) ∧ w' = w := by
  match code, h with
  | 0, _ => exact code_ok w
  | 1, _ => exact code_Down w
  | 2, _ => exact code_Failed w
  | 3, _ => exact code_Full w
  | 4, _ => exact code_Missing w
  | 5, _ => exact code_Exists w
  | 6, _ => exact code_Bad w
end Go.Proofs.Ytndaihhjhllfcad
