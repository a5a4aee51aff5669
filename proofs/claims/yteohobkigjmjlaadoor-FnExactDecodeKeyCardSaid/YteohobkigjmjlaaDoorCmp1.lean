import Derived.Test.YteohobkigjmjlaaDoorProg
import Derived.Test.YteohobkigjmjlaaDoorBase
namespace Go.Proofs.YteohobkigjmjlaaDoor
open Go.RowKit

def cmpZ (x y : ByteArray) : Int := if Op.bytesLess x.toList y.toList = true then -1 else if (x.toList == y.toList) = true then 0 else 1

set_option maxHeartbeats 400000 in
theorem isNaN_any (s : ByteArray) (w : World) : Calls Tryd.prog 53 #[.string s] w fun e w' => e = .returned (.bool false) ∧ w' = w := by
  go_enter Tryd.func53, Tryd.ntmps53
  go_wp2
  go_ret
  exact ⟨rfl, rfl⟩

set_option maxHeartbeats 400000 in
theorem compare_any (x y : ByteArray) (w : World) : Calls Tryd.prog 31 #[.string x, .string y] w fun e w' => e = .returned (.int .i64 (cmpZ x y)) ∧ w' = w := by
  by_cases h1 : Op.bytesLess x.toList y.toList = true
  · have E : Hid (cmpZ x y = -1) := by show _ = _; simp [cmpZ, h1]
    go_enter Tryd.func31, Tryd.ntmps31
    go_wp2_with (first | (go_at_call 53; refine (isNaN_any _ _).mono ?_; rintro e w' ⟨rfl, rfl⟩))
    go_ret
    exact ⟨ret_int E.out.symm, rfl⟩
  have h1' : Op.bytesLess x.toList y.toList = false := by simpa using h1
  by_cases h2 : (x.toList == y.toList) = true
  · have E : Hid (cmpZ x y = 0) := by show _ = _; simp [cmpZ, h1', h2]
    clear h1
    go_enter Tryd.func31, Tryd.ntmps31
    go_wp2_with (first | (go_at_call 53; refine (isNaN_any _ _).mono ?_; rintro e w' ⟨rfl, rfl⟩))
    go_ret
    exact ⟨ret_int E.out.symm, rfl⟩
  have h2' : (x.toList == y.toList) = false := by simpa using h2
  have E : Hid (cmpZ x y = 1) := by show _ = _; simp only [cmpZ, h1', h2']; rfl
  clear h1 h2
  go_enter Tryd.func31, Tryd.ntmps31
  go_wp2_with (first | (go_at_call 53; refine (isNaN_any _ _).mono ?_; rintro e w' ⟨rfl, rfl⟩))
  go_ret
  exact ⟨ret_int E.out.symm, rfl⟩

end Go.Proofs.YteohobkigjmjlaaDoor
