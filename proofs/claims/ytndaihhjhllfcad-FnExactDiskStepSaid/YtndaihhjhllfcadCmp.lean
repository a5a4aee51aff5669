import Derived.Test.YtndaihhjhllfcadProg
import Derived.Test.YtndaihhjhllfcadCmp1
namespace Go.Proofs.Ytndaihhjhllfcad
open Go.RowKit

set_option maxHeartbeats 400000 in
theorem findFn_any (nm da : ByteArray) (sy : Int) (t : ByteArray) (w : World) : Calls Try.prog 54 #[.agg #[.string nm, .string da, .int .i64 sy], .string t] w fun e w' => e = .returned (.int .i64 (cmpZ nm t)) ∧ Below w.heap.size w w' := by
  go_enter Try.func54, Try.ntmps54
  go_wp2_with (first | (go_at_call 55; refine (compare_any _ _ _).mono ?_; rintro e w' ⟨rfl, rfl⟩))
  go_ret
  exact ⟨rfl, bnew _ _⟩
end Go.Proofs.Ytndaihhjhllfcad
