import Derived.Test.YtjpeimianeiegaaGreatDoorRows
import Derived.JoinedOf
import Derived.WalkKit
import Derived.Test.YtjpeimianeiegaaGreatDoorJ01
set_option maxRecDepth 100000
set_option maxHeartbeats 8000000
namespace Go.Proofs.YtjpeimianeiegaaGreatDoor
open Go.RowKit
theorem aEl {a b : Bool} (h1 : a = true) (h2 : b = true) : (a && b) = true := by rw [h1, h2]; rfl
theorem NR : joinedFacts Tryz.pinned.checked.prog 3 Tryz.f3 Rows.fnExactNodeOpenSpec Rows.fnExactNodeOpenRow = true := by
  unfold joinedFacts
  repeat' (with_reducible refine aEl ?_ ?_)
  all_goals(as_aux_lemma => kernel_rfl)
