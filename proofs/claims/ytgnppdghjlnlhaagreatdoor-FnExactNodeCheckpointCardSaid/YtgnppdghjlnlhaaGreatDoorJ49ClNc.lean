import Derived.Test.YtgnppdghjlnlhaaGreatDoorRows
import Derived.Test.YtgnppdghjlnlhaaGreatDoorProg
import Derived.Test.YtgnppdghjlnlhaaGreatDoorChecked
import Derived.JoinedOf
import Derived.WalkKit
namespace Go.Proofs.YtgnppdghjlnlhaaGreatDoor
open Go.RowKit
theorem bandClNc {a b : Bool} (h1 : a = true) (h2 : b = true) : (a && b) = true := by rw [h1, h2]; rfl
set_option maxRecDepth 100000 in
set_option maxHeartbeats 8000000 in
theorem closedNodeCheckpoint : joinedFacts Tryz.pinned.checked.prog 3 Tryz.f3 Rows.fnExactNodeCheckpointSpec Rows.fnExactNodeCheckpointRow = true := by
  unfold joinedFacts
  repeat' (with_reducible refine bandClNc ?_ ?_)
  all_goals (as_aux_lemma => kernel_rfl)
end Go.Proofs.YtgnppdghjlnlhaaGreatDoor
