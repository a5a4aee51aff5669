import Derived.Test.YtnbkmmmlhlbfoaaGreatDoorRows
import Derived.Test.YtnbkmmmlhlbfoaaGreatDoorProg
import Derived.Test.YtnbkmmmlhlbfoaaGreatDoorChecked
import Derived.JoinedOf
import Derived.WalkKit
namespace Go.Proofs.YtnbkmmmlhlbfoaaGreatDoor
open Go.RowKit
theorem bandClFad {a b : Bool} (h1 : a = true) (h2 : b = true) : (a && b) = true := by rw [h1, h2]; rfl
set_option maxRecDepth 100000 in
set_option maxHeartbeats 8000000 in
theorem closedFnAdmit : joinedFacts Tryz.pinned.checked.prog 3 Tryz.f3 Rows.fnAdmitSpec Rows.fnAdmitRow = true := by
  unfold joinedFacts
  repeat' (with_reducible refine bandClFad ?_ ?_)
  all_goals (as_aux_lemma => kernel_rfl)
end Go.Proofs.YtnbkmmmlhlbfoaaGreatDoor
