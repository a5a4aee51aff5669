import Derived.Test.YtploplddbemelaaGreatDoorRows
import Derived.Test.YtploplddbemelaaGreatDoorProg
import Derived.Test.YtploplddbemelaaGreatDoorChecked
import Derived.JoinedOf
import Derived.WalkKit
namespace Go.Proofs.YtploplddbemelaaGreatDoor
open Go.RowKit

theorem bandClAdm {a b : Bool} (h1 : a = true) (h2 : b = true) : (a && b) = true := by rw [h1, h2]; rfl
set_option maxRecDepth 100000 in
set_option maxHeartbeats 8000000 in
theorem closedAdmit : joinedFacts Tryz.pinned.checked.prog 8 Tryz.f8 Rows.fnExactAdmitSpec Rows.fnExactAdmitRow = true := by
  unfold joinedFacts
  repeat' (with_reducible refine bandClAdm ?_ ?_)
  all_goals (as_aux_lemma => kernel_rfl)
end Go.Proofs.YtploplddbemelaaGreatDoor

