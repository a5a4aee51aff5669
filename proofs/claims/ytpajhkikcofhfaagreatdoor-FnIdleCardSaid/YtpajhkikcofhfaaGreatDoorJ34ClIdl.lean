import Derived.Test.YtpajhkikcofhfaaGreatDoorRows
import Derived.Test.YtpajhkikcofhfaaGreatDoorProg
import Derived.Test.YtpajhkikcofhfaaGreatDoorChecked
import Derived.JoinedOf
import Derived.WalkKit
namespace Go.Proofs.YtpajhkikcofhfaaGreatDoor
open Go.RowKit

theorem bandClIdl {a b : Bool} (h1 : a = true) (h2 : b = true) : (a && b) = true := by rw [h1, h2]; rfl
set_option maxRecDepth 100000 in
set_option maxHeartbeats 8000000 in
theorem closedFnIdle : joinedFacts Tryz.pinned.checked.prog 3 Tryz.f3 Rows.fnIdleSpec Rows.fnIdleRow = true := by
  unfold joinedFacts
  repeat' (with_reducible refine bandClIdl ?_ ?_)
  all_goals (as_aux_lemma => kernel_rfl)
end Go.Proofs.YtpajhkikcofhfaaGreatDoor

