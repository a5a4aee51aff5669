import Derived.Test.YteajeifmllogiaaGreatDoorRows
import Derived.Test.YteajeifmllogiaaGreatDoorProg
import Derived.Test.YteajeifmllogiaaGreatDoorChecked
import Derived.JoinedOf
import Derived.WalkKit
namespace Go.Proofs.YteajeifmllogiaaGreatDoor
open Go.RowKit

theorem band {a b : Bool} (h1 : a = true) (h2 : b = true) : (a && b) = true := by rw [h1, h2]; rfl
set_option maxRecDepth 100000 in
set_option maxHeartbeats 8000000 in
theorem closedDecodeState : joinedFacts Tryz.pinned.checked.prog 3 Tryz.f3 Rows.fnExactDecodeStateSpec Rows.fnExactDecodeStateRow = true := by
  unfold joinedFacts
  repeat' (with_reducible refine band ?_ ?_)
  all_goals (as_aux_lemma => kernel_rfl)
end Go.Proofs.YteajeifmllogiaaGreatDoor

