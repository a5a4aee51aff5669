import Derived.Test.YtojeemogabhaoaaGreatDoorRows
import Derived.Test.YtojeemogabhaoaaGreatDoorProg
import Derived.Test.YtojeemogabhaoaaGreatDoorChecked
import Derived.JoinedOf
import Derived.WalkKit
namespace Go.Proofs.YtojeemogabhaoaaGreatDoor
open Go.RowKit
theorem bandSh {a b : Bool} (h1 : a = true) (h2 : b = true) : (a && b) = true := by rw [h1, h2]; rfl
set_option maxRecDepth 100000 in
set_option maxHeartbeats 8000000 in
theorem closedShards : joinedFacts Tryz.pinned.checked.prog 6 Tryz.f6 Rows.fnExactShardsSpec Rows.fnExactShardsRow = true := by
  unfold joinedFacts
  repeat' (with_reducible refine bandSh ?_ ?_)
  all_goals (as_aux_lemma => kernel_rfl)
end Go.Proofs.YtojeemogabhaoaaGreatDoor
