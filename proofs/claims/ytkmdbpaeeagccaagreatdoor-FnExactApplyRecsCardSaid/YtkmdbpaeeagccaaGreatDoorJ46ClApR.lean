import Derived.Test.YtkmdbpaeeagccaaGreatDoorRows
import Derived.Test.YtkmdbpaeeagccaaGreatDoorProg
import Derived.Test.YtkmdbpaeeagccaaGreatDoorChecked
import Derived.JoinedOf
import Derived.WalkKit
namespace Go.Proofs.YtkmdbpaeeagccaaGreatDoor
open Go.RowKit
theorem bandClApR {a b : Bool} (h1 : a = true) (h2 : b = true) : (a && b) = true:=by rw [h1,h2]; rfl
set_option maxRecDepth 100000 in
set_option maxHeartbeats 8000000 in
theorem closedApplyRecs : joinedFacts Tryz.pinned.checked.prog 3 Tryz.f3 Rows.fnExactApplyRecsSpec Rows.fnExactApplyRecsRow = true:=by
  unfold joinedFacts
  repeat' (with_reducible refine bandClApR ?_ ?_)
  all_goals (as_aux_lemma=>kernel_rfl)
end Go.Proofs.YtkmdbpaeeagccaaGreatDoor
