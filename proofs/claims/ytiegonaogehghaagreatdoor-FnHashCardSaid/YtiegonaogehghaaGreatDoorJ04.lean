import Derived.Test.YtiegonaogehghaaGreatDoorRows
import Derived.Test.YtiegonaogehghaaGreatDoorChecked
import Derived.JoinedOf
import Derived.WalkKit
import Derived.Test.YtiegonaogehghaaGreatDoorJ01
set_option maxRecDepth 100000
set_option maxHeartbeats 8000000
namespace Go.Proofs.YtiegonaogehghaaGreatDoor
open Go.RowKit
theorem aBk{a b:Bool}(c:a=true)(d:b=true):(a&&b)=true:=by rw[c,d];rfl
theorem XJ:joinedFacts Tryz.pinned.checked.prog 3 Tryz.f3 Rows.fnHashSpec Rows.fnHashRow=true:=by
 unfold joinedFacts;repeat' (with_reducible refine aBk ?_ ?_)
 all_goals(as_aux_lemma=>kernel_rfl)
