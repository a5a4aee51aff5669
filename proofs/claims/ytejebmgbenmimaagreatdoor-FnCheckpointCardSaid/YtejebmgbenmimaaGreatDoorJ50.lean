import Derived.Test.YtejebmgbenmimaaGreatDoorRows
import Derived.JoinedOf
import Derived.WalkKit
import Derived.Test.YtejebmgbenmimaaGreatDoorJ01
set_option maxRecDepth 100000
set_option maxHeartbeats 8000000
namespace Go.Proofs.YtejebmgbenmimaaGreatDoor
open Go.RowKit
theorem yz{a b:Bool}(c:a=true)(d:b=true):(a&&b)=true:=by rw[c,d];rfl
theorem BR:joinedFacts Tryz.pinned.checked.prog 3 Tryz.f3 Rows.fnCheckpointSpec Rows.fnCheckpointRow=true:=by
 unfold joinedFacts;repeat' (with_reducible refine yz ?_ ?_)
 all_goals(as_aux_lemma=>kernel_rfl)
