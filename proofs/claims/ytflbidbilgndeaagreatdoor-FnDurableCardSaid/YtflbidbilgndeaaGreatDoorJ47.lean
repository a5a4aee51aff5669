import Derived.Test.YtflbidbilgndeaaGreatDoorRows
import Derived.JoinedOf
import Derived.WalkKit
import Derived.Test.YtflbidbilgndeaaGreatDoorJ01
set_option maxRecDepth 100000
set_option maxHeartbeats 8000000
namespace Go.Proofs.YtflbidbilgndeaaGreatDoor
open Go.RowKit
theorem aDn{a b:Bool}(c:a=true)(d:b=true):(a&&b)=true:=by rw[c,d];rfl
theorem NC:joinedFacts Tryz.pinned.checked.prog 3 Tryz.f3 Rows.fnDurableSpec Rows.fnDurableRow=true:=by
 unfold joinedFacts;repeat' (with_reducible refine aDn ?_ ?_)
 all_goals(as_aux_lemma=>kernel_rfl)
