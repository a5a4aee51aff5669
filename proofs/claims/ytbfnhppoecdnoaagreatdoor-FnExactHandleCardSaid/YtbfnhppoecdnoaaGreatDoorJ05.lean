import Derived.Test.YtbfnhppoecdnoaaGreatDoorRows
import Derived.Test.YtbfnhppoecdnoaaGreatDoorChecked
import Derived.JoinedOf
import Derived.WalkKit
import Derived.Test.YtbfnhppoecdnoaaGreatDoorJ01
set_option maxRecDepth 100000
set_option maxHeartbeats 8000000
namespace Go.Proofs.YtbfnhppoecdnoaaGreatDoor
open Go.RowKit
theorem aIk{a b:Bool}(c:a=true)(d:b=true):(a&&b)=true:=by rw[c,d];rfl
theorem da:joinedFacts Tryz.pinned.checked.prog 3 Tryz.f3 Rows.fnExactHandleSpec Rows.fnExactHandleRow=true:=by
 unfold joinedFacts;repeat' (with_reducible refine aIk ?_ ?_)
 all_goals(as_aux_lemma=>kernel_rfl)
