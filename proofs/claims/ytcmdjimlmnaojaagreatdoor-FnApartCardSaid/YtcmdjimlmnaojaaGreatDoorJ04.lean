import Derived.Test.YtcmdjimlmnaojaaGreatDoorRows
import Derived.Test.YtcmdjimlmnaojaaGreatDoorChecked
import Derived.JoinedOf
import Derived.WalkKit
import Derived.Test.YtcmdjimlmnaojaaGreatDoorJ01
set_option maxRecDepth 100000
set_option maxHeartbeats 8000000
namespace Go.Proofs.YtcmdjimlmnaojaaGreatDoor
open Go.RowKit
theorem aBe{a b:Bool}(c:a=true)(d:b=true):(a&&b)=true:=by rw[c,d];rfl
theorem RY:joinedFacts Tryz.pinned.checked.prog 3 Tryz.f3 Rows.fnApartSpec Rows.fnApartRow=true:=by
 unfold joinedFacts;repeat' (with_reducible refine aBe ?_ ?_)
 all_goals(as_aux_lemma=>kernel_rfl)
