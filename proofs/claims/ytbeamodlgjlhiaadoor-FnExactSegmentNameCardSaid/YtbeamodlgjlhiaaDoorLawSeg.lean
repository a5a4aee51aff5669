import Derived.Test.YtbeamodlgjlhiaaDoorProg
import Derived.Test.YtbeamodlgjlhiaaDoorSSeg
namespace Go.Proofs.YtbeamodlgjlhiaaDoor
open Go.RowKit

set_option maxRecDepth 100000 in
set_option maxHeartbeats 1000000 in
theorem lawSeg_core (n : Int) (w : World)
    (HIM : Hid (∀ W, Below w.heap.size w W → Calls Tryd.prog 5 #[.int .i64 n] W fun e w' => e = .returned (.string (segS n)) ∧ Below W.heap.size W w')) :
    Calls Tryd.prog 3 #[.int .i64 n] w fun e w' => e = .returned (.bool true) ∧ Below w.heap.size w w' := by
  have him := HIM.out
  have hsp := fun W => specSeg_any n W
  generalize segS n = F at *
  have HI : Hid (∀ W, Below w.heap.size w W → Calls Tryd.prog 5 #[.int .i64 n] W fun e w' => e = .returned (.string F) ∧ Below W.heap.size W w') := him
  have HSP : Hid (∀ W, Calls Tryd.prog 4 #[.int .i64 n] W fun e w' => e = .returned (.string F) ∧ Below W.heap.size W w') := hsp
  clear him HIM hsp
  go_enter Tryd.func3, Tryd.ntmps3
  go_wp2_with fail
  refine (HSP.out _).mono ?_
  rintro e w1 ⟨rfl, hb1⟩
  go_wp2_with fail
  refine (HI.out _ hb1).mono ?_
  rintro e w2 ⟨rfl, hb2⟩
  have HB : Hid (Below w.heap.size w w2) := bto hb1 hb2
  clear hb1 hb2
  go_wp2
  go_ret
  exact ⟨rfl, HB.out⟩
end Go.Proofs.YtbeamodlgjlhiaaDoor
