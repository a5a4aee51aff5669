import Derived.Test.YteohobkigjmjlaaDoorProg
import Derived.Test.YteohobkigjmjlaaDoorMet
namespace Go.Proofs.YteohobkigjmjlaaDoor
open Go.RowKit

set_option maxRecDepth 100000 in
set_option maxHeartbeats 1000000 in
theorem lawMet (d : ByteArray) (w : World) (hs : d.size ≤ maxLen) (hT : UTab w) :
    Calls Tryd.prog 6 #[.string d] w fun e w' => e = .returned (.bool true) ∧ Below w.heap.size w w' := by
  unfold maxLen at hs
  by_cases hbig : (1048576 : Int) < d.size
  · go_enter Tryd.func6, Tryd.ntmps6
    go_wp2
    go_ret
    exact ⟨rfl, Below.refl _ _⟩
  have hsp := fun W => specMet_any d W (by omega)
  have him := fun W => implMet_any d W (by omega)
  generalize metV (decV d).1 = L at *
  have HSP : Hid (∀ W, Calls Tryd.prog 19 #[.string d] W fun e w' => e = .returned (.string L) ∧ Below W.heap.size W w') := hsp
  have HI : Hid (∀ W, UTab W → Calls Tryd.prog 20 #[.string d] W fun e w' => e = .returned (.string L) ∧ Below W.heap.size W w') := him
  have HT : Hid (UTab w) := hT
  clear hsp him hT
  go_enter Tryd.func6, Tryd.ntmps6
  go_wp2_with fail
  refine (HSP.out _).mono ?_
  rintro e w1 ⟨rfl, hb1⟩
  have B1 : Hid (Below w.heap.size w w1) := hb1
  clear hb1
  go_wp2_with fail
  refine (HI.out _ (HT.out.later B1.out)).mono ?_
  rintro e w2 ⟨rfl, hb2⟩
  have B2 : Hid (Below w.heap.size w w2) := bto B1.out hb2
  clear hb2
  go_wp2
  go_ret
  exact ⟨rfl, B2.out⟩
end Go.Proofs.YteohobkigjmjlaaDoor
