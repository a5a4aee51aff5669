import Derived.Test.YtgpgacncmoiefaaProg
import Derived.Test.YtgpgacncmoiefaaSFrame
namespace Go.Proofs.Ytgpgacncmoiefaa
open Go.RowKit

set_option maxRecDepth 100000 in
set_option maxHeartbeats 1000000 in
theorem lawCrc_core (s : ByteArray) (w : World) (hs : s.size ≤ maxLen)
    (HIM : Hid (s.size ≤ 1048576 → ∀ W, Calls Try.prog 10 #[.string s] W fun e w' => e = .returned (.int .i64 (crcV s : Nat)) ∧ Below W.heap.size W w')) :
    Calls Try.prog 3 #[.string s] w fun e w' => e = .returned (.bool true) ∧ Below w.heap.size w w' := by
  have HS : Hid (s.size ≤ maxLen) := hs
  unfold maxLen at hs
  by_cases hbig : (1048576 : Int) < s.size
  · go_enter Try.func3, Try.ntmps3
    go_wp2
    go_ret
    exact ⟨rfl, Below.refl _ _⟩
  have him := HIM.out (by omega)
  have HI : Hid (∀ W, Calls Try.prog 10 #[.string s] W fun e w' => e = .returned (.int .i64 (crcV s : Nat)) ∧ Below W.heap.size W w') := him
  clear him HIM
  go_enter Try.func3, Try.ntmps3
  go_wp2_with fail
  refine (specCrc_any s _ HS.out).mono ?_
  rintro e w1 ⟨rfl, hw⟩
  replace hw := hw.symm
  subst hw
  go_wp2_with fail
  refine (HI.out _).mono ?_
  rintro e w2 ⟨rfl, hb2⟩
  have HB : Hid (Below w.heap.size w w2) := hb2
  clear hb2
  go_wp2
  go_ret
  exact ⟨rfl, HB.out⟩

set_option maxRecDepth 100000 in
set_option maxHeartbeats 1000000 in
theorem lawFrame_core (s : ByteArray) (w : World) (hs : s.size ≤ maxLen)
    (HIM : Hid (s.size ≤ 1048576 → ∀ W, Calls Try.prog 12 #[.string s] W fun e w' => e = .returned (.string (frameS s)) ∧ Below W.heap.size W w')) :
    Calls Try.prog 4 #[.string s] w fun e w' => e = .returned (.bool true) ∧ Below w.heap.size w w' := by
  have HS : Hid (s.size ≤ maxLen) := hs
  unfold maxLen at hs
  by_cases hbig : (1048576 : Int) < s.size
  · go_enter Try.func4, Try.ntmps4
    go_wp2
    go_ret
    exact ⟨rfl, Below.refl _ _⟩
  have him := HIM.out (by omega)
  have hsp := fun W => specFrame_any s W HS.out
  generalize frameS s = F at *
  have HI : Hid (∀ W, Calls Try.prog 12 #[.string s] W fun e w' => e = .returned (.string F) ∧ Below W.heap.size W w') := him
  have HSP : Hid (∀ W, Calls Try.prog 11 #[.string s] W fun e w' => e = .returned (.string F) ∧ Below W.heap.size W w') := hsp
  clear him HIM hsp
  go_enter Try.func4, Try.ntmps4
  go_wp2_with fail
  refine (HSP.out _).mono ?_
  rintro e w1 ⟨rfl, hb1⟩
  go_wp2_with fail
  refine (HI.out _).mono ?_
  rintro e w2 ⟨rfl, hb2⟩
  have HB : Hid (Below w.heap.size w w2) := bto hb1 hb2
  clear hb1 hb2
  go_wp2
  go_ret
  exact ⟨rfl, HB.out⟩

end Go.Proofs.Ytgpgacncmoiefaa
