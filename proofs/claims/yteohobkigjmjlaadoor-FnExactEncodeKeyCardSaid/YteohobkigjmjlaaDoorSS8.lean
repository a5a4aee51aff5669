import Derived.Test.YteohobkigjmjlaaDoorProg
import Derived.Test.YteohobkigjmjlaaDoorS8L
namespace Go.Proofs.YteohobkigjmjlaaDoor
open Go.RowKit

theorem specS8_any (s : ByteArray) (w : World) (hs : s.size ≤ 1000000000) :
    Calls Tryd.prog 36 #[.string s] w fun e w' => e = .returned (.string (s8B s)) ∧ Below w.heap.size w w' := by
  have HC : Hid (∀ W, Calls Tryd.prog 35 #[.int .i64 1, .int .i64 (s.size : Nat)] W fun e w' => e = .returned (.string (numS 1 (s.size : Nat))) ∧ Below W.heap.size W w') := fun W => specNum_any 1 (s.size : Nat) W (by omega) (by omega) (by omega)
  have hz := numS_size 1 (s.size : Nat)
  unfold s8B
  generalize numS 1 (s.size : Nat) = N at *
  go_enter Tryd.func36, Tryd.ntmps36
  go_wp2_with fail
  refine (HC.out _).mono ?_
  rintro e w1 ⟨rfl, hb1⟩
  have HB : Hid (Below w.heap.size w w1) := hb1
  clear hb1
  go_wp2
  go_ret
  exact ⟨rfl, HB.out⟩
theorem specS16_any (s : ByteArray) (w : World) (hs : s.size ≤ 1000000000) :
    Calls Tryd.prog 37 #[.string s] w fun e w' => e = .returned (.string (s16B s)) ∧ Below w.heap.size w w' := by
  have HC : Hid (∀ W, Calls Tryd.prog 35 #[.int .i64 2, .int .i64 (s.size : Nat)] W fun e w' => e = .returned (.string (numS 2 (s.size : Nat))) ∧ Below W.heap.size W w') := fun W => specNum_any 2 (s.size : Nat) W (by omega) (by omega) (by omega)
  have hz := numS_size 2 (s.size : Nat)
  unfold s16B
  generalize numS 2 (s.size : Nat) = N at *
  go_enter Tryd.func37, Tryd.ntmps37
  go_wp2_with fail
  refine (HC.out _).mono ?_
  rintro e w1 ⟨rfl, hb1⟩
  have HB : Hid (Below w.heap.size w w1) := hb1
  clear hb1
  go_wp2
  go_ret
  exact ⟨rfl, HB.out⟩

end Go.Proofs.YteohobkigjmjlaaDoor
