import Derived.Test.YtagajcmdbifamaaIHash
namespace Go.Proofs.Ytagajcmdbifamaa
open Go.RowKit

set_option maxRecDepth 100000 in
set_option maxHeartbeats 1000000 in
theorem lawHash (s : ByteArray) (w : World) (hs : s.size ≤ maxLen) :
    Calls Try.prog 4 #[.string s] w fun e w' => e = .returned (.bool true) ∧ Below w.heap.size w w' := by
  have HS : Hid (s.size ≤ maxLen) := hs
  unfold maxLen at hs
  by_cases hbig : (1048576 : Int) < s.size
  · go_enter Try.func4, Try.ntmps4
    go_wp2
    go_ret
    exact ⟨rfl, Below.refl _ _⟩
  have h1 := fun W => specHash_any s W HS.out
  have h2 := fun W => implHash_any s W HS.out
  generalize w64 (hashL s.data.toList) = H at *
  have H1 : Hid (∀ W, Calls Try.prog 10 #[.string s] W fun e w' => e = .returned (.int .i64 H) ∧ w' = W) := h1
  have H2 : Hid (∀ W, Calls Try.prog 11 #[.string s] W fun e w' => e = .returned (.int .i64 H) ∧ w' = W) := h2
  clear h1 h2
  go_enter Try.func4, Try.ntmps4
  go_wp2_with fail
  refine (H1.out _).mono ?_
  rintro e w1 ⟨rfl, hw⟩
  replace hw := hw.symm
  subst hw
  go_wp2_with fail
  refine (H2.out _).mono ?_
  rintro e w2 ⟨rfl, hw⟩
  replace hw := hw.symm
  subst hw
  go_wp2
  go_ret
  exact ⟨rfl, Below.refl _ _⟩
end Go.Proofs.Ytagajcmdbifamaa
