import Derived.Test.YtmggmbidihjblaaDoorProg
import Derived.Test.YtmggmbidihjblaaDoorBtw
namespace Go.Proofs.YtmggmbidihjblaaDoor
open Go.RowKit

theorem within_any (x hi : Int) (w : World) : Calls Tryd.prog 21 #[.int .i64 x, .int .i64 hi] w fun e w' => e = .returned (.bool (btwB x 0 hi)) ∧ w' = w := by
  by_cases h1 : 0 ≤ x
  · by_cases h2 : x ≤ hi
    · have e : btwB x 0 hi = true := by simp [btwB, h1, h2]
      rw [e]
      go_enter Tryd.func21, Tryd.ntmps21
      go_wp2
      go_ret
      exact ⟨rfl, rfl⟩
    · have e : btwB x 0 hi = false := by simp [btwB, h2]
      rw [e]
      go_enter Tryd.func21, Tryd.ntmps21
      go_wp2
      go_ret
      exact ⟨rfl, rfl⟩
  · have e : btwB x 0 hi = false := by simp [btwB, h1]
    rw [e]
    go_enter Tryd.func21, Tryd.ntmps21
    go_wp2
    go_ret
    exact ⟨rfl, rfl⟩

end Go.Proofs.YtmggmbidihjblaaDoor
