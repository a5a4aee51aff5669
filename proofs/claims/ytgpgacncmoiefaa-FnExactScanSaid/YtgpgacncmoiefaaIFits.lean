import Derived.Test.YtgpgacncmoiefaaBtw
namespace Go.Proofs.Ytgpgacncmoiefaa
open Go.RowKit

theorem fits_any (x : Int) (w : World) : Calls Try.prog 36 #[.int .i64 x] w fun e w' => e = .returned (.bool (btwB x 1 60000)) ∧ w' = w := by
  by_cases h1 : 1 ≤ x
  · by_cases h2 : x ≤ 60000
    · have e : btwB x 1 60000 = true := by simp [btwB, h1, h2]
      rw [e]
      go_enter Try.func36, Try.ntmps36
      go_wp2
      go_ret
      exact ⟨rfl, rfl⟩
    · have e : btwB x 1 60000 = false := by simp [btwB, h2]
      rw [e]
      go_enter Try.func36, Try.ntmps36
      go_wp2
      go_ret
      exact ⟨rfl, rfl⟩
  · have e : btwB x 1 60000 = false := by simp [btwB, h1]
    rw [e]
    go_enter Try.func36, Try.ntmps36
    go_wp2
    go_ret
    exact ⟨rfl, rfl⟩

end Go.Proofs.Ytgpgacncmoiefaa
