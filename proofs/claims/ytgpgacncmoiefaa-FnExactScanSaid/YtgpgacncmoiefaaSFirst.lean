import Derived.Test.YtgpgacncmoiefaaProg
import Derived.Test.YtgpgacncmoiefaaSFrame
import Derived.Test.YtgpgacncmoiefaaSGet
import Derived.Test.YtgpgacncmoiefaaStrL
namespace Go.Proofs.Ytgpgacncmoiefaa
open Go.RowKit

set_option maxRecDepth 100000 in
set_option maxHeartbeats 1000000 in
theorem specFirst_any (d : ByteArray) (w : World) (hs : d.size ≤ maxLen) :
    Calls Try.prog 38 #[.string d] w fun e w' => e = .returned (.string (firstS d)) ∧ Below w.heap.size w w' := by
  have HS : Hid (d.size ≤ maxLen) := hs
  unfold maxLen at hs
  by_cases h8 : d.size < 8
  · have E : Hid (firstS d = ByteArray.empty) := if_pos h8
    go_enter Try.func38, Try.ntmps38
    go_wp2
    go_ret
    exact ⟨ret_str E.out.symm, Below.refl _ _⟩
  · have E0 : Hid (firstS d = if d.size - 8 < headN d then ByteArray.empty
      else if frameS (d.extract 8 (8 + headN d)) = ByteArray.empty ∨ frameS (d.extract 8 (8 + headN d)) ≠ d.extract 0 (8 + headN d) then ByteArray.empty
      else d.extract 8 (8 + headN d)) := if_neg h8
    have hg : ∀ w, Calls Try.prog 67 #[.string d, .int .i64 0, .int .i64 4] w fun e w' => e = .returned (.int .i64 (headN d : Nat)) ∧ w' = w := fun w => specGet_any d 0 4 w HS.out (by omega) (by omega)
    have HG : Hid (∀ w, Calls Try.prog 67 #[.string d, .int .i64 0, .int .i64 4] w fun e w' => e = .returned (.int .i64 (headN d : Nat)) ∧ w' = w) := hg
    have hN : headN d < 4294967296 := by
      have := beL_lt (sectL d 0 4)
      rw [sectL_length (by omega)] at this
      exact this
    clear hg
    have hf : ∀ w, headN d ≤ d.size - 8 → Calls Try.prog 11 #[.string (d.extract 8 (8 + headN d))] w fun e w' => e = .returned (.string (frameS (d.extract 8 (8 + headN d)))) ∧ Below w.heap.size w w' := fun w h => specFrame_any _ w (by rw [part_size (by omega)]; unfold maxLen; omega)
    have HFR : Hid (∀ w, headN d ≤ d.size - 8 → Calls Try.prog 11 #[.string (d.extract 8 (8 + headN d))] w fun e w' => e = .returned (.string (frameS (d.extract 8 (8 + headN d)))) ∧ Below w.heap.size w w') := hf
    clear hf
    generalize frameS (d.extract 8 (8 + headN d)) = F at *
    generalize headN d = N at *
    by_cases h3 : d.size - 8 < N
    · have E : Hid (firstS d = ByteArray.empty) := by show _ = _; rw [E0.out, if_pos h3]
      go_enter Try.func38, Try.ntmps38
      go_wp2_with (go_at_call 67; refine (HG.out _).mono ?_; rintro e w' ⟨rfl, hw⟩; replace hw := hw.symm; subst hw)
      go_ret
      exact ⟨ret_str E.out.symm, Below.refl _ _⟩
    · go_enter Try.func38, Try.ntmps38
      go_wp2_with (go_at_call 67; refine (HG.out _).mono ?_; rintro e w' ⟨rfl, hw⟩; replace hw := hw.symm; subst hw)
      refine (HFR.out _ (by omega)).mono ?_
      rintro e w1 ⟨rfl, hb1⟩
      have HB : Hid (Below w.heap.size w w1) := hb1
      clear hb1
      by_cases hE : F = ByteArray.empty
      · have E : Hid (firstS d = ByteArray.empty) := by show _ = _; rw [E0.out, if_neg h3, if_pos (Or.inl hE)]
        have hEb : F.toList.isEmpty = true := str_nil.2 hE
        clear hE
        go_wp2
        go_ret
        exact ⟨ret_str E.out.symm, HB.out⟩
      · have hEb : F.toList.isEmpty = false := str_some.2 hE
        by_cases hD : F = d.extract 0 (8 + N)
        · have E : Hid (firstS d = d.extract 8 (8 + N)) := by show _ = _; rw [E0.out, if_neg h3, if_neg (by intro h; rcases h with h | h; exact hE h; exact h hD)]
          have hDb : (F.toList == (d.extract 0 (8 + N)).toList) = true := str_eq.2 hD
          clear hE hD
          go_wp2
          go_ret
          exact ⟨ret_str E.out.symm, HB.out⟩
        · have E : Hid (firstS d = ByteArray.empty) := by show _ = _; rw [E0.out, if_neg h3, if_pos (Or.inr hD)]
          have hDb : (F.toList == (d.extract 0 (8 + N)).toList) = false := str_ne.2 hD
          clear hE hD
          go_wp2
          go_ret
          exact ⟨ret_str E.out.symm, HB.out⟩
end Go.Proofs.Ytgpgacncmoiefaa
