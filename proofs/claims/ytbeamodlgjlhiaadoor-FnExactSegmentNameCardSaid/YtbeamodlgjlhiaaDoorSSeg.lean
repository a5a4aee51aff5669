import Derived.Test.YtbeamodlgjlhiaaDoorProg
import Derived.Test.YtbeamodlgjlhiaaDoorConv1
import Derived.Test.YtbeamodlgjlhiaaDoorBtw
import Derived.Test.YtbeamodlgjlhiaaDoorSegL
namespace Go.Proofs.YtbeamodlgjlhiaaDoor
open Go.RowKit

set_option maxRecDepth 100000 in
set_option maxHeartbeats 1000000 in
theorem specSeg_any (n : Int) (w : World) :
    Calls Tryd.prog 4 #[.int .i64 n] w fun e w' => e = .returned (.string (segS n)) ∧ Below w.heap.size w w' := by
  by_cases h : 1 ≤ n ∧ n ≤ 999999
  · have hB : btwB n 1 999999 = true := by unfold btwB; simp; omega
    have E : Hid (segS n = segN n.toNat) := if_pos h
    obtain ⟨N, rfl⟩ := Int.eq_ofNat_of_zero_le (show 0 ≤ n by omega)
    have hN : N ≤ 999999 := by omega
    have hcv := conv_one
    clear h
    go_enter Tryd.func4, Tryd.ntmps4
    go_wp2_with (go_at_call 6; refine (between_any _ _ _ _).mono ?_; rintro e w' ⟨rfl, hw⟩; replace hw := hw.symm; subst hw)
    go_loopw [0, 3, 4] (fun m s i wr => ∃ (j M : Nat) (st : ByteArray), j ≤ 6 ∧ i = .int .i64 j ∧ m = .int .i64 M ∧ s = .string st ∧ Hid (M = N / 10 ^ j) ∧ M ≤ 999999 ∧ st.size = j ∧ Hid (st.data.toList = segD N j) ∧ Below w.heap.size w wr) (fun _ _ i _ => 6 - (intOf i).toNat)
    case atStart => exact ⟨0, N, ByteArray.empty, by omega, rfl, rfl, rfl, by show _ = _; simp, hN, rfl, rfl, Below.refl _ _⟩
    case round =>
      obtain ⟨j, M, st, hj, rfl, rfl, rfl, hM, hM2, hsz, hst, hbel⟩ := hrel
      by_cases hlt : j < 6
      · go_wp2
        refine ⟨⟨j + 1, M / 10, _, by omega, by go_num, by go_num, rfl, ?_, by omega, ?_, ?_, bto hbel (bnew _ _)⟩, by simp [intOf]; omega⟩
        · show _ = _
          rw [hM.out, Nat.div_div_eq_div_mul, Nat.pow_succ]
        · rw [str_one_size, hsz]
        · show _ = _
          rw [str_one, hst.out, segD, hM.out]
      · go_wp2
        go_ret
        have e : j = 6 := by omega
        subst e
        refine ⟨congrArg (fun x => Ending.returned (.string x)) ?_, hbel⟩
        rw [E.out, segN]
        refine mk_toList _ _ ?_
        rw [Int.toNat_natCast, ← hst.out]
        simp
  · have hB : btwB n 1 999999 = false := by unfold btwB; simp; omega
    have E : Hid (segS n = ByteArray.empty) := if_neg h
    go_enter Tryd.func4, Tryd.ntmps4
    go_wp2_with (go_at_call 6; refine (between_any _ _ _ _).mono ?_; rintro e w' ⟨rfl, hw⟩; replace hw := hw.symm; subst hw)
    go_ret
    exact ⟨congrArg (fun x => Ending.returned (.string x)) E.out.symm, Below.refl _ _⟩
end Go.Proofs.YtbeamodlgjlhiaaDoor
