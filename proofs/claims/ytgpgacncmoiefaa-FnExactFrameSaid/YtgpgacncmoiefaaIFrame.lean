import Derived.Test.YtgpgacncmoiefaaICrc
import Derived.Test.YtgpgacncmoiefaaIHigh
import Derived.Test.YtgpgacncmoiefaaSFrame
import Derived.Test.YtgpgacncmoiefaaIFits
namespace Go.Proofs.Ytgpgacncmoiefaa
open Go.RowKit

set_option maxRecDepth 100000 in
set_option maxHeartbeats 1000000 in
theorem implFrame_any (p : ByteArray) (w : World) (hs : p.size ≤ maxLen) :
    Calls Try.prog 12 #[.string p] w fun e w' => e = .returned (.string (frameS p)) ∧ Below w.heap.size w w' := by
  have HS : Hid (p.size ≤ maxLen) := hs
  unfold maxLen at hs
  have HF : Hid (∀ W, Calls Try.prog 36 #[.int .i64 (p.size : Int)] W fun e w' => e = .returned (.bool (btwB p.size 1 60000)) ∧ w' = W) := fun W => fits_any _ W
  by_cases h : 1 ≤ p.size ∧ p.size ≤ 60000
  · have hb : btwB p.size 1 60000 = true := by simp [btwB]; omega
    rw [hb] at HF
    have E : Hid (frameS p = numS 4 p.size ++ numS 4 (crcV p : Nat) ++ p) := if_pos h
    have h4 := numS_size 4 (p.size : Int)
    have h4' := numS_size 4 ((crcV p : Nat) : Int)
    have H1 : Hid (∀ W, Calls Try.prog 37 #[.int .i64 (p.size : Int), .int .i64 4] W fun e w' => e = .returned (.string (numS 4 p.size)) ∧ Below W.heap.size W w') := fun W => implHigh_any 4 _ W (by omega)
    have H2 : Hid (∀ W, Calls Try.prog 37 #[.int .i64 (crcV p : Nat), .int .i64 4] W fun e w' => e = .returned (.string (numS 4 (crcV p : Nat))) ∧ Below W.heap.size W w') := fun W => implHigh_any 4 _ W (by omega)
    generalize numS 4 (p.size : Int) = A at *
    generalize numS 4 ((crcV p : Nat) : Int) = B at *
    go_enter Try.func12, Try.ntmps12
    go_wp2_with (go_at_call 36; refine (HF.out _).mono ?_; rintro e w' ⟨rfl, hw⟩; replace hw := hw.symm; subst hw)
    refine (H1.out _).mono ?_
    rintro e w1 ⟨rfl, hb1⟩
    go_wp2_with fail
    refine (implCrc_any p _ HS.out).mono ?_
    rintro e w2 ⟨rfl, hb2⟩
    go_wp2_with fail
    refine (H2.out _).mono ?_
    rintro e w3 ⟨rfl, hb3⟩
    have HB : Hid (Below w.heap.size w w3) := bto (bto hb1 hb2) hb3
    clear hb1 hb2 hb3
    go_wp2
    go_ret
    exact ⟨ret_str E.out.symm, HB.out⟩
  · have hb : btwB p.size 1 60000 = false := by simp [btwB]; omega
    rw [hb] at HF
    have E : Hid (frameS p = ByteArray.empty) := if_neg h
    go_enter Try.func12, Try.ntmps12
    go_wp2_with (go_at_call 36; refine (HF.out _).mono ?_; rintro e w' ⟨rfl, hw⟩; replace hw := hw.symm; subst hw)
    go_ret
    exact ⟨ret_str E.out.symm, Below.refl _ _⟩
end Go.Proofs.Ytgpgacncmoiefaa
