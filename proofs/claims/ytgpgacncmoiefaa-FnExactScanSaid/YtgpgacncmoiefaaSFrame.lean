import Derived.Test.YtgpgacncmoiefaaProg
import Derived.Test.YtgpgacncmoiefaaSCrc
import Derived.Test.YtgpgacncmoiefaaScanL
namespace Go.Proofs.Ytgpgacncmoiefaa
open Go.RowKit

theorem ret_str {a b : ByteArray} (h : a = b) : Ending.returned (.string a) = .returned (.string b) := by rw [h]

set_option maxRecDepth 100000 in
set_option maxHeartbeats 1000000 in
theorem specFrame_any (p : ByteArray) (w : World) (hs : p.size ≤ maxLen) :
    Calls Try.prog 11 #[.string p] w fun e w' => e = .returned (.string (frameS p)) ∧ Below w.heap.size w w' := by
  by_cases h : 1 ≤ p.size ∧ p.size ≤ 60000
  · have hB : btwB (p.size : Int) 1 60000 = true := by unfold btwB; simp; omega
    have E : Hid (frameS p = numS 4 p.size ++ numS 4 (crcV p : Nat) ++ p) := if_pos h
    have h1 := numS_size 4 (p.size : Int)
    have h2 := numS_size 4 ((crcV p : Nat) : Int)
    have hc := crcV_lt p
    have hp := h.2
    have HS : Hid (p.size ≤ maxLen) := hs
    clear hs h
    go_enter Try.func11, Try.ntmps11
    go_wp2_with (go_at_call 34; refine (between_any _ _ _ _).mono ?_; rintro e w' ⟨rfl, hw⟩; replace hw := hw.symm; subst hw)
    refine (specNum_any 4 (p.size : Int) _ (by omega) (by omega) (by omega)).mono ?_
    rintro e w1 ⟨rfl, hb1⟩
    go_wp2_with fail
    refine (specCrc_any p _ HS.out).mono ?_
    rintro e w' ⟨rfl, hw⟩
    replace hw := hw.symm
    subst hw
    go_wp2_with fail
    refine (specNum_any 4 ((crcV p : Nat) : Int) _ (by omega) (by omega) (by omega)).mono ?_
    rintro e w2 ⟨rfl, hb2⟩
    generalize numS 4 (p.size : Int) = A at *
    generalize numS 4 ((crcV p : Nat) : Int) = B at *
    have HB : Hid (Below w.heap.size w w2) := bto hb1 hb2
    clear hb1 hb2
    go_wp2
    go_ret
    exact ⟨ret_str E.out.symm, HB.out⟩
  · have hB : btwB (p.size : Int) 1 60000 = false := by unfold btwB; simp; omega
    have E : Hid (frameS p = ByteArray.empty) := if_neg h
    go_enter Try.func11, Try.ntmps11
    go_wp2_with (go_at_call 34; refine (between_any _ _ _ _).mono ?_; rintro e w' ⟨rfl, hw⟩; replace hw := hw.symm; subst hw)
    go_ret
    exact ⟨ret_str E.out.symm, Below.refl _ _⟩
end Go.Proofs.Ytgpgacncmoiefaa
