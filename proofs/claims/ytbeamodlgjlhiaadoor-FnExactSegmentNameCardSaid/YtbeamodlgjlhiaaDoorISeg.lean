import Derived.Test.YtbeamodlgjlhiaaDoorShelf
import Derived.Test.YtbeamodlgjlhiaaDoorSegL
import Derived.Test.YtbeamodlgjlhiaaDoorOwn
import Derived.Lib.LaidTab
import Derived.Lib.AppendIntMem
namespace Go.Proofs.YtbeamodlgjlhiaaDoor
open Go.RowKit

def PowTab (w : World) : Prop := Lib.TabIs Tryd.prog w "internal/strconv.uint64pow10" .u64 Lib.pow10Tab
theorem PowTab.later {w w' : World} (h : PowTab w) (hb : Below w.heap.size w w') : PowTab w' := by
  unfold PowTab Lib.TabIs World.var? at h ⊢
  cases hg : Tryd.prog.globalNamed "internal/strconv.uint64pow10" with
  | none => rw [hg] at h; cases h
  | some g =>
    rw [hg] at h
    simp only [Option.bind_some] at h ⊢
    have hlt : g < w.heap.size := by
      rcases Nat.lt_or_ge g w.heap.size with h' | h'
      · exact h'
      · rw [Array.getElem?_eq_none h'] at h; cases h
    rw [hb.block g hlt]
    exact h

theorem segN_of (n : Nat) (h : n < 1000000) : (⟨#[119, 97, 108, 45]⟩ : ByteArray) ++ (⟨(Lib.itoa ((1000000 + n : Nat) : Int)).toArray⟩ : ByteArray).extract 1 7 = segN n := by
  rw [itoa_seg n h]
  apply ByteArray.ext
  simp [segN, segD]

set_option maxRecDepth 100000 in
set_option maxHeartbeats 1000000 in
theorem implSeg_any (n : Int) (w : World) (htab : PowTab w) :
    Calls Tryd.prog 5 #[.int .i64 n] w fun e w' => e = .returned (.string (segS n)) ∧ Below w.heap.size w w' := by
  by_cases h : 1 ≤ n ∧ n ≤ 999999
  · obtain ⟨N, rfl⟩ := Int.eq_ofNat_of_zero_le (show 0 ≤ n by omega)
    have E : Hid (segS N = segN N) := if_pos h
    have hN0 : 1 ≤ N := by omega
    have hN1 : N ≤ 999999 := by omega
    have HI : Hid (Calls Tryd.prog 7 #[.int .i64 (1000000 + (N : Int))] w fun e w' => e = .returned (.string ⟨(Lib.itoa ((1000000 + N : Nat) : Int)).toArray⟩) ∧ Below w.heap.size w w') :=
      (Tryd.strconv_Itoa ((1000000 + N : Nat) : Int) (by omega) (by omega) w htab).mono (by
        rintro e w' ⟨rfl, k, os, rfl⟩
        exact ⟨rfl, Lib.below_grow _ _ (Nat.le_refl _) _ _⟩)
    have HX : Hid ((⟨#[119, 97, 108, 45]⟩ : ByteArray) ++ (⟨(Lib.itoa ((1000000 + N : Nat) : Int)).toArray⟩ : ByteArray).extract 1 7 = segN N) := segN_of N (by omega)
    have hz : (⟨(Lib.itoa ((1000000 + N : Nat) : Int)).toArray⟩ : ByteArray).size = 7 := by
      rw [itoa_seg N (by omega)]; simp [segD, ByteArray.size]
    generalize (⟨(Lib.itoa ((1000000 + N : Nat) : Int)).toArray⟩ : ByteArray) = X at *
    clear h htab
    go_enter Tryd.func5, Tryd.ntmps5
    go_wp2_with fail
    refine HI.out.mono ?_
    rintro e w1 ⟨rfl, hb1⟩
    have HB : Hid (Below w.heap.size w w1) := hb1
    clear hb1
    go_wp2
    go_ret
    refine ⟨?_, HB.out⟩
    rw [E.out, ← HX.out]
    rfl
  · have E : Hid (segS n = ByteArray.empty) := if_neg h
    by_cases h1 : n < 1
    · go_enter Tryd.func5, Tryd.ntmps5
      go_wp2
      go_ret
      exact ⟨by rw [E.out]; rfl, Below.refl _ _⟩
    · have h2 : 999999 < n := by omega
      clear h
      go_enter Tryd.func5, Tryd.ntmps5
      go_wp2
      go_ret
      exact ⟨by rw [E.out]; rfl, Below.refl _ _⟩
end Go.Proofs.YtbeamodlgjlhiaaDoor
