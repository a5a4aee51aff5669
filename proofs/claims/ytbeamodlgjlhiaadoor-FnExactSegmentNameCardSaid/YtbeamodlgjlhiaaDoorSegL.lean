import Derived.Test.YtbeamodlgjlhiaaDoorBase
import Derived.Lib.ItoaNum
namespace Go.Proofs.YtbeamodlgjlhiaaDoor
open Go.RowKit

/-- The last i digits of n. -/
def segD (n : Nat) : Nat → List UInt8
  | 0 => []
  | i + 1 => (48 + UInt8.ofNat (n / 10 ^ i % 10)) :: segD n i
def segN (n : Nat) : ByteArray := ⟨(119 :: 97 :: 108 :: 45 :: segD n 6).toArray⟩
def segS (n : Int) : ByteArray := if 1 ≤ n ∧ n ≤ 999999 then segN n.toNat else ByteArray.empty
theorem segD_length (n : Nat) : ∀ i, (segD n i).length = i
  | 0 => rfl
  | i + 1 => by simp [segD, segD_length n i]
theorem segS_size (n : Int) : (segS n).size ≤ 10 := by
  unfold segS
  split
  · show (119 :: 97 :: 108 :: 45 :: segD n.toNat 6).toArray.size ≤ 10
    simp [segD_length]
  · simp
theorem dig_ofNat (k : Nat) : UInt8.ofNat (48 + k) = 48 + UInt8.ofNat k := by rw [UInt8.ofNat_add]; rfl
theorem itoa_seg (n : Nat) (h : n < 1000000) : Lib.itoa ((1000000 + n : Nat) : Int) = 49 :: segD n 6 := by
  have h7 : Lib.nDigits (1000000 + n) = 7 := Lib.nDigits_unique 6 _ (by omega) (by omega)
  rw [Lib.itoa, if_neg (by omega), Int.toNat_natCast, Lib.decDigits_eq, h7]
  simp only [List.range_succ, List.range_zero, List.map_cons, List.map_nil, List.nil_append, List.cons_append, segD, Lib.dg, dig_ofNat]
  congr 1
  · rw [show (1000000 + n) / 10 ^ (7 - 1 - 0) % 10 = 1 by omega]; rfl
  · simp only [List.cons.injEq, and_true]
    refine ⟨?_, ?_, ?_, ?_, ?_, ?_⟩ <;> congr 2 <;> omega
end Go.Proofs.YtbeamodlgjlhiaaDoor
