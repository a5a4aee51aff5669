import Derived.Test.YtoecnlhnfhongaaDoorBase
namespace Go.Proofs.YtoecnlhnfhongaaDoor
open Go.RowKit

/-- The number that these bytes are, the highest first. -/
def beL (l : List UInt8) : Nat := l.foldl (fun v c => v * 256 + c.toNat) 0
theorem beL_snoc (l : List UInt8) (c : UInt8) : beL (l ++ [c]) = beL l * 256 + c.toNat := by simp [beL]
theorem beL_lt (l : List UInt8) : beL l < 256 ^ l.length := by
  have hg : ∀ (n : Nat) (l : List UInt8), l.length = n → beL l < 256 ^ n := fun n => by
    induction n with
    | zero => intro l h; rw [List.length_eq_zero_iff.1 h]; decide
    | succ n ih =>
      intro l h
      have hne : l ≠ [] := by intro e; rw [e] at h; simp at h
      rw [← List.dropLast_concat_getLast hne, beL_snoc]
      have h1 := ih l.dropLast (by simp [h])
      have h2 := (l.getLast hne).toNat_lt
      rw [Nat.pow_succ]
      omega
  exact hg _ l rfl
/-- n bytes of s from p on. -/
def sectL (s : ByteArray) (p n : Nat) : List UInt8 := (s.data.toList.drop p).take n
theorem sectL_length {s : ByteArray} {p n : Nat} (h : p + n ≤ s.size) : (sectL s p n).length = n := by
  have : s.data.toList.length = s.size := by simp
  simp only [sectL, List.length_take, List.length_drop]
  omega
theorem sectL_snoc {s : ByteArray} {p k : Nat} (h : p + k < s.size) : sectL s p (k + 1) = sectL s p k ++ [s[p + k]] := by
  have hl : s.data.toList.length = s.size := by simp
  unfold sectL
  rw [List.take_succ_eq_append_getElem (by rw [List.length_drop, hl]; omega), List.getElem_drop]
  rfl

end Go.Proofs.YtoecnlhnfhongaaDoor
