import Derived.Test.YtgpgacncmoiefaaOrd
namespace Go.Proofs.Ytgpgacncmoiefaa
open Go.RowKit

theorem str_eq {x y : ByteArray} : (x.toList == y.toList) = true ↔ x = y := ⟨fun h => toList_inj (by simpa using h), fun h => by rw [h]; simp⟩
theorem str_ne {x y : ByteArray} : (x.toList == y.toList) = false ↔ x ≠ y := by rw [← Bool.not_eq_true, str_eq]
theorem str_nil {x : ByteArray} : x.toList.isEmpty = true ↔ x = ByteArray.empty := by
  rw [List.isEmpty_iff]
  constructor
  · intro h
    exact toList_inj (by rw [h, ByteArray.toList_eq]; rfl)
  · intro h
    rw [h, ByteArray.toList_eq]; rfl
theorem str_some {x : ByteArray} : x.toList.isEmpty = false ↔ x ≠ ByteArray.empty := by rw [← Bool.not_eq_true, str_nil]

end Go.Proofs.Ytgpgacncmoiefaa
