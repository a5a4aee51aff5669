import Derived.Test.YtoecnlhnfhongaaDoorProg
import Derived.Test.YtoecnlhnfhongaaDoorOwn
import Derived.Test.YtoecnlhnfhongaaDoorFlat
namespace Go.Proofs.YtoecnlhnfhongaaDoor
open Go.RowKit

theorem info_strR : ∃ i, Tryd.prog.info? 9 = some i ∧ i.zero = some (.string ByteArray.empty) ∧ i.size = 1 ∧ i.bytes = 16 := by
  have h : (Tryd.prog.info? 9).map (fun i => (i.zero, i.size, i.bytes)) = some (some (.string ByteArray.empty), 1, 16) := by kernel_rfl
  obtain ⟨i, hi, hz⟩ := Option.map_eq_some_iff.1 h
  simp only [Prod.mk.injEq] at hz
  exact ⟨i, hi, hz.1, hz.2.1, hz.2.2⟩
/-- The strings of a row that the call owns. -/
theorem strs_cells {w : World} {B : Nat} {e : TypeId} {g cv : Nat} {xs : List ByteArray} (h : w.ownsRow B e 1 (.slice (some ⟨g, 0, none⟩) xs.length cv) xs.length (xs.map Value.string)) :
    xs.length ≤ cv ∧ g < w.heap.size ∧ ∀ (j : Nat) x, xs[j]? = some x → w.cell? ⟨g, 0 + j, none⟩ = some (.string x) := by
  rcases h.2 with ⟨he, _⟩ | ⟨g', cap', cur, he, hB, hb, hc, _, _, ht⟩
  · simp at he
  · simp only [Value.slice.injEq, Option.some.injEq, Addr.mk.injEq, and_true] at he
    obtain ⟨rfl, _, rfl⟩ := he
    refine ⟨hc, lt_of_block hb, fun j x hx => ?_⟩
    rw [cell_of_row w g _ cur _ _ hb, Nat.zero_add, ← Array.getElem?_toList]
    have h2 : (xs.map Value.string)[j]? = some (.string x) := by rw [List.getElem?_map, hx]; rfl
    rw [← ht] at h2
    have hj := (List.getElem?_eq_some_iff.1 h2).1
    rw [List.length_take] at hj
    rw [List.getElem?_take_of_lt (by omega)] at h2
    exact h2
end Go.Proofs.YtoecnlhnfhongaaDoor
