import Derived.Test.YtgpgacncmoiefaaProg
import Derived.Test.YtgpgacncmoiefaaRecB
import Derived.Deep.OwnRows
namespace Go.Proofs.Ytgpgacncmoiefaa
open Go.RowKit

theorem info_rec : (Try.prog.info? 67).map (fun i => (i.zero, i.size, i.bytes)) = some (some (.agg #[.int .i64 0, .string ByteArray.empty, .string ByteArray.empty, .int .i64 0]), 4, 48) := by kernel_rfl

/-- make of n records: a new block of n * 4 cells. -/
theorem make_recs (n : Nat) (hn : n ≤ 1048576) (w : World) :
    (Instr.makeSlice 35 (.int .i64 (n : Int)) (.int .i64 (n : Int))).run Try.prog w = .ok (.slice (some ⟨w.heap.size, 0, none⟩) n n) (w.alloc (.cells (madeCells #[.int .i64 0, .string ByteArray.empty, .string ByteArray.empty, .int .i64 0] (n * 4)) 67)) := by
  obtain ⟨i, hi, hzz⟩ := Option.map_eq_some_iff.1 info_rec
  simp only [Prod.mk.injEq] at hzz
  obtain ⟨hz, hs, hb⟩ := hzz
  have hr := run_make (P := Try.prog) w 35 67 i _ Try.underlying35 hi hz .i64 .i64 n n (by omega) (Int.le_refl _) (by rw [hb]; omega) (by omega)
  simp only [Int.toNat_natCast, hs] at hr
  exact hr

/-- The block g holds n records' cells, the first k of them fs's. -/
def FillR (w : World) (g n : Nat) (fs : List RecD) (k : Nat) : Prop := ∃ cur : Array Value, w.heap[g]? = some (.cells cur 67 (0, 0)) ∧ cur.size = n * 4 ∧
  ∀ i (h : i < fs.length), i < k → cur[i * 4]? = some (.int .i64 fs[i].kind) ∧ cur[i * 4 + 1]? = some (.string fs[i].tenant) ∧ cur[i * 4 + 2]? = some (.string fs[i].text) ∧ cur[i * 4 + 3]? = some (.int .i64 fs[i].num)
theorem FillR.later {w w' : World} {g n k : Nat} {fs : List RecD} {B : Nat} (h : FillR w g n fs k) (hb : Below B w w') (hg : g < B) : FillR w' g n fs k := by
  obtain ⟨cur, h1, h2⟩ := h
  exact ⟨cur, by rw [hb.block g hg]; exact h1, h2⟩
theorem FillR.cells {w : World} {g n k : Nat} {fs : List RecD} (h : FillR w g n fs k) {j : Nat} (hj : j < n * 4) : (∃ v, w.cell? ⟨g, j, none⟩ = some v) ∧ w.frozen? ⟨g, j, none⟩ = false := by
  obtain ⟨cur, h1, h2, _⟩ := h
  refine ⟨⟨cur[j], ?_⟩, frozen_of_row w g j cur _ h1⟩
  rw [cell_of_row w g j cur _ _ h1]
  exact Array.getElem?_eq_getElem (by omega)
theorem FillR.step {w : World} {g n k : Nat} {fs : List RecD} (h : FillR w g n fs k) (hk : k < fs.length) (hn : fs.length ≤ n) :
    FillR ((((w.setCell ⟨g, k * 4, none⟩ (.int .i64 fs[k].kind)).setCell ⟨g, k * 4 + 1, none⟩ (.string fs[k].tenant)).setCell ⟨g, k * 4 + 2, none⟩ (.string fs[k].text)).setCell ⟨g, k * 4 + 3, none⟩ (.int .i64 fs[k].num)) g n fs (k + 1) := by
  obtain ⟨cur, h1, h2, h3⟩ := h
  refine ⟨_, heap_setCell_same _ _ _ _ _ _ (heap_setCell_same _ _ _ _ _ _ (heap_setCell_same _ _ _ _ _ _ (heap_setCell_same _ _ _ _ _ _ h1))), by simp [h2], fun i hi hlt => ?_⟩
  by_cases e : i = k
  · subst e
    refine ⟨?_, ?_, ?_, ?_⟩ <;> simp [Array.getElem?_setIfInBounds] <;> omega
  · obtain ⟨a1, a2, a3, a4⟩ := h3 i hi (by omega)
    refine ⟨?_, ?_, ?_, ?_⟩
    · rw [Array.getElem?_setIfInBounds_ne (by omega), Array.getElem?_setIfInBounds_ne (by omega), Array.getElem?_setIfInBounds_ne (by omega), Array.getElem?_setIfInBounds_ne (by omega)]; exact a1
    · rw [Array.getElem?_setIfInBounds_ne (by omega), Array.getElem?_setIfInBounds_ne (by omega), Array.getElem?_setIfInBounds_ne (by omega), Array.getElem?_setIfInBounds_ne (by omega)]; exact a2
    · rw [Array.getElem?_setIfInBounds_ne (by omega), Array.getElem?_setIfInBounds_ne (by omega), Array.getElem?_setIfInBounds_ne (by omega), Array.getElem?_setIfInBounds_ne (by omega)]; exact a3
    · rw [Array.getElem?_setIfInBounds_ne (by omega), Array.getElem?_setIfInBounds_ne (by omega), Array.getElem?_setIfInBounds_ne (by omega), Array.getElem?_setIfInBounds_ne (by omega)]; exact a4
theorem FillR.done {w : World} {g B : Nat} {fs : List RecD} (h : FillR w g fs.length fs fs.length) (hB : B ≤ g) : RecsOwn w B (some ⟨g, 0, none⟩) fs := by
  obtain ⟨cur, h1, h2, h3⟩ := h
  refine Or.inr ⟨g, 0, cur, _, rfl, hB, h1, fun i hi => ?_⟩
  obtain ⟨a1, a2, a3, a4⟩ := h3 i hi hi
  simp only [cell_of_row w g _ cur _ _ h1, Nat.zero_add]
  exact ⟨a1, a2, a3, a4⟩

end Go.Proofs.Ytgpgacncmoiefaa
