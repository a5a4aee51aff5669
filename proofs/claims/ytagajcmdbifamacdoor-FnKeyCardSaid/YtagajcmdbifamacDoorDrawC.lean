import Derived.Test.YtagajcmdbifamacDoorProg
import Derived.Test.YtagajcmdbifamacDoorDrawS
namespace Go.Proofs.YtagajcmdbifamacDoor
open Go.RowKit

set_option maxRecDepth 100000 in
set_option maxHeartbeats 1000000 in
theorem drawCanon_any (a : Option Addr) (n cap : Nat) (w : World) (hn : n ≤ 1048576) (hU : U8In w w.heap.size w.heap.size a n) :
    Calls Tryd.prog 11 #[.slice a n cap] w fun e w' => ∃ (g cv : Nat) (ls : List LabD), e = .returned (.slice (some ⟨g, 0, none⟩) ls.length cv) ∧ ls.length ≤ cv ∧ ls.length ≤ 20 ∧ SizL ls ∧ LabsOwn w' w.heap.size (some ⟨g, 0, none⟩) ls ∧ Below w.heap.size w w' := by
  have HU : Hid (U8In w w.heap.size w.heap.size a n) := hU
  clear hU
  go_enter Tryd.func11, Tryd.ntmps11
  go_wp2_with fail
  have HC : Hid (CurB (w.alloc (.cells #[.slice a n cap, .int .i64 0, .int .i64 0] 50)) w.heap.size (w.heap.size + 1) 0) := by
    refine ⟨a, n, cap, 0, 0, heap_alloc_new _ _, Nat.le_refl _, ⟨by omega, by omega⟩, hn, ?_, by omega, by simp⟩
    rcases HU.out with h | ⟨b, o, e, hne, hlt, h⟩
    · exact Or.inl h
    · exact Or.inr ⟨b, o, e, hne, by omega, fun i hi => by
        obtain ⟨v, hv, hc⟩ := h i hi
        exact ⟨v, hv, by rw [World.cell?_of_block ((bnew w _).block b hlt)]; exact hc⟩⟩
  refine (drawLabels_any w.heap.size (w.heap.size + 1) 0 _ HC.out (by omega)).mono ?_
  rintro e w1 ⟨g1, c1, ls, rfl, hl1, hl2, hsl, hrow, hc1, hb1⟩
  have hz : (w.alloc (.cells #[.slice a n cap, .int .i64 0, .int .i64 0] 50)).heap.size = w.heap.size + 1 := by simp
  rw [hz] at hrow
  have hb1z := hb1.size
  have hB1 : Below w.heap.size w w1 := (bnew w _).trans (hb1.below (Nat.le_refl _) (by omega))
  have H1 : Hid (CurB w1 w.heap.size (w.heap.size + 1) 100 ∧ Below w.heap.size w w1 ∧ SizL ls ∧ w1.ownsRow (w.heap.size + 1) 35 2 (.slice (some ⟨g1, 0, none⟩) ls.length c1) ls.length (flatL ls)) := ⟨hc1.mono (by omega), hB1, hsl, hrow⟩
  clear hc1 hb1 hsl hrow HC HU hB1
  go_wp2_with fail
  refine (curPick_any w.heap.size (w.heap.size + 1) 100 2 w1 H1.out.1 (by omega) (by omega) (by omega)).mono ?_
  rintro e w2 ⟨v, hv, rfl, hc2, hb2⟩
  have hz2 := hb2.size
  have H2 : Hid (CurB w2 w.heap.size (w.heap.size + 1) 101 ∧ Below w.heap.size w w2 ∧ SizL ls ∧ w2.ownsRow (w.heap.size + 1) 35 2 (.slice (some ⟨g1, 0, none⟩) ls.length c1) ls.length (flatL ls)) := ⟨hc2, H1.out.2.1.trans (hb2.below (Nat.le_refl _) (by omega)), H1.out.2.2.1, row_but0 H1.out.2.2.2 hb2 (by omega)⟩
  clear hc2 hb2 H1
  by_cases h0 : v = 0
  · have h0' : ((v : Nat) : Int) = 0 := by omega
    rw [h0']
    clear h0 h0' hv
    go_wp2_with fail
    refine (spoil_any w.heap.size (w.heap.size + 1) 101 w2 (w.heap.size + 1) g1 c1 ls H2.out.1 (by omega) H2.out.2.2.2 hl1 hl2 H2.out.2.2.1).mono ?_
    rintro e w3 ⟨g3, c3, ls3, rfl, hl3, hsl3, hrow3, _, hb3⟩
    have hz3 := hb3.size
    have H3 : Hid (SizL ls3 ∧ LabsOwn w3 w.heap.size (some ⟨g3, 0, none⟩) ls3 ∧ Below w.heap.size w w3) := ⟨hsl3, labs_of_row (row_mono0 hrow3 (by omega)), H2.out.2.1.trans (hb3.below (Nat.le_refl _) (by omega))⟩
    have hcv := (row_cells hrow3).1
    clear hsl3 hrow3 hb3 H2
    go_wp2
    go_ret
    exact ⟨g3, c3, ls3, rfl, hcv, hl3, H3.out⟩
  · have h0' : ¬ (((v : Nat) : Int) = 0) := by omega
    have hcv := (row_cells H2.out.2.2.2).1
    go_wp2
    go_ret
    exact ⟨g1, c1, ls, rfl, hcv, by omega, H2.out.2.2.1, labs_of_row (row_mono0 H2.out.2.2.2 (by omega)), H2.out.2.1⟩
end Go.Proofs.YtagajcmdbifamacDoor
