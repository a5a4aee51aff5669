import Derived.Test.YtgpgacncmoiefaaProg
import Derived.Test.YtgpgacncmoiefaaPrB
import Derived.Deep.OwnRows
namespace Go.Proofs.Ytgpgacncmoiefaa
open Go.RowKit

theorem info_MetricLimit : (Try.prog.info? 89).map (fun i => (i.zero, i.size, i.bytes)) = some (some (.agg #[.string ByteArray.empty, .int .i64 0]), 2, 24) := by kernel_rfl

/-- make of n labels: a new block of n * 2 cells. -/
theorem make_MetricLimit (n : Nat) (hn : n ≤ 1048576) (w : World) :
    (Instr.makeSlice 84 (.int .i64 (n : Int)) (.int .i64 (n : Int))).run Try.prog w = .ok (.slice (some ⟨w.heap.size, 0, none⟩) n n) (w.alloc (.cells (madeCells #[.string ByteArray.empty, .int .i64 0] (n * 2)) 89)) := by
  obtain ⟨i, hi, hzz⟩ := Option.map_eq_some_iff.1 info_MetricLimit
  simp only [Prod.mk.injEq] at hzz
  obtain ⟨hz, hs, hb⟩ := hzz
  have hr := run_make (P := Try.prog) w 84 89 i _ Try.underlying84 hi hz .i64 .i64 n n (by omega) (Int.le_refl _) (by rw [hb]; omega) (by omega)
  simp only [Int.toNat_natCast, hs] at hr
  exact hr

/-- The block g holds n labels' cells, the first k of them fs's. -/
def FillMetricLimit (w : World) (g n : Nat) (fs : List PairD) (k : Nat) : Prop := ∃ cur : Array Value, w.heap[g]? = some (.cells cur 89 (0, 0)) ∧ cur.size = n * 2 ∧
  ∀ i (h : i < fs.length), i < k → cur[i * 2]? = some (.string fs[i].s) ∧ cur[i * 2 + 1]? = some (.int .i64 fs[i].n)
theorem FillMetricLimit.later {w w' : World} {g n k : Nat} {fs : List PairD} {B : Nat} (h : FillMetricLimit w g n fs k) (hb : Below B w w') (hg : g < B) : FillMetricLimit w' g n fs k := by
  obtain ⟨cur, h1, h2⟩ := h
  exact ⟨cur, by rw [hb.block g hg]; exact h1, h2⟩
theorem FillMetricLimit.cells {w : World} {g n k : Nat} {fs : List PairD} (h : FillMetricLimit w g n fs k) {j : Nat} (hj : j < n * 2) : (∃ v, w.cell? ⟨g, j, none⟩ = some v) ∧ w.frozen? ⟨g, j, none⟩ = false := by
  obtain ⟨cur, h1, h2, _⟩ := h
  refine ⟨⟨cur[j], ?_⟩, frozen_of_row w g j cur _ h1⟩
  rw [cell_of_row w g j cur _ _ h1]
  exact Array.getElem?_eq_getElem (by omega)
theorem FillMetricLimit.step {w : World} {g n k : Nat} {fs : List PairD} (h : FillMetricLimit w g n fs k) (hk : k < fs.length) (hn : fs.length ≤ n) :
    FillMetricLimit ((w.setCell ⟨g, k * 2, none⟩ (.string fs[k].s)).setCell ⟨g, k * 2 + 1, none⟩ (.int .i64 fs[k].n)) g n fs (k + 1) := by
  obtain ⟨cur, h1, h2, h3⟩ := h
  refine ⟨_, heap_setCell_same _ _ _ _ _ _ (heap_setCell_same _ _ _ _ _ _ h1), by simp [h2], fun i hi hlt => ?_⟩
  by_cases e : i = k
  · subst e
    refine ⟨?_, ?_⟩ <;> simp [Array.getElem?_setIfInBounds] <;> omega
  · obtain ⟨a1, a2⟩ := h3 i hi (by omega)
    refine ⟨?_, ?_⟩
    · rw [Array.getElem?_setIfInBounds_ne (by omega), Array.getElem?_setIfInBounds_ne (by omega)]; exact a1
    · rw [Array.getElem?_setIfInBounds_ne (by omega), Array.getElem?_setIfInBounds_ne (by omega)]; exact a2
theorem FillMetricLimit.done {w : World} {g B : Nat} {fs : List PairD} (h : FillMetricLimit w g fs.length fs fs.length) (hB : B ≤ g) : PairsOwn w B (some ⟨g, 0, none⟩) fs := by
  obtain ⟨cur, h1, h2, h3⟩ := h
  refine Or.inr ⟨g, 0, cur, _, rfl, hB, h1, fun i hi => ?_⟩
  obtain ⟨a1, a2⟩ := h3 i hi hi
  simp only [cell_of_row w g _ cur _ _ h1, Nat.zero_add]
  exact ⟨a1, a2⟩

set_option maxHeartbeats 400000 in
theorem szMetricLimit_any (f : PairD) (left : Int) (w : World) (h0 : 0 ≤ left) (h1 : left ≤ 1048576) (hn : f.s.size ≤ maxLen) :
    Calls Try.prog 95 #[.agg #[.string f.s, .int .i64 f.n], .int .i64 left] w fun e w' => e = .returned (.int .i64 (szPair left f)) ∧ Below w.heap.size w w' := by
  unfold maxLen at hn
  obtain ⟨nm, da⟩ := f
  simp only at hn ⊢
  by_cases c1 : left - nm.size < 0
  · have e : szPair left ⟨nm, da⟩ = -1 := by unfold szPair; rw [if_neg]; simp only; omega
    rw [e]
    go_enter Try.func95, Try.ntmps95
    go_wp2
    go_ret
    exact ⟨rfl, (Below.refl _ _).alloc (Nat.le_refl _) _⟩
  · have e : szPair left ⟨nm, da⟩ = left - nm.size := by unfold szPair; rw [if_pos]; simp only; omega
    rw [e]
    go_enter Try.func95, Try.ntmps95
    go_wp2
    go_ret
    exact ⟨rfl, (Below.refl _ _).alloc (Nat.le_refl _) _⟩

set_option maxHeartbeats 1000000 in
theorem szMetricLimitS_any (a : Option Addr) (cap : Nat) (fs : List PairD) (left : Int) (w : World) (h0 : 0 ≤ left) (h1 : left ≤ 1048576) (hf : PairsIn w a fs) (hs : ShortP fs) (hlen : fs.length ≤ maxLen) :
    Calls Try.prog 86 #[.slice a fs.length cap, .int .i64 left] w fun e w' => e = .returned (.int .i64 (szPairs left fs)) ∧ Below w.heap.size w w' := by
  unfold maxLen at hlen
  by_cases c1 : left - fs.length < 0
  · have e : szPairs left fs = -1 := by unfold szPairs; rw [if_neg]; omega
    rw [e]
    clear hf hs
    go_enter Try.func86, Try.ntmps86
    go_wp2
    go_ret
    exact ⟨rfl, Below.refl _ _⟩
  · have hne : ¬ (left - fs.length < 0) := c1
    have HF : Hid (PairsIn w a fs) := hf
    have HS : Hid (ShortP fs) := hs
    clear hf hs
    go_enter Try.func86, Try.ntmps86
    go_wp2
    go_loopw [1, 5] (fun l i wr => ∃ k : Nat, k ≤ fs.length ∧ i = .int .i64 k ∧ (pairBulk (fs.take k) : Int) ≤ left - fs.length ∧ l = .int .i64 (left - fs.length - pairBulk (fs.take k)) ∧ Below w.heap.size w wr) (fun _ i _ => fs.length - (intOf i).toNat)
    case atStart => exact ⟨0, Nat.zero_le _, rfl, by simp [pairBulk]; omega, by simp [pairBulk], Below.refl _ _⟩
    case round =>
      obtain ⟨k, hk, rfl, hle, rfl, hbel⟩ := hrel
      by_cases hlt : k < fs.length
      · obtain ⟨b, o, rfl, hb, c0, c1⟩ := (HF.out.later hbel).at hlt
        have hss := HS.out k hlt
        have hts := pairBulk_take_succ fs k hlt
        have htl := pairBulk_take_le fs (k + 1)
        by_cases c3 : ((fs[k].s.size : Nat) : Int) ≤ left - fs.length - pairBulk (fs.take k)
        · have e : szPair (left - fs.length - pairBulk (fs.take k)) fs[k] = left - fs.length - pairBulk (fs.take (k + 1)) := by
            unfold szPair; rw [if_pos (by omega), hts]; omega
          have E : Hid (szPair (left - fs.length - pairBulk (fs.take k)) fs[k] = left - fs.length - pairBulk (fs.take (k + 1))) := e
          have hle2 : (pairBulk (fs.take (k + 1)) : Int) ≤ left - fs.length := by omega
          clear e hts
          go_wp2_with fail
          refine (szMetricLimit_any fs[k] _ _ (by omega) (by omega) hss).mono ?_
          rintro e w' ⟨rfl, hb2⟩
          rw [E.out]
          go_wp2
          exact ⟨⟨k + 1, by omega, by go_num, hle2, rfl, hbel.trans (hb2.mono hbel.size)⟩, by simp [intOf]; omega⟩
        · have e : szPair (left - fs.length - pairBulk (fs.take k)) fs[k] = -1 := by
            unfold szPair; rw [if_neg (by omega)]
          have E : Hid (szPair (left - fs.length - pairBulk (fs.take k)) fs[k] = -1) := e
          have E2 : Hid (szPairs left fs = -1) := by show szPairs left fs = -1; unfold szPairs; rw [if_neg (by omega)]
          clear e hts
          go_wp2_with fail
          refine (szMetricLimit_any fs[k] _ _ (by omega) (by omega) hss).mono ?_
          rintro e w' ⟨rfl, hb2⟩
          rw [E.out]
          go_wp2
          go_ret
          exact ⟨ret_int E2.out.symm, hbel.trans (hb2.mono hbel.size)⟩
      · go_wp2
        go_ret
        have e : fs.take k = fs := List.take_of_length_le (by omega)
        rw [e] at hle ⊢
        exact ⟨ret_int (by unfold szPairs; rw [if_pos (by omega)]), hbel⟩

set_option maxHeartbeats 400000 in
theorem toMetricLimit_any (nm : ByteArray) (da : Int) (w : World) :
    Calls Try.prog 97 #[.agg #[.string nm, .int .i64 da]] w fun e w' => e = .returned (.agg #[.string nm, .int .i64 da]) ∧ Below w.heap.size w w' := by
  go_enter Try.func97, Try.ntmps97
  go_wp2
  exact bodyPost_ret (v := .agg #[.string nm, .int .i64 da]) (by simp [results, Try.results97, go_sem]) rfl ⟨rfl, (((Below.refl _ _).alloc (Nat.le_refl _) _).alloc (by simp) _).alloc (by simp; omega) _⟩

set_option maxHeartbeats 1000000 in
theorem toMetricLimitS_any (a : Option Addr) (cap : Nat) (fs : List PairD) (w : World) (hf : PairsIn w a fs) (hlen : fs.length ≤ 1048576) :
    Calls Try.prog 88 #[.slice a fs.length cap] w fun e w' => e = .returned (.slice (some ⟨w.heap.size, 0, none⟩) fs.length fs.length) ∧ PairsOwn w' w.heap.size (some ⟨w.heap.size, 0, none⟩) fs ∧ Below w.heap.size w w' ∧ w.heap.size < w'.heap.size := by
  have HF : Hid (PairsIn w a fs) := hf
  clear hf
  have hmk := make_MetricLimit fs.length hlen
  go_enter Try.func88, Try.ntmps88
  go_wp2
  go_loopw [4] (fun i wr => ∃ k : Nat, k ≤ fs.length ∧ i = .int .i64 k ∧ FillMetricLimit wr w.heap.size fs.length fs k ∧ Below w.heap.size w wr ∧ w.heap.size < wr.heap.size) (fun i _ => fs.length - (intOf i).toNat)
  case atStart => exact ⟨0, Nat.zero_le _, rfl, ⟨_, heap_alloc_new _ _, size_madeCells _ _, fun i _ h => absurd h (by omega)⟩, (Below.refl _ _).alloc (Nat.le_refl _) _, by simp⟩
  case round =>
    obtain ⟨k, hk, rfl, hfill, hbel, hsz⟩ := hrel
    have HFill : Hid (FillMetricLimit wr w.heap.size fs.length fs k) := hfill
    clear hfill hmk
    by_cases hlt : k < fs.length
    · obtain ⟨b, o, rfl, hb, c0, c1⟩ := (HF.out.later hbel).at hlt
      go_wp2_with fail
      refine (toMetricLimit_any _ _ _).mono ?_
      rintro e w' ⟨rfl, hb2⟩
      have hF2 := HFill.out.later hb2 hsz
      obtain ⟨⟨v0, d0⟩, f0⟩ := hF2.cells (j := k * 2) (by omega)
      obtain ⟨⟨v1, d1⟩, f1⟩ := hF2.cells (j := k * 2 + 1) (by omega)
      have HF2 : Hid (FillMetricLimit w' w.heap.size fs.length fs k) := hF2
      clear hF2
      go_wp2
      exact ⟨⟨k + 1, by omega, by go_num, HF2.out.step hlt (Nat.le_refl _), ((hbel.trans (hb2.mono hbel.size)).setCell (Nat.le_refl _) _).setCell (Nat.le_refl _) _, by have := hb2.size; simp; omega⟩, by simp [intOf]; omega⟩
    · go_wp2
      go_ret
      have e : k = fs.length := by omega
      exact ⟨rfl, by have := HFill.out; rw [e] at this; exact this.done (Nat.le_refl _), hbel, hsz⟩


theorem info_Series : (Try.prog.info? 91).map (fun i => (i.zero, i.size, i.bytes)) = some (some (.agg #[.string ByteArray.empty, .int .i64 0]), 2, 24) := by kernel_rfl

/-- make of n labels: a new block of n * 2 cells. -/
theorem make_Series (n : Nat) (hn : n ≤ 1048576) (w : World) :
    (Instr.makeSlice 85 (.int .i64 (n : Int)) (.int .i64 (n : Int))).run Try.prog w = .ok (.slice (some ⟨w.heap.size, 0, none⟩) n n) (w.alloc (.cells (madeCells #[.string ByteArray.empty, .int .i64 0] (n * 2)) 91)) := by
  obtain ⟨i, hi, hzz⟩ := Option.map_eq_some_iff.1 info_Series
  simp only [Prod.mk.injEq] at hzz
  obtain ⟨hz, hs, hb⟩ := hzz
  have hr := run_make (P := Try.prog) w 85 91 i _ Try.underlying85 hi hz .i64 .i64 n n (by omega) (Int.le_refl _) (by rw [hb]; omega) (by omega)
  simp only [Int.toNat_natCast, hs] at hr
  exact hr

/-- The block g holds n labels' cells, the first k of them fs's. -/
def FillSeries (w : World) (g n : Nat) (fs : List PairD) (k : Nat) : Prop := ∃ cur : Array Value, w.heap[g]? = some (.cells cur 91 (0, 0)) ∧ cur.size = n * 2 ∧
  ∀ i (h : i < fs.length), i < k → cur[i * 2]? = some (.string fs[i].s) ∧ cur[i * 2 + 1]? = some (.int .i64 fs[i].n)
theorem FillSeries.later {w w' : World} {g n k : Nat} {fs : List PairD} {B : Nat} (h : FillSeries w g n fs k) (hb : Below B w w') (hg : g < B) : FillSeries w' g n fs k := by
  obtain ⟨cur, h1, h2⟩ := h
  exact ⟨cur, by rw [hb.block g hg]; exact h1, h2⟩
theorem FillSeries.cells {w : World} {g n k : Nat} {fs : List PairD} (h : FillSeries w g n fs k) {j : Nat} (hj : j < n * 2) : (∃ v, w.cell? ⟨g, j, none⟩ = some v) ∧ w.frozen? ⟨g, j, none⟩ = false := by
  obtain ⟨cur, h1, h2, _⟩ := h
  refine ⟨⟨cur[j], ?_⟩, frozen_of_row w g j cur _ h1⟩
  rw [cell_of_row w g j cur _ _ h1]
  exact Array.getElem?_eq_getElem (by omega)
theorem FillSeries.step {w : World} {g n k : Nat} {fs : List PairD} (h : FillSeries w g n fs k) (hk : k < fs.length) (hn : fs.length ≤ n) :
    FillSeries ((w.setCell ⟨g, k * 2, none⟩ (.string fs[k].s)).setCell ⟨g, k * 2 + 1, none⟩ (.int .i64 fs[k].n)) g n fs (k + 1) := by
  obtain ⟨cur, h1, h2, h3⟩ := h
  refine ⟨_, heap_setCell_same _ _ _ _ _ _ (heap_setCell_same _ _ _ _ _ _ h1), by simp [h2], fun i hi hlt => ?_⟩
  by_cases e : i = k
  · subst e
    refine ⟨?_, ?_⟩ <;> simp [Array.getElem?_setIfInBounds] <;> omega
  · obtain ⟨a1, a2⟩ := h3 i hi (by omega)
    refine ⟨?_, ?_⟩
    · rw [Array.getElem?_setIfInBounds_ne (by omega), Array.getElem?_setIfInBounds_ne (by omega)]; exact a1
    · rw [Array.getElem?_setIfInBounds_ne (by omega), Array.getElem?_setIfInBounds_ne (by omega)]; exact a2
theorem FillSeries.done {w : World} {g B : Nat} {fs : List PairD} (h : FillSeries w g fs.length fs fs.length) (hB : B ≤ g) : PairsOwn w B (some ⟨g, 0, none⟩) fs := by
  obtain ⟨cur, h1, h2, h3⟩ := h
  refine Or.inr ⟨g, 0, cur, _, rfl, hB, h1, fun i hi => ?_⟩
  obtain ⟨a1, a2⟩ := h3 i hi hi
  simp only [cell_of_row w g _ cur _ _ h1, Nat.zero_add]
  exact ⟨a1, a2⟩

set_option maxHeartbeats 400000 in
theorem szSeries_any (f : PairD) (left : Int) (w : World) (h0 : 0 ≤ left) (h1 : left ≤ 1048576) (hn : f.s.size ≤ maxLen) :
    Calls Try.prog 96 #[.agg #[.string f.s, .int .i64 f.n], .int .i64 left] w fun e w' => e = .returned (.int .i64 (szPair left f)) ∧ Below w.heap.size w w' := by
  unfold maxLen at hn
  obtain ⟨nm, da⟩ := f
  simp only at hn ⊢
  by_cases c1 : left - nm.size < 0
  · have e : szPair left ⟨nm, da⟩ = -1 := by unfold szPair; rw [if_neg]; simp only; omega
    rw [e]
    go_enter Try.func96, Try.ntmps96
    go_wp2
    go_ret
    exact ⟨rfl, (Below.refl _ _).alloc (Nat.le_refl _) _⟩
  · have e : szPair left ⟨nm, da⟩ = left - nm.size := by unfold szPair; rw [if_pos]; simp only; omega
    rw [e]
    go_enter Try.func96, Try.ntmps96
    go_wp2
    go_ret
    exact ⟨rfl, (Below.refl _ _).alloc (Nat.le_refl _) _⟩

set_option maxHeartbeats 1000000 in
theorem szSeriesS_any (a : Option Addr) (cap : Nat) (fs : List PairD) (left : Int) (w : World) (h0 : 0 ≤ left) (h1 : left ≤ 1048576) (hf : PairsIn w a fs) (hs : ShortP fs) (hlen : fs.length ≤ maxLen) :
    Calls Try.prog 87 #[.slice a fs.length cap, .int .i64 left] w fun e w' => e = .returned (.int .i64 (szPairs left fs)) ∧ Below w.heap.size w w' := by
  unfold maxLen at hlen
  by_cases c1 : left - fs.length < 0
  · have e : szPairs left fs = -1 := by unfold szPairs; rw [if_neg]; omega
    rw [e]
    clear hf hs
    go_enter Try.func87, Try.ntmps87
    go_wp2
    go_ret
    exact ⟨rfl, Below.refl _ _⟩
  · have hne : ¬ (left - fs.length < 0) := c1
    have HF : Hid (PairsIn w a fs) := hf
    have HS : Hid (ShortP fs) := hs
    clear hf hs
    go_enter Try.func87, Try.ntmps87
    go_wp2
    go_loopw [1, 5] (fun l i wr => ∃ k : Nat, k ≤ fs.length ∧ i = .int .i64 k ∧ (pairBulk (fs.take k) : Int) ≤ left - fs.length ∧ l = .int .i64 (left - fs.length - pairBulk (fs.take k)) ∧ Below w.heap.size w wr) (fun _ i _ => fs.length - (intOf i).toNat)
    case atStart => exact ⟨0, Nat.zero_le _, rfl, by simp [pairBulk]; omega, by simp [pairBulk], Below.refl _ _⟩
    case round =>
      obtain ⟨k, hk, rfl, hle, rfl, hbel⟩ := hrel
      by_cases hlt : k < fs.length
      · obtain ⟨b, o, rfl, hb, c0, c1⟩ := (HF.out.later hbel).at hlt
        have hss := HS.out k hlt
        have hts := pairBulk_take_succ fs k hlt
        have htl := pairBulk_take_le fs (k + 1)
        by_cases c3 : ((fs[k].s.size : Nat) : Int) ≤ left - fs.length - pairBulk (fs.take k)
        · have e : szPair (left - fs.length - pairBulk (fs.take k)) fs[k] = left - fs.length - pairBulk (fs.take (k + 1)) := by
            unfold szPair; rw [if_pos (by omega), hts]; omega
          have E : Hid (szPair (left - fs.length - pairBulk (fs.take k)) fs[k] = left - fs.length - pairBulk (fs.take (k + 1))) := e
          have hle2 : (pairBulk (fs.take (k + 1)) : Int) ≤ left - fs.length := by omega
          clear e hts
          go_wp2_with fail
          refine (szSeries_any fs[k] _ _ (by omega) (by omega) hss).mono ?_
          rintro e w' ⟨rfl, hb2⟩
          rw [E.out]
          go_wp2
          exact ⟨⟨k + 1, by omega, by go_num, hle2, rfl, hbel.trans (hb2.mono hbel.size)⟩, by simp [intOf]; omega⟩
        · have e : szPair (left - fs.length - pairBulk (fs.take k)) fs[k] = -1 := by
            unfold szPair; rw [if_neg (by omega)]
          have E : Hid (szPair (left - fs.length - pairBulk (fs.take k)) fs[k] = -1) := e
          have E2 : Hid (szPairs left fs = -1) := by show szPairs left fs = -1; unfold szPairs; rw [if_neg (by omega)]
          clear e hts
          go_wp2_with fail
          refine (szSeries_any fs[k] _ _ (by omega) (by omega) hss).mono ?_
          rintro e w' ⟨rfl, hb2⟩
          rw [E.out]
          go_wp2
          go_ret
          exact ⟨ret_int E2.out.symm, hbel.trans (hb2.mono hbel.size)⟩
      · go_wp2
        go_ret
        have e : fs.take k = fs := List.take_of_length_le (by omega)
        rw [e] at hle ⊢
        exact ⟨ret_int (by unfold szPairs; rw [if_pos (by omega)]), hbel⟩

set_option maxHeartbeats 400000 in
theorem toSeries_any (nm : ByteArray) (da : Int) (w : World) :
    Calls Try.prog 98 #[.agg #[.string nm, .int .i64 da]] w fun e w' => e = .returned (.agg #[.string nm, .int .i64 da]) ∧ Below w.heap.size w w' := by
  go_enter Try.func98, Try.ntmps98
  go_wp2
  exact bodyPost_ret (v := .agg #[.string nm, .int .i64 da]) (by simp [results, Try.results98, go_sem]) rfl ⟨rfl, (((Below.refl _ _).alloc (Nat.le_refl _) _).alloc (by simp) _).alloc (by simp; omega) _⟩

set_option maxHeartbeats 1000000 in
theorem toSeriesS_any (a : Option Addr) (cap : Nat) (fs : List PairD) (w : World) (hf : PairsIn w a fs) (hlen : fs.length ≤ 1048576) :
    Calls Try.prog 89 #[.slice a fs.length cap] w fun e w' => e = .returned (.slice (some ⟨w.heap.size, 0, none⟩) fs.length fs.length) ∧ PairsOwn w' w.heap.size (some ⟨w.heap.size, 0, none⟩) fs ∧ Below w.heap.size w w' ∧ w.heap.size < w'.heap.size := by
  have HF : Hid (PairsIn w a fs) := hf
  clear hf
  have hmk := make_Series fs.length hlen
  go_enter Try.func89, Try.ntmps89
  go_wp2
  go_loopw [4] (fun i wr => ∃ k : Nat, k ≤ fs.length ∧ i = .int .i64 k ∧ FillSeries wr w.heap.size fs.length fs k ∧ Below w.heap.size w wr ∧ w.heap.size < wr.heap.size) (fun i _ => fs.length - (intOf i).toNat)
  case atStart => exact ⟨0, Nat.zero_le _, rfl, ⟨_, heap_alloc_new _ _, size_madeCells _ _, fun i _ h => absurd h (by omega)⟩, (Below.refl _ _).alloc (Nat.le_refl _) _, by simp⟩
  case round =>
    obtain ⟨k, hk, rfl, hfill, hbel, hsz⟩ := hrel
    have HFill : Hid (FillSeries wr w.heap.size fs.length fs k) := hfill
    clear hfill hmk
    by_cases hlt : k < fs.length
    · obtain ⟨b, o, rfl, hb, c0, c1⟩ := (HF.out.later hbel).at hlt
      go_wp2_with fail
      refine (toSeries_any _ _ _).mono ?_
      rintro e w' ⟨rfl, hb2⟩
      have hF2 := HFill.out.later hb2 hsz
      obtain ⟨⟨v0, d0⟩, f0⟩ := hF2.cells (j := k * 2) (by omega)
      obtain ⟨⟨v1, d1⟩, f1⟩ := hF2.cells (j := k * 2 + 1) (by omega)
      have HF2 : Hid (FillSeries w' w.heap.size fs.length fs k) := hF2
      clear hF2
      go_wp2
      exact ⟨⟨k + 1, by omega, by go_num, HF2.out.step hlt (Nat.le_refl _), ((hbel.trans (hb2.mono hbel.size)).setCell (Nat.le_refl _) _).setCell (Nat.le_refl _) _, by have := hb2.size; simp; omega⟩, by simp [intOf]; omega⟩
    · go_wp2
      go_ret
      have e : k = fs.length := by omega
      exact ⟨rfl, by have := HFill.out; rw [e] at this; exact this.done (Nat.le_refl _), hbel, hsz⟩

end Go.Proofs.Ytgpgacncmoiefaa
