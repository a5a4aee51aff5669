import Derived.Test.YtojeemogabhaoaaGreatDoorProg
import Derived.Test.YtojeemogabhaoaaGreatDoorJ01BlkN
import Derived.Deep.OwnRows
import Derived.Test.YtojeemogabhaoaaGreatDoorJ02Ord
namespace Go.Proofs.YtojeemogabhaoaaGreatDoor
open Go.RowKit
theorem info_MetricLimit : (Tryz.prog.info? 59).map (fun i => (i.zero, i.size, i.bytes)) = some (some (.agg #[.string ByteArray.empty, .int .i64 0]), 2, 24) := by kernel_rfl
theorem make_MetricLimit (n : Nat) (hn : n ≤ 1048576) (w : World) :
    (Instr.makeSlice 52 (.int .i64 (n : Int)) (.int .i64 (n : Int))).run Tryz.prog w = .ok (.slice (some ⟨w.heap.size, 0, none⟩) n n) (w.alloc (.cells (madeCells #[.string ByteArray.empty, .int .i64 0] (n * 2)) 59)) := by
  obtain ⟨i, hi, hzz⟩ := Option.map_eq_some_iff.1 info_MetricLimit
  simp only [Prod.mk.injEq] at hzz
  obtain ⟨hz, hs, hb⟩ := hzz
  have hr := run_make (P := Tryz.prog) w 52 59 i _ Tryz.underlying52 hi hz .i64 .i64 n n (by omega) (Int.le_refl _) (by rw [hb]; omega) (by omega)
  simp only [Int.toNat_natCast, hs] at hr
  exact hr
def FillMetricLimit (w : World) (g n : Nat) (fs : List PairD) (k : Nat) : Prop := ∃ cur : Array Value, w.heap[g]? = some (.cells cur 59 (0, 0)) ∧ cur.size = n * 2 ∧
  ∀ i (h : i < fs.length), i < k → cur[i * 2]? = some (.string fs[i].s) ∧ cur[i * 2 + 1]? = some (.int .i64 fs[i].n)
theorem FillMetricLimit.later {w w' : World} {g n k : Nat} {fs : List PairD} {B : Nat} (h : FillMetricLimit w g n fs k) (hb : Below B w w') (hg : g < B) : FillMetricLimit w' g n fs k := by
  obtain ⟨cur, h1, h2⟩ := h
  exact ⟨cur, by rw [hb.block g hg]; exact h1, h2⟩
theorem FillMetricLimit.cells {w : World} {g n k : Nat} {fs : List PairD} (h : FillMetricLimit w g n fs k) {j : Nat} (hj : j < n * 2) : (∃ v, w.cell? ⟨g, j, none⟩ = some v) ∧ w.frozen? ⟨g, j, none⟩ = false := by
  obtain ⟨cur, h1, h2, _⟩ := h
  refine ⟨⟨cur[j], ?_⟩, frozen_of_row w g j cur _ h1⟩
  rw [cell_of_row w g j cur _ _ h1]
  exact Array.getElem?_eq_getElem (by omega)
theorem FillMetricLimit.step {w : World} {g n k : Nat} {fs : List PairD} (h : FillMetricLimit w g n fs k) (hk : k < fs.length) (hn : fs.length ≤ n) :
    FillMetricLimit ((w.setCell ⟨g, k * 2, none⟩ (.string fs[k].s)).setCell ⟨g, k * 2 + 1, none⟩ (.int .i64 fs[k].n)) g n fs (k + 1) := by
  obtain ⟨cur, h1, h2, h3⟩ := h
  refine ⟨_, heap_setCell_same _ _ _ _ _ _ (heap_setCell_same _ _ _ _ _ _ h1), by simp [h2], fun i hi hlt => ?_⟩
  by_cases e : i = k
  · subst e
    refine ⟨?_, ?_⟩ <;> simp [Array.getElem?_setIfInBounds] <;> omega
  · obtain ⟨a1, a2⟩ := h3 i hi (by omega)
    refine ⟨?_, ?_⟩
    · rw [Array.getElem?_setIfInBounds_ne (by omega), Array.getElem?_setIfInBounds_ne (by omega)]; exact a1
    · rw [Array.getElem?_setIfInBounds_ne (by omega), Array.getElem?_setIfInBounds_ne (by omega)]; exact a2
theorem FillMetricLimit.done {w : World} {g B : Nat} {fs : List PairD} (h : FillMetricLimit w g fs.length fs fs.length) (hB : B ≤ g) : PairsOwn w B (some ⟨g, 0, none⟩) fs := by
  obtain ⟨cur, h1, h2, h3⟩ := h
  refine Or.inr ⟨g, 0, cur, _, rfl, hB, h1, fun i hi => ?_⟩
  obtain ⟨a1, a2⟩ := h3 i hi hi
  simp only [cell_of_row w g _ cur _ _ h1, Nat.zero_add]
  exact ⟨a1, a2⟩
set_option maxHeartbeats 400000 in
theorem szMetricLimit_any (f : PairD) (left : Int) (w : World) (h0 : 0 ≤ left) (h1 : left ≤ 1048576) (hn : f.s.size ≤ maxLen) :
    Calls Tryz.prog 101 #[.agg #[.string f.s, .int .i64 f.n], .int .i64 left] w fun e w' => e = .returned (.int .i64 (szPair left f)) ∧ Below w.heap.size w w' := by
  unfold maxLen at hn
  obtain ⟨nm, da⟩ := f
  simp only at hn ⊢
  by_cases c1 : left - nm.size < 0
  · have e : szPair left ⟨nm, da⟩ = -1 := by unfold szPair; rw [if_neg]; simp only; omega
    rw [e]
    go_enter Tryz.func101, Tryz.ntmps101
    go_wp2
    go_ret
    exact ⟨rfl, (Below.refl _ _).alloc (Nat.le_refl _) _⟩
  · have e : szPair left ⟨nm, da⟩ = left - nm.size := by unfold szPair; rw [if_pos]; simp only; omega
    rw [e]
    go_enter Tryz.func101, Tryz.ntmps101
    go_wp2
    go_ret
    exact ⟨rfl, (Below.refl _ _).alloc (Nat.le_refl _) _⟩
set_option maxHeartbeats 1000000 in
theorem szMetricLimitS_any (a : Option Addr) (cap : Nat) (fs : List PairD) (left : Int) (w : World) (h0 : 0 ≤ left) (h1 : left ≤ 1048576) (hf : PairsIn w a fs) (hs : ShortP fs) (hlen : fs.length ≤ maxLen) :
    Calls Tryz.prog 82 #[.slice a fs.length cap, .int .i64 left] w fun e w' => e = .returned (.int .i64 (szPairs left fs)) ∧ Below w.heap.size w w' := by
  unfold maxLen at hlen
  by_cases c1 : left - fs.length < 0
  · have e : szPairs left fs = -1 := by unfold szPairs; rw [if_neg]; omega
    rw [e]
    clear hf hs
    go_enter Tryz.func82, Tryz.ntmps82
    go_wp2
    go_ret
    exact ⟨rfl, Below.refl _ _⟩
  · have hne : ¬ (left - fs.length < 0) := c1
    have HF : Hid (PairsIn w a fs) := hf
    have HS : Hid (ShortP fs) := hs
    clear hf hs
    go_enter Tryz.func82, Tryz.ntmps82
    go_wp2
    go_loopw [1, 5] (fun l i wr => ∃ k : Nat, k ≤ fs.length ∧ i = .int .i64 k ∧ (pairBulk (fs.take k) : Int) ≤ left - fs.length ∧ l = .int .i64 (left - fs.length - pairBulk (fs.take k)) ∧ Below w.heap.size w wr) (fun _ i _ => fs.length - (intOf i).toNat)
    case atStart => exact ⟨0, Nat.zero_le _, rfl, by simp [pairBulk]; omega, by simp [pairBulk], Below.refl _ _⟩
    case round =>
      obtain ⟨k, hk, rfl, hle, rfl, hbel⟩ := hrel
      by_cases hlt : k < fs.length
      · obtain ⟨b, o, rfl, hb, c0, c1⟩ := (HF.out.later hbel).at hlt
        have hss := HS.out k hlt
        have hts := pairBulk_take_succ fs k hlt
        have htl := pairBulk_take_le fs (k + 1)
        by_cases c3 : ((fs[k].s.size : Nat) : Int) ≤ left - fs.length - pairBulk (fs.take k)
        · have e : szPair (left - fs.length - pairBulk (fs.take k)) fs[k] = left - fs.length - pairBulk (fs.take (k + 1)) := by
            unfold szPair; rw [if_pos (by omega), hts]; omega
          have E : Hid (szPair (left - fs.length - pairBulk (fs.take k)) fs[k] = left - fs.length - pairBulk (fs.take (k + 1))) := e
          have hle2 : (pairBulk (fs.take (k + 1)) : Int) ≤ left - fs.length := by omega
          clear e hts
          go_wp2_with fail
          refine (szMetricLimit_any fs[k] _ _ (by omega) (by omega) hss).mono ?_
          rintro e w' ⟨rfl, hb2⟩
          rw [E.out]
          go_wp2
          exact ⟨⟨k + 1, by omega, by go_num, hle2, rfl, hbel.trans (hb2.mono hbel.size)⟩, by simp [intOf]; omega⟩
        · have e : szPair (left - fs.length - pairBulk (fs.take k)) fs[k] = -1 := by
            unfold szPair; rw [if_neg (by omega)]
          have E : Hid (szPair (left - fs.length - pairBulk (fs.take k)) fs[k] = -1) := e
          have E2 : Hid (szPairs left fs = -1) := by show szPairs left fs = -1; unfold szPairs; rw [if_neg (by omega)]
          clear e hts
          go_wp2_with fail
          refine (szMetricLimit_any fs[k] _ _ (by omega) (by omega) hss).mono ?_
          rintro e w' ⟨rfl, hb2⟩
          rw [E.out]
          go_wp2
          go_ret
          exact ⟨ret_int E2.out.symm, hbel.trans (hb2.mono hbel.size)⟩
      · go_wp2
        go_ret
        have e : fs.take k = fs := List.take_of_length_le (by omega)
        rw [e] at hle ⊢
        exact ⟨ret_int (by unfold szPairs; rw [if_pos (by omega)]), hbel⟩
set_option maxHeartbeats 400000 in
theorem toMetricLimit_any (nm : ByteArray) (da : Int) (w : World) :
    Calls Tryz.prog 109 #[.agg #[.string nm, .int .i64 da]] w fun e w' => e = .returned (.agg #[.string nm, .int .i64 da]) ∧ Below w.heap.size w w' := by
  go_enter Tryz.func109, Tryz.ntmps109
  go_wp2
  exact bodyPost_ret (v := .agg #[.string nm, .int .i64 da]) (by simp [results, Tryz.results109, go_sem]) rfl ⟨rfl, (((Below.refl _ _).alloc (Nat.le_refl _) _).alloc (by simp) _).alloc (by simp; omega) _⟩
set_option maxHeartbeats 1000000 in
theorem toMetricLimitS_any (a : Option Addr) (cap : Nat) (fs : List PairD) (w : World) (hf : PairsIn w a fs) (hlen : fs.length ≤ 1048576) :
    Calls Tryz.prog 87 #[.slice a fs.length cap] w fun e w' => e = .returned (.slice (some ⟨w.heap.size, 0, none⟩) fs.length fs.length) ∧ PairsOwn w' w.heap.size (some ⟨w.heap.size, 0, none⟩) fs ∧ Below w.heap.size w w' ∧ w.heap.size < w'.heap.size := by
  have HF : Hid (PairsIn w a fs) := hf
  clear hf
  have hmk := make_MetricLimit fs.length hlen
  go_enter Tryz.func87, Tryz.ntmps87
  go_wp2
  go_loopw [4] (fun i wr => ∃ k : Nat, k ≤ fs.length ∧ i = .int .i64 k ∧ FillMetricLimit wr w.heap.size fs.length fs k ∧ Below w.heap.size w wr ∧ w.heap.size < wr.heap.size) (fun i _ => fs.length - (intOf i).toNat)
  case atStart => exact ⟨0, Nat.zero_le _, rfl, ⟨_, heap_alloc_new _ _, size_madeCells _ _, fun i _ h => absurd h (by omega)⟩, (Below.refl _ _).alloc (Nat.le_refl _) _, by simp⟩
  case round =>
    obtain ⟨k, hk, rfl, hfill, hbel, hsz⟩ := hrel
    have HFill : Hid (FillMetricLimit wr w.heap.size fs.length fs k) := hfill
    clear hfill hmk
    by_cases hlt : k < fs.length
    · obtain ⟨b, o, rfl, hb, c0, c1⟩ := (HF.out.later hbel).at hlt
      go_wp2_with fail
      refine (toMetricLimit_any _ _ _).mono ?_
      rintro e w' ⟨rfl, hb2⟩
      have hF2 := HFill.out.later hb2 hsz
      obtain ⟨⟨v0, d0⟩, f0⟩ := hF2.cells (j := k * 2) (by omega)
      obtain ⟨⟨v1, d1⟩, f1⟩ := hF2.cells (j := k * 2 + 1) (by omega)
      have HF2 : Hid (FillMetricLimit w' w.heap.size fs.length fs k) := hF2
      clear hF2
      go_wp2
      exact ⟨⟨k + 1, by omega, by go_num, HF2.out.step hlt (Nat.le_refl _), ((hbel.trans (hb2.mono hbel.size)).setCell (Nat.le_refl _) _).setCell (Nat.le_refl _) _, by have := hb2.size; simp; omega⟩, by simp [intOf]; omega⟩
    · go_wp2
      go_ret
      have e : k = fs.length := by omega
      exact ⟨rfl, by have := HFill.out; rw [e] at this; exact this.done (Nat.le_refl _), hbel, hsz⟩
theorem info_Series : (Tryz.prog.info? 61).map (fun i => (i.zero, i.size, i.bytes)) = some (some (.agg #[.string ByteArray.empty, .int .i64 0]), 2, 24) := by kernel_rfl
theorem make_Series (n : Nat) (hn : n ≤ 1048576) (w : World) :
    (Instr.makeSlice 53 (.int .i64 (n : Int)) (.int .i64 (n : Int))).run Tryz.prog w = .ok (.slice (some ⟨w.heap.size, 0, none⟩) n n) (w.alloc (.cells (madeCells #[.string ByteArray.empty, .int .i64 0] (n * 2)) 61)) := by
  obtain ⟨i, hi, hzz⟩ := Option.map_eq_some_iff.1 info_Series
  simp only [Prod.mk.injEq] at hzz
  obtain ⟨hz, hs, hb⟩ := hzz
  have hr := run_make (P := Tryz.prog) w 53 61 i _ Tryz.underlying53 hi hz .i64 .i64 n n (by omega) (Int.le_refl _) (by rw [hb]; omega) (by omega)
  simp only [Int.toNat_natCast, hs] at hr
  exact hr
def FillSeries (w : World) (g n : Nat) (fs : List PairD) (k : Nat) : Prop := ∃ cur : Array Value, w.heap[g]? = some (.cells cur 61 (0, 0)) ∧ cur.size = n * 2 ∧
  ∀ i (h : i < fs.length), i < k → cur[i * 2]? = some (.string fs[i].s) ∧ cur[i * 2 + 1]? = some (.int .i64 fs[i].n)
theorem FillSeries.later {w w' : World} {g n k : Nat} {fs : List PairD} {B : Nat} (h : FillSeries w g n fs k) (hb : Below B w w') (hg : g < B) : FillSeries w' g n fs k := by
  obtain ⟨cur, h1, h2⟩ := h
  exact ⟨cur, by rw [hb.block g hg]; exact h1, h2⟩
theorem FillSeries.cells {w : World} {g n k : Nat} {fs : List PairD} (h : FillSeries w g n fs k) {j : Nat} (hj : j < n * 2) : (∃ v, w.cell? ⟨g, j, none⟩ = some v) ∧ w.frozen? ⟨g, j, none⟩ = false := by
  obtain ⟨cur, h1, h2, _⟩ := h
  refine ⟨⟨cur[j], ?_⟩, frozen_of_row w g j cur _ h1⟩
  rw [cell_of_row w g j cur _ _ h1]
  exact Array.getElem?_eq_getElem (by omega)
theorem FillSeries.step {w : World} {g n k : Nat} {fs : List PairD} (h : FillSeries w g n fs k) (hk : k < fs.length) (hn : fs.length ≤ n) :
    FillSeries ((w.setCell ⟨g, k * 2, none⟩ (.string fs[k].s)).setCell ⟨g, k * 2 + 1, none⟩ (.int .i64 fs[k].n)) g n fs (k + 1) := by
  obtain ⟨cur, h1, h2, h3⟩ := h
  refine ⟨_, heap_setCell_same _ _ _ _ _ _ (heap_setCell_same _ _ _ _ _ _ h1), by simp [h2], fun i hi hlt => ?_⟩
  by_cases e : i = k
  · subst e
    refine ⟨?_, ?_⟩ <;> simp [Array.getElem?_setIfInBounds] <;> omega
  · obtain ⟨a1, a2⟩ := h3 i hi (by omega)
    refine ⟨?_, ?_⟩
    · rw [Array.getElem?_setIfInBounds_ne (by omega), Array.getElem?_setIfInBounds_ne (by omega)]; exact a1
    · rw [Array.getElem?_setIfInBounds_ne (by omega), Array.getElem?_setIfInBounds_ne (by omega)]; exact a2
theorem FillSeries.done {w : World} {g B : Nat} {fs : List PairD} (h : FillSeries w g fs.length fs fs.length) (hB : B ≤ g) : PairsOwn w B (some ⟨g, 0, none⟩) fs := by
  obtain ⟨cur, h1, h2, h3⟩ := h
  refine Or.inr ⟨g, 0, cur, _, rfl, hB, h1, fun i hi => ?_⟩
  obtain ⟨a1, a2⟩ := h3 i hi hi
  simp only [cell_of_row w g _ cur _ _ h1, Nat.zero_add]
  exact ⟨a1, a2⟩
set_option maxHeartbeats 400000 in
theorem szSeries_any (f : PairD) (left : Int) (w : World) (h0 : 0 ≤ left) (h1 : left ≤ 1048576) (hn : f.s.size ≤ maxLen) :
    Calls Tryz.prog 102 #[.agg #[.string f.s, .int .i64 f.n], .int .i64 left] w fun e w' => e = .returned (.int .i64 (szPair left f)) ∧ Below w.heap.size w w' := by
  unfold maxLen at hn
  obtain ⟨nm, da⟩ := f
  simp only at hn ⊢
  by_cases c1 : left - nm.size < 0
  · have e : szPair left ⟨nm, da⟩ = -1 := by unfold szPair; rw [if_neg]; simp only; omega
    rw [e]
    go_enter Tryz.func102, Tryz.ntmps102
    go_wp2
    go_ret
    exact ⟨rfl, (Below.refl _ _).alloc (Nat.le_refl _) _⟩
  · have e : szPair left ⟨nm, da⟩ = left - nm.size := by unfold szPair; rw [if_pos]; simp only; omega
    rw [e]
    go_enter Tryz.func102, Tryz.ntmps102
    go_wp2
    go_ret
    exact ⟨rfl, (Below.refl _ _).alloc (Nat.le_refl _) _⟩
set_option maxHeartbeats 1000000 in
theorem szSeriesS_any (a : Option Addr) (cap : Nat) (fs : List PairD) (left : Int) (w : World) (h0 : 0 ≤ left) (h1 : left ≤ 1048576) (hf : PairsIn w a fs) (hs : ShortP fs) (hlen : fs.length ≤ maxLen) :
    Calls Tryz.prog 83 #[.slice a fs.length cap, .int .i64 left] w fun e w' => e = .returned (.int .i64 (szPairs left fs)) ∧ Below w.heap.size w w' := by
  unfold maxLen at hlen
  by_cases c1 : left - fs.length < 0
  · have e : szPairs left fs = -1 := by unfold szPairs; rw [if_neg]; omega
    rw [e]
    clear hf hs
    go_enter Tryz.func83, Tryz.ntmps83
    go_wp2
    go_ret
    exact ⟨rfl, Below.refl _ _⟩
  · have hne : ¬ (left - fs.length < 0) := c1
    have HF : Hid (PairsIn w a fs) := hf
    have HS : Hid (ShortP fs) := hs
    clear hf hs
    go_enter Tryz.func83, Tryz.ntmps83
    go_wp2
    go_loopw [1, 5] (fun l i wr => ∃ k : Nat, k ≤ fs.length ∧ i = .int .i64 k ∧ (pairBulk (fs.take k) : Int) ≤ left - fs.length ∧ l = .int .i64 (left - fs.length - pairBulk (fs.take k)) ∧ Below w.heap.size w wr) (fun _ i _ => fs.length - (intOf i).toNat)
    case atStart => exact ⟨0, Nat.zero_le _, rfl, by simp [pairBulk]; omega, by simp [pairBulk], Below.refl _ _⟩
    case round =>
      obtain ⟨k, hk, rfl, hle, rfl, hbel⟩ := hrel
      by_cases hlt : k < fs.length
      · obtain ⟨b, o, rfl, hb, c0, c1⟩ := (HF.out.later hbel).at hlt
        have hss := HS.out k hlt
        have hts := pairBulk_take_succ fs k hlt
        have htl := pairBulk_take_le fs (k + 1)
        by_cases c3 : ((fs[k].s.size : Nat) : Int) ≤ left - fs.length - pairBulk (fs.take k)
        · have e : szPair (left - fs.length - pairBulk (fs.take k)) fs[k] = left - fs.length - pairBulk (fs.take (k + 1)) := by
            unfold szPair; rw [if_pos (by omega), hts]; omega
          have E : Hid (szPair (left - fs.length - pairBulk (fs.take k)) fs[k] = left - fs.length - pairBulk (fs.take (k + 1))) := e
          have hle2 : (pairBulk (fs.take (k + 1)) : Int) ≤ left - fs.length := by omega
          clear e hts
          go_wp2_with fail
          refine (szSeries_any fs[k] _ _ (by omega) (by omega) hss).mono ?_
          rintro e w' ⟨rfl, hb2⟩
          rw [E.out]
          go_wp2
          exact ⟨⟨k + 1, by omega, by go_num, hle2, rfl, hbel.trans (hb2.mono hbel.size)⟩, by simp [intOf]; omega⟩
        · have e : szPair (left - fs.length - pairBulk (fs.take k)) fs[k] = -1 := by
            unfold szPair; rw [if_neg (by omega)]
          have E : Hid (szPair (left - fs.length - pairBulk (fs.take k)) fs[k] = -1) := e
          have E2 : Hid (szPairs left fs = -1) := by show szPairs left fs = -1; unfold szPairs; rw [if_neg (by omega)]
          clear e hts
          go_wp2_with fail
          refine (szSeries_any fs[k] _ _ (by omega) (by omega) hss).mono ?_
          rintro e w' ⟨rfl, hb2⟩
          rw [E.out]
          go_wp2
          go_ret
          exact ⟨ret_int E2.out.symm, hbel.trans (hb2.mono hbel.size)⟩
      · go_wp2
        go_ret
        have e : fs.take k = fs := List.take_of_length_le (by omega)
        rw [e] at hle ⊢
        exact ⟨ret_int (by unfold szPairs; rw [if_pos (by omega)]), hbel⟩
set_option maxHeartbeats 400000 in
theorem toSeries_any (nm : ByteArray) (da : Int) (w : World) :
    Calls Tryz.prog 110 #[.agg #[.string nm, .int .i64 da]] w fun e w' => e = .returned (.agg #[.string nm, .int .i64 da]) ∧ Below w.heap.size w w' := by
  go_enter Tryz.func110, Tryz.ntmps110
  go_wp2
  exact bodyPost_ret (v := .agg #[.string nm, .int .i64 da]) (by simp [results, Tryz.results110, go_sem]) rfl ⟨rfl, (((Below.refl _ _).alloc (Nat.le_refl _) _).alloc (by simp) _).alloc (by simp; omega) _⟩
set_option maxHeartbeats 1000000 in
theorem toSeriesS_any (a : Option Addr) (cap : Nat) (fs : List PairD) (w : World) (hf : PairsIn w a fs) (hlen : fs.length ≤ 1048576) :
    Calls Tryz.prog 88 #[.slice a fs.length cap] w fun e w' => e = .returned (.slice (some ⟨w.heap.size, 0, none⟩) fs.length fs.length) ∧ PairsOwn w' w.heap.size (some ⟨w.heap.size, 0, none⟩) fs ∧ Below w.heap.size w w' ∧ w.heap.size < w'.heap.size := by
  have HF : Hid (PairsIn w a fs) := hf
  clear hf
  have hmk := make_Series fs.length hlen
  go_enter Tryz.func88, Tryz.ntmps88
  go_wp2
  go_loopw [4] (fun i wr => ∃ k : Nat, k ≤ fs.length ∧ i = .int .i64 k ∧ FillSeries wr w.heap.size fs.length fs k ∧ Below w.heap.size w wr ∧ w.heap.size < wr.heap.size) (fun i _ => fs.length - (intOf i).toNat)
  case atStart => exact ⟨0, Nat.zero_le _, rfl, ⟨_, heap_alloc_new _ _, size_madeCells _ _, fun i _ h => absurd h (by omega)⟩, (Below.refl _ _).alloc (Nat.le_refl _) _, by simp⟩
  case round =>
    obtain ⟨k, hk, rfl, hfill, hbel, hsz⟩ := hrel
    have HFill : Hid (FillSeries wr w.heap.size fs.length fs k) := hfill
    clear hfill hmk
    by_cases hlt : k < fs.length
    · obtain ⟨b, o, rfl, hb, c0, c1⟩ := (HF.out.later hbel).at hlt
      go_wp2_with fail
      refine (toSeries_any _ _ _).mono ?_
      rintro e w' ⟨rfl, hb2⟩
      have hF2 := HFill.out.later hb2 hsz
      obtain ⟨⟨v0, d0⟩, f0⟩ := hF2.cells (j := k * 2) (by omega)
      obtain ⟨⟨v1, d1⟩, f1⟩ := hF2.cells (j := k * 2 + 1) (by omega)
      have HF2 : Hid (FillSeries w' w.heap.size fs.length fs k) := hF2
      clear hF2
      go_wp2
      exact ⟨⟨k + 1, by omega, by go_num, HF2.out.step hlt (Nat.le_refl _), ((hbel.trans (hb2.mono hbel.size)).setCell (Nat.le_refl _) _).setCell (Nat.le_refl _) _, by have := hb2.size; simp; omega⟩, by simp [intOf]; omega⟩
    · go_wp2
      go_ret
      have e : k = fs.length := by omega
      exact ⟨rfl, by have := HFill.out; rw [e] at this; exact this.done (Nat.le_refl _), hbel, hsz⟩
end Go.Proofs.YtojeemogabhaoaaGreatDoor
namespace Go.Proofs.YtojeemogabhaoaaGreatDoor
open Go.RowKit
set_option maxRecDepth 100000 in
set_option maxHeartbeats 1000000 in
theorem toTenant_any (f : TenD) (a1 a2 : Option Addr) (c1 c2 : Nat) (w : World) (p1 : PairsIn w a1 f.mets) (p2 : PairsIn w a2 f.sers) (l1 : f.mets.length ≤ 1048576) (l2 : f.sers.length ≤ 1048576) :
    Calls Tryz.prog 58 #[.agg #[.string f.name, .int .i64 f.limit, .slice a1 f.mets.length c1, .slice a2 f.sers.length c2]] w fun e w' => ∃ g1 g2, e = .returned (.agg #[.string f.name, .int .i64 f.limit, .slice (some ⟨g1, 0, none⟩) f.mets.length f.mets.length, .slice (some ⟨g2, 0, none⟩) f.sers.length f.sers.length]) ∧
      w.heap.size ≤ g1 ∧ g1 < g2 ∧ PairsOwn w' w.heap.size (some ⟨g1, 0, none⟩) f.mets ∧ PairsOwn w' w.heap.size (some ⟨g2, 0, none⟩) f.sers ∧ Below w.heap.size w w' := by
  have HM : Hid (∀ W, Below w.heap.size w W → Calls Tryz.prog 87 #[.slice a1 f.mets.length c1] W fun e w' => e = .returned (.slice (some ⟨W.heap.size, 0, none⟩) f.mets.length f.mets.length) ∧ PairsOwn w' W.heap.size (some ⟨W.heap.size, 0, none⟩) f.mets ∧ Below W.heap.size W w' ∧ W.heap.size < w'.heap.size) :=
    fun W hW => toMetricLimitS_any a1 c1 f.mets W (p1.later hW) l1
  have HS : Hid (∀ W, Below w.heap.size w W → Calls Tryz.prog 88 #[.slice a2 f.sers.length c2] W fun e w' => e = .returned (.slice (some ⟨W.heap.size, 0, none⟩) f.sers.length f.sers.length) ∧ PairsOwn w' W.heap.size (some ⟨W.heap.size, 0, none⟩) f.sers ∧ Below W.heap.size W w' ∧ W.heap.size < w'.heap.size) :=
    fun W hW => toSeriesS_any a2 c2 f.sers W (p2.later hW) l2
  clear p1 p2
  go_enter Tryz.func58, Tryz.ntmps58
  go_wp2_with fail
  refine (HM.out _ (bto (bto (bnew _ _) (bnew _ _)) (bnew _ _))).mono ?_
  rintro e w1 ⟨rfl, o1, hb1, z1⟩
  have B1 : Hid (Below w.heap.size w w1) := bto (bto (bto (bnew _ _) (bnew _ _)) (bnew _ _)) hb1
  have P1 : Hid (Blk w1 w.heap.size #[.string f.name, .int .i64 f.limit, .slice a1 f.mets.length c1, .slice a2 f.sers.length c2] 90) := (((Blk.new _ _ _).alloc _).alloc _).later hb1
  have R1 : Hid (Blk w1 (w.heap.size + 1) #[.string ByteArray.empty, .int .i64 0, .slice none 0 0, .slice none 0 0] 55) := by have := ((Blk.new (w.alloc (.cells #[.string f.name, .int .i64 f.limit, .slice a1 f.mets.length c1, .slice a2 f.sers.length c2] 90)) #[.string ByteArray.empty, .int .i64 0, .slice none 0 0, .slice none 0 0] 55).alloc (.cells #[.string f.name, .int .i64 f.limit, .slice none 0 0, .slice none 0 0] 55)).later hb1; exact hid (by simpa using this)
  have X1 : Hid (Blk w1 (w.heap.size + 1 + 1) #[.string f.name, .int .i64 f.limit, .slice none 0 0, .slice none 0 0] 55) := by have := (Blk.new ((w.alloc (.cells #[.string f.name, .int .i64 f.limit, .slice a1 f.mets.length c1, .slice a2 f.sers.length c2] 90)).alloc (.cells #[.string ByteArray.empty, .int .i64 0, .slice none 0 0, .slice none 0 0] 55)) #[.string f.name, .int .i64 f.limit, .slice none 0 0, .slice none 0 0] 55).later hb1; exact hid (by simpa using this)
  have O1 : Hid (PairsOwn w1 (w.heap.size + 1 + 1 + 1) (some ⟨w.heap.size + 1 + 1 + 1, 0, none⟩) f.mets) := by show PairsOwn _ _ _ _; simpa using o1
  have z1' : w.heap.size + 1 + 1 + 1 < w1.heap.size := by simpa using z1
  have q1 : w1.cell? ⟨w.heap.size, 3, none⟩ = some (.slice a2 f.sers.length c2) := P1.out.cell 3
  have q2 : w1.cell? ⟨w.heap.size + 1 + 1, 2, none⟩ = some (.slice none 0 0) := X1.out.cell 2
  have q3 := X1.out.free 2
  clear o1 z1 hb1 P1 HM
  go_wp2_with fail
  have B1' : Hid (Below w.heap.size w (w1.setCell ⟨w.heap.size + 1 + 1, 2, none⟩ (.slice (some ⟨w.heap.size + 1 + 1 + 1, 0, none⟩) f.mets.length f.mets.length))) := B1.out.setCell (by simp; omega) _
  refine (HS.out _ B1'.out).mono ?_
  rintro e w2 ⟨rfl, o2, hb2, z2⟩
  have B2 : Hid (Below w.heap.size w w2) := bto B1'.out hb2
  have O1' : Hid (PairsOwn w2 (w.heap.size + 1 + 1 + 1) (some ⟨w.heap.size + 1 + 1 + 1, 0, none⟩) f.mets) := (O1.out.but ((But.refl _ _).setCell _ _) (by omega)).later hb2
  have O2 : Hid (PairsOwn w2 w1.heap.size (some ⟨w1.heap.size, 0, none⟩) f.sers) := by show PairsOwn _ _ _ _; simpa using o2
  have X2 : Hid (Blk w2 (w.heap.size + 1 + 1) #[.string f.name, .int .i64 f.limit, .slice (some ⟨w.heap.size + 1 + 1 + 1, 0, none⟩) f.mets.length f.mets.length, .slice none 0 0] 55) := (X1.out.set 2 _).later hb2
  have R2 : Hid (Blk w2 (w.heap.size + 1) #[.string ByteArray.empty, .int .i64 0, .slice none 0 0, .slice none 0 0] 55) := (R1.out.but ((But.refl _ _).setCell _ _) (by omega)).later hb2
  have r0 : w2.cell? ⟨w.heap.size + 1 + 1, 0, none⟩ = some (.string f.name) := X2.out.cell 0
  have r1 : w2.cell? ⟨w.heap.size + 1 + 1, 1, none⟩ = some (.int .i64 f.limit) := X2.out.cell 1
  have r2 : w2.cell? ⟨w.heap.size + 1 + 1, 2, none⟩ = some (.slice (some ⟨w.heap.size + 1 + 1 + 1, 0, none⟩) f.mets.length f.mets.length) := X2.out.cell 2
  have r3 : w2.cell? ⟨w.heap.size + 1 + 1, 3, none⟩ = some (.slice none 0 0) := X2.out.cell 3
  have r4 := X2.out.free 3
  have s0 : w2.cell? ⟨w.heap.size + 1, 0, none⟩ = some (.string ByteArray.empty) := R2.out.cell 0
  have s1 : w2.cell? ⟨w.heap.size + 1, 1, none⟩ = some (.int .i64 0) := R2.out.cell 1
  have s2 : w2.cell? ⟨w.heap.size + 1, 2, none⟩ = some (.slice none 0 0) := R2.out.cell 2
  have s3 : w2.cell? ⟨w.heap.size + 1, 3, none⟩ = some (.slice none 0 0) := R2.out.cell 3
  have u0 := R2.out.free 0
  have u1 := R2.out.free 1
  have u2 := R2.out.free 2
  have u3 := R2.out.free 3
  clear o2 z2 B1 B1' O1 hb2 q1 q2 q3 X1 R1
  go_wp2
  refine bodyPost_ret (v := .agg #[.string f.name, .int .i64 f.limit, .slice (some ⟨w.heap.size + 1 + 1 + 1, 0, none⟩) f.mets.length f.mets.length, .slice (some ⟨w1.heap.size, 0, none⟩) f.sers.length f.sers.length]) (by simp [results, Tryz.results58, go_sem, s0, s1, s2, s3]) rfl ⟨_, _, rfl, by omega, z1', ?_, ?_, ?_⟩
  · exact ((((((O1'.out.but ((But.refl _ _).setCell _ _) (by omega)).but ((But.refl _ _).setCell _ _) (by omega)).but ((But.refl _ _).setCell _ _) (by omega)).but ((But.refl _ _).setCell _ _) (by omega)).but ((But.refl _ _).setCell _ _) (by omega))).mono (by omega)
  · exact ((((((O2.out.but ((But.refl _ _).setCell _ _) (by omega)).but ((But.refl _ _).setCell _ _) (by omega)).but ((But.refl _ _).setCell _ _) (by omega)).but ((But.refl _ _).setCell _ _) (by omega)).but ((But.refl _ _).setCell _ _) (by omega))).mono (by omega)
  · exact ((((B2.out.setCell (by simp; omega) _).setCell (by simp) _).setCell (by simp) _).setCell (by simp) _).setCell (by simp) _
end Go.Proofs.YtojeemogabhaoaaGreatDoor
