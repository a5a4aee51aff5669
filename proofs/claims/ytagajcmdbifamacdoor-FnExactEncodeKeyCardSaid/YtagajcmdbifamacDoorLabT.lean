import Derived.Test.YtagajcmdbifamacDoorProg
import Derived.Test.YtagajcmdbifamacDoorLabB
import Derived.Deep.OwnRows
namespace Go.Proofs.YtagajcmdbifamacDoor
open Go.RowKit

set_option maxHeartbeats 400000 in
theorem szLabel_any (f : LabD) (left : Int) (w : World) (h0 : 0 ≤ left) (h1 : left ≤ 1048576) (hn : f.name.size ≤ maxLen) (hd : f.value.size ≤ maxLen) :
    Calls Tryd.prog 19 #[.agg #[.string f.name, .string f.value], .int .i64 left] w fun e w' => e = .returned (.int .i64 (szLab left f)) ∧ Below w.heap.size w w' := by
  unfold maxLen at hn hd
  obtain ⟨nm, da⟩ := f
  simp only at hn hd ⊢
  by_cases c1 : left - nm.size < 0
  · have e : szLab left ⟨nm, da⟩ = -1 := by unfold szLab; rw [if_neg]; simp only; omega
    rw [e]
    go_enter Tryd.func19, Tryd.ntmps19
    go_wp2
    go_ret
    exact ⟨rfl, (Below.refl _ _).alloc (Nat.le_refl _) _⟩
  · by_cases c2 : left - nm.size - da.size < 0
    · have e : szLab left ⟨nm, da⟩ = -1 := by unfold szLab; rw [if_neg]; simp only; omega
      rw [e]
      go_enter Tryd.func19, Tryd.ntmps19
      go_wp2
      go_ret
      exact ⟨rfl, (Below.refl _ _).alloc (Nat.le_refl _) _⟩
    · have e : szLab left ⟨nm, da⟩ = left - nm.size - da.size := by unfold szLab; rw [if_pos]; simp only; omega
      rw [e]
      go_enter Tryd.func19, Tryd.ntmps19
      go_wp2
      go_ret
      exact ⟨rfl, (Below.refl _ _).alloc (Nat.le_refl _) _⟩

set_option maxHeartbeats 1000000 in
theorem szLabelS_any (a : Option Addr) (cap : Nat) (fs : List LabD) (left : Int) (w : World) (h0 : 0 ≤ left) (h1 : left ≤ 1048576) (hf : LabsIn w a fs) (hs : ShortL fs) (hlen : fs.length ≤ maxLen) :
    Calls Tryd.prog 6 #[.slice a fs.length cap, .int .i64 left] w fun e w' => e = .returned (.int .i64 (szLabs left fs)) ∧ Below w.heap.size w w' := by
  unfold maxLen at hlen
  by_cases c1 : left - fs.length < 0
  · have e : szLabs left fs = -1 := by unfold szLabs; rw [if_neg]; omega
    rw [e]
    clear hf hs
    go_enter Tryd.func6, Tryd.ntmps6
    go_wp2
    go_ret
    exact ⟨rfl, Below.refl _ _⟩
  · have hne : ¬ (left - fs.length < 0) := c1
    have HF : Hid (LabsIn w a fs) := hf
    have HS : Hid (ShortL fs) := hs
    clear hf hs
    go_enter Tryd.func6, Tryd.ntmps6
    go_wp2
    go_loopw [1, 5] (fun l i wr => ∃ k : Nat, k ≤ fs.length ∧ i = .int .i64 k ∧ (labBulk (fs.take k) : Int) ≤ left - fs.length ∧ l = .int .i64 (left - fs.length - labBulk (fs.take k)) ∧ Below w.heap.size w wr) (fun _ i _ => fs.length - (intOf i).toNat)
    case atStart => exact ⟨0, Nat.zero_le _, rfl, by simp [labBulk]; omega, by simp [labBulk], Below.refl _ _⟩
    case round =>
      obtain ⟨k, hk, rfl, hle, rfl, hbel⟩ := hrel
      by_cases hlt : k < fs.length
      · obtain ⟨b, o, rfl, hb, c0, c1⟩ := (HF.out.later hbel).at hlt
        have hss := HS.out k hlt
        have hts := labBulk_take_succ fs k hlt
        have htl := labBulk_take_le fs (k + 1)
        by_cases c3 : ((fs[k].name.size + fs[k].value.size : Nat) : Int) ≤ left - fs.length - labBulk (fs.take k)
        · have e : szLab (left - fs.length - labBulk (fs.take k)) fs[k] = left - fs.length - labBulk (fs.take (k + 1)) := by
            unfold szLab; rw [if_pos (by omega), hts]; omega
          have E : Hid (szLab (left - fs.length - labBulk (fs.take k)) fs[k] = left - fs.length - labBulk (fs.take (k + 1))) := e
          have hle2 : (labBulk (fs.take (k + 1)) : Int) ≤ left - fs.length := by omega
          clear e hts
          go_wp2_with fail
          refine (szLabel_any fs[k] _ _ (by omega) (by omega) hss.1 hss.2).mono ?_
          rintro e w' ⟨rfl, hb2⟩
          rw [E.out]
          go_wp2
          exact ⟨⟨k + 1, by omega, by go_num, hle2, rfl, hbel.trans (hb2.mono hbel.size)⟩, by simp [intOf]; omega⟩
        · have e : szLab (left - fs.length - labBulk (fs.take k)) fs[k] = -1 := by
            unfold szLab; rw [if_neg (by omega)]
          have E : Hid (szLab (left - fs.length - labBulk (fs.take k)) fs[k] = -1) := e
          have E2 : Hid (szLabs left fs = -1) := by show szLabs left fs = -1; unfold szLabs; rw [if_neg (by omega)]
          clear e hts
          go_wp2_with fail
          refine (szLabel_any fs[k] _ _ (by omega) (by omega) hss.1 hss.2).mono ?_
          rintro e w' ⟨rfl, hb2⟩
          rw [E.out]
          go_wp2
          go_ret
          exact ⟨ret_int E2.out.symm, hbel.trans (hb2.mono hbel.size)⟩
      · go_wp2
        go_ret
        have e : fs.take k = fs := List.take_of_length_le (by omega)
        rw [e] at hle ⊢
        exact ⟨ret_int (by unfold szLabs; rw [if_pos (by omega)]), hbel⟩

set_option maxHeartbeats 400000 in
theorem toLabel_any (nm da : ByteArray) (w : World) :
    Calls Tryd.prog 24 #[.agg #[.string nm, .string da]] w fun e w' => e = .returned (.agg #[.string nm, .string da]) ∧ Below w.heap.size w w' := by
  go_enter Tryd.func24, Tryd.ntmps24
  go_wp2
  exact bodyPost_ret (v := .agg #[.string nm, .string da]) (by simp [results, Tryd.results24, go_sem]) rfl ⟨rfl, (((Below.refl _ _).alloc (Nat.le_refl _) _).alloc (by simp) _).alloc (by simp; omega) _⟩

theorem info_label : (Tryd.prog.info? 35).map (fun i => (i.zero, i.size, i.bytes)) = some (some (.agg #[.string ByteArray.empty, .string ByteArray.empty]), 2, 32) := by kernel_rfl

/-- make of n labels: a new block of n * 2 cells. -/
theorem make_labels (n : Nat) (hn : n ≤ 1048576) (w : World) :
    (Instr.makeSlice 25 (.int .i64 (n : Int)) (.int .i64 (n : Int))).run Tryd.prog w = .ok (.slice (some ⟨w.heap.size, 0, none⟩) n n) (w.alloc (.cells (madeCells #[.string ByteArray.empty, .string ByteArray.empty] (n * 2)) 35)) := by
  obtain ⟨i, hi, hzz⟩ := Option.map_eq_some_iff.1 info_label
  simp only [Prod.mk.injEq] at hzz
  obtain ⟨hz, hs, hb⟩ := hzz
  have hr := run_make (P := Tryd.prog) w 25 35 i _ Tryd.underlying25 hi hz .i64 .i64 n n (by omega) (Int.le_refl _) (by rw [hb]; omega) (by omega)
  simp only [Int.toNat_natCast, hs] at hr
  exact hr

/-- The block g holds n labels' cells, the first k of them fs's. -/
def FillL (w : World) (g n : Nat) (fs : List LabD) (k : Nat) : Prop := ∃ cur : Array Value, w.heap[g]? = some (.cells cur 35 (0, 0)) ∧ cur.size = n * 2 ∧
  ∀ i (h : i < fs.length), i < k → cur[i * 2]? = some (.string fs[i].name) ∧ cur[i * 2 + 1]? = some (.string fs[i].value)
theorem FillL.later {w w' : World} {g n k : Nat} {fs : List LabD} {B : Nat} (h : FillL w g n fs k) (hb : Below B w w') (hg : g < B) : FillL w' g n fs k := by
  obtain ⟨cur, h1, h2⟩ := h
  exact ⟨cur, by rw [hb.block g hg]; exact h1, h2⟩
theorem FillL.cells {w : World} {g n k : Nat} {fs : List LabD} (h : FillL w g n fs k) {j : Nat} (hj : j < n * 2) : (∃ v, w.cell? ⟨g, j, none⟩ = some v) ∧ w.frozen? ⟨g, j, none⟩ = false := by
  obtain ⟨cur, h1, h2, _⟩ := h
  refine ⟨⟨cur[j], ?_⟩, frozen_of_row w g j cur _ h1⟩
  rw [cell_of_row w g j cur _ _ h1]
  exact Array.getElem?_eq_getElem (by omega)
theorem FillL.step {w : World} {g n k : Nat} {fs : List LabD} (h : FillL w g n fs k) (hk : k < fs.length) (hn : fs.length ≤ n) :
    FillL ((w.setCell ⟨g, k * 2, none⟩ (.string fs[k].name)).setCell ⟨g, k * 2 + 1, none⟩ (.string fs[k].value)) g n fs (k + 1) := by
  obtain ⟨cur, h1, h2, h3⟩ := h
  refine ⟨_, heap_setCell_same _ _ _ _ _ _ (heap_setCell_same _ _ _ _ _ _ h1), by simp [h2], fun i hi hlt => ?_⟩
  by_cases e : i = k
  · subst e
    refine ⟨?_, ?_⟩ <;> simp [Array.getElem?_setIfInBounds] <;> omega
  · obtain ⟨a1, a2⟩ := h3 i hi (by omega)
    refine ⟨?_, ?_⟩
    · rw [Array.getElem?_setIfInBounds_ne (by omega), Array.getElem?_setIfInBounds_ne (by omega)]; exact a1
    · rw [Array.getElem?_setIfInBounds_ne (by omega), Array.getElem?_setIfInBounds_ne (by omega)]; exact a2
theorem FillL.done {w : World} {g B : Nat} {fs : List LabD} (h : FillL w g fs.length fs fs.length) (hB : B ≤ g) : LabsOwn w B (some ⟨g, 0, none⟩) fs := by
  obtain ⟨cur, h1, h2, h3⟩ := h
  refine Or.inr ⟨g, 0, cur, _, rfl, hB, h1, fun i hi => ?_⟩
  obtain ⟨a1, a2⟩ := h3 i hi hi
  simp only [cell_of_row w g _ cur _ _ h1, Nat.zero_add]
  exact ⟨a1, a2⟩

set_option maxHeartbeats 1000000 in
theorem toLabelS_any (a : Option Addr) (cap : Nat) (fs : List LabD) (w : World) (hf : LabsIn w a fs) (hlen : fs.length ≤ 1048576) :
    Calls Tryd.prog 8 #[.slice a fs.length cap] w fun e w' => e = .returned (.slice (some ⟨w.heap.size, 0, none⟩) fs.length fs.length) ∧ LabsOwn w' w.heap.size (some ⟨w.heap.size, 0, none⟩) fs ∧ Below w.heap.size w w' := by
  have HF : Hid (LabsIn w a fs) := hf
  clear hf
  have hmk := make_labels fs.length hlen
  go_enter Tryd.func8, Tryd.ntmps8
  go_wp2
  go_loopw [4] (fun i wr => ∃ k : Nat, k ≤ fs.length ∧ i = .int .i64 k ∧ FillL wr w.heap.size fs.length fs k ∧ Below w.heap.size w wr ∧ w.heap.size < wr.heap.size) (fun i _ => fs.length - (intOf i).toNat)
  case atStart => exact ⟨0, Nat.zero_le _, rfl, ⟨_, heap_alloc_new _ _, size_madeCells _ _, fun i _ h => absurd h (by omega)⟩, (Below.refl _ _).alloc (Nat.le_refl _) _, by simp⟩
  case round =>
    obtain ⟨k, hk, rfl, hfill, hbel, hsz⟩ := hrel
    have HFill : Hid (FillL wr w.heap.size fs.length fs k) := hfill
    clear hfill hmk
    by_cases hlt : k < fs.length
    · obtain ⟨b, o, rfl, hb, c0, c1⟩ := (HF.out.later hbel).at hlt
      go_wp2_with fail
      refine (toLabel_any _ _ _).mono ?_
      rintro e w' ⟨rfl, hb2⟩
      have hF2 := HFill.out.later hb2 hsz
      obtain ⟨⟨v0, d0⟩, f0⟩ := hF2.cells (j := k * 2) (by omega)
      obtain ⟨⟨v1, d1⟩, f1⟩ := hF2.cells (j := k * 2 + 1) (by omega)
      have HF2 : Hid (FillL w' w.heap.size fs.length fs k) := hF2
      clear hF2
      go_wp2
      exact ⟨⟨k + 1, by omega, by go_num, HF2.out.step hlt (Nat.le_refl _), ((hbel.trans (hb2.mono hbel.size)).setCell (Nat.le_refl _) _).setCell (Nat.le_refl _) _, by have := hb2.size; simp; omega⟩, by simp [intOf]; omega⟩
    · go_wp2
      go_ret
      have e : k = fs.length := by omega
      exact ⟨rfl, by have := HFill.out; rw [e] at this; exact this.done (Nat.le_refl _), hbel⟩

set_option maxHeartbeats 400000 in
theorem eqLabel_same (nm da : ByteArray) (w : World) :
    Calls Tryd.prog 27 #[.agg #[.string nm, .string da], .agg #[.string nm, .string da]] w fun e w' => e = .returned (.bool true) ∧ Below w.heap.size w w' := by
  go_enter Tryd.func27, Tryd.ntmps27
  go_wp2
  go_ret
  exact ⟨rfl, ((Below.refl _ _).alloc (Nat.le_refl _) _).alloc (by simp) _⟩
end Go.Proofs.YtagajcmdbifamacDoor
