import Derived.Test.YtndaihhjhllfcadProg
import Derived.Test.YtndaihhjhllfcadSz
import Derived.Deep.OwnRows
namespace Go.Proofs.Ytndaihhjhllfcad
open Go.RowKit

set_option maxHeartbeats 400000 in
theorem toFile_any (nm da : ByteArray) (sy : Int) (w : World) :
    Calls Try.prog 33 #[.agg #[.string nm, .string da, .int .i64 sy]] w fun e w' => e = .returned (.agg #[.string nm, .string da, .int .i64 sy]) ∧ Below w.heap.size w w' := by
  go_enter Try.func33, Try.ntmps33
  go_wp2
  exact bodyPost_ret (v := .agg #[.string nm, .string da, .int .i64 sy]) (by simp [results, Try.results33, go_sem]) rfl ⟨rfl, (((Below.refl _ _).alloc (Nat.le_refl _) _).alloc (by simp) _).alloc (by simp; omega) _⟩

theorem info_file : (Try.prog.info? 61).map (fun i => (i.zero, i.size, i.bytes)) = some (some (.agg #[.string ByteArray.empty, .string ByteArray.empty, .int .i64 0]), 3, 40) := by kernel_rfl

/-- make of n files: a new block of n * 3 cells. -/
theorem make_files (n : Nat) (hn : n ≤ 1048576) (w : World) :
    (Instr.makeSlice 29 (.int .i64 (n : Int)) (.int .i64 (n : Int))).run Try.prog w = .ok (.slice (some ⟨w.heap.size, 0, none⟩) n n) (w.alloc (.cells (madeCells #[.string ByteArray.empty, .string ByteArray.empty, .int .i64 0] (n * 3)) 61)) := by
  obtain ⟨i, hi, hzz⟩ := Option.map_eq_some_iff.1 info_file
  simp only [Prod.mk.injEq] at hzz
  obtain ⟨hz, hs, hb⟩ := hzz
  have hr := run_make (P := Try.prog) w 29 61 i _ Try.underlying29 hi hz .i64 .i64 n n (by omega) (Int.le_refl _) (by rw [hb]; omega) (by omega)
  simp only [Int.toNat_natCast, hs] at hr
  exact hr

/-- The block g holds n files' cells, the first k of them fs's. -/
def Fill (w : World) (g n : Nat) (fs : List FileD) (k : Nat) : Prop := ∃ cur : Array Value, w.heap[g]? = some (.cells cur 61 (0, 0)) ∧ cur.size = n * 3 ∧
  ∀ i (h : i < fs.length), i < k → cur[i * 3]? = some (.string fs[i].name) ∧ cur[i * 3 + 1]? = some (.string fs[i].data) ∧ cur[i * 3 + 2]? = some (.int .i64 fs[i].synced)

theorem Fill.later {w w' : World} {g n k : Nat} {fs : List FileD} {B : Nat} (h : Fill w g n fs k) (hb : Below B w w') (hg : g < B) : Fill w' g n fs k := by
  obtain ⟨cur, h1, h2⟩ := h
  exact ⟨cur, by rw [hb.block g hg]; exact h1, h2⟩

theorem Fill.cells {w : World} {g n k : Nat} {fs : List FileD} (h : Fill w g n fs k) {j : Nat} (hj : j < n * 3) : (∃ v, w.cell? ⟨g, j, none⟩ = some v) ∧ w.frozen? ⟨g, j, none⟩ = false := by
  obtain ⟨cur, h1, h2, _⟩ := h
  refine ⟨⟨cur[j], ?_⟩, frozen_of_row w g j cur _ h1⟩
  rw [cell_of_row w g j cur _ _ h1]
  exact Array.getElem?_eq_getElem (by omega)

theorem Fill.step {w : World} {g n k : Nat} {fs : List FileD} (h : Fill w g n fs k) (hk : k < fs.length) (hn : fs.length ≤ n) :
    Fill (((w.setCell ⟨g, k * 3, none⟩ (.string fs[k].name)).setCell ⟨g, k * 3 + 1, none⟩ (.string fs[k].data)).setCell ⟨g, k * 3 + 2, none⟩ (.int .i64 fs[k].synced)) g n fs (k + 1) := by
  obtain ⟨cur, h1, h2, h3⟩ := h
  refine ⟨_, heap_setCell_same _ _ _ _ _ _ (heap_setCell_same _ _ _ _ _ _ (heap_setCell_same _ _ _ _ _ _ h1)), by simp [h2], fun i hi hlt => ?_⟩
  by_cases e : i = k
  · subst e
    refine ⟨?_, ?_, ?_⟩ <;> simp [Array.getElem?_setIfInBounds] <;> omega
  · obtain ⟨a1, a2, a3⟩ := h3 i hi (by omega)
    refine ⟨?_, ?_, ?_⟩
    · rw [Array.getElem?_setIfInBounds_ne (by omega), Array.getElem?_setIfInBounds_ne (by omega), Array.getElem?_setIfInBounds_ne (by omega)]; exact a1
    · rw [Array.getElem?_setIfInBounds_ne (by omega), Array.getElem?_setIfInBounds_ne (by omega), Array.getElem?_setIfInBounds_ne (by omega)]; exact a2
    · rw [Array.getElem?_setIfInBounds_ne (by omega), Array.getElem?_setIfInBounds_ne (by omega), Array.getElem?_setIfInBounds_ne (by omega)]; exact a3

theorem Fill.done {w : World} {g : Nat} {fs : List FileD} (h : Fill w g fs.length fs fs.length) : FilesIn w (some ⟨g, 0, none⟩) fs := by
  obtain ⟨cur, h1, h2, h3⟩ := h
  have hg : g < w.heap.size := by
    rcases Nat.lt_or_ge g w.heap.size with h | h
    · exact h
    · rw [Array.getElem?_eq_none h] at h1; exact absurd h1 (by simp)
  refine Or.inr ⟨g, 0, rfl, hg, fun i hi => ?_⟩
  obtain ⟨a1, a2, a3⟩ := h3 i hi hi
  simp only [cell_of_row w g _ cur _ _ h1, Nat.zero_add]
  exact ⟨a1, a2, a3⟩

set_option maxHeartbeats 1000000 in
theorem toFileS_any (a : Option Addr) (cap : Nat) (fs : List FileD) (w : World) (hf : FilesIn w a fs) (hlen : fs.length ≤ 1048576) :
    Calls Try.prog 18 #[.slice a fs.length cap] w fun e w' => e = .returned (.slice (some ⟨w.heap.size, 0, none⟩) fs.length fs.length) ∧ (∃ cur t, w'.heap[w.heap.size]? = some (.cells cur t (0, 0))) ∧ FilesIn w' (some ⟨w.heap.size, 0, none⟩) fs ∧ Below w.heap.size w w' := by
  have HF : Hid (FilesIn w a fs) := hf
  clear hf
  have hmk := make_files fs.length hlen
  go_enter Try.func18, Try.ntmps18
  go_wp2
  go_loopw [4] (fun i wr => ∃ k : Nat, k ≤ fs.length ∧ i = .int .i64 k ∧ Fill wr w.heap.size fs.length fs k ∧ Below w.heap.size w wr ∧ w.heap.size < wr.heap.size) (fun i _ => fs.length - (intOf i).toNat)
  case atStart => exact ⟨0, Nat.zero_le _, rfl, ⟨_, heap_alloc_new _ _, size_madeCells _ _, fun i _ h => absurd h (by omega)⟩, (Below.refl _ _).alloc (Nat.le_refl _) _, by simp⟩
  case round =>
    obtain ⟨k, hk, rfl, hfill, hbel, hsz⟩ := hrel
    have HFill : Hid (Fill wr w.heap.size fs.length fs k) := hfill
    clear hfill hmk
    by_cases hlt : k < fs.length
    · obtain ⟨b, o, rfl, hb, c0, c1, c2⟩ := (HF.out.later hbel).at hlt
      go_wp2_with fail
      refine (toFile_any _ _ _ _).mono ?_
      rintro e w' ⟨rfl, hb2⟩
      have hF2 := HFill.out.later hb2 hsz
      obtain ⟨⟨v0, d0⟩, f0⟩ := hF2.cells (j := k * 3) (by omega)
      obtain ⟨⟨v1, d1⟩, f1⟩ := hF2.cells (j := k * 3 + 1) (by omega)
      obtain ⟨⟨v2, d2⟩, f2⟩ := hF2.cells (j := k * 3 + 2) (by omega)
      have HF2 : Hid (Fill w' w.heap.size fs.length fs k) := hF2
      clear hF2
      go_wp2
      exact ⟨⟨k + 1, by omega, by go_num, HF2.out.step hlt (Nat.le_refl _), (((hbel.trans (hb2.mono hbel.size)).setCell (Nat.le_refl _) _).setCell (Nat.le_refl _) _).setCell (Nat.le_refl _) _, by have := hb2.size; simp; omega⟩, by simp [intOf]; omega⟩
    · go_wp2
      go_ret
      have e : k = fs.length := by omega
      exact ⟨rfl, by obtain ⟨cur, h, _⟩ := HFill.out; exact ⟨cur, _, h⟩, by have := HFill.out; rw [e] at this; exact this.done, hbel⟩

set_option maxHeartbeats 1000000 in
theorem toDisk_any (a : Option Addr) (cap : Nat) (fs : List FileD) (c k cr fl : Int) (dn : Bool) (w : World) (hf : FilesIn w a fs) (hlen : fs.length ≤ 1048576) :
    Calls Try.prog 7 #[.agg #[.slice a fs.length cap, .int .i64 c, .int .i64 k, .int .i64 cr, .int .i64 fl, .bool dn]] w fun e w' =>
      ∃ g, e = .returned (.agg #[.slice (some ⟨g, 0, none⟩) fs.length fs.length, .int .i64 c, .int .i64 k, .int .i64 cr, .int .i64 fl, .bool dn]) ∧ w.heap.size ≤ g ∧ (∃ cur t, w'.heap[g]? = some (.cells cur t (0, 0))) ∧ FilesIn w' (some ⟨g, 0, none⟩) fs ∧ Below w.heap.size w w' := by
  have HF : Hid (FilesIn w a fs) := hf
  clear hf
  go_enter Try.func7, Try.ntmps7
  go_wp2_with fail
  refine (toFileS_any a cap fs _ (HF.out.later ((((Below.refl _ _).alloc (Nat.le_refl _) _).alloc (by simp) _).alloc (by simp; omega) _)) hlen).mono ?_
  rintro e w' ⟨rfl, hx1, hf1, hb1⟩
  have HX1 : Hid (∃ cur t, w'.heap[w.heap.size + 1 + 1 + 1]? = some (.cells cur t (0, 0))) := by show ∃ _, _; simpa using hx1
  clear hx1
  obtain ⟨hc, hz⟩ := bcell hb1
  have hf2 : FilesIn w' (some ⟨w.heap.size + 1 + 1 + 1, 0, none⟩) fs := by simpa using hf1
  have HF1 : Hid (FilesIn w' (some ⟨w.heap.size + 1 + 1 + 1, 0, none⟩) fs) := hf2
  clear hf2
  clear hf1
  have hb0 : Below w.heap.size w w' := ((((Below.refl _ _).alloc (Nat.le_refl _) _).alloc (by simp) _).alloc (by simp; omega) _).trans (hb1.mono (by simp; omega))
  have HB : Hid (Below w.heap.size w w') := hb0
  clear hb0 hb1
  go_wp2
  refine bodyPost_ret (v := .agg #[.slice (some ⟨w.heap.size + 1 + 1 + 1, 0, none⟩) fs.length fs.length, .int .i64 c, .int .i64 k, .int .i64 cr, .int .i64 fl, .bool dn]) (by simp [results, Try.results7, go_sem, hc]) rfl ⟨w.heap.size + 1 + 1 + 1, rfl, by omega, ?_, ?_, ?_⟩
  · obtain ⟨cu, tt, hx⟩ := HX1.out
    refine ⟨cu, tt, ?_⟩
    iterate 12 (refine (Below.heap_setCell _ _ _ _ (by first | omega | (simp; done) | (simp; omega))).trans ?_)
    exact hx
  · have h := HF1.out
    iterate 12 (refine FilesIn.setCell ?_ (by simp) _)
    exact h
  · have h := HB.out
    iterate 12 (refine Below.setCell ?_ (by first | (simp; done) | (simp; omega)) _)
    exact h
end Go.Proofs.Ytndaihhjhllfcad
