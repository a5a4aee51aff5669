import Derived.Test.YtboofidegpnkaaaProg
import Derived.Test.YtboofidegpnkaaaJ24Sz
import Derived.Deep.OwnRows
import Derived.Test.YtboofidegpnkaaaJ01Btw
namespace Go.Proofs.Ytboofidegpnkaaa
open Go.RowKit

set_option maxHeartbeats 400000 in
theorem toFile_any (nm da : ByteArray) (sy : Int) (w : World) :
    Calls Try.prog 33 #[.agg #[.string nm, .string da, .int .i64 sy]] w fun e w' => e = .returned (.agg #[.string nm, .string da, .int .i64 sy]) ∧ Below w.heap.size w w' := by
  go_enter Try.func33, Try.ntmps33
  go_wp2
  exact bodyPost_ret (v := .agg #[.string nm, .string da, .int .i64 sy]) (by simp [results, Try.results33, go_sem]) rfl ⟨rfl, (((Below.refl _ _).alloc (Nat.le_refl _) _).alloc (by simp) _).alloc (by simp; omega) _⟩

theorem info_file : (Try.prog.info? 61).map (fun i => (i.zero, i.size, i.bytes)) = some (some (.agg #[.string ByteArray.empty, .string ByteArray.empty, .int .i64 0]), 3, 40) := by kernel_rfl

/-- make of n files: a new block of n * 3 cells. -/
theorem make_files (n : Nat) (hn : n ≤ 1048576) (w : World) :
    (Instr.makeSlice 29 (.int .i64 (n : Int)) (.int .i64 (n : Int))).run Try.prog w = .ok (.slice (some ⟨w.heap.size, 0, none⟩) n n) (w.alloc (.cells (madeCells #[.string ByteArray.empty, .string ByteArray.empty, .int .i64 0] (n * 3)) 61)) := by
  obtain ⟨i, hi, hzz⟩ := Option.map_eq_some_iff.1 info_file
  simp only [Prod.mk.injEq] at hzz
  obtain ⟨hz, hs, hb⟩ := hzz
  have hr := run_make (P := Try.prog) w 29 61 i _ Try.underlying29 hi hz .i64 .i64 n n (by omega) (Int.le_refl _) (by rw [hb]; omega) (by omega)
  simp only [Int.toNat_natCast, hs] at hr
  exact hr

/-- The block g holds n files' cells, the first k of them fs's. -/
def Fill (w : World) (g n : Nat) (fs : List FileD) (k : Nat) : Prop := ∃ cur : Array Value, w.heap[g]? = some (.cells cur 61 (0, 0)) ∧ cur.size = n * 3 ∧
  ∀ i (h : i < fs.length), i < k → cur[i * 3]? = some (.string fs[i].name) ∧ cur[i * 3 + 1]? = some (.string fs[i].data) ∧ cur[i * 3 + 2]? = some (.int .i64 fs[i].synced)

theorem Fill.later {w w' : World} {g n k : Nat} {fs : List FileD} {B : Nat} (h : Fill w g n fs k) (hb : Below B w w') (hg : g < B) : Fill w' g n fs k := by
  obtain ⟨cur, h1, h2⟩ := h
  exact ⟨cur, by rw [hb.block g hg]; exact h1, h2⟩

theorem Fill.cells {w : World} {g n k : Nat} {fs : List FileD} (h : Fill w g n fs k) {j : Nat} (hj : j < n * 3) : (∃ v, w.cell? ⟨g, j, none⟩ = some v) ∧ w.frozen? ⟨g, j, none⟩ = false := by
  obtain ⟨cur, h1, h2, _⟩ := h
  refine ⟨⟨cur[j], ?_⟩, frozen_of_row w g j cur _ h1⟩
  rw [cell_of_row w g j cur _ _ h1]
  exact Array.getElem?_eq_getElem (by omega)

theorem Fill.step {w : World} {g n k : Nat} {fs : List FileD} (h : Fill w g n fs k) (hk : k < fs.length) (hn : fs.length ≤ n) :
    Fill (((w.setCell ⟨g, k * 3, none⟩ (.string fs[k].name)).setCell ⟨g, k * 3 + 1, none⟩ (.string fs[k].data)).setCell ⟨g, k * 3 + 2, none⟩ (.int .i64 fs[k].synced)) g n fs (k + 1) := by
  obtain ⟨cur, h1, h2, h3⟩ := h
  refine ⟨_, heap_setCell_same _ _ _ _ _ _ (heap_setCell_same _ _ _ _ _ _ (heap_setCell_same _ _ _ _ _ _ h1)), by simp [h2], fun i hi hlt => ?_⟩
  by_cases e : i = k
  · subst e
    refine ⟨?_, ?_, ?_⟩ <;> simp [Array.getElem?_setIfInBounds] <;> omega
  · obtain ⟨a1, a2, a3⟩ := h3 i hi (by omega)
    refine ⟨?_, ?_, ?_⟩
    · rw [Array.getElem?_setIfInBounds_ne (by omega), Array.getElem?_setIfInBounds_ne (by omega), Array.getElem?_setIfInBounds_ne (by omega)]; exact a1
    · rw [Array.getElem?_setIfInBounds_ne (by omega), Array.getElem?_setIfInBounds_ne (by omega), Array.getElem?_setIfInBounds_ne (by omega)]; exact a2
    · rw [Array.getElem?_setIfInBounds_ne (by omega), Array.getElem?_setIfInBounds_ne (by omega), Array.getElem?_setIfInBounds_ne (by omega)]; exact a3

theorem Fill.done {w : World} {g : Nat} {fs : List FileD} (h : Fill w g fs.length fs fs.length) : FilesIn w (some ⟨g, 0, none⟩) fs := by
  obtain ⟨cur, h1, h2, h3⟩ := h
  have hg : g < w.heap.size := by
    rcases Nat.lt_or_ge g w.heap.size with h | h
    · exact h
    · rw [Array.getElem?_eq_none h] at h1; exact absurd h1 (by simp)
  refine Or.inr ⟨g, 0, rfl, hg, fun i hi => ?_⟩
  obtain ⟨a1, a2, a3⟩ := h3 i hi hi
  simp only [cell_of_row w g _ cur _ _ h1, Nat.zero_add]
  exact ⟨a1, a2, a3⟩

set_option maxHeartbeats 1000000 in
theorem toFileS_any (a : Option Addr) (cap : Nat) (fs : List FileD) (w : World) (hf : FilesIn w a fs) (hlen : fs.length ≤ 1048576) :
    Calls Try.prog 18 #[.slice a fs.length cap] w fun e w' => e = .returned (.slice (some ⟨w.heap.size, 0, none⟩) fs.length fs.length) ∧ (∃ cur t, w'.heap[w.heap.size]? = some (.cells cur t (0, 0))) ∧ FilesIn w' (some ⟨w.heap.size, 0, none⟩) fs ∧ Below w.heap.size w w' := by
  have HF : Hid (FilesIn w a fs) := hf
  clear hf
  have hmk := make_files fs.length hlen
  go_enter Try.func18, Try.ntmps18
  go_wp2
  go_loopw [4] (fun i wr => ∃ k : Nat, k ≤ fs.length ∧ i = .int .i64 k ∧ Fill wr w.heap.size fs.length fs k ∧ Below w.heap.size w wr ∧ w.heap.size < wr.heap.size) (fun i _ => fs.length - (intOf i).toNat)
  case atStart => exact ⟨0, Nat.zero_le _, rfl, ⟨_, heap_alloc_new _ _, size_madeCells _ _, fun i _ h => absurd h (by omega)⟩, (Below.refl _ _).alloc (Nat.le_refl _) _, by simp⟩
  case round =>
    obtain ⟨k, hk, rfl, hfill, hbel, hsz⟩ := hrel
    have HFill : Hid (Fill wr w.heap.size fs.length fs k) := hfill
    clear hfill hmk
    by_cases hlt : k < fs.length
    · obtain ⟨b, o, rfl, hb, c0, c1, c2⟩ := (HF.out.later hbel).at hlt
      go_wp2_with fail
      refine (toFile_any _ _ _ _).mono ?_
      rintro e w' ⟨rfl, hb2⟩
      have hF2 := HFill.out.later hb2 hsz
      obtain ⟨⟨v0, d0⟩, f0⟩ := hF2.cells (j := k * 3) (by omega)
      obtain ⟨⟨v1, d1⟩, f1⟩ := hF2.cells (j := k * 3 + 1) (by omega)
      obtain ⟨⟨v2, d2⟩, f2⟩ := hF2.cells (j := k * 3 + 2) (by omega)
      have HF2 : Hid (Fill w' w.heap.size fs.length fs k) := hF2
      clear hF2
      go_wp2
      exact ⟨⟨k + 1, by omega, by go_num, HF2.out.step hlt (Nat.le_refl _), (((hbel.trans (hb2.mono hbel.size)).setCell (Nat.le_refl _) _).setCell (Nat.le_refl _) _).setCell (Nat.le_refl _) _, by have := hb2.size; simp; omega⟩, by simp [intOf]; omega⟩
    · go_wp2
      go_ret
      have e : k = fs.length := by omega
      exact ⟨rfl, by obtain ⟨cur, h, _⟩ := HFill.out; exact ⟨cur, _, h⟩, by have := HFill.out; rw [e] at this; exact this.done, hbel⟩

set_option maxHeartbeats 1000000 in
theorem toDisk_any (a : Option Addr) (cap : Nat) (fs : List FileD) (c k cr fl : Int) (dn : Bool) (w : World) (hf : FilesIn w a fs) (hlen : fs.length ≤ 1048576) :
    Calls Try.prog 7 #[.agg #[.slice a fs.length cap, .int .i64 c, .int .i64 k, .int .i64 cr, .int .i64 fl, .bool dn]] w fun e w' =>
      ∃ g, e = .returned (.agg #[.slice (some ⟨g, 0, none⟩) fs.length fs.length, .int .i64 c, .int .i64 k, .int .i64 cr, .int .i64 fl, .bool dn]) ∧ w.heap.size ≤ g ∧ (∃ cur t, w'.heap[g]? = some (.cells cur t (0, 0))) ∧ FilesIn w' (some ⟨g, 0, none⟩) fs ∧ Below w.heap.size w w' := by
  have HF : Hid (FilesIn w a fs) := hf
  clear hf
  go_enter Try.func7, Try.ntmps7
  go_wp2_with fail
  refine (toFileS_any a cap fs _ (HF.out.later ((((Below.refl _ _).alloc (Nat.le_refl _) _).alloc (by simp) _).alloc (by simp; omega) _)) hlen).mono ?_
  rintro e w' ⟨rfl, hx1, hf1, hb1⟩
  have HX1 : Hid (∃ cur t, w'.heap[w.heap.size + 1 + 1 + 1]? = some (.cells cur t (0, 0))) := by show ∃ _, _; simpa using hx1
  clear hx1
  obtain ⟨hc, hz⟩ := bcell hb1
  have hf2 : FilesIn w' (some ⟨w.heap.size + 1 + 1 + 1, 0, none⟩) fs := by simpa using hf1
  have HF1 : Hid (FilesIn w' (some ⟨w.heap.size + 1 + 1 + 1, 0, none⟩) fs) := hf2
  clear hf2
  clear hf1
  have hb0 : Below w.heap.size w w' := ((((Below.refl _ _).alloc (Nat.le_refl _) _).alloc (by simp) _).alloc (by simp; omega) _).trans (hb1.mono (by simp; omega))
  have HB : Hid (Below w.heap.size w w') := hb0
  clear hb0 hb1
  go_wp2
  refine bodyPost_ret (v := .agg #[.slice (some ⟨w.heap.size + 1 + 1 + 1, 0, none⟩) fs.length fs.length, .int .i64 c, .int .i64 k, .int .i64 cr, .int .i64 fl, .bool dn]) (by simp [results, Try.results7, go_sem, hc]) rfl ⟨w.heap.size + 1 + 1 + 1, rfl, by omega, ?_, ?_, ?_⟩
  · obtain ⟨cu, tt, hx⟩ := HX1.out
    refine ⟨cu, tt, ?_⟩
    iterate 12 (refine (Below.heap_setCell _ _ _ _ (by first | omega | (simp; done) | (simp; omega))).trans ?_)
    exact hx
  · have h := HF1.out
    iterate 12 (refine FilesIn.setCell ?_ (by simp) _)
    exact h
  · have h := HB.out
    iterate 12 (refine Below.setCell ?_ (by first | (simp; done) | (simp; omega)) _)
    exact h
end Go.Proofs.Ytboofidegpnkaaa

namespace Go.Proofs.Ytboofidegpnkaaa
open Go.RowKit

set_option maxHeartbeats 400000 in
theorem eqFile_same (nm da : ByteArray) (sy : Int) (w : World) :
    Calls Try.prog 48 #[.agg #[.string nm, .string da, .int .i64 sy], .agg #[.string nm, .string da, .int .i64 sy]] w fun e w' => e = .returned (.bool true) ∧ Below w.heap.size w w' := by
  go_enter Try.func48, Try.ntmps48
  go_wp2
  go_ret
  exact ⟨rfl, ((Below.refl _ _).alloc (Nat.le_refl _) _).alloc (by simp) _⟩

set_option maxHeartbeats 1000000 in
theorem eqFileS_same (a a' : Option Addr) (cap cap' : Nat) (fs : List FileD) (w : World) (hf : FilesIn w a fs) (hf' : FilesIn w a' fs) (hlen : fs.length ≤ maxLen) :
    Calls Try.prog 25 #[.slice a fs.length cap, .slice a' fs.length cap'] w fun e w' => e = .returned (.bool true) ∧ Below w.heap.size w w' := by
  unfold maxLen at hlen
  have HF : Hid (FilesIn w a fs) := hf
  have HF' : Hid (FilesIn w a' fs) := hf'
  clear hf hf'
  go_enter Try.func25, Try.ntmps25
  go_wp2
  go_loopw [5] (fun i wr => ∃ k : Nat, k ≤ fs.length ∧ i = .int .i64 k ∧ Below w.heap.size w wr) (fun i _ => fs.length - (intOf i).toNat)
  case atStart => exact ⟨0, Nat.zero_le _, rfl, Below.refl _ _⟩
  case round =>
    obtain ⟨k, hk, rfl, hbel⟩ := hrel
    by_cases hlt : k < fs.length
    · obtain ⟨b, o, rfl, hb, c0, c1, c2⟩ := (HF.out.later hbel).at hlt
      obtain ⟨b', o', rfl, hb', c0', c1', c2'⟩ := (HF'.out.later hbel).at hlt
      have d0 := Later.cells c0
      have d1 := Later.cells c1
      have d2 := Later.cells c2
      have d0' := Later.cells c0'
      have d1' := Later.cells c1'
      have d2' := Later.cells c2'
      clear c0 c1 c2 c0' c1' c2'
      have hne := Later.there wr
      go_wp2_with fail
      refine wp_region_later (by kernel_rfl) (by kernel_rfl) ?_
      repeat (go_big_quiet_step (refine calls_later (eqFile_same _ _ _ _)))
      refine wpQuiet_nil ?_
      rintro _ ⟨x, rfl⟩
      go_wp2
      exact ⟨⟨k + 1, by omega, by go_num, hbel.trans (x.h.mono hbel.size)⟩, by simp [intOf]; omega⟩
    · go_wp2
      go_ret
      exact ⟨rfl, hbel⟩

set_option maxHeartbeats 1000000 in
theorem eqDisk_same (a a' : Option Addr) (cap cap' : Nat) (fs : List FileD) (c k cr fl : Int) (dn : Bool) (w : World) (hf : FilesIn w a fs) (hf' : FilesIn w a' fs) (hlen : fs.length ≤ maxLen) :
    Calls Try.prog 10 #[.agg #[.slice a fs.length cap, .int .i64 c, .int .i64 k, .int .i64 cr, .int .i64 fl, .bool dn], .agg #[.slice a' fs.length cap', .int .i64 c, .int .i64 k, .int .i64 cr, .int .i64 fl, .bool dn]] w
      fun e w' => e = .returned (.bool true) ∧ Below w.heap.size w w' := by
  have HF : Hid (FilesIn w a fs) := hf
  have HF' : Hid (FilesIn w a' fs) := hf'
  clear hf hf'
  go_enter Try.func10, Try.ntmps10
  go_wp2_with fail
  have hb0 := fun o1 o2 => ((Below.refl w.heap.size w).alloc (Nat.le_refl _) o1).alloc (by simp) o2
  refine (eqFileS_same a a' cap cap' fs _ (HF.out.later (hb0 _ _)) (HF'.out.later (hb0 _ _)) hlen).mono ?_
  rintro e w' ⟨rfl, hb1⟩
  obtain ⟨hc, _⟩ := bcell hb1
  have HB : Hid (Below w.heap.size w w') := (hb0 _ _).trans (hb1.mono (by simp; omega))
  clear hb0 hb1
  go_wp2
  go_ret
  exact ⟨rfl, HB.out⟩
end Go.Proofs.Ytboofidegpnkaaa

namespace Go.Proofs.Ytboofidegpnkaaa
open Go.RowKit

theorem szFs_bound {left : Int} {fs : List FileD} (h : 0 ≤ szFs left fs) : (fs.length + bulk fs : Int) ≤ left := by
  unfold szFs at h
  split at h
  · assumption
  · omega

theorem owned_of {w : World} {B g : Nat} {fs : List FileD} (h : FilesIn w (some ⟨g, 0, none⟩) fs) (hx : ∃ cur t, w.heap[g]? = some (.cells cur t (0, 0))) (hB : B ≤ g) : Owned w B (some ⟨g, 0, none⟩) fs := by
  obtain ⟨cur, t, hx⟩ := hx
  rcases h with h | ⟨b, o, e, _, h⟩
  · exact Or.inl h
  · simp only [Option.some.injEq, Addr.mk.injEq, and_true] at e
    obtain ⟨rfl, rfl⟩ := e
    exact Or.inr ⟨g, 0, cur, t, rfl, hB, hx, h⟩

theorem FilesIn.lt {w : World} {a : Option Addr} {fs : List FileD} (h : FilesIn w a fs) (hn : fs ≠ []) : ∃ b o, a = some ⟨b, o, none⟩ ∧ b < w.heap.size := by
  rcases h with h | ⟨b, o, e, hlt, _⟩
  · exact absurd h hn
  · exact ⟨b, o, e, hlt⟩

theorem blk_new (w : World) (cs : Array Value) (t : TypeId) : Blk (w.alloc (.cells cs t)) w.heap.size cs t := heap_alloc_new _ _

theorem Blk.six {w : World} {b : Nat} {v0 v1 v2 v3 v4 v5 : Value} {t : TypeId} (h : Blk w b #[v0, v1, v2, v3, v4, v5] t) :
    w.cell? ⟨b, 0, none⟩ = some v0 ∧ w.cell? ⟨b, 1, none⟩ = some v1 ∧ w.cell? ⟨b, 2, none⟩ = some v2 ∧ w.cell? ⟨b, 3, none⟩ = some v3 ∧ w.cell? ⟨b, 4, none⟩ = some v4 ∧ w.cell? ⟨b, 5, none⟩ = some v5 := by
  simp [h.cell]

theorem Owned.but {w w' : World} {B g : Nat} {a : Option Addr} {fs : List FileD} (h : Owned w B a fs) (hb : But g w w') (hg : g < B) : Owned w' B a fs := by
  rcases h with h | ⟨g', o, cur, t, rfl, hB, hx, hf⟩
  · exact Or.inl h
  · have he : w'.heap[g']? = w.heap[g']? := hb.block g' (lt_of_block hx) (by omega)
    have hk : ∀ j, w'.cell? ⟨g', j, none⟩ = w.cell? ⟨g', j, none⟩ := fun j => World.cell?_of_block he
    exact Or.inr ⟨g', o, cur, t, rfl, hB, he.trans hx, fun i hi => by simp only [hk]; exact hf i hi⟩

/-- A row's block lies in front of P. -/
def Front (a : Option Addr) (fs : List FileD) (P : Nat) : Prop := fs = [] ∨ ∃ b o, a = some ⟨b, o, none⟩ ∧ b < P
theorem front_of {w : World} {a : Option Addr} {fs : List FileD} (h : FilesIn w a fs) : Front a fs w.heap.size := by
  rcases h with h | ⟨b, o, e, hlt, _⟩
  · exact Or.inl h
  · exact Or.inr ⟨b, o, e, hlt⟩
theorem FilesIn.but' {w w' : World} {g P : Nat} {a : Option Addr} {fs : List FileD} (h : FilesIn w a fs) (hb : But g w w') (hf : Front a fs P) (hg : P ≤ g) : FilesIn w' a fs := by
  rcases hf with hn | ⟨b, o, rfl, hlt⟩
  · exact Or.inl hn
  · exact h.but hb (by omega)

/-- Marking the files of a leaves those of a2, which lay there before a's block was made. -/
theorem Marked.keeps {w w' : World} {B n : Nat} {a a2 : Option Addr} {fs : List FileD} (h : Marked w w' B a n) (hf : FilesIn w a2 fs) (hlt : fs = [] ∨ ∃ b o, a2 = some ⟨b, o, none⟩ ∧ b < B) : FilesIn w' a2 fs := by
  rcases hlt with hn | ⟨b, o, rfl, hb⟩
  · exact Or.inl hn
  · rcases h with ⟨_, h⟩ | ⟨_, g, o', _, hB, h⟩
    · exact hf.later h
    · exact hf.but h (by omega)

theorem Blk.but {w w' : World} {g D : Nat} {cur : Array Value} {t : TypeId} (h : Blk w D cur t) (hb : But g w w') (hne : D ≠ g) : Blk w' D cur t := (hb.block D (lt_of_block h) hne).trans h

theorem Blk.five {w : World} {b : Nat} {v0 v1 v2 v3 v4 : Value} {t : TypeId} (h : Blk w b #[v0, v1, v2, v3, v4] t) :
    w.cell? ⟨b, 0, none⟩ = some v0 ∧ w.cell? ⟨b, 1, none⟩ = some v1 ∧ w.cell? ⟨b, 2, none⟩ = some v2 ∧ w.cell? ⟨b, 3, none⟩ = some v3 ∧ w.cell? ⟨b, 4, none⟩ = some v4 := by
  simp [h.cell]

/-- A row's block is another than P. -/
def Apart (a : Option Addr) (fs : List FileD) (P : Nat) : Prop := fs = [] ∨ ∃ b o, a = some ⟨b, o, none⟩ ∧ b ≠ P
theorem Front.apart {a : Option Addr} {fs : List FileD} {P : Nat} (h : Front a fs P) : Apart a fs P := by
  rcases h with h | ⟨b, o, e, hlt⟩
  · exact Or.inl h
  · exact Or.inr ⟨b, o, e, by omega⟩
theorem Owned.apart {w : World} {B P : Nat} {a : Option Addr} {fs : List FileD} (h : Owned w B a fs) (hP : P < B) : Apart a fs P := by
  rcases h with h | ⟨g, o, cur, t, e, hB, _⟩
  · exact Or.inl h
  · exact Or.inr ⟨g, o, e, by omega⟩
theorem blk_of_alloc {w w' : World} {cs : Array Value} {t : TypeId} (h : Below (w.alloc (.cells cs t)).heap.size (w.alloc (.cells cs t)) w') : Blk w' w.heap.size cs t := (blk_new w cs t).later h
theorem blk_fill {w : World} {P : Nat} {z0 z1 z2 z3 z4 z5 v0 v1 v2 v3 v4 v5 : Value} {t : TypeId} (h : Blk w P #[z0, z1, z2, z3, z4, z5] t) :
    Blk ((((((w.setCell ⟨P, 0, none⟩ v0).setCell ⟨P, 1, none⟩ v1).setCell ⟨P, 2, none⟩ v2).setCell ⟨P, 3, none⟩ v3).setCell ⟨P, 4, none⟩ v4).setCell ⟨P, 5, none⟩ v5) P #[v0, v1, v2, v3, v4, v5] t := by
  have h6 := (((((h.set 0 v0).set 1 v1).set 2 v2).set 3 v3).set 4 v4).set 5 v5
  simpa using h6
theorem twoBoxes {w w1 : World} {x y : Array Value} {tx ty : TypeId} (hb : Below ((w.alloc (.cells x tx)).alloc (.cells y ty)).heap.size ((w.alloc (.cells x tx)).alloc (.cells y ty)) w1) :
    Blk w1 w.heap.size x tx ∧ Blk w1 (w.heap.size + 1) y ty ∧ Below w.heap.size w w1 := by
  refine ⟨?_, ?_, bto (bto (bnew _ _) (bnew _ _)) hb⟩
  · exact ((blk_new w x tx).later (bnew _ _)).later hb
  · have h := (blk_new (w.alloc (.cells x tx)) y ty).later hb
    simpa using h
theorem blk_of_drew {w w' : World} {cs : Array Value} {t : TypeId} (h : Below (w.alloc (.cells cs t)).drew.heap.size (w.alloc (.cells cs t)).drew w') : Blk w' w.heap.size cs t := (blk_new w cs t).later ⟨h.os, h.tape, h.output, h.size, h.block⟩
theorem low {a b : World} (h : Below a.heap.size a b) : a.heap.size ≤ b.heap.size := h.size

/-- A new disk's cells hold no file. -/
theorem apart_zero {w : World} {a : Option Addr} {fs : List FileD} {P : Nat} {t : TypeId} (h : FilesIn w a fs) (hz : Blk w P #[.slice none 0 0, .int .i64 0, .int .i64 0, .int .i64 0, .int .i64 0, .bool false] t) : Apart a fs P := by
  rcases h with h | ⟨b, o, e, _, h⟩
  · exact Or.inl h
  · by_cases hn : fs = []
    · exact Or.inl hn
    · refine Or.inr ⟨b, o, e, fun hb => ?_⟩
      subst hb
      have hl : 0 < fs.length := by
        cases fs with
        | nil => exact absurd rfl hn
        | cons _ _ => simp
      have h0 := (h 0 hl).1
      rw [hz.cell] at h0
      simp only [Nat.zero_mul, Nat.add_zero] at h0
      match o, h0 with
      | 0, h0 => simp at h0
      | 1, h0 => simp at h0
      | 2, h0 => simp at h0
      | 3, h0 => simp at h0
      | 4, h0 => simp at h0
      | 5, h0 => simp at h0
      | n + 6, h0 => simp at h0

theorem but_fill {w : World} {P : Nat} (v0 v1 v2 v3 v4 v5 : Value) :
    But P w ((((((w.setCell ⟨P, 0, none⟩ v0).setCell ⟨P, 1, none⟩ v1).setCell ⟨P, 2, none⟩ v2).setCell ⟨P, 3, none⟩ v3).setCell ⟨P, 4, none⟩ v4).setCell ⟨P, 5, none⟩ v5) :=
  ((((((But.refl P w).setCell 0 v0).setCell 1 v1).setCell 2 v2).setCell 3 v3).setCell 4 v4).setCell 5 v5

theorem FilesIn.apart {w w' : World} {P : Nat} {a : Option Addr} {fs : List FileD} (h : FilesIn w a fs) (ha : Apart a fs P) (hb : But P w w') : FilesIn w' a fs := by
  rcases ha with hn | ⟨b, o, rfl, hne⟩
  · exact Or.inl hn
  · exact h.but hb hne

theorem Owned.beside {w w' : World} {B P : Nat} {a : Option Addr} {fs : List FileD} (h : Owned w B a fs) (ha : Apart a fs P) (hb : But P w w') : Owned w' B a fs := by
  rcases h with h | ⟨g', o, cur, t, rfl, hB, hx, hf⟩
  · exact Or.inl h
  · rcases ha with hn | ⟨b, o', e, hne⟩
    · exact Or.inl hn
    · simp only [Option.some.injEq, Addr.mk.injEq, and_true] at e
      obtain ⟨rfl, rfl⟩ := e
      have he : w'.heap[g']? = w.heap[g']? := hb.block g' (lt_of_block hx) hne
      have hk : ∀ j, w'.cell? ⟨g', j, none⟩ = w.cell? ⟨g', j, none⟩ := fun j => World.cell?_of_block he
      exact Or.inr ⟨g', o, cur, t, rfl, hB, he.trans hx, fun i hi => by simp only [hk]; exact hf i hi⟩
end Go.Proofs.Ytboofidegpnkaaa

