import Derived.Test.YtoecnlhnfhongaaDoorProg
import Derived.Test.YtoecnlhnfhongaaDoorJ01SmpB
import Derived.Test.YtoecnlhnfhongaaDoorJ05LabT
import Derived.Deep.AppendLies
namespace Go.Proofs.YtoecnlhnfhongaaDoor
open Go.RowKit

theorem lt_of_ownL {w : World} {B g o : Nat} {ls : List LabD} (h : LabsOwn w B (some ⟨g, o, none⟩) ls) (hn : ls ≠ []) : g < w.heap.size := by
  rcases h with h | ⟨g', o', cur, t, e, _, hb, _⟩
  · exact absurd h hn
  · simp only [Option.some.injEq, Addr.mk.injEq, and_true] at e
    obtain ⟨rfl, rfl⟩ := e
    exact lt_of_block hb
set_option maxRecDepth 100000 in
set_option maxHeartbeats 1000000 in
theorem toSample_any (f : SmpD) (a1 : Option Addr) (c1 : Nat) (w : World) (p1 : LabsIn w a1 f.labs) (l1 : f.labs.length ≤ 1048576) :
    Calls Tryd.prog 35 #[.agg #[.slice a1 f.labs.length c1, .int .i64 f.bits]] w fun e w' => ∃ g1, e = .returned (.agg #[.slice (some ⟨g1, 0, none⟩) f.labs.length f.labs.length, .int .i64 f.bits]) ∧
      w.heap.size ≤ g1 ∧ LabsOwn w' w.heap.size (some ⟨g1, 0, none⟩) f.labs ∧ Below w.heap.size w w' := by
  have HM : Hid (∀ W, Below w.heap.size w W → Calls Tryd.prog 53 #[.slice a1 f.labs.length c1] W fun e w' => e = .returned (.slice (some ⟨W.heap.size, 0, none⟩) f.labs.length f.labs.length) ∧ LabsOwn w' W.heap.size (some ⟨W.heap.size, 0, none⟩) f.labs ∧ Below W.heap.size W w') :=
    fun W hW => toLabelS_any a1 c1 f.labs W (p1.later hW) l1
  clear p1
  go_enter Tryd.func35, Tryd.ntmps35
  go_wp2_with fail
  refine (HM.out _ (bto (bto (bnew _ _) (bnew _ _)) (bnew _ _))).mono ?_
  rintro e w1 ⟨rfl, o1, hb1⟩
  have B1 : Hid (Below w.heap.size w w1) := bto (bto (bto (bnew _ _) (bnew _ _)) (bnew _ _)) hb1
  have P1 : Hid (Blk w1 w.heap.size #[.slice a1 f.labs.length c1, .int .i64 f.bits] 67) := (((Blk.new _ _ _).alloc _).alloc _).later hb1
  have R1 : Hid (Blk w1 (w.heap.size + 1) #[.slice none 0 0, .int .i64 0] 54) := by have := ((Blk.new (w.alloc (.cells #[.slice a1 f.labs.length c1, .int .i64 f.bits] 67)) #[.slice none 0 0, .int .i64 0] 54).alloc (.cells #[.slice none 0 0, .int .i64 0] 54)).later hb1; exact hid (by simpa using this)
  have X1 : Hid (Blk w1 (w.heap.size + 1 + 1) #[.slice none 0 0, .int .i64 0] 54) := by have := (Blk.new ((w.alloc (.cells #[.slice a1 f.labs.length c1, .int .i64 f.bits] 67)).alloc (.cells #[.slice none 0 0, .int .i64 0] 54)) #[.slice none 0 0, .int .i64 0] 54).later hb1; exact hid (by simpa using this)
  have O1 : Hid (LabsOwn w1 (w.heap.size + 1 + 1 + 1) (some ⟨w.heap.size + 1 + 1 + 1, 0, none⟩) f.labs) := by show LabsOwn _ _ _ _; simpa using o1
  have q1 : w1.cell? ⟨w.heap.size, 1, none⟩ = some (.int .i64 f.bits) := P1.out.cell 1
  have q2 : w1.cell? ⟨w.heap.size + 1 + 1, 0, none⟩ = some (.slice none 0 0) := X1.out.cell 0
  have q4 : w1.cell? ⟨w.heap.size + 1 + 1, 1, none⟩ = some (.int .i64 0) := X1.out.cell 1
  have q3 := X1.out.free 0
  have q5 := X1.out.free 1
  have s0 : w1.cell? ⟨w.heap.size + 1, 0, none⟩ = some (.slice none 0 0) := R1.out.cell 0
  have s1 : w1.cell? ⟨w.heap.size + 1, 1, none⟩ = some (.int .i64 0) := R1.out.cell 1
  have t0 := R1.out.free 0
  have t1 := R1.out.free 1
  clear o1 hb1 P1 HM X1 R1
  go_wp2
  refine bodyPost_ret (v := .agg #[.slice (some ⟨w.heap.size + 1 + 1 + 1, 0, none⟩) f.labs.length f.labs.length, .int .i64 f.bits]) (by simp [results, Tryd.results35, go_sem, s0, s1]) rfl ⟨_, rfl, by omega, ?_, ?_⟩
  · exact ((((O1.out.butS ((But.refl _ _).setCell _ _) (by omega)).butS ((But.refl _ _).setCell _ _) (by omega)).butS ((But.refl _ _).setCell _ _) (by omega)).butS ((But.refl _ _).setCell _ _) (by omega)).mono (by omega)
  · exact (((B1.out.setCell (by simp; omega) _).setCell (by simp; omega) _).setCell (by simp) _).setCell (by simp) _

theorem info_sample : (Tryd.prog.info? 54).map (fun i => (i.zero, i.size, i.bytes)) = some (some (.agg #[.slice none 0 0, .int .i64 0]), 2, 32) := by kernel_rfl
/-- make of n samples: a new block of n * 2 cells. -/
theorem make_samples (n : Nat) (hn : n ≤ 1048576) (w : World) :
    (Instr.makeSlice 27 (.int .i64 (n : Int)) (.int .i64 (n : Int))).run Tryd.prog w = .ok (.slice (some ⟨w.heap.size, 0, none⟩) n n) (w.alloc (.cells (madeCells #[.slice none 0 0, .int .i64 0] (n * 2)) 54)) := by
  obtain ⟨i, hi, hzz⟩ := Option.map_eq_some_iff.1 info_sample
  simp only [Prod.mk.injEq] at hzz
  obtain ⟨hz, hs, hb⟩ := hzz
  have hr := run_make (P := Tryd.prog) w 27 54 i _ Tryd.underlying27 hi hz .i64 .i64 n n (by omega) (Int.le_refl _) (by rw [hb]; omega) (by omega)
  simp only [Int.toNat_natCast, hs] at hr
  exact hr

/-- The block g holds n samples' cells, the first k of them xs's, their labels in blocks of their own behind g. -/
def FillX (w : World) (g n : Nat) (ts : List SmpD) (k : Nat) : Prop := ∃ (cur : Array Value) (T : Nat → Nat), Blk w g cur 54 ∧ cur.size = n * 2 ∧ T g = 0 ∧ ∀ i (h : i < ts.length), i < k → SmpOwn w g T i g (0 + i * 2) ts[i]
theorem FillX.later {w w' : World} {g n k : Nat} {ts : List SmpD} (h : FillX w g n ts k) (hb : Below w.heap.size w w') : FillX w' g n ts k := by
  obtain ⟨cur, T, h1, h2, h3, h4⟩ := h
  exact ⟨cur, T, h1.later hb, h2, h3, fun i hi hk => (h4 i hi hk).keep (fun j _ => World.cell?_of_block (hb.block g (lt_of_block h1))) fun g' hg' _ _ => ⟨hb.block g' hg', rfl⟩⟩
theorem FillX.cells {w : World} {g n k : Nat} {fs : List SmpD} (h : FillX w g n fs k) {j : Nat} (hj : j < n * 2) : (∃ v, w.cell? ⟨g, j, none⟩ = some v) ∧ w.frozen? ⟨g, j, none⟩ = false := by
  obtain ⟨cur, T, h1, h2, _⟩ := h
  exact ⟨h1.there (by omega), h1.free j⟩
/-- Sample k is stored, its labels g1 being new since w. -/
theorem FillX.step {w w1 : World} {g n k g1 : Nat} {ts : List SmpD} (h : FillX w g n ts k) (hk : k < ts.length) (hn : ts.length ≤ n) (hb : Below w.heap.size w w1) (hg1 : w.heap.size ≤ g1)
    (o1 : LabsOwn w1 w.heap.size (some ⟨g1, 0, none⟩) ts[k].labs) (q1 : Nat) :
    FillX ((w1.setCell ⟨g, k * 2, none⟩ (.slice (some ⟨g1, 0, none⟩) ts[k].labs.length q1)).setCell ⟨g, k * 2 + 1, none⟩ (.int .i64 ts[k].bits)) g n ts (k + 1) := by
  obtain ⟨cur, T, h1, h2, h3, h4⟩ := h
  have hlt := lt_of_block h1
  have hB := ((h1.later hb).set (k * 2) (.slice (some ⟨g1, 0, none⟩) ts[k].labs.length q1)).set (k * 2 + 1) (.int .i64 ts[k].bits)
  have hbut : But g w1 ((w1.setCell ⟨g, k * 2, none⟩ (.slice (some ⟨g1, 0, none⟩) ts[k].labs.length q1)).setCell ⟨g, k * 2 + 1, none⟩ (.int .i64 ts[k].bits)) := ((But.refl _ _).setCell _ _).setCell _ _
  generalize ((w1.setCell ⟨g, k * 2, none⟩ (.slice (some ⟨g1, 0, none⟩) ts[k].labs.length q1)).setCell ⟨g, k * 2 + 1, none⟩ (.int .i64 ts[k].bits)) = w2 at *
  refine ⟨_, fun x => if x = g1 then k + 1 else T x, hB, by simp [h2], ?_, fun i hi hlt' => ?_⟩
  · show (if g = g1 then _ else T g) = 0
    rw [if_neg (by omega)]; exact h3
  · by_cases e : i = k
    · subst e
      refine ⟨some ⟨g1, 0, none⟩, q1, ?_, ?_, ?_⟩
      · rw [hB.cell]; simp [Array.getElem?_setIfInBounds]; omega
      · rw [hB.cell]; simp [Array.getElem?_setIfInBounds]; omega
      · refine ((o1.butS hbut (by omega)).mono (by omega)).tag fun g' o' e' => ?_
        simp only [Option.some.injEq, Addr.mk.injEq, and_true] at e'
        show (if g' = g1 then _ else _) = _
        rw [if_pos e'.1.symm]
    · refine (h4 i hi (by omega)).keep (fun j hj => ?_) fun g' hg' _ hT => ?_
      · rw [hB.cell, ← (hb.cell (p := ⟨g, 0 + i * 2 + j, none⟩) hlt), (h1.later hb).cell]
        rw [Array.getElem?_setIfInBounds_ne (by omega), Array.getElem?_setIfInBounds_ne (by omega)]
      · have hne : g' ≠ g := fun e => by rw [e, h3] at hT; omega
        refine ⟨(hbut.block g' (Nat.lt_of_lt_of_le hg' hb.size) hne).trans (hb.block g' hg'), ?_⟩
        show (if g' = g1 then _ else T g') = T g'
        rw [if_neg (by omega)]
theorem FillX.done {w : World} {g B : Nat} {fs : List SmpD} (h : FillX w g fs.length fs fs.length) (hB : B ≤ g) : SmpsOwn w B (some ⟨g, 0, none⟩) fs := by
  obtain ⟨cur, T, h1, h2, h3, h4⟩ := h
  refine Or.inr ⟨g, 0, cur, _, T, rfl, hB, h1, h3, fun i hi => ?_⟩
  obtain ⟨a1, c1, k0, k1, k2⟩ := h4 i hi hi
  exact ⟨a1, c1, k0, k1, k2.base hB⟩

def SmallX (fs : List SmpD) : Prop := ∀ i (h : i < fs.length), fs[i].labs.length ≤ 1048576
set_option maxRecDepth 100000 in
set_option maxHeartbeats 1000000 in
theorem toSampleS_any (a : Option Addr) (cap : Nat) (fs : List SmpD) (w : World) (hf : SmpsIn w a fs) (hlen : fs.length ≤ 1048576) (hsm : SmallX fs) :
    Calls Tryd.prog 16 #[.slice a fs.length cap] w fun e w' => e = .returned (.slice (some ⟨w.heap.size, 0, none⟩) fs.length fs.length) ∧ SmpsOwn w' w.heap.size (some ⟨w.heap.size, 0, none⟩) fs ∧ Below w.heap.size w w' ∧ w.heap.size < w'.heap.size := by
  have HF : Hid (SmpsIn w a fs) := hf
  have HSM : Hid (SmallX fs) := hsm
  clear hf hsm
  have hmk := make_samples fs.length hlen
  go_enter Tryd.func16, Tryd.ntmps16
  go_wp2
  go_loopw [4] (fun i wr => ∃ k : Nat, k ≤ fs.length ∧ i = .int .i64 k ∧ FillX wr w.heap.size fs.length fs k ∧ Below w.heap.size w wr ∧ w.heap.size < wr.heap.size) (fun i _ => fs.length - (intOf i).toNat)
  case atStart => exact ⟨0, Nat.zero_le _, rfl, ⟨_, fun _ => 0, Blk.new _ _ _, size_madeCells _ _, rfl, fun i _ h => absurd h (by omega)⟩, (Below.refl _ _).alloc (Nat.le_refl _) _, by simp⟩
  case round =>
    obtain ⟨k, hk, rfl, hfill, hbel, hsz⟩ := hrel
    have HFill : Hid (FillX wr w.heap.size fs.length fs k) := hfill
    clear hfill hmk
    by_cases hlt : k < fs.length
    · obtain ⟨b, o, a1, q1, rfl, hb, c0, c1, p1⟩ := (HF.out.later hbel).at hlt
      have HC : Hid (Calls Tryd.prog 35 #[.agg #[.slice a1 fs[k].labs.length q1, .int .i64 fs[k].bits]] wr fun e w' => ∃ g1, e = .returned (.agg #[.slice (some ⟨g1, 0, none⟩) fs[k].labs.length fs[k].labs.length, .int .i64 fs[k].bits]) ∧
          wr.heap.size ≤ g1 ∧ LabsOwn w' wr.heap.size (some ⟨g1, 0, none⟩) fs[k].labs ∧ Below wr.heap.size wr w') := toSample_any fs[k] a1 q1 wr p1 (HSM.out k hlt)
      clear p1
      go_wp2_with fail
      refine HC.out.mono ?_
      rintro e w' ⟨g1, rfl, hg1, o1, hb2⟩
      have hF2 := HFill.out.later hb2
      obtain ⟨⟨v0, d0⟩, f0⟩ := hF2.cells (j := k * 2) (by omega)
      obtain ⟨⟨v1, d1⟩, f1⟩ := hF2.cells (j := k * 2 + 1) (by omega)
      have HST : Hid (FillX ((w'.setCell ⟨w.heap.size, k * 2, none⟩ (.slice (some ⟨g1, 0, none⟩) fs[k].labs.length fs[k].labs.length)).setCell ⟨w.heap.size, k * 2 + 1, none⟩ (.int .i64 fs[k].bits)) w.heap.size fs.length fs (k + 1)) :=
        HFill.out.step hlt (Nat.le_refl _) hb2 hg1 o1 _
      clear hF2 HC HFill o1 c0 c1
      go_wp2
      exact ⟨⟨k + 1, by omega, by go_num, HST.out, ((hbel.trans (hb2.mono hbel.size)).setCell (Nat.le_refl _) _).setCell (Nat.le_refl _) _, by have := hb2.size; simp; omega⟩, by simp [intOf]; omega⟩
    · go_wp2
      go_ret
      have e : k = fs.length := by omega
      exact ⟨rfl, by have := HFill.out; rw [e] at this; exact this.done (Nat.le_refl _), hbel, hsz⟩

set_option maxRecDepth 100000 in
set_option maxHeartbeats 1000000 in
theorem toRequest_any (r : ReqD) (a : Option Addr) (cap : Nat) (w : World) (hf : SmpsIn w a r.smps) (hlen : r.smps.length ≤ 1048576) (hsm : SmallX r.smps) :
    Calls Tryd.prog 7 #[.agg #[.int .i64 r.kind, .string r.tenant, .string r.metric, .int .i64 r.num, .slice a r.smps.length cap]] w fun e w' => ∃ g, e = .returned (.agg #[.int .i64 r.kind, .string r.tenant, .string r.metric, .int .i64 r.num, .slice (some ⟨g, 0, none⟩) r.smps.length r.smps.length]) ∧ w.heap.size ≤ g ∧ g < w'.heap.size ∧ SmpsOwn w' w.heap.size (some ⟨g, 0, none⟩) r.smps ∧ Below w.heap.size w w' := by
  have HC : Hid (∀ W, Below w.heap.size w W → Calls Tryd.prog 16 #[.slice a r.smps.length cap] W fun e w' => e = .returned (.slice (some ⟨W.heap.size, 0, none⟩) r.smps.length r.smps.length) ∧ SmpsOwn w' W.heap.size (some ⟨W.heap.size, 0, none⟩) r.smps ∧ Below W.heap.size W w' ∧ W.heap.size < w'.heap.size) :=
    fun W hW => toSampleS_any a cap r.smps W (hf.later hW) hlen hsm
  clear hf hsm
  go_enter Tryd.func7, Tryd.ntmps7
  go_wp2_with fail
  refine (HC.out _ (bto (bto (bnew _ _) (bnew _ _)) (bnew _ _))).mono ?_
  rintro e w1 ⟨rfl, o1, hb1, z1⟩
  have B1 : Hid (Below w.heap.size w w1) := bto (bto (bto (bnew _ _) (bnew _ _)) (bnew _ _)) hb1
  have R1 : Hid (Blk w1 (w.heap.size + 1) #[.int .i64 0, .string ByteArray.empty, .string ByteArray.empty, .int .i64 0, .slice none 0 0] 29) := by have := ((Blk.new (w.alloc (.cells #[.int .i64 r.kind, .string r.tenant, .string r.metric, .int .i64 r.num, .slice a r.smps.length cap] 24)) #[.int .i64 0, .string ByteArray.empty, .string ByteArray.empty, .int .i64 0, .slice none 0 0] 29).alloc (.cells #[.int .i64 r.kind, .string r.tenant, .string r.metric, .int .i64 r.num, .slice none 0 0] 29)).later hb1; exact hid (by simpa using this)
  have X1 : Hid (Blk w1 (w.heap.size + 1 + 1) #[.int .i64 r.kind, .string r.tenant, .string r.metric, .int .i64 r.num, .slice none 0 0] 29) := by have := (Blk.new ((w.alloc (.cells #[.int .i64 r.kind, .string r.tenant, .string r.metric, .int .i64 r.num, .slice a r.smps.length cap] 24)).alloc (.cells #[.int .i64 0, .string ByteArray.empty, .string ByteArray.empty, .int .i64 0, .slice none 0 0] 29)) #[.int .i64 r.kind, .string r.tenant, .string r.metric, .int .i64 r.num, .slice none 0 0] 29).later hb1; exact hid (by simpa using this)
  have O1 : Hid (SmpsOwn w1 (w.heap.size + 1 + 1 + 1) (some ⟨w.heap.size + 1 + 1 + 1, 0, none⟩) r.smps) := hid (by simpa using o1)
  have z1' : w.heap.size + 1 + 1 + 1 < w1.heap.size := by simpa using z1
  have r0 : w1.cell? ⟨w.heap.size + 1 + 1, 0, none⟩ = some (.int .i64 r.kind) := X1.out.cell 0
  have r1 : w1.cell? ⟨w.heap.size + 1 + 1, 1, none⟩ = some (.string r.tenant) := X1.out.cell 1
  have r2 : w1.cell? ⟨w.heap.size + 1 + 1, 2, none⟩ = some (.string r.metric) := X1.out.cell 2
  have r3 : w1.cell? ⟨w.heap.size + 1 + 1, 3, none⟩ = some (.int .i64 r.num) := X1.out.cell 3
  have r4 : w1.cell? ⟨w.heap.size + 1 + 1, 4, none⟩ = some (.slice none 0 0) := X1.out.cell 4
  have r5 := X1.out.free 4
  have s0 : w1.cell? ⟨w.heap.size + 1, 0, none⟩ = some (.int .i64 0) := R1.out.cell 0
  have s1 : w1.cell? ⟨w.heap.size + 1, 1, none⟩ = some (.string ByteArray.empty) := R1.out.cell 1
  have s2 : w1.cell? ⟨w.heap.size + 1, 2, none⟩ = some (.string ByteArray.empty) := R1.out.cell 2
  have s3 : w1.cell? ⟨w.heap.size + 1, 3, none⟩ = some (.int .i64 0) := R1.out.cell 3
  have s4 : w1.cell? ⟨w.heap.size + 1, 4, none⟩ = some (.slice none 0 0) := R1.out.cell 4
  have t0 := R1.out.free 0
  have t1 := R1.out.free 1
  have t2 := R1.out.free 2
  have t3 := R1.out.free 3
  have t4 := R1.out.free 4
  clear o1 z1 hb1 HC
  go_wp2
  refine bodyPost_ret (v := .agg #[.int .i64 r.kind, .string r.tenant, .string r.metric, .int .i64 r.num, .slice (some ⟨w.heap.size + 1 + 1 + 1, 0, none⟩) r.smps.length r.smps.length]) (by simp [results, Tryd.results7, go_sem, s0, s1, s2, s3, s4]) rfl ⟨_, rfl, by omega, by simpa using z1', ?_, ?_⟩
  · exact ((((((O1.out.but ((But.refl _ _).setCell _ _) (by omega)).but ((But.refl _ _).setCell _ _) (by omega)).but ((But.refl _ _).setCell _ _) (by omega)).but ((But.refl _ _).setCell _ _) (by omega)).but ((But.refl _ _).setCell _ _) (by omega)).but ((But.refl _ _).setCell _ _) (by omega)).mono (by omega)
  · exact (((((B1.out.setCell (by simp; omega) _).setCell (by simp) _).setCell (by simp) _).setCell (by simp) _).setCell (by simp) _).setCell (by simp) _
end Go.Proofs.YtoecnlhnfhongaaDoor

namespace Go.Proofs.YtoecnlhnfhongaaDoor
open Go.RowKit

theorem numr_le (k : Nat) (r : Rd) : (numR k r).2.rest.size ≤ r.rest.size := by rw [numR]; exact (take_le k r).2.2
theorem smL_le (r : Rd) : (smL r).2.rest.size ≤ r.rest.size := by rw [smL]; exact Nat.le_trans (rd_big _ _).1 (by rw [smN]; exact numr_le 1 r)
theorem smp_le (r : Rd) : (smpR r).2.rest.size ≤ r.rest.size := by rw [smpR_snd, smB]; exact Nat.le_trans (numr_le 8 _) (smL_le r)
theorem rdXs_le (r : Rd) (k : Nat) : (rdXs r k).2.rest.size ≤ r.rest.size := by
  induction k with
  | zero => rw [rdXs_zero]; exact Nat.le_refl _
  | succ k ih =>
    rw [rdXs_succ]
    have := smp_le (rdXs r k).2
    generalize smpR (rdXs r k).2 = A at *
    exact Nat.le_trans this ih
theorem numDr_any (B : Nat) (r : Rd) (k : Nat) (w : World) (hB : RT w B r) (hk : k ≤ 8) (hs : r.rest.size ≤ 1000000000) :
    Calls Tryd.prog 47 #[.pointer (some ⟨B, 0, none⟩), .int .i64 (k : Nat)] w fun e w' => (e = .returned (.int .i64 (wrapN (numR k r).1)) ∧ (numR k r).2.short = false ∧ RT w' B (numR k r).2 ∧ But B w w') ∨ (e = .panicked dcdP ∧ (numR k r).2.short = true ∧ But B w w') := by
  cases h : (numR k r).2.short with
  | true => exact (numD_bad B r k w hB hk hs h).mono fun e w' q => Or.inr ⟨q.1, rfl, q.2⟩
  | false => exact (numD_ok B r k w hB hk hs h).mono fun e w' q => Or.inl ⟨q.1, rfl, q.2⟩
theorem strDr_any (B : Nat) (r : Rd) (k : Nat) (w : World) (hB : RT w B r) (hk : k ≤ 2) (hs : r.rest.size ≤ 1000000000) :
    Calls Tryd.prog 48 #[.pointer (some ⟨B, 0, none⟩), .int .i64 (k : Nat)] w fun e w' => (e = .returned (.string (textR k r).1) ∧ (textR k r).2.short = false ∧ RT w' B (textR k r).2 ∧ But B w w') ∨ (e = .panicked dcdP ∧ (textR k r).2.short = true ∧ But B w w') := by
  cases h : (textR k r).2.short with
  | true => exact (strD_bad B r k w hB hk hs h).mono fun e w' q => Or.inr ⟨q.1, rfl, q.2⟩
  | false => exact (strD_ok B r k w hB hk hs h).mono fun e w' q => Or.inl ⟨q.1, rfl, q.2⟩
def xsN (r : Rd) : Nat × Rd := numR 2 r
def xsR (r : Rd) : List SmpD × Rd := rdXs (xsN r).2 (xsN r).1
def XsOut (B : Nat) (r : Rd) (w : World) (e : Ending) (w' : World) : Prop :=
  ((xsR r).2.short = false ∧ ∃ av cap, e = .returned (.slice av (xsR r).1.length cap) ∧ SmpsOwn w' w.heap.size av (xsR r).1 ∧ RT w' B (xsR r).2 ∧ But B w w') ∨
  ((xsR r).2.short = true ∧ e = .panicked dcdP ∧ But B w w')
theorem info_smp : ∃ i, Tryd.prog.info? 54 = some i ∧ i.zero = some (.agg #[.slice none 0 0, .int .i64 0]) ∧ i.size = 2 ∧ i.bytes = 32 := by
  obtain ⟨i, hi, hz⟩ := Option.map_eq_some_iff.1 info_sample
  simp only [Prod.mk.injEq] at hz
  exact ⟨i, hi, hz.1, hz.2.1, hz.2.2⟩
theorem But.upR {g : Nat} {w w1 w2 : World} (h : But g w w1) (hb : Below w.heap.size w1 w2) : But g w w2 :=
  ⟨hb.os.trans h.os, hb.tape.trans h.tape, hb.output.trans h.output, Nat.le_trans h.size hb.size, fun k hk hn => (hb.block k hk).trans (h.block k hk hn)⟩

set_option maxRecDepth 100000 in
set_option maxHeartbeats 8000000 in
theorem samplesD_any (B : Nat) (r : Rd) (w : World) (hB : RT w B r) (hs : r.rest.size ≤ 1000000000) :
    Calls Tryd.prog 49 #[.pointer (some ⟨B, 0, none⟩)] w fun e w' => XsOut B r w e w' := by
  have hBw : B < w.heap.size := by obtain ⟨t, h⟩ := hB; exact lt_of_block h
  have HB : Hid (RT w B r) := hB
  have HOK : Hid (∀ av cap w', (rdXs (xsN r).2 (xsN r).1).2.short = false → SmpsOwn w' w.heap.size av (rdXs (xsN r).2 (xsN r).1).1 → RT w' B (rdXs (xsN r).2 (xsN r).1).2 → But B w w' → XsOut B r w (.returned (.slice av (xsN r).1 cap)) w') := fun av cap w' a b c d => by
    have hl : (xsR r).1.length = (xsN r).1 := by rw [xsR]; exact rdXs_length _ _
    have e0 : rdXs (xsN r).2 (xsN r).1 = xsR r := by rw [xsR]
    rw [e0] at a b c
    refine Or.inl ⟨a, av, cap, ?_, b, c, d⟩
    rw [hl]
  have HBAD : Hid (∀ w', (xsR r).2.short = true → But B w w' → XsOut B r w (.panicked dcdP) w') := fun w' a b => Or.inr ⟨a, rfl, b⟩
  have hn : (xsN r).1 < 65536 := by rw [xsN]; exact num_lt 2 _
  have HC1 : Hid (∀ W, RT W B r → Calls Tryd.prog 47 #[.pointer (some ⟨B, 0, none⟩), .int .i64 2] W fun e w' => (e = .returned (.int .i64 ((xsN r).1 : Nat)) ∧ (xsN r).2.short = false ∧ RT w' B (xsN r).2 ∧ But B W w') ∨ (e = .panicked dcdP ∧ (xsR r).2.short = true ∧ But B W w')) := fun W h => by
    refine (numDr_any B _ 2 W h (by omega) hs).mono ?_
    have e0 : numR 2 r = xsN r := by rw [xsN]
    rw [e0, wrapN_small (by omega)]
    rintro e w' (⟨a, b, c⟩ | ⟨a, b, c⟩)
    · exact Or.inl ⟨a, b, c⟩
    · exact Or.inr ⟨a, by rw [xsR]; exact rdXs_short (k := 0) (by rw [rdXs_zero]; exact b) _ (Nat.zero_le _), c⟩
  have HST : Hid ((rdXs (xsN r).2 (xsN r).1).2.short = true → (xsR r).2.short = true) := fun h => by rw [xsR]; exact h
  have hz : (xsN r).2.rest.size ≤ 1000000000 := by rw [xsN]; exact Nat.le_trans (numr_le 2 r) hs
  clear hB hs
  generalize XsOut B r w = Post at *
  generalize (xsR r).2.short = TS at *
  generalize (xsN r).1 = n at *
  generalize (xsN r).2 = c at *
  obtain ⟨i1, hi1, hq10, hq11, hq12⟩ := info_smp
  have HI1 : Hid (Tryd.prog.info? 54 = some i1) := hi1
  clear hi1
  go_enter Tryd.func49, Tryd.ntmps49
  go_wp2_with fail
  refine (HC1.out _ HB.out).mono ?_
  rintro e w1 (⟨rfl, hs1, hr1, hb1⟩ | ⟨rfl, hsh, hb1⟩)
  rotate_left
  · exact ⟨rfl, HBAD.out _ hsh hb1⟩
  have H1 : Hid (RT w1 B c ∧ But B w w1 ∧ c.short = false) := ⟨hr1, hb1, hs1⟩
  clear hr1 hb1 hs1 HC1 HB
  go_wp2
  go_loopw [3, 6] (fun out i wr => ∃ k : Nat, k ≤ n ∧ i = .int .i64 k ∧ Hid (RowX wr w.heap.size 54 out k (rdXs c k).1) ∧ Hid (RT wr B (rdXs c k).2) ∧ Hid ((rdXs c k).2.short = false) ∧ Hid (But B w wr)) (fun _ i _ => n - (intOf i).toNat)
  case atStart => exact ⟨0, Nat.zero_le _, rfl, by rw [rdXs_zero]; exact RowX.nil _ _ _, by rw [rdXs_zero]; exact H1.out.1, by rw [rdXs_zero]; exact H1.out.2.2, H1.out.2.1⟩
  case round =>
    obtain ⟨k, hk, rfl, HG, HRT, HSH, HBU⟩ := hrel
    by_cases hlt : k < n
    · have hzr : (rdXs c k).2.rest.size ≤ 1000000000 := Nat.le_trans (rdXs_le c k) hz
      have hzL : (smL (rdXs c k).2).2.rest.size ≤ 1000000000 := Nat.le_trans (smL_le _) hzr
      have hst : (rdXs c (k + 1)).2.short = true → TS = true := fun h => HST.out (rdXs_short h n (by omega))
      have e1 : (rdXs c (k + 1)).1 = (rdXs c k).1 ++ [⟨(smL (rdXs c k).2).1, wrapN (smB (rdXs c k).2).1⟩] := by rw [rdXs_succ, smpR_fst]
      have e2 : (rdXs c (k + 1)).2 = (smB (rdXs c k).2).2 := by rw [rdXs_succ]; simp only [smpR_snd]
      rw [e2] at hst
      have P1 : Hid (∀ W, RT W B (rdXs c k).2 → Calls Tryd.prog 60 #[.pointer (some ⟨B, 0, none⟩)] W fun e w' => ∃ g cap, e = .returned (.slice (some ⟨g, 0, none⟩) (smL (rdXs c k).2).1.length cap) ∧ w'.ownsRow W.heap.size 56 2 (.slice (some ⟨g, 0, none⟩) (smL (rdXs c k).2).1.length cap) (smL (rdXs c k).2).1.length (flatL (smL (rdXs c k).2).1) ∧ RT w' B (smL (rdXs c k).2).2 ∧ But B W w') := fun W h => labelsT_any B _ W h hzr
      have P2 : Hid (∀ W, RT W B (smL (rdXs c k).2).2 → Calls Tryd.prog 47 #[.pointer (some ⟨B, 0, none⟩), .int .i64 8] W fun e w' => (e = .returned (.int .i64 (wrapN (smB (rdXs c k).2).1)) ∧ (smB (rdXs c k).2).2.short = false ∧ RT w' B (smB (rdXs c k).2).2 ∧ But B W w') ∨ (e = .panicked dcdP ∧ TS = true ∧ But B W w')) := fun W h => by
        refine (numDr_any B _ 8 W h (by omega) hzL).mono ?_
        have e0 : numR 8 (smL (rdXs c k).2).2 = smB (rdXs c k).2 := by rw [smB]
        rw [e0]
        rintro e w' (⟨a, b, c⟩ | ⟨a, b, c⟩)
        · exact Or.inl ⟨a, b, c⟩
        · exact Or.inr ⟨a, hst b, c⟩
      have hlen : (rdXs c k).1.length = k := rdXs_length c k
      clear hst hzr hzL
      have E1 : Hid ((rdXs c (k + 1)).1 = (rdXs c k).1 ++ [⟨(smL (rdXs c k).2).1, wrapN (smB (rdXs c k).2).1⟩]) := e1
      have E2 : Hid ((rdXs c (k + 1)).2 = (smB (rdXs c k).2).2) := e2
      have HL : Hid ((rdXs c k).1.length = k) := hlen
      clear e1 e2 hlen
      generalize wrapN (smB (rdXs c k).2).1 = bi at *
      generalize (smB (rdXs c k).2).2 = rB at *
      generalize (smL (rdXs c k).2).2 = rL at *
      generalize (smL (rdXs c k).2).1 = ls at *
      obtain ⟨T, ys, hV1, hV2, hV3, hV4⟩ := HG.out
      have hob : ∀ q, u3.ownBlock = some q → w.heap.size ≤ q ∧ q < wr.heap.size := fun q hq => hV1.lt q hq
      have HV1 := hid hV1
      have HV2 := hid hV2
      have HV3 := hid hV3
      have HV4 := hid hV4
      have hwr := HBU.out.size
      clear hV1 hV2 hV3 hV4 HG
      go_wp2_with fail
      refine (P1.out _ HRT.out).mono ?_
      rintro e w2 ⟨g2, q2, rfl, ho2, hr2, hb2⟩
      have H2 : Hid (w2.ownsRow wr.heap.size 56 2 (.slice (some ⟨g2, 0, none⟩) ls.length q2) ls.length (flatL ls) ∧ RT w2 B rL ∧ But B wr w2) := ⟨ho2, hr2, hb2⟩
      clear ho2 hr2 hb2 P1 HRT
      go_wp2_with fail
      refine (P2.out _ H2.out.2.1).mono ?_
      rintro e w3 (⟨rfl, hs3, hr3, hb3⟩ | ⟨rfl, hsh, hb3⟩)
      rotate_left
      · exact ⟨rfl, HBAD.out _ hsh ((HBU.out.trans H2.out.2.2).trans hb3)⟩
      have H3 : Hid (LabsOwn w3 wr.heap.size (some ⟨g2, 0, none⟩) ls ∧ RT w3 B rB ∧ But B wr w3 ∧ rB.short = false) := ⟨labs_of_row (row_but0 H2.out.1 hb3 (by omega)), hr3, H2.out.2.2.trans hb3, hs3⟩
      have hsz3 : wr.heap.size ≤ w3.heap.size := H3.out.2.2.1.size
      clear hr3 hb3 hs3 P2 H2
      go_wp2_with (at_builtin; refine wpList_append_lies _ rfl _ _ _ rfl w.heap.size 54 i1 _ 2 32 Tryd.underlying27 HI1.out hq10 hq11 hq12 rfl (by omega) u3 k (flatX ys) rfl (by exact ((Turn.but H3.out.2.2.1).row HV1.out (fun g hg e => by have := (hob g hg).1; omega)).alloc _) ⟨w3.heap.size, 0, none⟩ 1 1 [.slice (some ⟨g2, 0, none⟩) ls.length q2, .int .i64 bi] rfl rfl (by have := World.news_of_block (cs := #[.slice (some ⟨g2, 0, none⟩) ls.length q2, .int .i64 bi]) (t := 54) (fr := (0, 0)) (heap_alloc_new w3 (.cells #[.slice (some ⟨g2, 0, none⟩) ls.length q2, .int .i64 bi] 54)); simpa using this) (by simp [Value.oneCell']) (by omega) (by simp [maxLen]; omega) (by omega) (by simp; omega) (w3.heap.size + 1) (by simp) ?_; intro g5 cap5 w5 hown5 hgrow5 hat5 hlt5)
      have hgg : (u3.ownBlock = some g5 ∧ g5 < wr.heap.size) ∨ w3.heap.size ≤ g5 := by
        rcases hat5 with h | h
        · exact Or.inl ⟨h, (hob _ h).2⟩
        · exact Or.inr (by omega)
      have hk5 : ∀ g, g < w3.heap.size → u3.ownBlock ≠ some g → w5.heap[g]? = w3.heap[g]? := fun g hg hne => by
        rw [(Turn.grown hgrow5).block g (by simp; omega) hne]
        exact (bnew _ _).block g hg
      refine ⟨⟨k + 1, by omega, by go_num, ?_, ?_, ?_, ?_⟩, by simp [intOf]; omega⟩
      · rw [E1.out]
        have hyk : ys.length = k := by have h1 := HL.out; rw [← HV2.out, List.length_map] at h1; exact h1
        exact RowX.snoc (wr := wr) (w4 := w3) (v := u3) (T := T) (ys := ys) (x := ⟨ls, bi⟩) hown5 HV2.out hyk HV3.out HV4.out (by omega)
          (fun g hg hb hne => (hk5 g (by omega) hne).trans (H3.out.2.2.1.block g hg (by omega)))
          (fun g hg hg4 => hk5 g hg4 (fun e => by have := (hob _ e).2; omega))
          H3.out.1 hgg hsz3
      · rw [E2.out]
        obtain ⟨tt, ht⟩ := H3.out.2.1
        exact ⟨tt, (hk5 B (by omega) (fun e => by have := (hob _ e).1; omega)).trans ht⟩
      · show _ = _; rw [E2.out]; exact H3.out.2.2.2
      · exact (HBU.out.trans H3.out.2.2.1).upR (((Below.refl _ w3).alloc (by omega) _).grown hgrow5 (by simp; omega) (fun q hq => by have := hob q hq; omega))
    · obtain rfl : k = n := by omega
      obtain ⟨ra, rc, rfl⟩ := HG.out.row
      have hlen := rdXs_length c k
      go_wp2
      exact HOK.out _ _ _ HSH.out (HG.out.own hlen) HRT.out HBU.out
end Go.Proofs.YtoecnlhnfhongaaDoor

