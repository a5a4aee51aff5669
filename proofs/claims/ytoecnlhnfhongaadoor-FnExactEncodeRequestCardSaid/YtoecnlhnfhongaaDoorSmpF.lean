import Derived.Test.YtoecnlhnfhongaaDoorProg
import Derived.Test.YtoecnlhnfhongaaDoorSmpB
import Derived.Test.YtoecnlhnfhongaaDoorLabT
namespace Go.Proofs.YtoecnlhnfhongaaDoor
open Go.RowKit

theorem lt_of_ownL {w : World} {B g o : Nat} {ls : List LabD} (h : LabsOwn w B (some ⟨g, o, none⟩) ls) (hn : ls ≠ []) : g < w.heap.size := by
  rcases h with h | ⟨g', o', cur, t, e, _, hb, _⟩
  · exact absurd h hn
  · simp only [Option.some.injEq, Addr.mk.injEq, and_true] at e
    obtain ⟨rfl, rfl⟩ := e
    exact lt_of_block hb
set_option maxRecDepth 100000 in
set_option maxHeartbeats 1000000 in
theorem toSample_any (f : SmpD) (a1 : Option Addr) (c1 : Nat) (w : World) (p1 : LabsIn w a1 f.labs) (l1 : f.labs.length ≤ 1048576) :
    Calls Tryd.prog 35 #[.agg #[.slice a1 f.labs.length c1, .int .i64 f.bits]] w fun e w' => ∃ g1, e = .returned (.agg #[.slice (some ⟨g1, 0, none⟩) f.labs.length f.labs.length, .int .i64 f.bits]) ∧
      w.heap.size ≤ g1 ∧ LabsOwn w' w.heap.size (some ⟨g1, 0, none⟩) f.labs ∧ Below w.heap.size w w' := by
  have HM : Hid (∀ W, Below w.heap.size w W → Calls Tryd.prog 53 #[.slice a1 f.labs.length c1] W fun e w' => e = .returned (.slice (some ⟨W.heap.size, 0, none⟩) f.labs.length f.labs.length) ∧ LabsOwn w' W.heap.size (some ⟨W.heap.size, 0, none⟩) f.labs ∧ Below W.heap.size W w') :=
    fun W hW => toLabelS_any a1 c1 f.labs W (p1.later hW) l1
  clear p1
  go_enter Tryd.func35, Tryd.ntmps35
  go_wp2_with fail
  refine (HM.out _ (bto (bto (bnew _ _) (bnew _ _)) (bnew _ _))).mono ?_
  rintro e w1 ⟨rfl, o1, hb1⟩
  have B1 : Hid (Below w.heap.size w w1) := bto (bto (bto (bnew _ _) (bnew _ _)) (bnew _ _)) hb1
  have P1 : Hid (Blk w1 w.heap.size #[.slice a1 f.labs.length c1, .int .i64 f.bits] 67) := (((Blk.new _ _ _).alloc _).alloc _).later hb1
  have R1 : Hid (Blk w1 (w.heap.size + 1) #[.slice none 0 0, .int .i64 0] 54) := by have := ((Blk.new (w.alloc (.cells #[.slice a1 f.labs.length c1, .int .i64 f.bits] 67)) #[.slice none 0 0, .int .i64 0] 54).alloc (.cells #[.slice none 0 0, .int .i64 0] 54)).later hb1; exact hid (by simpa using this)
  have X1 : Hid (Blk w1 (w.heap.size + 1 + 1) #[.slice none 0 0, .int .i64 0] 54) := by have := (Blk.new ((w.alloc (.cells #[.slice a1 f.labs.length c1, .int .i64 f.bits] 67)).alloc (.cells #[.slice none 0 0, .int .i64 0] 54)) #[.slice none 0 0, .int .i64 0] 54).later hb1; exact hid (by simpa using this)
  have O1 : Hid (LabsOwn w1 (w.heap.size + 1 + 1 + 1) (some ⟨w.heap.size + 1 + 1 + 1, 0, none⟩) f.labs) := by show LabsOwn _ _ _ _; simpa using o1
  have q1 : w1.cell? ⟨w.heap.size, 1, none⟩ = some (.int .i64 f.bits) := P1.out.cell 1
  have q2 : w1.cell? ⟨w.heap.size + 1 + 1, 0, none⟩ = some (.slice none 0 0) := X1.out.cell 0
  have q4 : w1.cell? ⟨w.heap.size + 1 + 1, 1, none⟩ = some (.int .i64 0) := X1.out.cell 1
  have q3 := X1.out.free 0
  have q5 := X1.out.free 1
  have s0 : w1.cell? ⟨w.heap.size + 1, 0, none⟩ = some (.slice none 0 0) := R1.out.cell 0
  have s1 : w1.cell? ⟨w.heap.size + 1, 1, none⟩ = some (.int .i64 0) := R1.out.cell 1
  have t0 := R1.out.free 0
  have t1 := R1.out.free 1
  clear o1 hb1 P1 HM X1 R1
  go_wp2
  refine bodyPost_ret (v := .agg #[.slice (some ⟨w.heap.size + 1 + 1 + 1, 0, none⟩) f.labs.length f.labs.length, .int .i64 f.bits]) (by simp [results, Tryd.results35, go_sem, s0, s1]) rfl ⟨_, rfl, by omega, ?_, ?_⟩
  · exact ((((O1.out.butS ((But.refl _ _).setCell _ _) (by omega)).butS ((But.refl _ _).setCell _ _) (by omega)).butS ((But.refl _ _).setCell _ _) (by omega)).butS ((But.refl _ _).setCell _ _) (by omega)).mono (by omega)
  · exact (((B1.out.setCell (by simp; omega) _).setCell (by simp; omega) _).setCell (by simp) _).setCell (by simp) _

theorem info_sample : (Tryd.prog.info? 54).map (fun i => (i.zero, i.size, i.bytes)) = some (some (.agg #[.slice none 0 0, .int .i64 0]), 2, 32) := by kernel_rfl
/-- make of n samples: a new block of n * 2 cells. -/
theorem make_samples (n : Nat) (hn : n ≤ 1048576) (w : World) :
    (Instr.makeSlice 27 (.int .i64 (n : Int)) (.int .i64 (n : Int))).run Tryd.prog w = .ok (.slice (some ⟨w.heap.size, 0, none⟩) n n) (w.alloc (.cells (madeCells #[.slice none 0 0, .int .i64 0] (n * 2)) 54)) := by
  obtain ⟨i, hi, hzz⟩ := Option.map_eq_some_iff.1 info_sample
  simp only [Prod.mk.injEq] at hzz
  obtain ⟨hz, hs, hb⟩ := hzz
  have hr := run_make (P := Tryd.prog) w 27 54 i _ Tryd.underlying27 hi hz .i64 .i64 n n (by omega) (Int.le_refl _) (by rw [hb]; omega) (by omega)
  simp only [Int.toNat_natCast, hs] at hr
  exact hr

/-- The block g holds n samples' cells, the first k of them xs's, their labels in blocks of their own behind g. -/
def FillX (w : World) (g n : Nat) (ts : List SmpD) (k : Nat) : Prop := ∃ (cur : Array Value) (T : Nat → Nat), Blk w g cur 54 ∧ cur.size = n * 2 ∧ T g = 0 ∧ ∀ i (h : i < ts.length), i < k → SmpOwn w g T i g (0 + i * 2) ts[i]
theorem FillX.later {w w' : World} {g n k : Nat} {ts : List SmpD} (h : FillX w g n ts k) (hb : Below w.heap.size w w') : FillX w' g n ts k := by
  obtain ⟨cur, T, h1, h2, h3, h4⟩ := h
  exact ⟨cur, T, h1.later hb, h2, h3, fun i hi hk => (h4 i hi hk).keep (fun j _ => World.cell?_of_block (hb.block g (lt_of_block h1))) fun g' hg' _ _ => ⟨hb.block g' hg', rfl⟩⟩
theorem FillX.cells {w : World} {g n k : Nat} {fs : List SmpD} (h : FillX w g n fs k) {j : Nat} (hj : j < n * 2) : (∃ v, w.cell? ⟨g, j, none⟩ = some v) ∧ w.frozen? ⟨g, j, none⟩ = false := by
  obtain ⟨cur, T, h1, h2, _⟩ := h
  exact ⟨h1.there (by omega), h1.free j⟩
/-- Sample k is stored, its labels g1 being new since w. -/
theorem FillX.step {w w1 : World} {g n k g1 : Nat} {ts : List SmpD} (h : FillX w g n ts k) (hk : k < ts.length) (hn : ts.length ≤ n) (hb : Below w.heap.size w w1) (hg1 : w.heap.size ≤ g1)
    (o1 : LabsOwn w1 w.heap.size (some ⟨g1, 0, none⟩) ts[k].labs) (q1 : Nat) :
    FillX ((w1.setCell ⟨g, k * 2, none⟩ (.slice (some ⟨g1, 0, none⟩) ts[k].labs.length q1)).setCell ⟨g, k * 2 + 1, none⟩ (.int .i64 ts[k].bits)) g n ts (k + 1) := by
  obtain ⟨cur, T, h1, h2, h3, h4⟩ := h
  have hlt := lt_of_block h1
  have hB := ((h1.later hb).set (k * 2) (.slice (some ⟨g1, 0, none⟩) ts[k].labs.length q1)).set (k * 2 + 1) (.int .i64 ts[k].bits)
  have hbut : But g w1 ((w1.setCell ⟨g, k * 2, none⟩ (.slice (some ⟨g1, 0, none⟩) ts[k].labs.length q1)).setCell ⟨g, k * 2 + 1, none⟩ (.int .i64 ts[k].bits)) := ((But.refl _ _).setCell _ _).setCell _ _
  generalize ((w1.setCell ⟨g, k * 2, none⟩ (.slice (some ⟨g1, 0, none⟩) ts[k].labs.length q1)).setCell ⟨g, k * 2 + 1, none⟩ (.int .i64 ts[k].bits)) = w2 at *
  refine ⟨_, fun x => if x = g1 then k + 1 else T x, hB, by simp [h2], ?_, fun i hi hlt' => ?_⟩
  · show (if g = g1 then _ else T g) = 0
    rw [if_neg (by omega)]; exact h3
  · by_cases e : i = k
    · subst e
      refine ⟨some ⟨g1, 0, none⟩, q1, ?_, ?_, ?_⟩
      · rw [hB.cell]; simp [Array.getElem?_setIfInBounds]; omega
      · rw [hB.cell]; simp [Array.getElem?_setIfInBounds]; omega
      · refine ((o1.butS hbut (by omega)).mono (by omega)).tag fun g' o' e' => ?_
        simp only [Option.some.injEq, Addr.mk.injEq, and_true] at e'
        show (if g' = g1 then _ else _) = _
        rw [if_pos e'.1.symm]
    · refine (h4 i hi (by omega)).keep (fun j hj => ?_) fun g' hg' _ hT => ?_
      · rw [hB.cell, ← (hb.cell (p := ⟨g, 0 + i * 2 + j, none⟩) hlt), (h1.later hb).cell]
        rw [Array.getElem?_setIfInBounds_ne (by omega), Array.getElem?_setIfInBounds_ne (by omega)]
      · have hne : g' ≠ g := fun e => by rw [e, h3] at hT; omega
        refine ⟨(hbut.block g' (Nat.lt_of_lt_of_le hg' hb.size) hne).trans (hb.block g' hg'), ?_⟩
        show (if g' = g1 then _ else T g') = T g'
        rw [if_neg (by omega)]
theorem FillX.done {w : World} {g B : Nat} {fs : List SmpD} (h : FillX w g fs.length fs fs.length) (hB : B ≤ g) : SmpsOwn w B (some ⟨g, 0, none⟩) fs := by
  obtain ⟨cur, T, h1, h2, h3, h4⟩ := h
  refine Or.inr ⟨g, 0, cur, _, T, rfl, hB, h1, h3, fun i hi => ?_⟩
  obtain ⟨a1, c1, k0, k1, k2⟩ := h4 i hi hi
  exact ⟨a1, c1, k0, k1, k2.base hB⟩

def SmallX (fs : List SmpD) : Prop := ∀ i (h : i < fs.length), fs[i].labs.length ≤ 1048576
set_option maxRecDepth 100000 in
set_option maxHeartbeats 1000000 in
theorem toSampleS_any (a : Option Addr) (cap : Nat) (fs : List SmpD) (w : World) (hf : SmpsIn w a fs) (hlen : fs.length ≤ 1048576) (hsm : SmallX fs) :
    Calls Tryd.prog 16 #[.slice a fs.length cap] w fun e w' => e = .returned (.slice (some ⟨w.heap.size, 0, none⟩) fs.length fs.length) ∧ SmpsOwn w' w.heap.size (some ⟨w.heap.size, 0, none⟩) fs ∧ Below w.heap.size w w' ∧ w.heap.size < w'.heap.size := by
  have HF : Hid (SmpsIn w a fs) := hf
  have HSM : Hid (SmallX fs) := hsm
  clear hf hsm
  have hmk := make_samples fs.length hlen
  go_enter Tryd.func16, Tryd.ntmps16
  go_wp2
  go_loopw [4] (fun i wr => ∃ k : Nat, k ≤ fs.length ∧ i = .int .i64 k ∧ FillX wr w.heap.size fs.length fs k ∧ Below w.heap.size w wr ∧ w.heap.size < wr.heap.size) (fun i _ => fs.length - (intOf i).toNat)
  case atStart => exact ⟨0, Nat.zero_le _, rfl, ⟨_, fun _ => 0, Blk.new _ _ _, size_madeCells _ _, rfl, fun i _ h => absurd h (by omega)⟩, (Below.refl _ _).alloc (Nat.le_refl _) _, by simp⟩
  case round =>
    obtain ⟨k, hk, rfl, hfill, hbel, hsz⟩ := hrel
    have HFill : Hid (FillX wr w.heap.size fs.length fs k) := hfill
    clear hfill hmk
    by_cases hlt : k < fs.length
    · obtain ⟨b, o, a1, q1, rfl, hb, c0, c1, p1⟩ := (HF.out.later hbel).at hlt
      have HC : Hid (Calls Tryd.prog 35 #[.agg #[.slice a1 fs[k].labs.length q1, .int .i64 fs[k].bits]] wr fun e w' => ∃ g1, e = .returned (.agg #[.slice (some ⟨g1, 0, none⟩) fs[k].labs.length fs[k].labs.length, .int .i64 fs[k].bits]) ∧
          wr.heap.size ≤ g1 ∧ LabsOwn w' wr.heap.size (some ⟨g1, 0, none⟩) fs[k].labs ∧ Below wr.heap.size wr w') := toSample_any fs[k] a1 q1 wr p1 (HSM.out k hlt)
      clear p1
      go_wp2_with fail
      refine HC.out.mono ?_
      rintro e w' ⟨g1, rfl, hg1, o1, hb2⟩
      have hF2 := HFill.out.later hb2
      obtain ⟨⟨v0, d0⟩, f0⟩ := hF2.cells (j := k * 2) (by omega)
      obtain ⟨⟨v1, d1⟩, f1⟩ := hF2.cells (j := k * 2 + 1) (by omega)
      have HST : Hid (FillX ((w'.setCell ⟨w.heap.size, k * 2, none⟩ (.slice (some ⟨g1, 0, none⟩) fs[k].labs.length fs[k].labs.length)).setCell ⟨w.heap.size, k * 2 + 1, none⟩ (.int .i64 fs[k].bits)) w.heap.size fs.length fs (k + 1)) :=
        HFill.out.step hlt (Nat.le_refl _) hb2 hg1 o1 _
      clear hF2 HC HFill o1 c0 c1
      go_wp2
      exact ⟨⟨k + 1, by omega, by go_num, HST.out, ((hbel.trans (hb2.mono hbel.size)).setCell (Nat.le_refl _) _).setCell (Nat.le_refl _) _, by have := hb2.size; simp; omega⟩, by simp [intOf]; omega⟩
    · go_wp2
      go_ret
      have e : k = fs.length := by omega
      exact ⟨rfl, by have := HFill.out; rw [e] at this; exact this.done (Nat.le_refl _), hbel, hsz⟩

set_option maxRecDepth 100000 in
set_option maxHeartbeats 1000000 in
theorem toRequest_any (r : ReqD) (a : Option Addr) (cap : Nat) (w : World) (hf : SmpsIn w a r.smps) (hlen : r.smps.length ≤ 1048576) (hsm : SmallX r.smps) :
    Calls Tryd.prog 7 #[.agg #[.int .i64 r.kind, .string r.tenant, .string r.metric, .int .i64 r.num, .slice a r.smps.length cap]] w fun e w' => ∃ g, e = .returned (.agg #[.int .i64 r.kind, .string r.tenant, .string r.metric, .int .i64 r.num, .slice (some ⟨g, 0, none⟩) r.smps.length r.smps.length]) ∧ w.heap.size ≤ g ∧ g < w'.heap.size ∧ SmpsOwn w' w.heap.size (some ⟨g, 0, none⟩) r.smps ∧ Below w.heap.size w w' := by
  have HC : Hid (∀ W, Below w.heap.size w W → Calls Tryd.prog 16 #[.slice a r.smps.length cap] W fun e w' => e = .returned (.slice (some ⟨W.heap.size, 0, none⟩) r.smps.length r.smps.length) ∧ SmpsOwn w' W.heap.size (some ⟨W.heap.size, 0, none⟩) r.smps ∧ Below W.heap.size W w' ∧ W.heap.size < w'.heap.size) :=
    fun W hW => toSampleS_any a cap r.smps W (hf.later hW) hlen hsm
  clear hf hsm
  go_enter Tryd.func7, Tryd.ntmps7
  go_wp2_with fail
  refine (HC.out _ (bto (bto (bnew _ _) (bnew _ _)) (bnew _ _))).mono ?_
  rintro e w1 ⟨rfl, o1, hb1, z1⟩
  have B1 : Hid (Below w.heap.size w w1) := bto (bto (bto (bnew _ _) (bnew _ _)) (bnew _ _)) hb1
  have R1 : Hid (Blk w1 (w.heap.size + 1) #[.int .i64 0, .string ByteArray.empty, .string ByteArray.empty, .int .i64 0, .slice none 0 0] 29) := by have := ((Blk.new (w.alloc (.cells #[.int .i64 r.kind, .string r.tenant, .string r.metric, .int .i64 r.num, .slice a r.smps.length cap] 24)) #[.int .i64 0, .string ByteArray.empty, .string ByteArray.empty, .int .i64 0, .slice none 0 0] 29).alloc (.cells #[.int .i64 r.kind, .string r.tenant, .string r.metric, .int .i64 r.num, .slice none 0 0] 29)).later hb1; exact hid (by simpa using this)
  have X1 : Hid (Blk w1 (w.heap.size + 1 + 1) #[.int .i64 r.kind, .string r.tenant, .string r.metric, .int .i64 r.num, .slice none 0 0] 29) := by have := (Blk.new ((w.alloc (.cells #[.int .i64 r.kind, .string r.tenant, .string r.metric, .int .i64 r.num, .slice a r.smps.length cap] 24)).alloc (.cells #[.int .i64 0, .string ByteArray.empty, .string ByteArray.empty, .int .i64 0, .slice none 0 0] 29)) #[.int .i64 r.kind, .string r.tenant, .string r.metric, .int .i64 r.num, .slice none 0 0] 29).later hb1; exact hid (by simpa using this)
  have O1 : Hid (SmpsOwn w1 (w.heap.size + 1 + 1 + 1) (some ⟨w.heap.size + 1 + 1 + 1, 0, none⟩) r.smps) := hid (by simpa using o1)
  have z1' : w.heap.size + 1 + 1 + 1 < w1.heap.size := by simpa using z1
  have r0 : w1.cell? ⟨w.heap.size + 1 + 1, 0, none⟩ = some (.int .i64 r.kind) := X1.out.cell 0
  have r1 : w1.cell? ⟨w.heap.size + 1 + 1, 1, none⟩ = some (.string r.tenant) := X1.out.cell 1
  have r2 : w1.cell? ⟨w.heap.size + 1 + 1, 2, none⟩ = some (.string r.metric) := X1.out.cell 2
  have r3 : w1.cell? ⟨w.heap.size + 1 + 1, 3, none⟩ = some (.int .i64 r.num) := X1.out.cell 3
  have r4 : w1.cell? ⟨w.heap.size + 1 + 1, 4, none⟩ = some (.slice none 0 0) := X1.out.cell 4
  have r5 := X1.out.free 4
  have s0 : w1.cell? ⟨w.heap.size + 1, 0, none⟩ = some (.int .i64 0) := R1.out.cell 0
  have s1 : w1.cell? ⟨w.heap.size + 1, 1, none⟩ = some (.string ByteArray.empty) := R1.out.cell 1
  have s2 : w1.cell? ⟨w.heap.size + 1, 2, none⟩ = some (.string ByteArray.empty) := R1.out.cell 2
  have s3 : w1.cell? ⟨w.heap.size + 1, 3, none⟩ = some (.int .i64 0) := R1.out.cell 3
  have s4 : w1.cell? ⟨w.heap.size + 1, 4, none⟩ = some (.slice none 0 0) := R1.out.cell 4
  have t0 := R1.out.free 0
  have t1 := R1.out.free 1
  have t2 := R1.out.free 2
  have t3 := R1.out.free 3
  have t4 := R1.out.free 4
  clear o1 z1 hb1 HC
  go_wp2
  refine bodyPost_ret (v := .agg #[.int .i64 r.kind, .string r.tenant, .string r.metric, .int .i64 r.num, .slice (some ⟨w.heap.size + 1 + 1 + 1, 0, none⟩) r.smps.length r.smps.length]) (by simp [results, Tryd.results7, go_sem, s0, s1, s2, s3, s4]) rfl ⟨_, rfl, by omega, by simpa using z1', ?_, ?_⟩
  · exact ((((((O1.out.but ((But.refl _ _).setCell _ _) (by omega)).but ((But.refl _ _).setCell _ _) (by omega)).but ((But.refl _ _).setCell _ _) (by omega)).but ((But.refl _ _).setCell _ _) (by omega)).but ((But.refl _ _).setCell _ _) (by omega)).but ((But.refl _ _).setCell _ _) (by omega)).mono (by omega)
  · exact (((((B1.out.setCell (by simp; omega) _).setCell (by simp) _).setCell (by simp) _).setCell (by simp) _).setCell (by simp) _).setCell (by simp) _
end Go.Proofs.YtoecnlhnfhongaaDoor
