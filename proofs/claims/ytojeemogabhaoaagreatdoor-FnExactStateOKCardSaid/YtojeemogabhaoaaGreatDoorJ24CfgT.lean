import Derived.Test.YtojeemogabhaoaaGreatDoorProg
import Derived.Test.YtojeemogabhaoaaGreatDoorJ23TenF
import Derived.Test.YtojeemogabhaoaaGreatDoorJ01BlkN
import Derived.Deep.OwnRows
import Derived.Test.YtojeemogabhaoaaGreatDoorJ02Ord
import Derived.Test.YtojeemogabhaoaaGreatDoorJ21StaI
import Derived.Test.YtojeemogabhaoaaGreatDoorJ22SSta
namespace Go.Proofs.YtojeemogabhaoaaGreatDoor
open Go.RowKit
theorem info_tenant : (Tryz.prog.info? 55).map (fun i => (i.zero, i.size, i.bytes)) = some (some (.agg #[.string ByteArray.empty, .int .i64 0, .slice none 0 0, .slice none 0 0]), 4, 72) := by kernel_rfl
theorem make_tenants (n : Nat) (hn : n ≤ 1048576) (w : World) :
    (Instr.makeSlice 31 (.int .i64 (n : Int)) (.int .i64 (n : Int))).run Tryz.prog w = .ok (.slice (some ⟨w.heap.size, 0, none⟩) n n) (w.alloc (.cells (madeCells #[.string ByteArray.empty, .int .i64 0, .slice none 0 0, .slice none 0 0] (n * 4)) 55)) := by
  obtain ⟨i, hi, hzz⟩ := Option.map_eq_some_iff.1 info_tenant
  simp only [Prod.mk.injEq] at hzz
  obtain ⟨hz, hs, hb⟩ := hzz
  have hr := run_make (P := Tryz.prog) w 31 55 i _ Tryz.underlying31 hi hz .i64 .i64 n n (by omega) (Int.le_refl _) (by rw [hb]; omega) (by omega)
  simp only [Int.toNat_natCast, hs] at hr
  exact hr
def FillT (w : World) (g n : Nat) (ts : List TenD) (k : Nat) : Prop := ∃ (cur : Array Value) (T : Nat → Nat), Blk w g cur 55 ∧ cur.size = n * 4 ∧ T g = 0 ∧ ∀ i (h : i < ts.length), i < k → TenOwn w g T i g (0 + i * 4) ts[i]
theorem FillT.later {w w' : World} {g n k : Nat} {ts : List TenD} (h : FillT w g n ts k) (hb : Below w.heap.size w w') : FillT w' g n ts k := by
  obtain ⟨cur, T, h1, h2, h3, h4⟩ := h
  exact ⟨cur, T, h1.later hb, h2, h3, fun i hi hk => (h4 i hi hk).keep (fun j _ => World.cell?_of_block (hb.block g (lt_of_block h1))) fun g' hg' _ _ => ⟨hb.block g' hg', rfl⟩⟩
theorem FillT.cells {w : World} {g n k : Nat} {fs : List TenD} (h : FillT w g n fs k) {j : Nat} (hj : j < n * 4) : (∃ v, w.cell? ⟨g, j, none⟩ = some v) ∧ w.frozen? ⟨g, j, none⟩ = false := by
  obtain ⟨cur, T, h1, h2, _⟩ := h
  exact ⟨h1.there (by omega), h1.free j⟩
theorem FillT.lt {w : World} {g n k : Nat} {fs : List TenD} (h : FillT w g n fs k) : g < w.heap.size := by
  obtain ⟨cur, T, h1, _⟩ := h
  exact lt_of_block h1
theorem FillT.step {w w1 : World} {g n k g1 g2 : Nat} {ts : List TenD} (h : FillT w g n ts k) (hk : k < ts.length) (hn : ts.length ≤ n) (hb : Below w.heap.size w w1) (hg1 : w.heap.size ≤ g1) (hg2 : g1 < g2)
    (o1 : PairsOwn w1 w.heap.size (some ⟨g1, 0, none⟩) ts[k].mets) (o2 : PairsOwn w1 w.heap.size (some ⟨g2, 0, none⟩) ts[k].sers) (q1 q2 : Nat) :
    FillT ((((w1.setCell ⟨g, k * 4, none⟩ (.string ts[k].name)).setCell ⟨g, k * 4 + 1, none⟩ (.int .i64 ts[k].limit)).setCell ⟨g, k * 4 + 2, none⟩ (.slice (some ⟨g1, 0, none⟩) ts[k].mets.length q1)).setCell ⟨g, k * 4 + 3, none⟩ (.slice (some ⟨g2, 0, none⟩) ts[k].sers.length q2)) g n ts (k + 1) := by
  obtain ⟨cur, T, h1, h2, h3, h4⟩ := h
  have hlt := lt_of_block h1
  have hB := (((((h1.later hb).set (k * 4) (.string ts[k].name)).set (k * 4 + 1) (.int .i64 ts[k].limit)).set (k * 4 + 2) (.slice (some ⟨g1, 0, none⟩) ts[k].mets.length q1)).set (k * 4 + 3) (.slice (some ⟨g2, 0, none⟩) ts[k].sers.length q2))
  have hbut : But g w1 ((((w1.setCell ⟨g, k * 4, none⟩ (.string ts[k].name)).setCell ⟨g, k * 4 + 1, none⟩ (.int .i64 ts[k].limit)).setCell ⟨g, k * 4 + 2, none⟩ (.slice (some ⟨g1, 0, none⟩) ts[k].mets.length q1)).setCell ⟨g, k * 4 + 3, none⟩ (.slice (some ⟨g2, 0, none⟩) ts[k].sers.length q2)) :=
    ((((But.refl _ _).setCell _ _).setCell _ _).setCell _ _).setCell _ _
  generalize ((((w1.setCell ⟨g, k * 4, none⟩ (.string ts[k].name)).setCell ⟨g, k * 4 + 1, none⟩ (.int .i64 ts[k].limit)).setCell ⟨g, k * 4 + 2, none⟩ (.slice (some ⟨g1, 0, none⟩) ts[k].mets.length q1)).setCell ⟨g, k * 4 + 3, none⟩ (.slice (some ⟨g2, 0, none⟩) ts[k].sers.length q2)) = w2 at *
  refine ⟨_, fun x => if x = g1 then 2 * k + 1 else if x = g2 then 2 * k + 2 else T x, hB, by simp [h2], ?_, fun i hi hlt' => ?_⟩
  · show (if g = g1 then _ else if g = g2 then _ else T g) = 0
    rw [if_neg (by omega), if_neg (by omega)]; exact h3
  · by_cases e : i = k
    · subst e
      refine ⟨some ⟨g1, 0, none⟩, q1, some ⟨g2, 0, none⟩, q2, ?_, ?_, ?_, ?_, ?_, ?_⟩
      · rw [hB.cell]; simp [Array.getElem?_setIfInBounds]; omega
      · rw [hB.cell]; simp [Array.getElem?_setIfInBounds]; omega
      · rw [hB.cell]; simp [Array.getElem?_setIfInBounds]; omega
      · rw [hB.cell]; simp [Array.getElem?_setIfInBounds]; omega
      · refine ((o1.but hbut (by omega)).mono (by omega)).tag fun g' o' e' => ?_
        simp only [Option.some.injEq, Addr.mk.injEq, and_true] at e'
        show (if g' = g1 then _ else _) = _
        rw [if_pos e'.1.symm]
      · refine ((o2.but hbut (by omega)).mono (by omega)).tag fun g' o' e' => ?_
        simp only [Option.some.injEq, Addr.mk.injEq, and_true] at e'
        show (if g' = g1 then _ else if g' = g2 then _ else _) = _
        rw [if_neg (by omega), if_pos e'.1.symm]
    · refine (h4 i hi (by omega)).keep (fun j hj => ?_) fun g' hg' _ hT => ?_
      · rw [hB.cell, ← (hb.cell (p := ⟨g, 0 + i * 4 + j, none⟩) hlt), (h1.later hb).cell]
        rw [Array.getElem?_setIfInBounds_ne (by omega), Array.getElem?_setIfInBounds_ne (by omega), Array.getElem?_setIfInBounds_ne (by omega), Array.getElem?_setIfInBounds_ne (by omega)]
      · have hne : g' ≠ g := fun e => by rw [e, h3] at hT; omega
        refine ⟨(hbut.block g' (Nat.lt_of_lt_of_le hg' hb.size) hne).trans (hb.block g' hg'), ?_⟩
        show (if g' = g1 then _ else if g' = g2 then _ else T g') = T g'
        rw [if_neg (by omega), if_neg (by omega)]
theorem FillT.done {w : World} {g B : Nat} {fs : List TenD} (h : FillT w g fs.length fs fs.length) (hB : B ≤ g) : TensOwn w B (some ⟨g, 0, none⟩) fs := by
  obtain ⟨cur, T, h1, h2, h3, h4⟩ := h
  refine Or.inr ⟨g, 0, cur, _, T, rfl, hB, h1, h3, fun i hi => ?_⟩
  obtain ⟨a1, c1, a2, c2, k0, k1, k2, k3, k4, k5⟩ := h4 i hi hi
  have m : ∀ {n a ps}, PairsTag w g T n a ps → PairsTag w B T n a ps := fun {n a ps} h => by
    rcases h with h | ⟨g', o', cur', t', e, hB', r⟩
    · exact Or.inl h
    · exact Or.inr ⟨g', o', cur', t', e, by omega, r⟩
  exact ⟨a1, c1, a2, c2, k0, k1, k2, k3, m k4, m k5⟩
def SmallT (fs : List TenD) : Prop := ∀ i (h : i < fs.length), fs[i].mets.length ≤ 1048576 ∧ fs[i].sers.length ≤ 1048576
set_option maxRecDepth 100000 in
set_option maxHeartbeats 1000000 in
theorem toTenantS_any (a : Option Addr) (cap : Nat) (fs : List TenD) (w : World) (hf : TensIn w a fs) (hlen : fs.length ≤ 1048576) (hsm : SmallT fs) :
    Calls Tryz.prog 31 #[.slice a fs.length cap] w fun e w' => e = .returned (.slice (some ⟨w.heap.size, 0, none⟩) fs.length fs.length) ∧ TensOwn w' w.heap.size (some ⟨w.heap.size, 0, none⟩) fs ∧ Below w.heap.size w w' ∧ w.heap.size < w'.heap.size := by
  have HF : Hid (TensIn w a fs) := hf
  have HSM : Hid (SmallT fs) := hsm
  clear hf hsm
  have hmk := make_tenants fs.length hlen
  go_enter Tryz.func31, Tryz.ntmps31
  go_wp2
  go_loopw [4] (fun i wr => ∃ k : Nat, k ≤ fs.length ∧ i = .int .i64 k ∧ FillT wr w.heap.size fs.length fs k ∧ Below w.heap.size w wr ∧ w.heap.size < wr.heap.size) (fun i _ => fs.length - (intOf i).toNat)
  case atStart => exact ⟨0, Nat.zero_le _, rfl, ⟨_, fun _ => 0, Blk.new _ _ _, size_madeCells _ _, rfl, fun i _ h => absurd h (by omega)⟩, (Below.refl _ _).alloc (Nat.le_refl _) _, by simp⟩
  case round =>
    obtain ⟨k, hk, rfl, hfill, hbel, hsz⟩ := hrel
    have HFill : Hid (FillT wr w.heap.size fs.length fs k) := hfill
    clear hfill hmk
    by_cases hlt : k < fs.length
    · obtain ⟨b, o, a1, q1, a2, q2, rfl, hb, c0, c1, c2, c3, p1, p2⟩ := (HF.out.later hbel).at hlt
      have HC : Hid (Calls Tryz.prog 58 #[.agg #[.string fs[k].name, .int .i64 fs[k].limit, .slice a1 fs[k].mets.length q1, .slice a2 fs[k].sers.length q2]] wr fun e w' => ∃ g1 g2, e = .returned (.agg #[.string fs[k].name, .int .i64 fs[k].limit, .slice (some ⟨g1, 0, none⟩) fs[k].mets.length fs[k].mets.length, .slice (some ⟨g2, 0, none⟩) fs[k].sers.length fs[k].sers.length]) ∧
          wr.heap.size ≤ g1 ∧ g1 < g2 ∧ PairsOwn w' wr.heap.size (some ⟨g1, 0, none⟩) fs[k].mets ∧ PairsOwn w' wr.heap.size (some ⟨g2, 0, none⟩) fs[k].sers ∧ Below wr.heap.size wr w') := toTenant_any fs[k] a1 a2 q1 q2 wr p1 p2 (HSM.out k hlt).1 (HSM.out k hlt).2
      clear p1 p2
      go_wp2_with fail
      refine HC.out.mono ?_
      rintro e w' ⟨g1, g2, rfl, hg1, hg2, o1, o2, hb2⟩
      have hF2 := HFill.out.later hb2
      obtain ⟨⟨v0, d0⟩, f0⟩ := hF2.cells (j := k * 4) (by omega)
      obtain ⟨⟨v1, d1⟩, f1⟩ := hF2.cells (j := k * 4 + 1) (by omega)
      obtain ⟨⟨v2, d2⟩, f2⟩ := hF2.cells (j := k * 4 + 2) (by omega)
      obtain ⟨⟨v3, d3⟩, f3⟩ := hF2.cells (j := k * 4 + 3) (by omega)
      have HST : Hid (FillT ((((w'.setCell ⟨w.heap.size, k * 4, none⟩ (.string fs[k].name)).setCell ⟨w.heap.size, k * 4 + 1, none⟩ (.int .i64 fs[k].limit)).setCell ⟨w.heap.size, k * 4 + 2, none⟩ (.slice (some ⟨g1, 0, none⟩) fs[k].mets.length fs[k].mets.length)).setCell ⟨w.heap.size, k * 4 + 3, none⟩ (.slice (some ⟨g2, 0, none⟩) fs[k].sers.length fs[k].sers.length)) w.heap.size fs.length fs (k + 1)) :=
        HFill.out.step hlt (Nat.le_refl _) hb2 hg1 hg2 o1 o2 _ _
      clear hF2 HC HFill o1 o2 c0 c1 c2 c3
      go_wp2
      exact ⟨⟨k + 1, by omega, by go_num, HST.out, ((((hbel.trans (hb2.mono hbel.size)).setCell (Nat.le_refl _) _).setCell (Nat.le_refl _) _).setCell (Nat.le_refl _) _).setCell (Nat.le_refl _) _, by have := hb2.size; simp; omega⟩, by simp [intOf]; omega⟩
    · go_wp2
      go_ret
      have e : k = fs.length := by omega
      exact ⟨rfl, by have := HFill.out; rw [e] at this; exact this.done (Nat.le_refl _), hbel, hsz⟩
theorem TensOwn.but {g B : Nat} {w w' : World} {a : Option Addr} {ts : List TenD} (h : TensOwn w B a ts) (hb : But g w w') (hg : g < B) : TensOwn w' B a ts := by
  rcases h with h | ⟨g', o, cur, t, T, rfl, hB, hg', hT, h⟩
  · exact Or.inl h
  · have hk := hb.block g' (lt_of_block hg') (by omega)
    exact Or.inr ⟨g', o, cur, t, T, rfl, hB, hk.trans hg', hT, fun i hi => (h i hi).keep (fun j _ => World.cell?_of_block hk) fun q hq hBq _ => ⟨hb.block q hq (by omega), rfl⟩⟩
theorem TensOwn.mono {B B' : Nat} {w : World} {a : Option Addr} {ts : List TenD} (h : TensOwn w B a ts) (hB' : B' ≤ B) : TensOwn w B' a ts := by
  rcases h with h | ⟨g', o, cur, t, T, rfl, hB, hg', hT, h⟩
  · exact Or.inl h
  · have m : ∀ {n a ps}, PairsTag w B T n a ps → PairsTag w B' T n a ps := fun {n a ps} h => by
      rcases h with h | ⟨g', o', cur', t', e, hB', r⟩
      · exact Or.inl h
      · exact Or.inr ⟨g', o', cur', t', e, by omega, r⟩
    refine Or.inr ⟨g', o, cur, t, T, rfl, by omega, hg', hT, fun i hi => ?_⟩
    obtain ⟨a1, c1, a2, c2, k0, k1, k2, k3, k4, k5⟩ := h i hi
    exact ⟨a1, c1, a2, c2, k0, k1, k2, k3, m k4, m k5⟩
set_option maxRecDepth 100000 in
set_option maxHeartbeats 1000000 in
theorem toState_any (now : Int) (a : Option Addr) (cap : Nat) (fs : List TenD) (w : World) (hf : TensIn w a fs) (hlen : fs.length ≤ 1048576) (hsm : SmallT fs) :
    Calls Tryz.prog 10 #[.agg #[.int .i64 now, .slice a fs.length cap]] w fun e w' => ∃ g, e = .returned (.agg #[.int .i64 now, .slice (some ⟨g, 0, none⟩) fs.length fs.length]) ∧ w.heap.size ≤ g ∧ g < w'.heap.size ∧ TensOwn w' w.heap.size (some ⟨g, 0, none⟩) fs ∧ Below w.heap.size w w' := by
  have HC : Hid (∀ W, Below w.heap.size w W → Calls Tryz.prog 31 #[.slice a fs.length cap] W fun e w' => e = .returned (.slice (some ⟨W.heap.size, 0, none⟩) fs.length fs.length) ∧ TensOwn w' W.heap.size (some ⟨W.heap.size, 0, none⟩) fs ∧ Below W.heap.size W w' ∧ W.heap.size < w'.heap.size) :=
    fun W hW => toTenantS_any a cap fs W (hf.later hW) hlen hsm
  clear hf hsm
  go_enter Tryz.func10, Tryz.ntmps10
  go_wp2_with fail
  refine (HC.out _ (bto (bto (bnew _ _) (bnew _ _)) (bnew _ _))).mono ?_
  rintro e w1 ⟨rfl, o1, hb1, z1⟩
  have B1 : Hid (Below w.heap.size w w1) := bto (bto (bto (bnew _ _) (bnew _ _)) (bnew _ _)) hb1
  have R1 : Hid (Blk w1 (w.heap.size + 1) #[.int .i64 0, .slice none 0 0] 33) := by have := ((Blk.new (w.alloc (.cells #[.int .i64 now, .slice a fs.length cap] 26)) #[.int .i64 0, .slice none 0 0] 33).alloc (.cells #[.int .i64 now, .slice none 0 0] 33)).later hb1; exact hid (by simpa using this)
  have X1 : Hid (Blk w1 (w.heap.size + 1 + 1) #[.int .i64 now, .slice none 0 0] 33) := by have := (Blk.new ((w.alloc (.cells #[.int .i64 now, .slice a fs.length cap] 26)).alloc (.cells #[.int .i64 0, .slice none 0 0] 33)) #[.int .i64 now, .slice none 0 0] 33).later hb1; exact hid (by simpa using this)
  have O1 : Hid (TensOwn w1 (w.heap.size + 1 + 1 + 1) (some ⟨w.heap.size + 1 + 1 + 1, 0, none⟩) fs) := hid (by simpa using o1)
  have z1' : w.heap.size + 1 + 1 + 1 < w1.heap.size := by simpa using z1
  have r0 : w1.cell? ⟨w.heap.size + 1 + 1, 0, none⟩ = some (.int .i64 now) := X1.out.cell 0
  have r1 : w1.cell? ⟨w.heap.size + 1 + 1, 1, none⟩ = some (.slice none 0 0) := X1.out.cell 1
  have r2 := X1.out.free 1
  have s0 : w1.cell? ⟨w.heap.size + 1, 0, none⟩ = some (.int .i64 0) := R1.out.cell 0
  have s1 : w1.cell? ⟨w.heap.size + 1, 1, none⟩ = some (.slice none 0 0) := R1.out.cell 1
  have u0 := R1.out.free 0
  have u1 := R1.out.free 1
  clear o1 z1 hb1 HC
  go_wp2
  refine bodyPost_ret (v := .agg #[.int .i64 now, .slice (some ⟨w.heap.size + 1 + 1 + 1, 0, none⟩) fs.length fs.length]) (by simp [results, Tryz.results10, go_sem, s0, s1]) rfl ⟨_, rfl, by omega, by simpa using z1', ?_, ?_⟩
  · exact (((O1.out.but ((But.refl _ _).setCell _ _) (by omega)).but ((But.refl _ _).setCell _ _) (by omega)).but ((But.refl _ _).setCell _ _) (by omega)).mono (by omega)
  · exact ((B1.out.setCell (by simp; omega) _).setCell (by simp) _).setCell (by simp) _
end Go.Proofs.YtojeemogabhaoaaGreatDoor
namespace Go.Proofs.YtojeemogabhaoaaGreatDoor
open Go.RowKit
set_option maxHeartbeats 400000 in
theorem eqMetricLimit_same (nm : ByteArray) (da : Int) (w : World) :
    Calls Tryz.prog 114 #[.agg #[.string nm, .int .i64 da], .agg #[.string nm, .int .i64 da]] w fun e w' => e = .returned (.bool true) ∧ Below w.heap.size w w' := by
  go_enter Tryz.func114, Tryz.ntmps114
  go_wp2
  go_ret
  exact ⟨rfl, ((Below.refl _ _).alloc (Nat.le_refl _) _).alloc (by simp) _⟩
set_option maxHeartbeats 1000000 in
theorem eqMetricLimitS_same (a a' : Option Addr) (cap cap' : Nat) (fs : List PairD) (w : World) (hf : PairsIn w a fs) (hf' : PairsIn w a' fs) (hlen : fs.length ≤ maxLen) :
    Calls Tryz.prog 92 #[.slice a fs.length cap, .slice a' fs.length cap'] w fun e w' => e = .returned (.bool true) ∧ Below w.heap.size w w' := by
  unfold maxLen at hlen
  have HF : Hid (PairsIn w a fs) := hf
  have HF' : Hid (PairsIn w a' fs) := hf'
  clear hf hf'
  go_enter Tryz.func92, Tryz.ntmps92
  go_wp2
  go_loopw [5] (fun i wr => ∃ k : Nat, k ≤ fs.length ∧ i = .int .i64 k ∧ Below w.heap.size w wr) (fun i _ => fs.length - (intOf i).toNat)
  case atStart => exact ⟨0, Nat.zero_le _, rfl, Below.refl _ _⟩
  case round =>
    obtain ⟨k, hk, rfl, hbel⟩ := hrel
    by_cases hlt : k < fs.length
    · obtain ⟨b, o, rfl, hb, c0, c1⟩ := (HF.out.later hbel).at hlt
      obtain ⟨b', o', rfl, hb', c0', c1'⟩ := (HF'.out.later hbel).at hlt
      have d0 := Later.cells c0
      have d1 := Later.cells c1
      have d0' := Later.cells c0'
      have d1' := Later.cells c1'
      clear c0 c1 c0' c1'
      have hne := Later.there wr
      go_wp2_with fail
      refine wp_region_later (by kernel_rfl) (by kernel_rfl) ?_
      repeat (go_big_quiet_step (refine calls_later (eqMetricLimit_same _ _ _)))
      refine wpQuiet_nil ?_
      rintro _ ⟨x, rfl⟩
      go_wp2
      exact ⟨⟨k + 1, by omega, by go_num, hbel.trans (x.h.mono hbel.size)⟩, by simp [intOf]; omega⟩
    · go_wp2
      go_ret
      exact ⟨rfl, hbel⟩
set_option maxHeartbeats 400000 in
theorem eqSeries_same (nm : ByteArray) (da : Int) (w : World) :
    Calls Tryz.prog 115 #[.agg #[.string nm, .int .i64 da], .agg #[.string nm, .int .i64 da]] w fun e w' => e = .returned (.bool true) ∧ Below w.heap.size w w' := by
  go_enter Tryz.func115, Tryz.ntmps115
  go_wp2
  go_ret
  exact ⟨rfl, ((Below.refl _ _).alloc (Nat.le_refl _) _).alloc (by simp) _⟩
set_option maxHeartbeats 1000000 in
theorem eqSeriesS_same (a a' : Option Addr) (cap cap' : Nat) (fs : List PairD) (w : World) (hf : PairsIn w a fs) (hf' : PairsIn w a' fs) (hlen : fs.length ≤ maxLen) :
    Calls Tryz.prog 93 #[.slice a fs.length cap, .slice a' fs.length cap'] w fun e w' => e = .returned (.bool true) ∧ Below w.heap.size w w' := by
  unfold maxLen at hlen
  have HF : Hid (PairsIn w a fs) := hf
  have HF' : Hid (PairsIn w a' fs) := hf'
  clear hf hf'
  go_enter Tryz.func93, Tryz.ntmps93
  go_wp2
  go_loopw [5] (fun i wr => ∃ k : Nat, k ≤ fs.length ∧ i = .int .i64 k ∧ Below w.heap.size w wr) (fun i _ => fs.length - (intOf i).toNat)
  case atStart => exact ⟨0, Nat.zero_le _, rfl, Below.refl _ _⟩
  case round =>
    obtain ⟨k, hk, rfl, hbel⟩ := hrel
    by_cases hlt : k < fs.length
    · obtain ⟨b, o, rfl, hb, c0, c1⟩ := (HF.out.later hbel).at hlt
      obtain ⟨b', o', rfl, hb', c0', c1'⟩ := (HF'.out.later hbel).at hlt
      have d0 := Later.cells c0
      have d1 := Later.cells c1
      have d0' := Later.cells c0'
      have d1' := Later.cells c1'
      clear c0 c1 c0' c1'
      have hne := Later.there wr
      go_wp2_with fail
      refine wp_region_later (by kernel_rfl) (by kernel_rfl) ?_
      repeat (go_big_quiet_step (refine calls_later (eqSeries_same _ _ _)))
      refine wpQuiet_nil ?_
      rintro _ ⟨x, rfl⟩
      go_wp2
      exact ⟨⟨k + 1, by omega, by go_num, hbel.trans (x.h.mono hbel.size)⟩, by simp [intOf]; omega⟩
    · go_wp2
      go_ret
      exact ⟨rfl, hbel⟩
end Go.Proofs.YtojeemogabhaoaaGreatDoor
namespace Go.Proofs.YtojeemogabhaoaaGreatDoor
open Go.RowKit
set_option maxRecDepth 100000 in
set_option maxHeartbeats 1000000 in
theorem eqTenant_same (f : TenD) (a1 a2 b1 b2 : Option Addr) (c1 c2 d1 d2 : Nat) (w : World) (p1 : PairsIn w a1 f.mets) (p2 : PairsIn w a2 f.sers) (q1 : PairsIn w b1 f.mets) (q2 : PairsIn w b2 f.sers) (l1 : f.mets.length ≤ maxLen) (l2 : f.sers.length ≤ maxLen) :
    Calls Tryz.prog 62 #[.agg #[.string f.name, .int .i64 f.limit, .slice a1 f.mets.length c1, .slice a2 f.sers.length c2], .agg #[.string f.name, .int .i64 f.limit, .slice b1 f.mets.length d1, .slice b2 f.sers.length d2]] w fun e w' => e = .returned (.bool true) ∧ Below w.heap.size w w' := by
  have HM : Hid (∀ W, Below w.heap.size w W → Calls Tryz.prog 92 #[.slice a1 f.mets.length c1, .slice b1 f.mets.length d1] W fun e w' => e = .returned (.bool true) ∧ Below W.heap.size W w') :=
    fun W hW => eqMetricLimitS_same a1 b1 c1 d1 f.mets W (p1.later hW) (q1.later hW) l1
  have HS : Hid (∀ W, Below w.heap.size w W → Calls Tryz.prog 93 #[.slice a2 f.sers.length c2, .slice b2 f.sers.length d2] W fun e w' => e = .returned (.bool true) ∧ Below W.heap.size W w') :=
    fun W hW => eqSeriesS_same a2 b2 c2 d2 f.sers W (p2.later hW) (q2.later hW) l2
  clear p1 p2 q1 q2
  go_enter Tryz.func62, Tryz.ntmps62
  go_wp2_with fail
  refine (HM.out _ (bto (bnew _ _) (bnew _ _))).mono ?_
  rintro e w1 ⟨rfl, hb1⟩
  have B1 : Hid (Below w.heap.size w w1) := bto (bto (bnew _ _) (bnew _ _)) hb1
  have t0 : w1.cell? ⟨w.heap.size, 3, none⟩ = some (.slice a2 f.sers.length c2) := (((Blk.new w _ _).alloc _).later hb1).cell 3
  have t1 : w1.cell? ⟨w.heap.size + 1, 3, none⟩ = some (.slice b2 f.sers.length d2) := by
    have := ((Blk.new (w.alloc (.cells #[.string f.name, .int .i64 f.limit, .slice a1 f.mets.length c1, .slice a2 f.sers.length c2] 55)) #[.string f.name, .int .i64 f.limit, .slice b1 f.mets.length d1, .slice b2 f.sers.length d2] 55).later hb1).cell 3
    simpa using this
  clear hb1
  go_wp2_with fail
  refine (HS.out _ B1.out).mono ?_
  rintro e w2 ⟨rfl, hb2⟩
  have B2 : Hid (Below w.heap.size w w2) := bto B1.out hb2
  clear hb2
  go_wp2
  go_ret
  exact ⟨rfl, B2.out⟩
def LenT (fs : List TenD) : Prop := ∀ i (h : i < fs.length), fs[i].mets.length ≤ maxLen ∧ fs[i].sers.length ≤ maxLen
set_option maxRecDepth 100000 in
set_option maxHeartbeats 2000000 in
theorem eqTenantS_same (a a' : Option Addr) (cap cap' : Nat) (fs : List TenD) (w : World) (hf : TensIn w a fs) (hf' : TensIn w a' fs) (hlen : fs.length ≤ maxLen) (hl : LenT fs) :
    Calls Tryz.prog 33 #[.slice a fs.length cap, .slice a' fs.length cap'] w fun e w' => e = .returned (.bool true) ∧ Below w.heap.size w w' := by
  unfold maxLen at hlen
  have HF : Hid (TensIn w a fs) := hf
  have HF' : Hid (TensIn w a' fs) := hf'
  have HL : Hid (LenT fs) := hl
  clear hf hf' hl
  go_enter Tryz.func33, Tryz.ntmps33
  go_wp2
  go_loopw [5] (fun i wr => ∃ k : Nat, k ≤ fs.length ∧ i = .int .i64 k ∧ Below w.heap.size w wr) (fun i _ => fs.length - (intOf i).toNat)
  case atStart => exact ⟨0, Nat.zero_le _, rfl, Below.refl _ _⟩
  case round =>
    obtain ⟨k, hk, rfl, hbel⟩ := hrel
    by_cases hlt : k < fs.length
    · obtain ⟨b, o, a1, q1, a2, q2, rfl, hb, c0, c1, c2, c3, p1, p2⟩ := (HF.out.later hbel).at hlt
      obtain ⟨b', o', b1, r1, b2, r2, rfl, hb', e0, e1, e2, e3, s1, s2⟩ := (HF'.out.later hbel).at hlt
      have d0 := Later.cells c0
      have d1 := Later.cells c1
      have d2 := Later.cells c2
      have d3 := Later.cells c3
      have g0 := Later.cells e0
      have g1 := Later.cells e1
      have g2 := Later.cells e2
      have g3 := Later.cells e3
      have HC : Hid (∀ x : Later wr, Calls Tryz.prog 62 #[.agg #[.string fs[k].name, .int .i64 fs[k].limit, .slice a1 fs[k].mets.length q1, .slice a2 fs[k].sers.length q2], .agg #[.string fs[k].name, .int .i64 fs[k].limit, .slice b1 fs[k].mets.length r1, .slice b2 fs[k].sers.length r2]] x.w' fun e w' => e = .returned (.bool true) ∧ Below x.w'.heap.size x.w' w') :=
        fun x => eqTenant_same fs[k] _ _ _ _ _ _ _ _ x.w' (p1.later x.h) (p2.later x.h) (s1.later x.h) (s2.later x.h) (HL.out k hlt).1 (HL.out k hlt).2
      clear c0 c1 c2 c3 e0 e1 e2 e3 p1 p2 s1 s2
      have hne := Later.there wr
      go_wp2_with fail
      refine wp_region_later (by kernel_rfl) (by kernel_rfl) ?_
      repeat (go_big_quiet_step (exact calls_later (HC.out _)))
      refine wpQuiet_nil ?_
      rintro _ ⟨x, rfl⟩
      go_wp2
      exact ⟨⟨k + 1, by omega, by go_num, hbel.trans (x.h.mono hbel.size)⟩, by simp [intOf]; omega⟩
    · go_wp2
      go_ret
      exact ⟨rfl, hbel⟩
set_option maxRecDepth 100000 in
set_option maxHeartbeats 1000000 in
theorem eqState_same (now : Int) (a a' : Option Addr) (cap cap' : Nat) (fs : List TenD) (w : World) (hf : TensIn w a fs) (hf' : TensIn w a' fs) (hlen : fs.length ≤ maxLen) (hl : LenT fs) :
    Calls Tryz.prog 12 #[.agg #[.int .i64 now, .slice a fs.length cap], .agg #[.int .i64 now, .slice a' fs.length cap']] w fun e w' => e = .returned (.bool true) ∧ Below w.heap.size w w' := by
  have HC : Hid (∀ W, Below w.heap.size w W → Calls Tryz.prog 33 #[.slice a fs.length cap, .slice a' fs.length cap'] W fun e w' => e = .returned (.bool true) ∧ Below W.heap.size W w') :=
    fun W hW => eqTenantS_same a a' cap cap' fs W (hf.later hW) (hf'.later hW) hlen hl
  clear hf hf' hl
  go_enter Tryz.func12, Tryz.ntmps12
  go_wp2_with fail
  refine (HC.out _ (bto (bnew _ _) (bnew _ _))).mono ?_
  rintro e w1 ⟨rfl, hb1⟩
  have B1 : Hid (Below w.heap.size w w1) := bto (bto (bnew _ _) (bnew _ _)) hb1
  clear hb1
  go_wp2
  go_ret
  exact ⟨rfl, B1.out⟩
end Go.Proofs.YtojeemogabhaoaaGreatDoor
namespace Go.Proofs.YtojeemogabhaoaaGreatDoor
open Go.RowKit
theorem pair_bulk_at (ps : List PairD) (k : Nat) (h : k < ps.length) : ps[k].s.size ≤ pairBulk ps := by
  have h1 := pairBulk_take_succ ps k h
  have h2 := pairBulk_take_le ps (k + 1)
  omega
theorem fit_of {ts : List TenD} (h : ts.length + tensBulk ts ≤ 1048576) : FitT ts 1048576 ∧ BigT ts ∧ SmallT ts ∧ LenT ts := by
  have hb : ∀ i (hi : i < ts.length), tenBulk ts[i] ≤ 1048576 := fun i hi => by have := tenBulk_at ts i hi; omega
  have h1 : ∀ i (hi : i < ts.length), ts[i].name.size ≤ 1048576 ∧ ts[i].mets.length ≤ 1048576 ∧ ts[i].sers.length ≤ 1048576 ∧ pairBulk ts[i].mets ≤ 1048576 ∧ pairBulk ts[i].sers ≤ 1048576 := fun i hi => by have := hb i hi; unfold tenBulk at this; omega
  have h2 : ∀ i (hi : i < ts.length), (∀ j (h' : j < ts[i].mets.length), ts[i].mets[j].s.size ≤ 1000000000) ∧ (∀ j (h' : j < ts[i].sers.length), ts[i].sers[j].s.size ≤ 1000000000) := fun i hi =>
    ⟨fun j hj => by have := pair_bulk_at _ j hj; have := h1 i hi; omega, fun j hj => by have := pair_bulk_at _ j hj; have := h1 i hi; omega⟩
  refine ⟨fun i hi => ⟨?_, (h2 i hi).1, (h2 i hi).2, ?_, ?_, ?_⟩, fun i hi => ⟨?_, (h2 i hi).1, (h2 i hi).2, ?_, ?_⟩, fun i hi => ⟨?_, ?_⟩, fun i hi => ⟨?_, ?_⟩⟩ <;> (have := h1 i hi; unfold maxLen at *; omega)
end Go.Proofs.YtojeemogabhaoaaGreatDoor
namespace Go.Proofs.YtojeemogabhaoaaGreatDoor
open Go.RowKit
set_option maxRecDepth 100000 in
set_option maxHeartbeats 1000000 in
theorem szTenant_any (f : TenD) (a1 a2 : Option Addr) (c1 c2 : Nat) (left : Int) (w : World) (h0 : 0 ≤ left) (h1 : left ≤ 1048576) (hs : ShortTen f) (p1 : PairsIn w a1 f.mets) (p2 : PairsIn w a2 f.sers) :
    Calls Tryz.prog 54 #[.agg #[.string f.name, .int .i64 f.limit, .slice a1 f.mets.length c1, .slice a2 f.sers.length c2], .int .i64 left] w fun e w' => e = .returned (.int .i64 (szTen left f)) ∧ Below w.heap.size w w' := by
  obtain ⟨hn, hsm, hlm, hss, hls⟩ := hs
  unfold maxLen at hn
  by_cases k1 : left - f.name.size < 0
  · have E : Hid (szTen left f = -1) := by show _ = _; unfold szTen tenBulk; rw [if_neg]; omega
    clear p1 p2 hsm hlm hss hls
    go_enter Tryz.func54, Tryz.ntmps54
    go_wp2
    go_ret
    exact ⟨ret_int E.out.symm, bnew _ _⟩
  have HM : Hid (∀ W, Below w.heap.size w W → Calls Tryz.prog 82 #[.slice a1 f.mets.length c1, .int .i64 (left - f.name.size)] W fun e w' => e = .returned (.int .i64 (szPairs (left - f.name.size) f.mets)) ∧ Below W.heap.size W w') :=
    fun W hW => szMetricLimitS_any a1 c1 f.mets _ W (by omega) (by omega) (p1.later hW) hsm hlm
  by_cases k2 : (f.mets.length + pairBulk f.mets : Int) ≤ left - f.name.size
  · have e2 : szPairs (left - f.name.size) f.mets = left - f.name.size - f.mets.length - pairBulk f.mets := by unfold szPairs; rw [if_pos k2]
    rw [e2] at HM
    have k2' : ¬ (left - f.name.size - f.mets.length - pairBulk f.mets < 0) := by omega
    have HS : Hid (∀ W, Below w.heap.size w W → Calls Tryz.prog 83 #[.slice a2 f.sers.length c2, .int .i64 (left - f.name.size - f.mets.length - pairBulk f.mets)] W fun e w' => e = .returned (.int .i64 (szPairs (left - f.name.size - f.mets.length - pairBulk f.mets) f.sers)) ∧ Below W.heap.size W w') :=
      fun W hW => szSeriesS_any a2 c2 f.sers _ W (by omega) (by omega) (p2.later hW) hss hls
    by_cases k3 : (f.sers.length + pairBulk f.sers : Int) ≤ left - f.name.size - f.mets.length - pairBulk f.mets
    · have e3 : szPairs (left - f.name.size - f.mets.length - pairBulk f.mets) f.sers = left - f.name.size - f.mets.length - pairBulk f.mets - f.sers.length - pairBulk f.sers := by unfold szPairs; rw [if_pos k3]
      rw [e3] at HS
      have k3' : ¬ (left - f.name.size - f.mets.length - pairBulk f.mets - f.sers.length - pairBulk f.sers < 0) := by omega
      have E : Hid (szTen left f = left - f.name.size - f.mets.length - pairBulk f.mets - f.sers.length - pairBulk f.sers) := by show _ = _; unfold szTen tenBulk; rw [if_pos] <;> omega
      clear p1 p2 hsm hlm hss hls e2 e3 k2 k3
      go_enter Tryz.func54, Tryz.ntmps54
      go_wp2_with fail
      refine (HM.out _ (bnew _ _)).mono ?_
      rintro e w1 ⟨rfl, hb1⟩
      have B1 : Hid (Below w.heap.size w w1) := bto (bnew _ _) hb1
      obtain ⟨hc, hf⟩ := bcell hb1
      clear hb1
      go_wp2_with fail
      refine (HS.out _ B1.out).mono ?_
      rintro e w2 ⟨rfl, hb2⟩
      have B2 : Hid (Below w.heap.size w w2) := bto B1.out hb2
      clear hb2 hc hf
      go_wp2
      go_ret
      exact ⟨ret_int E.out.symm, B2.out⟩
    · have e3 : szPairs (left - f.name.size - f.mets.length - pairBulk f.mets) f.sers = -1 := by unfold szPairs; rw [if_neg k3]
      rw [e3] at HS
      have E : Hid (szTen left f = -1) := by show _ = _; unfold szTen tenBulk; rw [if_neg]; omega
      clear p1 p2 hsm hlm hss hls e2 e3 k2 k3
      go_enter Tryz.func54, Tryz.ntmps54
      go_wp2_with fail
      refine (HM.out _ (bnew _ _)).mono ?_
      rintro e w1 ⟨rfl, hb1⟩
      have B1 : Hid (Below w.heap.size w w1) := bto (bnew _ _) hb1
      obtain ⟨hc, hf⟩ := bcell hb1
      clear hb1
      go_wp2_with fail
      refine (HS.out _ B1.out).mono ?_
      rintro e w2 ⟨rfl, hb2⟩
      have B2 : Hid (Below w.heap.size w w2) := bto B1.out hb2
      clear hb2 hc hf
      go_wp2
      go_ret
      exact ⟨ret_int E.out.symm, B2.out⟩
  · have e2 : szPairs (left - f.name.size) f.mets = -1 := by unfold szPairs; rw [if_neg k2]
    rw [e2] at HM
    have E : Hid (szTen left f = -1) := by show _ = _; unfold szTen tenBulk; rw [if_neg]; omega
    clear p1 p2 hsm hlm hss hls e2 k2
    go_enter Tryz.func54, Tryz.ntmps54
    go_wp2_with fail
    refine (HM.out _ (bnew _ _)).mono ?_
    rintro e w1 ⟨rfl, hb1⟩
    have B1 : Hid (Below w.heap.size w w1) := bto (bnew _ _) hb1
    clear hb1
    go_wp2
    go_ret
    exact ⟨ret_int E.out.symm, B1.out⟩
set_option maxRecDepth 100000 in
set_option maxHeartbeats 1000000 in
theorem szTenantS_any (a : Option Addr) (cap : Nat) (fs : List TenD) (left : Int) (w : World) (h0 : 0 ≤ left) (h1 : left ≤ 1048576) (hf : TensIn w a fs) (hs : ShortT fs) (hlen : fs.length ≤ maxLen) :
    Calls Tryz.prog 24 #[.slice a fs.length cap, .int .i64 left] w fun e w' => e = .returned (.int .i64 (szTens left fs)) ∧ Below w.heap.size w w' := by
  unfold maxLen at hlen
  by_cases c1 : left - fs.length < 0
  · have e : szTens left fs = -1 := by unfold szTens; rw [if_neg]; omega
    rw [e]
    clear hf hs
    go_enter Tryz.func24, Tryz.ntmps24
    go_wp2
    go_ret
    exact ⟨rfl, Below.refl _ _⟩
  · have hne : ¬ (left - fs.length < 0) := c1
    have HF : Hid (TensIn w a fs) := hf
    have HS : Hid (ShortT fs) := hs
    clear hf hs
    go_enter Tryz.func24, Tryz.ntmps24
    go_wp2
    go_loopw [1, 5] (fun l i wr => ∃ k : Nat, k ≤ fs.length ∧ i = .int .i64 k ∧ (tensBulk (fs.take k) : Int) ≤ left - fs.length ∧ l = .int .i64 (left - fs.length - tensBulk (fs.take k)) ∧ Below w.heap.size w wr) (fun _ i _ => fs.length - (intOf i).toNat)
    case atStart => exact ⟨0, Nat.zero_le _, rfl, by simp [tensBulk]; omega, by simp [tensBulk], Below.refl _ _⟩
    case round =>
      obtain ⟨k, hk, rfl, hle, rfl, hbel⟩ := hrel
      by_cases hlt : k < fs.length
      · obtain ⟨b, o, a1, q1, a2, q2, rfl, hb, c0, c1, c2, c3, p1, p2⟩ := (HF.out.later hbel).at hlt
        have hss := HS.out k hlt
        have hts := tensBulk_take_succ fs k hlt
        have htl := tensBulk_take_le fs (k + 1)
        have HC : Hid (∀ L : Int, 0 ≤ L → L ≤ 1048576 → Calls Tryz.prog 54 #[.agg #[.string fs[k].name, .int .i64 fs[k].limit, .slice a1 fs[k].mets.length q1, .slice a2 fs[k].sers.length q2], .int .i64 L] wr fun e w' => e = .returned (.int .i64 (szTen L fs[k])) ∧ Below wr.heap.size wr w') :=
          fun L g0 g1 => szTenant_any fs[k] a1 a2 q1 q2 L wr g0 g1 hss p1 p2
        clear p1 p2 hss
        by_cases c3 : (tenBulk fs[k] : Int) ≤ left - fs.length - tensBulk (fs.take k)
        · have E : Hid (szTen (left - fs.length - tensBulk (fs.take k)) fs[k] = left - fs.length - tensBulk (fs.take (k + 1))) := by
            show _ = _
            unfold szTen; rw [if_pos (by omega), hts]; omega
          have hle2 : (tensBulk (fs.take (k + 1)) : Int) ≤ left - fs.length := by omega
          clear hts
          go_wp2_with fail
          refine (HC.out _ (by omega) (by omega)).mono ?_
          rintro e w' ⟨rfl, hb2⟩
          rw [E.out]
          clear HC
          go_wp2
          exact ⟨⟨k + 1, by omega, by go_num, hle2, rfl, hbel.trans (hb2.mono hbel.size)⟩, by simp [intOf]; omega⟩
        · have E : Hid (szTen (left - fs.length - tensBulk (fs.take k)) fs[k] = -1) := by
            show _ = _
            unfold szTen; rw [if_neg (by omega)]
          have E2 : Hid (szTens left fs = -1) := by show szTens left fs = -1; unfold szTens; rw [if_neg (by omega)]
          clear hts
          go_wp2_with fail
          refine (HC.out _ (by omega) (by omega)).mono ?_
          rintro e w' ⟨rfl, hb2⟩
          rw [E.out]
          clear HC
          go_wp2
          go_ret
          exact ⟨ret_int E2.out.symm, hbel.trans (hb2.mono hbel.size)⟩
      · go_wp2
        go_ret
        have e : fs.take k = fs := List.take_of_length_le (by omega)
        rw [e] at hle ⊢
        exact ⟨ret_int (by unfold szTens; rw [if_pos (by omega)]), hbel⟩
set_option maxHeartbeats 1000000 in
theorem szState_any (a : Option Addr) (cap : Nat) (fs : List TenD) (now : Int) (left : Int) (w : World) (h0 : 0 ≤ left) (h1 : left ≤ 1048576) (hf : TensIn w a fs) (hs : ShortT fs) (hlen : fs.length ≤ maxLen) :
    Calls Tryz.prog 7 #[.agg #[.int .i64 now, .slice a fs.length cap], .int .i64 left] w fun e w' => e = .returned (.int .i64 (szTens left fs)) ∧ Below w.heap.size w w' := by
  have HC : Hid (∀ W, Below w.heap.size w W → Calls Tryz.prog 24 #[.slice a fs.length cap, .int .i64 left] W fun e w' => e = .returned (.int .i64 (szTens left fs)) ∧ Below W.heap.size W w') :=
    fun W hW => szTenantS_any a cap fs left W h0 h1 (hf.later hW) hs hlen
  clear hf hs
  by_cases c : (fs.length + tensBulk fs : Int) ≤ left
  · have e : szTens left fs = left - fs.length - tensBulk fs := by unfold szTens; rw [if_pos c]
    rw [e] at HC ⊢
    have hn : ¬ (left - fs.length - tensBulk fs < 0) := by omega
    generalize left - fs.length - tensBulk fs = L at *
    clear e
    go_enter Tryz.func7, Tryz.ntmps7
    go_wp2_with fail
    refine (HC.out _ (bnew _ _)).mono ?_
    rintro e w1 ⟨rfl, hb1⟩
    have B1 : Hid (Below w.heap.size w w1) := bto (bnew _ _) hb1
    clear hb1
    go_wp2
    go_ret
    exact ⟨rfl, B1.out⟩
  · have e : szTens left fs = -1 := by unfold szTens; rw [if_neg c]
    rw [e] at HC ⊢
    clear e
    go_enter Tryz.func7, Tryz.ntmps7
    go_wp2_with fail
    refine (HC.out _ (bnew _ _)).mono ?_
    rintro e w1 ⟨rfl, hb1⟩
    have B1 : Hid (Below w.heap.size w w1) := bto (bnew _ _) hb1
    clear hb1
    go_wp2
    go_ret
    exact ⟨rfl, B1.out⟩
end Go.Proofs.YtojeemogabhaoaaGreatDoor
namespace Go.Proofs.YtojeemogabhaoaaGreatDoor
open Go.RowKit
set_option maxRecDepth 100000 in
set_option maxHeartbeats 1000000 in
theorem toConfig_any (c0 c1 c2 c3 c4 c5 : Int) (w : World) :
    Calls Tryz.prog 9 #[.agg #[.int .i64 c0, .int .i64 c1, .int .i64 c2, .int .i64 c3, .int .i64 c4, .int .i64 c5]] w fun e w' => e = .returned (.agg #[.int .i64 c0, .int .i64 c1, .int .i64 c2, .int .i64 c3, .int .i64 c4, .int .i64 c5]) ∧ Below w.heap.size w w' := by
  go_enter Tryz.func9, Tryz.ntmps9
  go_wp2
  exact bodyPost_ret (v := .agg #[.int .i64 c0, .int .i64 c1, .int .i64 c2, .int .i64 c3, .int .i64 c4, .int .i64 c5]) (by simp [results, Tryz.results9, go_sem]) rfl ⟨rfl, (((Below.refl _ _).alloc (Nat.le_refl _) _).alloc (by simp) _).alloc (by simp; omega) _⟩
end Go.Proofs.YtojeemogabhaoaaGreatDoor
