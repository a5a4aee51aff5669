import Derived.Test.YtpajhkikcofhfaaGreatDoorProg
import Derived.Test.YtpajhkikcofhfaaGreatDoorJ19TenF
import Derived.Test.YtpajhkikcofhfaaGreatDoorJ02LabB
import Derived.Deep.OwnRows
import Derived.Test.YtpajhkikcofhfaaGreatDoorJ17CntI
namespace Go.Proofs.YtpajhkikcofhfaaGreatDoor
open Go.RowKit

theorem info_tenant : (Tryz.prog.info? 87).map (fun i => (i.zero, i.size, i.bytes)) = some (some (.agg #[.string ByteArray.empty, .int .i64 0, .slice none 0 0, .slice none 0 0]), 4, 72) := by kernel_rfl

/-- make of n tenants: a new block of n * 4 cells. -/
theorem make_tenants (n : Nat) (hn : n ≤ 1048576) (w : World) :
    (Instr.makeSlice 39 (.int .i64 (n : Int)) (.int .i64 (n : Int))).run Tryz.prog w = .ok (.slice (some ⟨w.heap.size, 0, none⟩) n n) (w.alloc (.cells (madeCells #[.string ByteArray.empty, .int .i64 0, .slice none 0 0, .slice none 0 0] (n * 4)) 87)) := by
  obtain ⟨i, hi, hzz⟩ := Option.map_eq_some_iff.1 info_tenant
  simp only [Prod.mk.injEq] at hzz
  obtain ⟨hz, hs, hb⟩ := hzz
  have hr := run_make (P := Tryz.prog) w 39 87 i _ Tryz.underlying39 hi hz .i64 .i64 n n (by omega) (Int.le_refl _) (by rw [hb]; omega) (by omega)
  simp only [Int.toNat_natCast, hs] at hr
  exact hr

/-- The block g holds n tenants' cells, the first k of them ts's, their lists in blocks of their own behind g. -/
def FillT (w : World) (g n : Nat) (ts : List TenD) (k : Nat) : Prop := ∃ (cur : Array Value) (T : Nat → Nat), Blk w g cur 87 ∧ cur.size = n * 4 ∧ T g = 0 ∧ ∀ i (h : i < ts.length), i < k → TenOwn w g T i g (0 + i * 4) ts[i]
theorem FillT.later {w w' : World} {g n k : Nat} {ts : List TenD} (h : FillT w g n ts k) (hb : Below w.heap.size w w') : FillT w' g n ts k := by
  obtain ⟨cur, T, h1, h2, h3, h4⟩ := h
  exact ⟨cur, T, h1.later hb, h2, h3, fun i hi hk => (h4 i hi hk).keep (fun j _ => World.cell?_of_block (hb.block g (lt_of_block h1))) fun g' hg' _ _ => ⟨hb.block g' hg', rfl⟩⟩
theorem FillT.cells {w : World} {g n k : Nat} {fs : List TenD} (h : FillT w g n fs k) {j : Nat} (hj : j < n * 4) : (∃ v, w.cell? ⟨g, j, none⟩ = some v) ∧ w.frozen? ⟨g, j, none⟩ = false := by
  obtain ⟨cur, T, h1, h2, _⟩ := h
  exact ⟨h1.there (by omega), h1.free j⟩
theorem FillT.lt {w : World} {g n k : Nat} {fs : List TenD} (h : FillT w g n fs k) : g < w.heap.size := by
  obtain ⟨cur, T, h1, _⟩ := h
  exact lt_of_block h1
/-- Tenant k is stored, its lists g1, g2 being new since w. -/
theorem FillT.step {w w1 : World} {g n k g1 g2 : Nat} {ts : List TenD} (h : FillT w g n ts k) (hk : k < ts.length) (hn : ts.length ≤ n) (hb : Below w.heap.size w w1) (hg1 : w.heap.size ≤ g1) (hg2 : g1 < g2)
    (o1 : PairsOwn w1 w.heap.size (some ⟨g1, 0, none⟩) ts[k].mets) (o2 : PairsOwn w1 w.heap.size (some ⟨g2, 0, none⟩) ts[k].sers) (q1 q2 : Nat) :
    FillT ((((w1.setCell ⟨g, k * 4, none⟩ (.string ts[k].name)).setCell ⟨g, k * 4 + 1, none⟩ (.int .i64 ts[k].limit)).setCell ⟨g, k * 4 + 2, none⟩ (.slice (some ⟨g1, 0, none⟩) ts[k].mets.length q1)).setCell ⟨g, k * 4 + 3, none⟩ (.slice (some ⟨g2, 0, none⟩) ts[k].sers.length q2)) g n ts (k + 1) := by
  obtain ⟨cur, T, h1, h2, h3, h4⟩ := h
  have hlt := lt_of_block h1
  have hB := (((((h1.later hb).set (k * 4) (.string ts[k].name)).set (k * 4 + 1) (.int .i64 ts[k].limit)).set (k * 4 + 2) (.slice (some ⟨g1, 0, none⟩) ts[k].mets.length q1)).set (k * 4 + 3) (.slice (some ⟨g2, 0, none⟩) ts[k].sers.length q2))
  have hbut : But g w1 ((((w1.setCell ⟨g, k * 4, none⟩ (.string ts[k].name)).setCell ⟨g, k * 4 + 1, none⟩ (.int .i64 ts[k].limit)).setCell ⟨g, k * 4 + 2, none⟩ (.slice (some ⟨g1, 0, none⟩) ts[k].mets.length q1)).setCell ⟨g, k * 4 + 3, none⟩ (.slice (some ⟨g2, 0, none⟩) ts[k].sers.length q2)) :=
    ((((But.refl _ _).setCell _ _).setCell _ _).setCell _ _).setCell _ _
  generalize ((((w1.setCell ⟨g, k * 4, none⟩ (.string ts[k].name)).setCell ⟨g, k * 4 + 1, none⟩ (.int .i64 ts[k].limit)).setCell ⟨g, k * 4 + 2, none⟩ (.slice (some ⟨g1, 0, none⟩) ts[k].mets.length q1)).setCell ⟨g, k * 4 + 3, none⟩ (.slice (some ⟨g2, 0, none⟩) ts[k].sers.length q2)) = w2 at *
  refine ⟨_, fun x => if x = g1 then 2 * k + 1 else if x = g2 then 2 * k + 2 else T x, hB, by simp [h2], ?_, fun i hi hlt' => ?_⟩
  · show (if g = g1 then _ else if g = g2 then _ else T g) = 0
    rw [if_neg (by omega), if_neg (by omega)]; exact h3
  · by_cases e : i = k
    · subst e
      refine ⟨some ⟨g1, 0, none⟩, q1, some ⟨g2, 0, none⟩, q2, ?_, ?_, ?_, ?_, ?_, ?_⟩
      · rw [hB.cell]; simp [Array.getElem?_setIfInBounds]; omega
      · rw [hB.cell]; simp [Array.getElem?_setIfInBounds]; omega
      · rw [hB.cell]; simp [Array.getElem?_setIfInBounds]; omega
      · rw [hB.cell]; simp [Array.getElem?_setIfInBounds]; omega
      · refine ((o1.but hbut (by omega)).mono (by omega)).tag fun g' o' e' => ?_
        simp only [Option.some.injEq, Addr.mk.injEq, and_true] at e'
        show (if g' = g1 then _ else _) = _
        rw [if_pos e'.1.symm]
      · refine ((o2.but hbut (by omega)).mono (by omega)).tag fun g' o' e' => ?_
        simp only [Option.some.injEq, Addr.mk.injEq, and_true] at e'
        show (if g' = g1 then _ else if g' = g2 then _ else _) = _
        rw [if_neg (by omega), if_pos e'.1.symm]
    · refine (h4 i hi (by omega)).keep (fun j hj => ?_) fun g' hg' _ hT => ?_
      · rw [hB.cell, ← (hb.cell (p := ⟨g, 0 + i * 4 + j, none⟩) hlt), (h1.later hb).cell]
        rw [Array.getElem?_setIfInBounds_ne (by omega), Array.getElem?_setIfInBounds_ne (by omega), Array.getElem?_setIfInBounds_ne (by omega), Array.getElem?_setIfInBounds_ne (by omega)]
      · have hne : g' ≠ g := fun e => by rw [e, h3] at hT; omega
        refine ⟨(hbut.block g' (Nat.lt_of_lt_of_le hg' hb.size) hne).trans (hb.block g' hg'), ?_⟩
        show (if g' = g1 then _ else if g' = g2 then _ else T g') = T g'
        rw [if_neg (by omega), if_neg (by omega)]
theorem FillT.done {w : World} {g B : Nat} {fs : List TenD} (h : FillT w g fs.length fs fs.length) (hB : B ≤ g) : TensOwn w B (some ⟨g, 0, none⟩) fs := by
  obtain ⟨cur, T, h1, h2, h3, h4⟩ := h
  refine Or.inr ⟨g, 0, cur, _, T, rfl, hB, h1, h3, fun i hi => ?_⟩
  obtain ⟨a1, c1, a2, c2, k0, k1, k2, k3, k4, k5⟩ := h4 i hi hi
  have m : ∀ {n a ps}, PairsTag w g T n a ps → PairsTag w B T n a ps := fun {n a ps} h => by
    rcases h with h | ⟨g', o', cur', t', e, hB', r⟩
    · exact Or.inl h
    · exact Or.inr ⟨g', o', cur', t', e, by omega, r⟩
  exact ⟨a1, c1, a2, c2, k0, k1, k2, k3, m k4, m k5⟩

def SmallT (fs : List TenD) : Prop := ∀ i (h : i < fs.length), fs[i].mets.length ≤ 1048576 ∧ fs[i].sers.length ≤ 1048576
theorem TensOwn.but {g B : Nat} {w w' : World} {a : Option Addr} {ts : List TenD} (h : TensOwn w B a ts) (hb : But g w w') (hg : g < B) : TensOwn w' B a ts := by
  rcases h with h | ⟨g', o, cur, t, T, rfl, hB, hg', hT, h⟩
  · exact Or.inl h
  · have hk := hb.block g' (lt_of_block hg') (by omega)
    exact Or.inr ⟨g', o, cur, t, T, rfl, hB, hk.trans hg', hT, fun i hi => (h i hi).keep (fun j _ => World.cell?_of_block hk) fun q hq hBq _ => ⟨hb.block q hq (by omega), rfl⟩⟩
theorem TensOwn.mono {B B' : Nat} {w : World} {a : Option Addr} {ts : List TenD} (h : TensOwn w B a ts) (hB' : B' ≤ B) : TensOwn w B' a ts := by
  rcases h with h | ⟨g', o, cur, t, T, rfl, hB, hg', hT, h⟩
  · exact Or.inl h
  · have m : ∀ {n a ps}, PairsTag w B T n a ps → PairsTag w B' T n a ps := fun {n a ps} h => by
      rcases h with h | ⟨g', o', cur', t', e, hB', r⟩
      · exact Or.inl h
      · exact Or.inr ⟨g', o', cur', t', e, by omega, r⟩
    refine Or.inr ⟨g', o, cur, t, T, rfl, by omega, hg', hT, fun i hi => ?_⟩
    obtain ⟨a1, c1, a2, c2, k0, k1, k2, k3, k4, k5⟩ := h i hi
    exact ⟨a1, c1, a2, c2, k0, k1, k2, k3, m k4, m k5⟩

end Go.Proofs.YtpajhkikcofhfaaGreatDoor

namespace Go.Proofs.YtpajhkikcofhfaaGreatDoor
open Go.RowKit

end Go.Proofs.YtpajhkikcofhfaaGreatDoor

namespace Go.Proofs.YtpajhkikcofhfaaGreatDoor
open Go.RowKit

def LenT (fs : List TenD) : Prop := ∀ i (h : i < fs.length), fs[i].mets.length ≤ maxLen ∧ fs[i].sers.length ≤ maxLen
end Go.Proofs.YtpajhkikcofhfaaGreatDoor

namespace Go.Proofs.YtpajhkikcofhfaaGreatDoor
open Go.RowKit

theorem pair_bulk_at (ps : List PairD) (k : Nat) (h : k < ps.length) : ps[k].s.size ≤ pairBulk ps := by
  have h1 := pairBulk_take_succ ps k h
  have h2 := pairBulk_take_le ps (k + 1)
  omega
theorem fit_of {ts : List TenD} (h : ts.length + tensBulk ts ≤ 1048576) : FitT ts 1048576 ∧ BigT ts ∧ SmallT ts ∧ LenT ts := by
  have hb : ∀ i (hi : i < ts.length), tenBulk ts[i] ≤ 1048576 := fun i hi => by have := tenBulk_at ts i hi; omega
  have h1 : ∀ i (hi : i < ts.length), ts[i].name.size ≤ 1048576 ∧ ts[i].mets.length ≤ 1048576 ∧ ts[i].sers.length ≤ 1048576 ∧ pairBulk ts[i].mets ≤ 1048576 ∧ pairBulk ts[i].sers ≤ 1048576 := fun i hi => by have := hb i hi; unfold tenBulk at this; omega
  have h2 : ∀ i (hi : i < ts.length), (∀ j (h' : j < ts[i].mets.length), ts[i].mets[j].s.size ≤ 1000000000) ∧ (∀ j (h' : j < ts[i].sers.length), ts[i].sers[j].s.size ≤ 1000000000) := fun i hi =>
    ⟨fun j hj => by have := pair_bulk_at _ j hj; have := h1 i hi; omega, fun j hj => by have := pair_bulk_at _ j hj; have := h1 i hi; omega⟩
  refine ⟨fun i hi => ⟨?_, (h2 i hi).1, (h2 i hi).2, ?_, ?_, ?_⟩, fun i hi => ⟨?_, (h2 i hi).1, (h2 i hi).2, ?_, ?_⟩, fun i hi => ⟨?_, ?_⟩, fun i hi => ⟨?_, ?_⟩⟩ <;> (have := h1 i hi; unfold maxLen at *; omega)

end Go.Proofs.YtpajhkikcofhfaaGreatDoor

