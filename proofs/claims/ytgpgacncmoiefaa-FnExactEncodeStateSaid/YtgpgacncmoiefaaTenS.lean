import Derived.Test.YtgpgacncmoiefaaProg
import Derived.Test.YtgpgacncmoiefaaTenF
namespace Go.Proofs.Ytgpgacncmoiefaa
open Go.RowKit

theorem info_tenant : (Try.prog.info? 87).map (fun i => (i.zero, i.size, i.bytes)) = some (some (.agg #[.string ByteArray.empty, .int .i64 0, .slice none 0 0, .slice none 0 0]), 4, 72) := by kernel_rfl

/-- make of n tenants: a new block of n * 4 cells. -/
theorem make_tenants (n : Nat) (hn : n ≤ 1048576) (w : World) :
    (Instr.makeSlice 49 (.int .i64 (n : Int)) (.int .i64 (n : Int))).run Try.prog w = .ok (.slice (some ⟨w.heap.size, 0, none⟩) n n) (w.alloc (.cells (madeCells #[.string ByteArray.empty, .int .i64 0, .slice none 0 0, .slice none 0 0] (n * 4)) 87)) := by
  obtain ⟨i, hi, hzz⟩ := Option.map_eq_some_iff.1 info_tenant
  simp only [Prod.mk.injEq] at hzz
  obtain ⟨hz, hs, hb⟩ := hzz
  have hr := run_make (P := Try.prog) w 49 87 i _ Try.underlying49 hi hz .i64 .i64 n n (by omega) (Int.le_refl _) (by rw [hb]; omega) (by omega)
  simp only [Int.toNat_natCast, hs] at hr
  exact hr

/-- The block g holds n tenants' cells, the first k of them ts's, their lists in blocks of their own behind g. -/
def FillT (w : World) (g n : Nat) (ts : List TenD) (k : Nat) : Prop := ∃ (cur : Array Value) (T : Nat → Nat), Blk w g cur 87 ∧ cur.size = n * 4 ∧ T g = 0 ∧ ∀ i (h : i < ts.length), i < k → TenOwn w g T i g (0 + i * 4) ts[i]
theorem FillT.later {w w' : World} {g n k : Nat} {ts : List TenD} (h : FillT w g n ts k) (hb : Below w.heap.size w w') : FillT w' g n ts k := by
  obtain ⟨cur, T, h1, h2, h3, h4⟩ := h
  exact ⟨cur, T, h1.later hb, h2, h3, fun i hi hk => (h4 i hi hk).keep (fun j _ => World.cell?_of_block (hb.block g (lt_of_block h1))) fun g' hg' _ _ => ⟨hb.block g' hg', rfl⟩⟩
theorem FillT.cells {w : World} {g n k : Nat} {fs : List TenD} (h : FillT w g n fs k) {j : Nat} (hj : j < n * 4) : (∃ v, w.cell? ⟨g, j, none⟩ = some v) ∧ w.frozen? ⟨g, j, none⟩ = false := by
  obtain ⟨cur, T, h1, h2, _⟩ := h
  exact ⟨h1.there (by omega), h1.free j⟩
theorem FillT.lt {w : World} {g n k : Nat} {fs : List TenD} (h : FillT w g n fs k) : g < w.heap.size := by
  obtain ⟨cur, T, h1, _⟩ := h
  exact lt_of_block h1
/-- Tenant k is stored, its lists g1, g2 being new since w. -/
theorem FillT.step {w w1 : World} {g n k g1 g2 : Nat} {ts : List TenD} (h : FillT w g n ts k) (hk : k < ts.length) (hn : ts.length ≤ n) (hb : Below w.heap.size w w1) (hg1 : w.heap.size ≤ g1) (hg2 : g1 < g2)
    (o1 : PairsOwn w1 w.heap.size (some ⟨g1, 0, none⟩) ts[k].mets) (o2 : PairsOwn w1 w.heap.size (some ⟨g2, 0, none⟩) ts[k].sers) (q1 q2 : Nat) :
    FillT ((((w1.setCell ⟨g, k * 4, none⟩ (.string ts[k].name)).setCell ⟨g, k * 4 + 1, none⟩ (.int .i64 ts[k].limit)).setCell ⟨g, k * 4 + 2, none⟩ (.slice (some ⟨g1, 0, none⟩) ts[k].mets.length q1)).setCell ⟨g, k * 4 + 3, none⟩ (.slice (some ⟨g2, 0, none⟩) ts[k].sers.length q2)) g n ts (k + 1) := by
  obtain ⟨cur, T, h1, h2, h3, h4⟩ := h
  have hlt := lt_of_block h1
  have hB := (((((h1.later hb).set (k * 4) (.string ts[k].name)).set (k * 4 + 1) (.int .i64 ts[k].limit)).set (k * 4 + 2) (.slice (some ⟨g1, 0, none⟩) ts[k].mets.length q1)).set (k * 4 + 3) (.slice (some ⟨g2, 0, none⟩) ts[k].sers.length q2))
  have hbut : But g w1 ((((w1.setCell ⟨g, k * 4, none⟩ (.string ts[k].name)).setCell ⟨g, k * 4 + 1, none⟩ (.int .i64 ts[k].limit)).setCell ⟨g, k * 4 + 2, none⟩ (.slice (some ⟨g1, 0, none⟩) ts[k].mets.length q1)).setCell ⟨g, k * 4 + 3, none⟩ (.slice (some ⟨g2, 0, none⟩) ts[k].sers.length q2)) :=
    ((((But.refl _ _).setCell _ _).setCell _ _).setCell _ _).setCell _ _
  generalize ((((w1.setCell ⟨g, k * 4, none⟩ (.string ts[k].name)).setCell ⟨g, k * 4 + 1, none⟩ (.int .i64 ts[k].limit)).setCell ⟨g, k * 4 + 2, none⟩ (.slice (some ⟨g1, 0, none⟩) ts[k].mets.length q1)).setCell ⟨g, k * 4 + 3, none⟩ (.slice (some ⟨g2, 0, none⟩) ts[k].sers.length q2)) = w2 at *
  refine ⟨_, fun x => if x = g1 then 2 * k + 1 else if x = g2 then 2 * k + 2 else T x, hB, by simp [h2], ?_, fun i hi hlt' => ?_⟩
  · show (if g = g1 then _ else if g = g2 then _ else T g) = 0
    rw [if_neg (by omega), if_neg (by omega)]; exact h3
  · by_cases e : i = k
    · subst e
      refine ⟨some ⟨g1, 0, none⟩, q1, some ⟨g2, 0, none⟩, q2, ?_, ?_, ?_, ?_, ?_, ?_⟩
      · rw [hB.cell]; simp [Array.getElem?_setIfInBounds]; omega
      · rw [hB.cell]; simp [Array.getElem?_setIfInBounds]; omega
      · rw [hB.cell]; simp [Array.getElem?_setIfInBounds]; omega
      · rw [hB.cell]; simp [Array.getElem?_setIfInBounds]; omega
      · refine ((o1.but hbut (by omega)).mono (by omega)).tag fun g' o' e' => ?_
        simp only [Option.some.injEq, Addr.mk.injEq, and_true] at e'
        show (if g' = g1 then _ else _) = _
        rw [if_pos e'.1.symm]
      · refine ((o2.but hbut (by omega)).mono (by omega)).tag fun g' o' e' => ?_
        simp only [Option.some.injEq, Addr.mk.injEq, and_true] at e'
        show (if g' = g1 then _ else if g' = g2 then _ else _) = _
        rw [if_neg (by omega), if_pos e'.1.symm]
    · refine (h4 i hi (by omega)).keep (fun j hj => ?_) fun g' hg' _ hT => ?_
      · rw [hB.cell, ← (hb.cell (p := ⟨g, 0 + i * 4 + j, none⟩) hlt), (h1.later hb).cell]
        rw [Array.getElem?_setIfInBounds_ne (by omega), Array.getElem?_setIfInBounds_ne (by omega), Array.getElem?_setIfInBounds_ne (by omega), Array.getElem?_setIfInBounds_ne (by omega)]
      · have hne : g' ≠ g := fun e => by rw [e, h3] at hT; omega
        refine ⟨(hbut.block g' (Nat.lt_of_lt_of_le hg' hb.size) hne).trans (hb.block g' hg'), ?_⟩
        show (if g' = g1 then _ else if g' = g2 then _ else T g') = T g'
        rw [if_neg (by omega), if_neg (by omega)]
theorem FillT.done {w : World} {g B : Nat} {fs : List TenD} (h : FillT w g fs.length fs fs.length) (hB : B ≤ g) : TensOwn w B (some ⟨g, 0, none⟩) fs := by
  obtain ⟨cur, T, h1, h2, h3, h4⟩ := h
  refine Or.inr ⟨g, 0, cur, _, T, rfl, hB, h1, h3, fun i hi => ?_⟩
  obtain ⟨a1, c1, a2, c2, k0, k1, k2, k3, k4, k5⟩ := h4 i hi hi
  have m : ∀ {n a ps}, PairsTag w g T n a ps → PairsTag w B T n a ps := fun {n a ps} h => by
    rcases h with h | ⟨g', o', cur', t', e, hB', r⟩
    · exact Or.inl h
    · exact Or.inr ⟨g', o', cur', t', e, by omega, r⟩
  exact ⟨a1, c1, a2, c2, k0, k1, k2, k3, m k4, m k5⟩

def SmallT (fs : List TenD) : Prop := ∀ i (h : i < fs.length), fs[i].mets.length ≤ 1048576 ∧ fs[i].sers.length ≤ 1048576
set_option maxRecDepth 100000 in
set_option maxHeartbeats 1000000 in
theorem toTenantS_any (a : Option Addr) (cap : Nat) (fs : List TenD) (w : World) (hf : TensIn w a fs) (hlen : fs.length ≤ 1048576) (hsm : SmallT fs) :
    Calls Try.prog 62 #[.slice a fs.length cap] w fun e w' => e = .returned (.slice (some ⟨w.heap.size, 0, none⟩) fs.length fs.length) ∧ TensOwn w' w.heap.size (some ⟨w.heap.size, 0, none⟩) fs ∧ Below w.heap.size w w' ∧ w.heap.size < w'.heap.size := by
  have HF : Hid (TensIn w a fs) := hf
  have HSM : Hid (SmallT fs) := hsm
  clear hf hsm
  have hmk := make_tenants fs.length hlen
  go_enter Try.func62, Try.ntmps62
  go_wp2
  go_loopw [4] (fun i wr => ∃ k : Nat, k ≤ fs.length ∧ i = .int .i64 k ∧ FillT wr w.heap.size fs.length fs k ∧ Below w.heap.size w wr ∧ w.heap.size < wr.heap.size) (fun i _ => fs.length - (intOf i).toNat)
  case atStart => exact ⟨0, Nat.zero_le _, rfl, ⟨_, fun _ => 0, Blk.new _ _ _, size_madeCells _ _, rfl, fun i _ h => absurd h (by omega)⟩, (Below.refl _ _).alloc (Nat.le_refl _) _, by simp⟩
  case round =>
    obtain ⟨k, hk, rfl, hfill, hbel, hsz⟩ := hrel
    have HFill : Hid (FillT wr w.heap.size fs.length fs k) := hfill
    clear hfill hmk
    by_cases hlt : k < fs.length
    · obtain ⟨b, o, a1, q1, a2, q2, rfl, hb, c0, c1, c2, c3, p1, p2⟩ := (HF.out.later hbel).at hlt
      have HC : Hid (Calls Try.prog 78 #[.agg #[.string fs[k].name, .int .i64 fs[k].limit, .slice a1 fs[k].mets.length q1, .slice a2 fs[k].sers.length q2]] wr fun e w' => ∃ g1 g2, e = .returned (.agg #[.string fs[k].name, .int .i64 fs[k].limit, .slice (some ⟨g1, 0, none⟩) fs[k].mets.length fs[k].mets.length, .slice (some ⟨g2, 0, none⟩) fs[k].sers.length fs[k].sers.length]) ∧
          wr.heap.size ≤ g1 ∧ g1 < g2 ∧ PairsOwn w' wr.heap.size (some ⟨g1, 0, none⟩) fs[k].mets ∧ PairsOwn w' wr.heap.size (some ⟨g2, 0, none⟩) fs[k].sers ∧ Below wr.heap.size wr w') := toTenant_any fs[k] a1 a2 q1 q2 wr p1 p2 (HSM.out k hlt).1 (HSM.out k hlt).2
      clear p1 p2
      go_wp2_with fail
      refine HC.out.mono ?_
      rintro e w' ⟨g1, g2, rfl, hg1, hg2, o1, o2, hb2⟩
      have hF2 := HFill.out.later hb2
      obtain ⟨⟨v0, d0⟩, f0⟩ := hF2.cells (j := k * 4) (by omega)
      obtain ⟨⟨v1, d1⟩, f1⟩ := hF2.cells (j := k * 4 + 1) (by omega)
      obtain ⟨⟨v2, d2⟩, f2⟩ := hF2.cells (j := k * 4 + 2) (by omega)
      obtain ⟨⟨v3, d3⟩, f3⟩ := hF2.cells (j := k * 4 + 3) (by omega)
      have HST : Hid (FillT ((((w'.setCell ⟨w.heap.size, k * 4, none⟩ (.string fs[k].name)).setCell ⟨w.heap.size, k * 4 + 1, none⟩ (.int .i64 fs[k].limit)).setCell ⟨w.heap.size, k * 4 + 2, none⟩ (.slice (some ⟨g1, 0, none⟩) fs[k].mets.length fs[k].mets.length)).setCell ⟨w.heap.size, k * 4 + 3, none⟩ (.slice (some ⟨g2, 0, none⟩) fs[k].sers.length fs[k].sers.length)) w.heap.size fs.length fs (k + 1)) :=
        HFill.out.step hlt (Nat.le_refl _) hb2 hg1 hg2 o1 o2 _ _
      clear hF2 HC HFill o1 o2 c0 c1 c2 c3
      go_wp2
      exact ⟨⟨k + 1, by omega, by go_num, HST.out, ((((hbel.trans (hb2.mono hbel.size)).setCell (Nat.le_refl _) _).setCell (Nat.le_refl _) _).setCell (Nat.le_refl _) _).setCell (Nat.le_refl _) _, by have := hb2.size; simp; omega⟩, by simp [intOf]; omega⟩
    · go_wp2
      go_ret
      have e : k = fs.length := by omega
      exact ⟨rfl, by have := HFill.out; rw [e] at this; exact this.done (Nat.le_refl _), hbel, hsz⟩

theorem TensOwn.but {g B : Nat} {w w' : World} {a : Option Addr} {ts : List TenD} (h : TensOwn w B a ts) (hb : But g w w') (hg : g < B) : TensOwn w' B a ts := by
  rcases h with h | ⟨g', o, cur, t, T, rfl, hB, hg', hT, h⟩
  · exact Or.inl h
  · have hk := hb.block g' (lt_of_block hg') (by omega)
    exact Or.inr ⟨g', o, cur, t, T, rfl, hB, hk.trans hg', hT, fun i hi => (h i hi).keep (fun j _ => World.cell?_of_block hk) fun q hq hBq _ => ⟨hb.block q hq (by omega), rfl⟩⟩
theorem TensOwn.mono {B B' : Nat} {w : World} {a : Option Addr} {ts : List TenD} (h : TensOwn w B a ts) (hB' : B' ≤ B) : TensOwn w B' a ts := by
  rcases h with h | ⟨g', o, cur, t, T, rfl, hB, hg', hT, h⟩
  · exact Or.inl h
  · have m : ∀ {n a ps}, PairsTag w B T n a ps → PairsTag w B' T n a ps := fun {n a ps} h => by
      rcases h with h | ⟨g', o', cur', t', e, hB', r⟩
      · exact Or.inl h
      · exact Or.inr ⟨g', o', cur', t', e, by omega, r⟩
    refine Or.inr ⟨g', o, cur, t, T, rfl, by omega, hg', hT, fun i hi => ?_⟩
    obtain ⟨a1, c1, a2, c2, k0, k1, k2, k3, k4, k5⟩ := h i hi
    exact ⟨a1, c1, a2, c2, k0, k1, k2, k3, m k4, m k5⟩

set_option maxRecDepth 100000 in
set_option maxHeartbeats 1000000 in
theorem toState_any (now : Int) (a : Option Addr) (cap : Nat) (fs : List TenD) (w : World) (hf : TensIn w a fs) (hlen : fs.length ≤ 1048576) (hsm : SmallT fs) :
    Calls Try.prog 29 #[.agg #[.int .i64 now, .slice a fs.length cap]] w fun e w' => ∃ g, e = .returned (.agg #[.int .i64 now, .slice (some ⟨g, 0, none⟩) fs.length fs.length]) ∧ w.heap.size ≤ g ∧ g < w'.heap.size ∧ TensOwn w' w.heap.size (some ⟨g, 0, none⟩) fs ∧ Below w.heap.size w w' := by
  have HC : Hid (∀ W, Below w.heap.size w W → Calls Try.prog 62 #[.slice a fs.length cap] W fun e w' => e = .returned (.slice (some ⟨W.heap.size, 0, none⟩) fs.length fs.length) ∧ TensOwn w' W.heap.size (some ⟨W.heap.size, 0, none⟩) fs ∧ Below W.heap.size W w' ∧ W.heap.size < w'.heap.size) :=
    fun W hW => toTenantS_any a cap fs W (hf.later hW) hlen hsm
  clear hf hsm
  go_enter Try.func29, Try.ntmps29
  go_wp2_with fail
  refine (HC.out _ (bto (bto (bnew _ _) (bnew _ _)) (bnew _ _))).mono ?_
  rintro e w1 ⟨rfl, o1, hb1, z1⟩
  have B1 : Hid (Below w.heap.size w w1) := bto (bto (bto (bnew _ _) (bnew _ _)) (bnew _ _)) hb1
  have R1 : Hid (Blk w1 (w.heap.size + 1) #[.int .i64 0, .slice none 0 0] 51) := by have := ((Blk.new (w.alloc (.cells #[.int .i64 now, .slice a fs.length cap] 46)) #[.int .i64 0, .slice none 0 0] 51).alloc (.cells #[.int .i64 now, .slice none 0 0] 51)).later hb1; exact hid (by simpa using this)
  have X1 : Hid (Blk w1 (w.heap.size + 1 + 1) #[.int .i64 now, .slice none 0 0] 51) := by have := (Blk.new ((w.alloc (.cells #[.int .i64 now, .slice a fs.length cap] 46)).alloc (.cells #[.int .i64 0, .slice none 0 0] 51)) #[.int .i64 now, .slice none 0 0] 51).later hb1; exact hid (by simpa using this)
  have O1 : Hid (TensOwn w1 (w.heap.size + 1 + 1 + 1) (some ⟨w.heap.size + 1 + 1 + 1, 0, none⟩) fs) := hid (by simpa using o1)
  have z1' : w.heap.size + 1 + 1 + 1 < w1.heap.size := by simpa using z1
  have r0 : w1.cell? ⟨w.heap.size + 1 + 1, 0, none⟩ = some (.int .i64 now) := X1.out.cell 0
  have r1 : w1.cell? ⟨w.heap.size + 1 + 1, 1, none⟩ = some (.slice none 0 0) := X1.out.cell 1
  have r2 := X1.out.free 1
  have s0 : w1.cell? ⟨w.heap.size + 1, 0, none⟩ = some (.int .i64 0) := R1.out.cell 0
  have s1 : w1.cell? ⟨w.heap.size + 1, 1, none⟩ = some (.slice none 0 0) := R1.out.cell 1
  have u0 := R1.out.free 0
  have u1 := R1.out.free 1
  clear o1 z1 hb1 HC
  go_wp2
  refine bodyPost_ret (v := .agg #[.int .i64 now, .slice (some ⟨w.heap.size + 1 + 1 + 1, 0, none⟩) fs.length fs.length]) (by simp [results, Try.results29, go_sem, s0, s1]) rfl ⟨_, rfl, by omega, by simpa using z1', ?_, ?_⟩
  · exact (((O1.out.but ((But.refl _ _).setCell _ _) (by omega)).but ((But.refl _ _).setCell _ _) (by omega)).but ((But.refl _ _).setCell _ _) (by omega)).mono (by omega)
  · exact ((B1.out.setCell (by simp; omega) _).setCell (by simp) _).setCell (by simp) _

end Go.Proofs.Ytgpgacncmoiefaa
