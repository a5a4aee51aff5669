import Derived.Test.YtnbkmmmlhlbfoaaGreatDoorProg
import Derived.Test.YtnbkmmmlhlbfoaaGreatDoorJ07DrwL
namespace Go.Proofs.YtnbkmmmlhlbfoaaGreatDoor
open Go.RowKit
def LitI (w : World) (g : Nat) (L : List Int) : Prop := ∃ t, Blk w g (L.map (Value.int .i64)).toArray t
theorem LitI.but {w w' : World} {g B : Nat} {L : List Int} (h : LitI w g L) (hb : But B w w') (hne : g ≠ B) : LitI w' g L := by
  obtain ⟨t, h1⟩ := h
  exact ⟨t, (hb.block g (lt_of_block h1) hne).trans h1⟩
theorem LitI.at {w : World} {g : Nat} {L : List Int} (h : LitI w g L) {j : Nat} (hj : j < L.length) : w.cell? ⟨g, j, none⟩ = some (.int .i64 (L.getD j 0)) := by
  obtain ⟨t, h1⟩ := h
  rw [h1.cell]
  simp [List.getD, hj]
theorem litI_new (w : World) (L : List Int) (t : TypeId) : LitI (w.alloc (.cells (L.map (Value.int .i64)).toArray t)) w.heap.size L := ⟨t, heap_alloc_new _ _⟩
def spoilCfgX (bs : List Nat) (σ : CSt) (c : CfgD) : CfgD × CSt := match pickX bs σ 6 with
  | (0, τ) => (⟨[0, 1000000000, 1000000001].getD (pickX bs τ 3).1 0, c.tl, c.ml, c.sh, c.ha, c.sg⟩, (pickX bs τ 3).2)
  | (1, τ) => (⟨c.w, [-1, 1000000, 1000001].getD (pickX bs τ 3).1 0, c.ml, c.sh, c.ha, c.sg⟩, (pickX bs τ 3).2)
  | (2, τ) => (⟨c.w, c.tl, [-1, 1000000, 1000001].getD (pickX bs τ 3).1 0, c.sh, c.ha, c.sg⟩, (pickX bs τ 3).2)
  | (3, τ) => (⟨c.w, c.tl, c.ml, [0, 64, 65].getD (pickX bs τ 3).1 0, c.ha, c.sg⟩, (pickX bs τ 3).2)
  | (4, τ) => (⟨c.w, c.tl, c.ml, c.sh, [-1, 3].getD (pickX bs τ 2).1 0, c.sg⟩, (pickX bs τ 2).2)
  | (_, τ) => (⟨c.w, c.tl, c.ml, c.sh, c.ha, [99, 1000000, 1000001].getD (pickX bs τ 3).1 0⟩, (pickX bs τ 3).2)
set_option maxRecDepth 100000 in
set_option maxHeartbeats 2000000 in
theorem spoilCfgX_any (B P : Nat) (bs : List Nat) (σ : CSt) (c : CfgD) (w : World) (h : CurX w B P bs σ) (hN : σ.k ≤ 100000) :
    Calls Tryz.prog 36 #[.pointer (some ⟨B, 0, none⟩), cfgV c] w fun e w' => e = .returned (cfgV (spoilCfgX bs σ c).1) ∧ CurX w' B P bs (spoilCfgX bs σ c).2 ∧ But B w w' := by
  have HC : Hid (CurX w B P bs σ) := h
  have hlt := h.lt
  have hPw := h.up.2
  clear h
  have HP : Hid (∀ W, CurX W B P bs σ → Calls Tryz.prog 14 #[.pointer (some ⟨B, 0, none⟩), .int .i64 6] W fun e w' => e = .returned (.int .i64 ((pickX bs σ 6).1 : Nat)) ∧ CurX w' B P bs (pickX bs σ 6).2 ∧ But B W w') := fun W h => curPickX_any B P bs σ 6 W h (by omega) (by omega)
  have hv := pickX_lt bs σ (n := 6) (by omega)
  have hk1 := pickX_k bs σ 6
  unfold spoilCfgX cfgV
  generalize pickX bs σ 6 = R at *
  obtain ⟨v, τ⟩ := R
  simp only at HP hv hk1
  have hcase : v = 0 ∨ v = 1 ∨ v = 2 ∨ v = 3 ∨ v = 4 ∨ v = 5 := by omega
  rcases hcase with rfl | rfl | rfl | rfl | rfl | rfl
  · simp only
    have HP2 : Hid (∀ W, CurX W B P bs τ → Calls Tryz.prog 14 #[.pointer (some ⟨B, 0, none⟩), .int .i64 3] W fun e w' => e = .returned (.int .i64 ((pickX bs τ 3).1 : Nat)) ∧ CurX w' B P bs (pickX bs τ 3).2 ∧ But B W w') := fun W h => curPickX_any B P bs τ 3 W h (by omega) (by omega)
    have hv2 := pickX_lt bs τ (n := 3) (by omega)
    generalize pickX bs τ 3 = R2 at *
    obtain ⟨v2, υ⟩ := R2
    simp only at HP2 hv2 ⊢
    obtain ⟨z, hz⟩ : ∃ z : Int, ([0, 1000000000, 1000000001] : List Int).getD v2 0 = z := ⟨_, rfl⟩
    rw [hz]
    have HZ := hid hz
    clear hz
    go_enter Tryz.func36, Tryz.ntmps36
    go_wp2_with fail
    have X0 : Hid (Blk ((w.alloc (.cells #[.int .i64 c.w, .int .i64 c.tl, .int .i64 c.ml, .int .i64 c.sh, .int .i64 c.ha, .int .i64 c.sg] 24)).alloc (.cells #[.int .i64 0, .int .i64 0, .int .i64 0, .int .i64 0, .int .i64 0, .int .i64 0] 24)) w.heap.size #[.int .i64 c.w, .int .i64 c.tl, .int .i64 c.ml, .int .i64 c.sh, .int .i64 c.ha, .int .i64 c.sg] 24) := (Blk.new _ _ _).alloc _
    have Y0 : Hid (Blk ((w.alloc (.cells #[.int .i64 c.w, .int .i64 c.tl, .int .i64 c.ml, .int .i64 c.sh, .int .i64 c.ha, .int .i64 c.sg] 24)).alloc (.cells #[.int .i64 0, .int .i64 0, .int .i64 0, .int .i64 0, .int .i64 0, .int .i64 0] 24)) (w.heap.size + 1) #[.int .i64 0, .int .i64 0, .int .i64 0, .int .i64 0, .int .i64 0, .int .i64 0] 24) := hid (by have := Blk.new (w.alloc (.cells #[.int .i64 c.w, .int .i64 c.tl, .int .i64 c.ml, .int .i64 c.sh, .int .i64 c.ha, .int .i64 c.sg] 24)) #[.int .i64 0, .int .i64 0, .int .i64 0, .int .i64 0, .int .i64 0, .int .i64 0] 24; simpa using this)
    have B0 : Hid (Below w.heap.size w ((w.alloc (.cells #[.int .i64 c.w, .int .i64 c.tl, .int .i64 c.ml, .int .i64 c.sh, .int .i64 c.ha, .int .i64 c.sg] 24)).alloc (.cells #[.int .i64 0, .int .i64 0, .int .i64 0, .int .i64 0, .int .i64 0, .int .i64 0] 24))) := bto (bnew _ _) (bnew _ _)
    generalize ((w.alloc (.cells #[.int .i64 c.w, .int .i64 c.tl, .int .i64 c.ml, .int .i64 c.sh, .int .i64 c.ha, .int .i64 c.sg] 24)).alloc (.cells #[.int .i64 0, .int .i64 0, .int .i64 0, .int .i64 0, .int .i64 0, .int .i64 0] 24)) = W0 at *
    refine (HP.out _ (HC.out.later B0.out)).mono ?_
    rintro e w1 ⟨rfl, hc1, hb1⟩
    have X1 : Hid (Blk w1 w.heap.size #[.int .i64 c.w, .int .i64 c.tl, .int .i64 c.ml, .int .i64 c.sh, .int .i64 c.ha, .int .i64 c.sg] 24) := (hb1.block _ (lt_of_block X0.out) (by omega)).trans X0.out
    have Y1 : Hid (Blk w1 (w.heap.size + 1) #[.int .i64 0, .int .i64 0, .int .i64 0, .int .i64 0, .int .i64 0, .int .i64 0] 24) := (hb1.block _ (lt_of_block Y0.out) (by omega)).trans Y0.out
    have H1 : Hid (CurX w1 B P bs τ ∧ But B w w1) := ⟨hc1, (But.of B0.out).trans hb1⟩
    have hs1 : w.heap.size + 1 < w1.heap.size := lt_of_block Y1.out
    clear hc1 hb1 X0 Y0 B0 HC HP
    go_wp2_with fail
    have HR : Hid (LitI (w1.alloc (.cells (([0, 1000000000, 1000000001] : List Int).map (Value.int .i64)).toArray 3)) w1.heap.size [0, 1000000000, 1000000001]) := litI_new w1 _ _
    simp only [List.map_cons, List.map_nil] at HR
    refine (HP2.out _ (H1.out.1.later (bnew _ _))).mono ?_
    rintro e w2 ⟨rfl, hc2, hb2⟩
    have hcell := (HR.out.but hb2 (by omega)).at (j := v2) (by simpa using hv2)
    rw [HZ.out] at hcell
    have X2 : Hid (Blk w2 w.heap.size #[.int .i64 c.w, .int .i64 c.tl, .int .i64 c.ml, .int .i64 c.sh, .int .i64 c.ha, .int .i64 c.sg] 24) := (hb2.block _ (by simp; omega) (by omega)).trans (X1.out.alloc _)
    have Y2 : Hid (Blk w2 (w.heap.size + 1) #[.int .i64 0, .int .i64 0, .int .i64 0, .int .i64 0, .int .i64 0, .int .i64 0] 24) := (hb2.block _ (by simp; omega) (by omega)).trans (Y1.out.alloc _)
    have H2 : Hid (CurX w2 B P bs υ ∧ But B w w2) := ⟨hc2, (H1.out.2.later (bnew _ _)).trans hb2⟩
    clear hc2 hb2 X1 Y1 H1 HR HP2 HZ
    have hv' : (v2 : Int) < 3 := by omega
    have c0 := X2.out.cell 0
    have r0 := Y2.out.cell 0
    have s0 := Y2.out.free 0
    have c1 := X2.out.cell 1
    have r1 := Y2.out.cell 1
    have s1 := Y2.out.free 1
    have c2 := X2.out.cell 2
    have r2 := Y2.out.cell 2
    have s2 := Y2.out.free 2
    have c3 := X2.out.cell 3
    have r3 := Y2.out.cell 3
    have s3 := Y2.out.free 3
    have c4 := X2.out.cell 4
    have r4 := Y2.out.cell 4
    have s4 := Y2.out.free 4
    have c5 := X2.out.cell 5
    have r5 := Y2.out.cell 5
    have s5 := Y2.out.free 5
    have fk := X2.out.free 0
    go_wp2
    refine bodyPost_ret (v := .agg #[.int .i64 z, .int .i64 c.tl, .int .i64 c.ml, .int .i64 c.sh, .int .i64 c.ha, .int .i64 c.sg]) (by simp [results, Tryz.results36, go_sem, r0, r1, r2, r3, r4, r5]) rfl ?_
    have hP1 : P ≤ w.heap.size + 1 := by omega
    have hZ0 : w.heap.size ≤ w.heap.size := Nat.le_refl _
    have hZ1 : w.heap.size ≤ w.heap.size + 1 := by omega
    refine ⟨rfl, H2.out.1.below ?_, H2.out.2.below_to ?_⟩
    · repeat (with_reducible first | exact Below.refl _ _ | exact hPw | exact hP1 | refine Below.setCell ?_ ?_ _)
    · repeat (with_reducible first | exact Below.refl _ _ | exact hZ0 | exact hZ1 | refine Below.setCell ?_ ?_ _)
  · simp only
    have HP2 : Hid (∀ W, CurX W B P bs τ → Calls Tryz.prog 14 #[.pointer (some ⟨B, 0, none⟩), .int .i64 3] W fun e w' => e = .returned (.int .i64 ((pickX bs τ 3).1 : Nat)) ∧ CurX w' B P bs (pickX bs τ 3).2 ∧ But B W w') := fun W h => curPickX_any B P bs τ 3 W h (by omega) (by omega)
    have hv2 := pickX_lt bs τ (n := 3) (by omega)
    generalize pickX bs τ 3 = R2 at *
    obtain ⟨v2, υ⟩ := R2
    simp only at HP2 hv2 ⊢
    obtain ⟨z, hz⟩ : ∃ z : Int, ([-1, 1000000, 1000001] : List Int).getD v2 0 = z := ⟨_, rfl⟩
    rw [hz]
    have HZ := hid hz
    clear hz
    go_enter Tryz.func36, Tryz.ntmps36
    go_wp2_with fail
    have X0 : Hid (Blk ((w.alloc (.cells #[.int .i64 c.w, .int .i64 c.tl, .int .i64 c.ml, .int .i64 c.sh, .int .i64 c.ha, .int .i64 c.sg] 24)).alloc (.cells #[.int .i64 0, .int .i64 0, .int .i64 0, .int .i64 0, .int .i64 0, .int .i64 0] 24)) w.heap.size #[.int .i64 c.w, .int .i64 c.tl, .int .i64 c.ml, .int .i64 c.sh, .int .i64 c.ha, .int .i64 c.sg] 24) := (Blk.new _ _ _).alloc _
    have Y0 : Hid (Blk ((w.alloc (.cells #[.int .i64 c.w, .int .i64 c.tl, .int .i64 c.ml, .int .i64 c.sh, .int .i64 c.ha, .int .i64 c.sg] 24)).alloc (.cells #[.int .i64 0, .int .i64 0, .int .i64 0, .int .i64 0, .int .i64 0, .int .i64 0] 24)) (w.heap.size + 1) #[.int .i64 0, .int .i64 0, .int .i64 0, .int .i64 0, .int .i64 0, .int .i64 0] 24) := hid (by have := Blk.new (w.alloc (.cells #[.int .i64 c.w, .int .i64 c.tl, .int .i64 c.ml, .int .i64 c.sh, .int .i64 c.ha, .int .i64 c.sg] 24)) #[.int .i64 0, .int .i64 0, .int .i64 0, .int .i64 0, .int .i64 0, .int .i64 0] 24; simpa using this)
    have B0 : Hid (Below w.heap.size w ((w.alloc (.cells #[.int .i64 c.w, .int .i64 c.tl, .int .i64 c.ml, .int .i64 c.sh, .int .i64 c.ha, .int .i64 c.sg] 24)).alloc (.cells #[.int .i64 0, .int .i64 0, .int .i64 0, .int .i64 0, .int .i64 0, .int .i64 0] 24))) := bto (bnew _ _) (bnew _ _)
    generalize ((w.alloc (.cells #[.int .i64 c.w, .int .i64 c.tl, .int .i64 c.ml, .int .i64 c.sh, .int .i64 c.ha, .int .i64 c.sg] 24)).alloc (.cells #[.int .i64 0, .int .i64 0, .int .i64 0, .int .i64 0, .int .i64 0, .int .i64 0] 24)) = W0 at *
    refine (HP.out _ (HC.out.later B0.out)).mono ?_
    rintro e w1 ⟨rfl, hc1, hb1⟩
    have X1 : Hid (Blk w1 w.heap.size #[.int .i64 c.w, .int .i64 c.tl, .int .i64 c.ml, .int .i64 c.sh, .int .i64 c.ha, .int .i64 c.sg] 24) := (hb1.block _ (lt_of_block X0.out) (by omega)).trans X0.out
    have Y1 : Hid (Blk w1 (w.heap.size + 1) #[.int .i64 0, .int .i64 0, .int .i64 0, .int .i64 0, .int .i64 0, .int .i64 0] 24) := (hb1.block _ (lt_of_block Y0.out) (by omega)).trans Y0.out
    have H1 : Hid (CurX w1 B P bs τ ∧ But B w w1) := ⟨hc1, (But.of B0.out).trans hb1⟩
    have hs1 : w.heap.size + 1 < w1.heap.size := lt_of_block Y1.out
    clear hc1 hb1 X0 Y0 B0 HC HP
    go_wp2_with fail
    have HR : Hid (LitI (w1.alloc (.cells (([-1, 1000000, 1000001] : List Int).map (Value.int .i64)).toArray 3)) w1.heap.size [-1, 1000000, 1000001]) := litI_new w1 _ _
    simp only [List.map_cons, List.map_nil] at HR
    refine (HP2.out _ (H1.out.1.later (bnew _ _))).mono ?_
    rintro e w2 ⟨rfl, hc2, hb2⟩
    have hcell := (HR.out.but hb2 (by omega)).at (j := v2) (by simpa using hv2)
    rw [HZ.out] at hcell
    have X2 : Hid (Blk w2 w.heap.size #[.int .i64 c.w, .int .i64 c.tl, .int .i64 c.ml, .int .i64 c.sh, .int .i64 c.ha, .int .i64 c.sg] 24) := (hb2.block _ (by simp; omega) (by omega)).trans (X1.out.alloc _)
    have Y2 : Hid (Blk w2 (w.heap.size + 1) #[.int .i64 0, .int .i64 0, .int .i64 0, .int .i64 0, .int .i64 0, .int .i64 0] 24) := (hb2.block _ (by simp; omega) (by omega)).trans (Y1.out.alloc _)
    have H2 : Hid (CurX w2 B P bs υ ∧ But B w w2) := ⟨hc2, (H1.out.2.later (bnew _ _)).trans hb2⟩
    clear hc2 hb2 X1 Y1 H1 HR HP2 HZ
    have hv' : (v2 : Int) < 3 := by omega
    have c0 := X2.out.cell 0
    have r0 := Y2.out.cell 0
    have s0 := Y2.out.free 0
    have c1 := X2.out.cell 1
    have r1 := Y2.out.cell 1
    have s1 := Y2.out.free 1
    have c2 := X2.out.cell 2
    have r2 := Y2.out.cell 2
    have s2 := Y2.out.free 2
    have c3 := X2.out.cell 3
    have r3 := Y2.out.cell 3
    have s3 := Y2.out.free 3
    have c4 := X2.out.cell 4
    have r4 := Y2.out.cell 4
    have s4 := Y2.out.free 4
    have c5 := X2.out.cell 5
    have r5 := Y2.out.cell 5
    have s5 := Y2.out.free 5
    have fk := X2.out.free 1
    go_wp2
    refine bodyPost_ret (v := .agg #[.int .i64 c.w, .int .i64 z, .int .i64 c.ml, .int .i64 c.sh, .int .i64 c.ha, .int .i64 c.sg]) (by simp [results, Tryz.results36, go_sem, r0, r1, r2, r3, r4, r5]) rfl ?_
    have hP1 : P ≤ w.heap.size + 1 := by omega
    have hZ0 : w.heap.size ≤ w.heap.size := Nat.le_refl _
    have hZ1 : w.heap.size ≤ w.heap.size + 1 := by omega
    refine ⟨rfl, H2.out.1.below ?_, H2.out.2.below_to ?_⟩
    · repeat (with_reducible first | exact Below.refl _ _ | exact hPw | exact hP1 | refine Below.setCell ?_ ?_ _)
    · repeat (with_reducible first | exact Below.refl _ _ | exact hZ0 | exact hZ1 | refine Below.setCell ?_ ?_ _)
  · simp only
    have HP2 : Hid (∀ W, CurX W B P bs τ → Calls Tryz.prog 14 #[.pointer (some ⟨B, 0, none⟩), .int .i64 3] W fun e w' => e = .returned (.int .i64 ((pickX bs τ 3).1 : Nat)) ∧ CurX w' B P bs (pickX bs τ 3).2 ∧ But B W w') := fun W h => curPickX_any B P bs τ 3 W h (by omega) (by omega)
    have hv2 := pickX_lt bs τ (n := 3) (by omega)
    generalize pickX bs τ 3 = R2 at *
    obtain ⟨v2, υ⟩ := R2
    simp only at HP2 hv2 ⊢
    obtain ⟨z, hz⟩ : ∃ z : Int, ([-1, 1000000, 1000001] : List Int).getD v2 0 = z := ⟨_, rfl⟩
    rw [hz]
    have HZ := hid hz
    clear hz
    go_enter Tryz.func36, Tryz.ntmps36
    go_wp2_with fail
    have X0 : Hid (Blk ((w.alloc (.cells #[.int .i64 c.w, .int .i64 c.tl, .int .i64 c.ml, .int .i64 c.sh, .int .i64 c.ha, .int .i64 c.sg] 24)).alloc (.cells #[.int .i64 0, .int .i64 0, .int .i64 0, .int .i64 0, .int .i64 0, .int .i64 0] 24)) w.heap.size #[.int .i64 c.w, .int .i64 c.tl, .int .i64 c.ml, .int .i64 c.sh, .int .i64 c.ha, .int .i64 c.sg] 24) := (Blk.new _ _ _).alloc _
    have Y0 : Hid (Blk ((w.alloc (.cells #[.int .i64 c.w, .int .i64 c.tl, .int .i64 c.ml, .int .i64 c.sh, .int .i64 c.ha, .int .i64 c.sg] 24)).alloc (.cells #[.int .i64 0, .int .i64 0, .int .i64 0, .int .i64 0, .int .i64 0, .int .i64 0] 24)) (w.heap.size + 1) #[.int .i64 0, .int .i64 0, .int .i64 0, .int .i64 0, .int .i64 0, .int .i64 0] 24) := hid (by have := Blk.new (w.alloc (.cells #[.int .i64 c.w, .int .i64 c.tl, .int .i64 c.ml, .int .i64 c.sh, .int .i64 c.ha, .int .i64 c.sg] 24)) #[.int .i64 0, .int .i64 0, .int .i64 0, .int .i64 0, .int .i64 0, .int .i64 0] 24; simpa using this)
    have B0 : Hid (Below w.heap.size w ((w.alloc (.cells #[.int .i64 c.w, .int .i64 c.tl, .int .i64 c.ml, .int .i64 c.sh, .int .i64 c.ha, .int .i64 c.sg] 24)).alloc (.cells #[.int .i64 0, .int .i64 0, .int .i64 0, .int .i64 0, .int .i64 0, .int .i64 0] 24))) := bto (bnew _ _) (bnew _ _)
    generalize ((w.alloc (.cells #[.int .i64 c.w, .int .i64 c.tl, .int .i64 c.ml, .int .i64 c.sh, .int .i64 c.ha, .int .i64 c.sg] 24)).alloc (.cells #[.int .i64 0, .int .i64 0, .int .i64 0, .int .i64 0, .int .i64 0, .int .i64 0] 24)) = W0 at *
    refine (HP.out _ (HC.out.later B0.out)).mono ?_
    rintro e w1 ⟨rfl, hc1, hb1⟩
    have X1 : Hid (Blk w1 w.heap.size #[.int .i64 c.w, .int .i64 c.tl, .int .i64 c.ml, .int .i64 c.sh, .int .i64 c.ha, .int .i64 c.sg] 24) := (hb1.block _ (lt_of_block X0.out) (by omega)).trans X0.out
    have Y1 : Hid (Blk w1 (w.heap.size + 1) #[.int .i64 0, .int .i64 0, .int .i64 0, .int .i64 0, .int .i64 0, .int .i64 0] 24) := (hb1.block _ (lt_of_block Y0.out) (by omega)).trans Y0.out
    have H1 : Hid (CurX w1 B P bs τ ∧ But B w w1) := ⟨hc1, (But.of B0.out).trans hb1⟩
    have hs1 : w.heap.size + 1 < w1.heap.size := lt_of_block Y1.out
    clear hc1 hb1 X0 Y0 B0 HC HP
    go_wp2_with fail
    have HR : Hid (LitI (w1.alloc (.cells (([-1, 1000000, 1000001] : List Int).map (Value.int .i64)).toArray 3)) w1.heap.size [-1, 1000000, 1000001]) := litI_new w1 _ _
    simp only [List.map_cons, List.map_nil] at HR
    refine (HP2.out _ (H1.out.1.later (bnew _ _))).mono ?_
    rintro e w2 ⟨rfl, hc2, hb2⟩
    have hcell := (HR.out.but hb2 (by omega)).at (j := v2) (by simpa using hv2)
    rw [HZ.out] at hcell
    have X2 : Hid (Blk w2 w.heap.size #[.int .i64 c.w, .int .i64 c.tl, .int .i64 c.ml, .int .i64 c.sh, .int .i64 c.ha, .int .i64 c.sg] 24) := (hb2.block _ (by simp; omega) (by omega)).trans (X1.out.alloc _)
    have Y2 : Hid (Blk w2 (w.heap.size + 1) #[.int .i64 0, .int .i64 0, .int .i64 0, .int .i64 0, .int .i64 0, .int .i64 0] 24) := (hb2.block _ (by simp; omega) (by omega)).trans (Y1.out.alloc _)
    have H2 : Hid (CurX w2 B P bs υ ∧ But B w w2) := ⟨hc2, (H1.out.2.later (bnew _ _)).trans hb2⟩
    clear hc2 hb2 X1 Y1 H1 HR HP2 HZ
    have hv' : (v2 : Int) < 3 := by omega
    have c0 := X2.out.cell 0
    have r0 := Y2.out.cell 0
    have s0 := Y2.out.free 0
    have c1 := X2.out.cell 1
    have r1 := Y2.out.cell 1
    have s1 := Y2.out.free 1
    have c2 := X2.out.cell 2
    have r2 := Y2.out.cell 2
    have s2 := Y2.out.free 2
    have c3 := X2.out.cell 3
    have r3 := Y2.out.cell 3
    have s3 := Y2.out.free 3
    have c4 := X2.out.cell 4
    have r4 := Y2.out.cell 4
    have s4 := Y2.out.free 4
    have c5 := X2.out.cell 5
    have r5 := Y2.out.cell 5
    have s5 := Y2.out.free 5
    have fk := X2.out.free 2
    go_wp2
    refine bodyPost_ret (v := .agg #[.int .i64 c.w, .int .i64 c.tl, .int .i64 z, .int .i64 c.sh, .int .i64 c.ha, .int .i64 c.sg]) (by simp [results, Tryz.results36, go_sem, r0, r1, r2, r3, r4, r5]) rfl ?_
    have hP1 : P ≤ w.heap.size + 1 := by omega
    have hZ0 : w.heap.size ≤ w.heap.size := Nat.le_refl _
    have hZ1 : w.heap.size ≤ w.heap.size + 1 := by omega
    refine ⟨rfl, H2.out.1.below ?_, H2.out.2.below_to ?_⟩
    · repeat (with_reducible first | exact Below.refl _ _ | exact hPw | exact hP1 | refine Below.setCell ?_ ?_ _)
    · repeat (with_reducible first | exact Below.refl _ _ | exact hZ0 | exact hZ1 | refine Below.setCell ?_ ?_ _)
  · simp only
    have HP2 : Hid (∀ W, CurX W B P bs τ → Calls Tryz.prog 14 #[.pointer (some ⟨B, 0, none⟩), .int .i64 3] W fun e w' => e = .returned (.int .i64 ((pickX bs τ 3).1 : Nat)) ∧ CurX w' B P bs (pickX bs τ 3).2 ∧ But B W w') := fun W h => curPickX_any B P bs τ 3 W h (by omega) (by omega)
    have hv2 := pickX_lt bs τ (n := 3) (by omega)
    generalize pickX bs τ 3 = R2 at *
    obtain ⟨v2, υ⟩ := R2
    simp only at HP2 hv2 ⊢
    obtain ⟨z, hz⟩ : ∃ z : Int, ([0, 64, 65] : List Int).getD v2 0 = z := ⟨_, rfl⟩
    rw [hz]
    have HZ := hid hz
    clear hz
    go_enter Tryz.func36, Tryz.ntmps36
    go_wp2_with fail
    have X0 : Hid (Blk ((w.alloc (.cells #[.int .i64 c.w, .int .i64 c.tl, .int .i64 c.ml, .int .i64 c.sh, .int .i64 c.ha, .int .i64 c.sg] 24)).alloc (.cells #[.int .i64 0, .int .i64 0, .int .i64 0, .int .i64 0, .int .i64 0, .int .i64 0] 24)) w.heap.size #[.int .i64 c.w, .int .i64 c.tl, .int .i64 c.ml, .int .i64 c.sh, .int .i64 c.ha, .int .i64 c.sg] 24) := (Blk.new _ _ _).alloc _
    have Y0 : Hid (Blk ((w.alloc (.cells #[.int .i64 c.w, .int .i64 c.tl, .int .i64 c.ml, .int .i64 c.sh, .int .i64 c.ha, .int .i64 c.sg] 24)).alloc (.cells #[.int .i64 0, .int .i64 0, .int .i64 0, .int .i64 0, .int .i64 0, .int .i64 0] 24)) (w.heap.size + 1) #[.int .i64 0, .int .i64 0, .int .i64 0, .int .i64 0, .int .i64 0, .int .i64 0] 24) := hid (by have := Blk.new (w.alloc (.cells #[.int .i64 c.w, .int .i64 c.tl, .int .i64 c.ml, .int .i64 c.sh, .int .i64 c.ha, .int .i64 c.sg] 24)) #[.int .i64 0, .int .i64 0, .int .i64 0, .int .i64 0, .int .i64 0, .int .i64 0] 24; simpa using this)
    have B0 : Hid (Below w.heap.size w ((w.alloc (.cells #[.int .i64 c.w, .int .i64 c.tl, .int .i64 c.ml, .int .i64 c.sh, .int .i64 c.ha, .int .i64 c.sg] 24)).alloc (.cells #[.int .i64 0, .int .i64 0, .int .i64 0, .int .i64 0, .int .i64 0, .int .i64 0] 24))) := bto (bnew _ _) (bnew _ _)
    generalize ((w.alloc (.cells #[.int .i64 c.w, .int .i64 c.tl, .int .i64 c.ml, .int .i64 c.sh, .int .i64 c.ha, .int .i64 c.sg] 24)).alloc (.cells #[.int .i64 0, .int .i64 0, .int .i64 0, .int .i64 0, .int .i64 0, .int .i64 0] 24)) = W0 at *
    refine (HP.out _ (HC.out.later B0.out)).mono ?_
    rintro e w1 ⟨rfl, hc1, hb1⟩
    have X1 : Hid (Blk w1 w.heap.size #[.int .i64 c.w, .int .i64 c.tl, .int .i64 c.ml, .int .i64 c.sh, .int .i64 c.ha, .int .i64 c.sg] 24) := (hb1.block _ (lt_of_block X0.out) (by omega)).trans X0.out
    have Y1 : Hid (Blk w1 (w.heap.size + 1) #[.int .i64 0, .int .i64 0, .int .i64 0, .int .i64 0, .int .i64 0, .int .i64 0] 24) := (hb1.block _ (lt_of_block Y0.out) (by omega)).trans Y0.out
    have H1 : Hid (CurX w1 B P bs τ ∧ But B w w1) := ⟨hc1, (But.of B0.out).trans hb1⟩
    have hs1 : w.heap.size + 1 < w1.heap.size := lt_of_block Y1.out
    clear hc1 hb1 X0 Y0 B0 HC HP
    go_wp2_with fail
    have HR : Hid (LitI (w1.alloc (.cells (([0, 64, 65] : List Int).map (Value.int .i64)).toArray 3)) w1.heap.size [0, 64, 65]) := litI_new w1 _ _
    simp only [List.map_cons, List.map_nil] at HR
    refine (HP2.out _ (H1.out.1.later (bnew _ _))).mono ?_
    rintro e w2 ⟨rfl, hc2, hb2⟩
    have hcell := (HR.out.but hb2 (by omega)).at (j := v2) (by simpa using hv2)
    rw [HZ.out] at hcell
    have X2 : Hid (Blk w2 w.heap.size #[.int .i64 c.w, .int .i64 c.tl, .int .i64 c.ml, .int .i64 c.sh, .int .i64 c.ha, .int .i64 c.sg] 24) := (hb2.block _ (by simp; omega) (by omega)).trans (X1.out.alloc _)
    have Y2 : Hid (Blk w2 (w.heap.size + 1) #[.int .i64 0, .int .i64 0, .int .i64 0, .int .i64 0, .int .i64 0, .int .i64 0] 24) := (hb2.block _ (by simp; omega) (by omega)).trans (Y1.out.alloc _)
    have H2 : Hid (CurX w2 B P bs υ ∧ But B w w2) := ⟨hc2, (H1.out.2.later (bnew _ _)).trans hb2⟩
    clear hc2 hb2 X1 Y1 H1 HR HP2 HZ
    have hv' : (v2 : Int) < 3 := by omega
    have c0 := X2.out.cell 0
    have r0 := Y2.out.cell 0
    have s0 := Y2.out.free 0
    have c1 := X2.out.cell 1
    have r1 := Y2.out.cell 1
    have s1 := Y2.out.free 1
    have c2 := X2.out.cell 2
    have r2 := Y2.out.cell 2
    have s2 := Y2.out.free 2
    have c3 := X2.out.cell 3
    have r3 := Y2.out.cell 3
    have s3 := Y2.out.free 3
    have c4 := X2.out.cell 4
    have r4 := Y2.out.cell 4
    have s4 := Y2.out.free 4
    have c5 := X2.out.cell 5
    have r5 := Y2.out.cell 5
    have s5 := Y2.out.free 5
    have fk := X2.out.free 3
    go_wp2
    refine bodyPost_ret (v := .agg #[.int .i64 c.w, .int .i64 c.tl, .int .i64 c.ml, .int .i64 z, .int .i64 c.ha, .int .i64 c.sg]) (by simp [results, Tryz.results36, go_sem, r0, r1, r2, r3, r4, r5]) rfl ?_
    have hP1 : P ≤ w.heap.size + 1 := by omega
    have hZ0 : w.heap.size ≤ w.heap.size := Nat.le_refl _
    have hZ1 : w.heap.size ≤ w.heap.size + 1 := by omega
    refine ⟨rfl, H2.out.1.below ?_, H2.out.2.below_to ?_⟩
    · repeat (with_reducible first | exact Below.refl _ _ | exact hPw | exact hP1 | refine Below.setCell ?_ ?_ _)
    · repeat (with_reducible first | exact Below.refl _ _ | exact hZ0 | exact hZ1 | refine Below.setCell ?_ ?_ _)
  · simp only
    have HP2 : Hid (∀ W, CurX W B P bs τ → Calls Tryz.prog 14 #[.pointer (some ⟨B, 0, none⟩), .int .i64 2] W fun e w' => e = .returned (.int .i64 ((pickX bs τ 2).1 : Nat)) ∧ CurX w' B P bs (pickX bs τ 2).2 ∧ But B W w') := fun W h => curPickX_any B P bs τ 2 W h (by omega) (by omega)
    have hv2 := pickX_lt bs τ (n := 2) (by omega)
    generalize pickX bs τ 2 = R2 at *
    obtain ⟨v2, υ⟩ := R2
    simp only at HP2 hv2 ⊢
    obtain ⟨z, hz⟩ : ∃ z : Int, ([-1, 3] : List Int).getD v2 0 = z := ⟨_, rfl⟩
    rw [hz]
    have HZ := hid hz
    clear hz
    go_enter Tryz.func36, Tryz.ntmps36
    go_wp2_with fail
    have X0 : Hid (Blk ((w.alloc (.cells #[.int .i64 c.w, .int .i64 c.tl, .int .i64 c.ml, .int .i64 c.sh, .int .i64 c.ha, .int .i64 c.sg] 24)).alloc (.cells #[.int .i64 0, .int .i64 0, .int .i64 0, .int .i64 0, .int .i64 0, .int .i64 0] 24)) w.heap.size #[.int .i64 c.w, .int .i64 c.tl, .int .i64 c.ml, .int .i64 c.sh, .int .i64 c.ha, .int .i64 c.sg] 24) := (Blk.new _ _ _).alloc _
    have Y0 : Hid (Blk ((w.alloc (.cells #[.int .i64 c.w, .int .i64 c.tl, .int .i64 c.ml, .int .i64 c.sh, .int .i64 c.ha, .int .i64 c.sg] 24)).alloc (.cells #[.int .i64 0, .int .i64 0, .int .i64 0, .int .i64 0, .int .i64 0, .int .i64 0] 24)) (w.heap.size + 1) #[.int .i64 0, .int .i64 0, .int .i64 0, .int .i64 0, .int .i64 0, .int .i64 0] 24) := hid (by have := Blk.new (w.alloc (.cells #[.int .i64 c.w, .int .i64 c.tl, .int .i64 c.ml, .int .i64 c.sh, .int .i64 c.ha, .int .i64 c.sg] 24)) #[.int .i64 0, .int .i64 0, .int .i64 0, .int .i64 0, .int .i64 0, .int .i64 0] 24; simpa using this)
    have B0 : Hid (Below w.heap.size w ((w.alloc (.cells #[.int .i64 c.w, .int .i64 c.tl, .int .i64 c.ml, .int .i64 c.sh, .int .i64 c.ha, .int .i64 c.sg] 24)).alloc (.cells #[.int .i64 0, .int .i64 0, .int .i64 0, .int .i64 0, .int .i64 0, .int .i64 0] 24))) := bto (bnew _ _) (bnew _ _)
    generalize ((w.alloc (.cells #[.int .i64 c.w, .int .i64 c.tl, .int .i64 c.ml, .int .i64 c.sh, .int .i64 c.ha, .int .i64 c.sg] 24)).alloc (.cells #[.int .i64 0, .int .i64 0, .int .i64 0, .int .i64 0, .int .i64 0, .int .i64 0] 24)) = W0 at *
    refine (HP.out _ (HC.out.later B0.out)).mono ?_
    rintro e w1 ⟨rfl, hc1, hb1⟩
    have X1 : Hid (Blk w1 w.heap.size #[.int .i64 c.w, .int .i64 c.tl, .int .i64 c.ml, .int .i64 c.sh, .int .i64 c.ha, .int .i64 c.sg] 24) := (hb1.block _ (lt_of_block X0.out) (by omega)).trans X0.out
    have Y1 : Hid (Blk w1 (w.heap.size + 1) #[.int .i64 0, .int .i64 0, .int .i64 0, .int .i64 0, .int .i64 0, .int .i64 0] 24) := (hb1.block _ (lt_of_block Y0.out) (by omega)).trans Y0.out
    have H1 : Hid (CurX w1 B P bs τ ∧ But B w w1) := ⟨hc1, (But.of B0.out).trans hb1⟩
    have hs1 : w.heap.size + 1 < w1.heap.size := lt_of_block Y1.out
    clear hc1 hb1 X0 Y0 B0 HC HP
    go_wp2_with fail
    have HR : Hid (LitI (w1.alloc (.cells (([-1, 3] : List Int).map (Value.int .i64)).toArray 3)) w1.heap.size [-1, 3]) := litI_new w1 _ _
    simp only [List.map_cons, List.map_nil] at HR
    refine (HP2.out _ (H1.out.1.later (bnew _ _))).mono ?_
    rintro e w2 ⟨rfl, hc2, hb2⟩
    have hcell := (HR.out.but hb2 (by omega)).at (j := v2) (by simpa using hv2)
    rw [HZ.out] at hcell
    have X2 : Hid (Blk w2 w.heap.size #[.int .i64 c.w, .int .i64 c.tl, .int .i64 c.ml, .int .i64 c.sh, .int .i64 c.ha, .int .i64 c.sg] 24) := (hb2.block _ (by simp; omega) (by omega)).trans (X1.out.alloc _)
    have Y2 : Hid (Blk w2 (w.heap.size + 1) #[.int .i64 0, .int .i64 0, .int .i64 0, .int .i64 0, .int .i64 0, .int .i64 0] 24) := (hb2.block _ (by simp; omega) (by omega)).trans (Y1.out.alloc _)
    have H2 : Hid (CurX w2 B P bs υ ∧ But B w w2) := ⟨hc2, (H1.out.2.later (bnew _ _)).trans hb2⟩
    clear hc2 hb2 X1 Y1 H1 HR HP2 HZ
    have hv' : (v2 : Int) < 2 := by omega
    have c0 := X2.out.cell 0
    have r0 := Y2.out.cell 0
    have s0 := Y2.out.free 0
    have c1 := X2.out.cell 1
    have r1 := Y2.out.cell 1
    have s1 := Y2.out.free 1
    have c2 := X2.out.cell 2
    have r2 := Y2.out.cell 2
    have s2 := Y2.out.free 2
    have c3 := X2.out.cell 3
    have r3 := Y2.out.cell 3
    have s3 := Y2.out.free 3
    have c4 := X2.out.cell 4
    have r4 := Y2.out.cell 4
    have s4 := Y2.out.free 4
    have c5 := X2.out.cell 5
    have r5 := Y2.out.cell 5
    have s5 := Y2.out.free 5
    have fk := X2.out.free 4
    go_wp2
    refine bodyPost_ret (v := .agg #[.int .i64 c.w, .int .i64 c.tl, .int .i64 c.ml, .int .i64 c.sh, .int .i64 z, .int .i64 c.sg]) (by simp [results, Tryz.results36, go_sem, r0, r1, r2, r3, r4, r5]) rfl ?_
    have hP1 : P ≤ w.heap.size + 1 := by omega
    have hZ0 : w.heap.size ≤ w.heap.size := Nat.le_refl _
    have hZ1 : w.heap.size ≤ w.heap.size + 1 := by omega
    refine ⟨rfl, H2.out.1.below ?_, H2.out.2.below_to ?_⟩
    · repeat (with_reducible first | exact Below.refl _ _ | exact hPw | exact hP1 | refine Below.setCell ?_ ?_ _)
    · repeat (with_reducible first | exact Below.refl _ _ | exact hZ0 | exact hZ1 | refine Below.setCell ?_ ?_ _)
  · simp only
    have HP2 : Hid (∀ W, CurX W B P bs τ → Calls Tryz.prog 14 #[.pointer (some ⟨B, 0, none⟩), .int .i64 3] W fun e w' => e = .returned (.int .i64 ((pickX bs τ 3).1 : Nat)) ∧ CurX w' B P bs (pickX bs τ 3).2 ∧ But B W w') := fun W h => curPickX_any B P bs τ 3 W h (by omega) (by omega)
    have hv2 := pickX_lt bs τ (n := 3) (by omega)
    generalize pickX bs τ 3 = R2 at *
    obtain ⟨v2, υ⟩ := R2
    simp only at HP2 hv2 ⊢
    obtain ⟨z, hz⟩ : ∃ z : Int, ([99, 1000000, 1000001] : List Int).getD v2 0 = z := ⟨_, rfl⟩
    rw [hz]
    have HZ := hid hz
    clear hz
    go_enter Tryz.func36, Tryz.ntmps36
    go_wp2_with fail
    have X0 : Hid (Blk ((w.alloc (.cells #[.int .i64 c.w, .int .i64 c.tl, .int .i64 c.ml, .int .i64 c.sh, .int .i64 c.ha, .int .i64 c.sg] 24)).alloc (.cells #[.int .i64 0, .int .i64 0, .int .i64 0, .int .i64 0, .int .i64 0, .int .i64 0] 24)) w.heap.size #[.int .i64 c.w, .int .i64 c.tl, .int .i64 c.ml, .int .i64 c.sh, .int .i64 c.ha, .int .i64 c.sg] 24) := (Blk.new _ _ _).alloc _
    have Y0 : Hid (Blk ((w.alloc (.cells #[.int .i64 c.w, .int .i64 c.tl, .int .i64 c.ml, .int .i64 c.sh, .int .i64 c.ha, .int .i64 c.sg] 24)).alloc (.cells #[.int .i64 0, .int .i64 0, .int .i64 0, .int .i64 0, .int .i64 0, .int .i64 0] 24)) (w.heap.size + 1) #[.int .i64 0, .int .i64 0, .int .i64 0, .int .i64 0, .int .i64 0, .int .i64 0] 24) := hid (by have := Blk.new (w.alloc (.cells #[.int .i64 c.w, .int .i64 c.tl, .int .i64 c.ml, .int .i64 c.sh, .int .i64 c.ha, .int .i64 c.sg] 24)) #[.int .i64 0, .int .i64 0, .int .i64 0, .int .i64 0, .int .i64 0, .int .i64 0] 24; simpa using this)
    have B0 : Hid (Below w.heap.size w ((w.alloc (.cells #[.int .i64 c.w, .int .i64 c.tl, .int .i64 c.ml, .int .i64 c.sh, .int .i64 c.ha, .int .i64 c.sg] 24)).alloc (.cells #[.int .i64 0, .int .i64 0, .int .i64 0, .int .i64 0, .int .i64 0, .int .i64 0] 24))) := bto (bnew _ _) (bnew _ _)
    generalize ((w.alloc (.cells #[.int .i64 c.w, .int .i64 c.tl, .int .i64 c.ml, .int .i64 c.sh, .int .i64 c.ha, .int .i64 c.sg] 24)).alloc (.cells #[.int .i64 0, .int .i64 0, .int .i64 0, .int .i64 0, .int .i64 0, .int .i64 0] 24)) = W0 at *
    refine (HP.out _ (HC.out.later B0.out)).mono ?_
    rintro e w1 ⟨rfl, hc1, hb1⟩
    have X1 : Hid (Blk w1 w.heap.size #[.int .i64 c.w, .int .i64 c.tl, .int .i64 c.ml, .int .i64 c.sh, .int .i64 c.ha, .int .i64 c.sg] 24) := (hb1.block _ (lt_of_block X0.out) (by omega)).trans X0.out
    have Y1 : Hid (Blk w1 (w.heap.size + 1) #[.int .i64 0, .int .i64 0, .int .i64 0, .int .i64 0, .int .i64 0, .int .i64 0] 24) := (hb1.block _ (lt_of_block Y0.out) (by omega)).trans Y0.out
    have H1 : Hid (CurX w1 B P bs τ ∧ But B w w1) := ⟨hc1, (But.of B0.out).trans hb1⟩
    have hs1 : w.heap.size + 1 < w1.heap.size := lt_of_block Y1.out
    clear hc1 hb1 X0 Y0 B0 HC HP
    go_wp2_with fail
    have HR : Hid (LitI (w1.alloc (.cells (([99, 1000000, 1000001] : List Int).map (Value.int .i64)).toArray 3)) w1.heap.size [99, 1000000, 1000001]) := litI_new w1 _ _
    simp only [List.map_cons, List.map_nil] at HR
    refine (HP2.out _ (H1.out.1.later (bnew _ _))).mono ?_
    rintro e w2 ⟨rfl, hc2, hb2⟩
    have hcell := (HR.out.but hb2 (by omega)).at (j := v2) (by simpa using hv2)
    rw [HZ.out] at hcell
    have X2 : Hid (Blk w2 w.heap.size #[.int .i64 c.w, .int .i64 c.tl, .int .i64 c.ml, .int .i64 c.sh, .int .i64 c.ha, .int .i64 c.sg] 24) := (hb2.block _ (by simp; omega) (by omega)).trans (X1.out.alloc _)
    have Y2 : Hid (Blk w2 (w.heap.size + 1) #[.int .i64 0, .int .i64 0, .int .i64 0, .int .i64 0, .int .i64 0, .int .i64 0] 24) := (hb2.block _ (by simp; omega) (by omega)).trans (Y1.out.alloc _)
    have H2 : Hid (CurX w2 B P bs υ ∧ But B w w2) := ⟨hc2, (H1.out.2.later (bnew _ _)).trans hb2⟩
    clear hc2 hb2 X1 Y1 H1 HR HP2 HZ
    have hv' : (v2 : Int) < 3 := by omega
    have c0 := X2.out.cell 0
    have r0 := Y2.out.cell 0
    have s0 := Y2.out.free 0
    have c1 := X2.out.cell 1
    have r1 := Y2.out.cell 1
    have s1 := Y2.out.free 1
    have c2 := X2.out.cell 2
    have r2 := Y2.out.cell 2
    have s2 := Y2.out.free 2
    have c3 := X2.out.cell 3
    have r3 := Y2.out.cell 3
    have s3 := Y2.out.free 3
    have c4 := X2.out.cell 4
    have r4 := Y2.out.cell 4
    have s4 := Y2.out.free 4
    have c5 := X2.out.cell 5
    have r5 := Y2.out.cell 5
    have s5 := Y2.out.free 5
    have fk := X2.out.free 5
    go_wp2
    refine bodyPost_ret (v := .agg #[.int .i64 c.w, .int .i64 c.tl, .int .i64 c.ml, .int .i64 c.sh, .int .i64 c.ha, .int .i64 z]) (by simp [results, Tryz.results36, go_sem, r0, r1, r2, r3, r4, r5]) rfl ?_
    have hP1 : P ≤ w.heap.size + 1 := by omega
    have hZ0 : w.heap.size ≤ w.heap.size := Nat.le_refl _
    have hZ1 : w.heap.size ≤ w.heap.size + 1 := by omega
    refine ⟨rfl, H2.out.1.below ?_, H2.out.2.below_to ?_⟩
    · repeat (with_reducible first | exact Below.refl _ _ | exact hPw | exact hP1 | refine Below.setCell ?_ ?_ _)
    · repeat (with_reducible first | exact Below.refl _ _ | exact hZ0 | exact hZ1 | refine Below.setCell ?_ ?_ _)
end Go.Proofs.YtnbkmmmlhlbfoaaGreatDoor
