import Derived.Test.YtnbkmmmlhlbfoaaGreatDoorProg
import Derived.Test.YtnbkmmmlhlbfoaaGreatDoorJ07DrwL
import Derived.Test.YtnbkmmmlhlbfoaaGreatDoorJ11SplX
import Derived.Test.YtnbkmmmlhlbfoaaGreatDoorJ12DrwP
import Derived.Test.YtnbkmmmlhlbfoaaGreatDoorJ01DrawV
import Derived.Test.YtnbkmmmlhlbfoaaGreatDoorJ09InsL
import Derived.Deep.OwnRows
namespace Go.Proofs.YtnbkmmmlhlbfoaaGreatDoor
open Go.RowKit
def configX (bs : List Nat) (σ : CSt) : CfgD × CSt :=
  (⟨1 + (pickX bs σ 8).1, 1 + (pickX bs (pickX bs σ 8).2 7).1, 1 + (pickX bs (pickX bs (pickX bs σ 8).2 7).2 5).1, 1 + (pickX bs (pickX bs (pickX bs (pickX bs σ 8).2 7).2 5).2 5).1, (pickX bs (pickX bs (pickX bs (pickX bs (pickX bs σ 8).2 7).2 5).2 5).2 3).1, 100 + (pickX bs (pickX bs (pickX bs (pickX bs (pickX bs (pickX bs σ 8).2 7).2 5).2 5).2 3).2 200).1⟩, (pickX bs (pickX bs (pickX bs (pickX bs (pickX bs (pickX bs σ 8).2 7).2 5).2 5).2 3).2 200).2)
set_option maxRecDepth 100000 in
set_option maxHeartbeats 2000000 in
theorem drawConfigX_any (B P : Nat) (bs : List Nat) (σ : CSt) (w : World) (h : CurX w B P bs σ) (hN : σ.k ≤ 1000000) :
    Calls Tryz.prog 34 #[.pointer (some ⟨B, 0, none⟩)] w fun e w' => e = .returned (cfgV (configX bs σ).1) ∧ CurX w' B P bs (configX bs σ).2 ∧ But B w w' := by
  have HC : Hid (CurX w B P bs σ) := h
  have hlt := h.lt
  have hPw := h.up.2
  clear h
  unfold configX
  have HP1 : Hid (∀ W, CurX W B P bs σ → Calls Tryz.prog 14 #[.pointer (some ⟨B, 0, none⟩), .int .i64 8] W fun e w' => e = .returned (.int .i64 ((pickX bs σ 8).1 : Nat)) ∧ CurX w' B P bs (pickX bs σ 8).2 ∧ But B W w') := fun W h => curPickX_any B P bs σ 8 W h (by omega) (by omega)
  have hv1 := pickX_lt bs σ (n := 8) (by omega)
  have hk1 := pickX_k bs σ 8
  generalize pickX bs σ 8 = R1 at *
  obtain ⟨v1, σ1⟩ := R1
  simp only at HP1 hv1 hk1 ⊢
  have HP2 : Hid (∀ W, CurX W B P bs σ1 → Calls Tryz.prog 14 #[.pointer (some ⟨B, 0, none⟩), .int .i64 7] W fun e w' => e = .returned (.int .i64 ((pickX bs σ1 7).1 : Nat)) ∧ CurX w' B P bs (pickX bs σ1 7).2 ∧ But B W w') := fun W h => curPickX_any B P bs σ1 7 W h (by omega) (by omega)
  have hv2 := pickX_lt bs σ1 (n := 7) (by omega)
  have hk2 := pickX_k bs σ1 7
  generalize pickX bs σ1 7 = R2 at *
  obtain ⟨v2, σ2⟩ := R2
  simp only at HP2 hv2 hk2 ⊢
  have HP3 : Hid (∀ W, CurX W B P bs σ2 → Calls Tryz.prog 14 #[.pointer (some ⟨B, 0, none⟩), .int .i64 5] W fun e w' => e = .returned (.int .i64 ((pickX bs σ2 5).1 : Nat)) ∧ CurX w' B P bs (pickX bs σ2 5).2 ∧ But B W w') := fun W h => curPickX_any B P bs σ2 5 W h (by omega) (by omega)
  have hv3 := pickX_lt bs σ2 (n := 5) (by omega)
  have hk3 := pickX_k bs σ2 5
  generalize pickX bs σ2 5 = R3 at *
  obtain ⟨v3, σ3⟩ := R3
  simp only at HP3 hv3 hk3 ⊢
  have HP4 : Hid (∀ W, CurX W B P bs σ3 → Calls Tryz.prog 14 #[.pointer (some ⟨B, 0, none⟩), .int .i64 5] W fun e w' => e = .returned (.int .i64 ((pickX bs σ3 5).1 : Nat)) ∧ CurX w' B P bs (pickX bs σ3 5).2 ∧ But B W w') := fun W h => curPickX_any B P bs σ3 5 W h (by omega) (by omega)
  have hv4 := pickX_lt bs σ3 (n := 5) (by omega)
  have hk4 := pickX_k bs σ3 5
  generalize pickX bs σ3 5 = R4 at *
  obtain ⟨v4, σ4⟩ := R4
  simp only at HP4 hv4 hk4 ⊢
  have HP5 : Hid (∀ W, CurX W B P bs σ4 → Calls Tryz.prog 14 #[.pointer (some ⟨B, 0, none⟩), .int .i64 3] W fun e w' => e = .returned (.int .i64 ((pickX bs σ4 3).1 : Nat)) ∧ CurX w' B P bs (pickX bs σ4 3).2 ∧ But B W w') := fun W h => curPickX_any B P bs σ4 3 W h (by omega) (by omega)
  have hv5 := pickX_lt bs σ4 (n := 3) (by omega)
  have hk5 := pickX_k bs σ4 3
  generalize pickX bs σ4 3 = R5 at *
  obtain ⟨v5, σ5⟩ := R5
  simp only at HP5 hv5 hk5 ⊢
  have HP6 : Hid (∀ W, CurX W B P bs σ5 → Calls Tryz.prog 14 #[.pointer (some ⟨B, 0, none⟩), .int .i64 200] W fun e w' => e = .returned (.int .i64 ((pickX bs σ5 200).1 : Nat)) ∧ CurX w' B P bs (pickX bs σ5 200).2 ∧ But B W w') := fun W h => curPickX_any B P bs σ5 200 W h (by omega) (by omega)
  have hv6 := pickX_lt bs σ5 (n := 200) (by omega)
  have hk6 := pickX_k bs σ5 200
  generalize pickX bs σ5 200 = R6 at *
  obtain ⟨v6, σ6⟩ := R6
  simp only at HP6 hv6 hk6 ⊢
  go_enter Tryz.func34, Tryz.ntmps34
  go_wp2_with fail
  refine (HP1.out _ (HC.out.later (bnew _ _))).mono ?_
  rintro e w1 ⟨rfl, hc1, hb1⟩
  have H1 : Hid (CurX w1 B P bs σ1 ∧ But B w w1) := ⟨hc1, (But.of (bnew _ _)).trans hb1⟩
  have hby : Blk (w.alloc (.cells #[.int .i64 0, .int .i64 0, .int .i64 0, .int .i64 0, .int .i64 0, .int .i64 0] 24)) w.heap.size #[.int .i64 0, .int .i64 0, .int .i64 0, .int .i64 0, .int .i64 0, .int .i64 0] 24 := heap_alloc_new _ _
  have Y1 : Hid (Blk w1 w.heap.size #[.int .i64 0, .int .i64 0, .int .i64 0, .int .i64 0, .int .i64 0, .int .i64 0] 24) := (hb1.block _ (lt_of_block hby) (by omega)).trans hby
  have hz0 : w.heap.size < w1.heap.size := lt_of_block Y1.out
  have hz1 : w.heap.size ≤ w1.heap.size := by omega
  clear hc1 hb1 HC hby
  have p1 : (v1 : Int) < 8 := by omega
  go_wp2_with fail
  refine (HP2.out _ (H1.out.1.later (bnew _ _))).mono ?_
  rintro e w2 ⟨rfl, hc2, hb2⟩
  have hbx : Blk (w1.alloc (.cells #[.int .i64 (1 + v1), .int .i64 6, .int .i64 4, .int .i64 0, .int .i64 0, .int .i64 0] 24)) w1.heap.size #[.int .i64 (1 + v1), .int .i64 6, .int .i64 4, .int .i64 0, .int .i64 0, .int .i64 0] 24 := heap_alloc_new _ _
  have X2 : Hid (Blk w2 w1.heap.size #[.int .i64 (1 + v1), .int .i64 6, .int .i64 4, .int .i64 0, .int .i64 0, .int .i64 0] 24) := (hb2.block _ (lt_of_block hbx) (by omega)).trans hbx
  have H2 : Hid (CurX w2 B P bs σ2 ∧ But B w w2) := ⟨hc2, (H1.out.2.later (bnew _ _)).trans hb2⟩
  have Y2 : Hid (Blk w2 w.heap.size #[.int .i64 0, .int .i64 0, .int .i64 0, .int .i64 0, .int .i64 0, .int .i64 0] 24) := (hb2.block _ (by simp; omega) (by omega)).trans (Y1.out.alloc _)
  clear hc2 hb2 hbx H1 Y1
  have p2 : (v2 : Int) < 7 := by omega
  have c1 := X2.out.cell 1
  have f1 := X2.out.free 1
  go_wp2_with fail
  refine (HP3.out _ (H2.out.1.below ((Below.refl _ _).setCell (by show P ≤ w1.heap.size; omega) _))).mono ?_
  rintro e w3 ⟨rfl, hc3, hb3⟩
  have hx3 := Blk.set X2.out 1 (.int .i64 (1 + (v2 : Int)))
  have X3 : Hid (Blk w3 w1.heap.size #[.int .i64 (1 + v1), .int .i64 (1 + v2), .int .i64 4, .int .i64 0, .int .i64 0, .int .i64 0] 24) := (hb3.block _ (lt_of_block hx3) (by omega)).trans hx3
  have H3 : Hid (CurX w3 B P bs σ3 ∧ But B w w3) := ⟨hc3, (H2.out.2.below_to ((Below.refl _ _).setCell hz1 _)).trans hb3⟩
  have Y3 : Hid (Blk w3 w.heap.size #[.int .i64 0, .int .i64 0, .int .i64 0, .int .i64 0, .int .i64 0, .int .i64 0] 24) := (hb3.block _ (by have := lt_of_block Y2.out; simpa using this) (by omega)).trans (Y2.out.keepS (by omega) _)
  clear hc3 hb3 hx3 Y2 H2 X2 c1 f1
  have p3 : (v3 : Int) < 5 := by omega
  have c2 := X3.out.cell 2
  have f2 := X3.out.free 2
  go_wp2_with fail
  refine (HP4.out _ (H3.out.1.below ((Below.refl _ _).setCell (by show P ≤ w1.heap.size; omega) _))).mono ?_
  rintro e w4 ⟨rfl, hc4, hb4⟩
  have hx4 := Blk.set X3.out 2 (.int .i64 (1 + (v3 : Int)))
  have X4 : Hid (Blk w4 w1.heap.size #[.int .i64 (1 + v1), .int .i64 (1 + v2), .int .i64 (1 + v3), .int .i64 0, .int .i64 0, .int .i64 0] 24) := (hb4.block _ (lt_of_block hx4) (by omega)).trans hx4
  have H4 : Hid (CurX w4 B P bs σ4 ∧ But B w w4) := ⟨hc4, (H3.out.2.below_to ((Below.refl _ _).setCell hz1 _)).trans hb4⟩
  have Y4 : Hid (Blk w4 w.heap.size #[.int .i64 0, .int .i64 0, .int .i64 0, .int .i64 0, .int .i64 0, .int .i64 0] 24) := (hb4.block _ (by have := lt_of_block Y3.out; simpa using this) (by omega)).trans (Y3.out.keepS (by omega) _)
  clear hc4 hb4 hx4 Y3 H3 X3 c2 f2
  have p4 : (v4 : Int) < 5 := by omega
  have c3 := X4.out.cell 3
  have f3 := X4.out.free 3
  go_wp2_with fail
  refine (HP5.out _ (H4.out.1.below ((Below.refl _ _).setCell (by show P ≤ w1.heap.size; omega) _))).mono ?_
  rintro e w5 ⟨rfl, hc5, hb5⟩
  have hx5 := Blk.set X4.out 3 (.int .i64 (1 + (v4 : Int)))
  have X5 : Hid (Blk w5 w1.heap.size #[.int .i64 (1 + v1), .int .i64 (1 + v2), .int .i64 (1 + v3), .int .i64 (1 + v4), .int .i64 0, .int .i64 0] 24) := (hb5.block _ (lt_of_block hx5) (by omega)).trans hx5
  have H5 : Hid (CurX w5 B P bs σ5 ∧ But B w w5) := ⟨hc5, (H4.out.2.below_to ((Below.refl _ _).setCell hz1 _)).trans hb5⟩
  have Y5 : Hid (Blk w5 w.heap.size #[.int .i64 0, .int .i64 0, .int .i64 0, .int .i64 0, .int .i64 0, .int .i64 0] 24) := (hb5.block _ (by have := lt_of_block Y4.out; simpa using this) (by omega)).trans (Y4.out.keepS (by omega) _)
  clear hc5 hb5 hx5 Y4 H4 X4 c3 f3
  have p5 : (v5 : Int) < 3 := by omega
  have c4 := X5.out.cell 4
  have f4 := X5.out.free 4
  go_wp2_with fail
  refine (HP6.out _ (H5.out.1.below ((Below.refl _ _).setCell (by show P ≤ w1.heap.size; omega) _))).mono ?_
  rintro e w6 ⟨rfl, hc6, hb6⟩
  have hx6 := Blk.set X5.out 4 (.int .i64 (v5 : Int))
  have X6 : Hid (Blk w6 w1.heap.size #[.int .i64 (1 + v1), .int .i64 (1 + v2), .int .i64 (1 + v3), .int .i64 (1 + v4), .int .i64 v5, .int .i64 0] 24) := (hb6.block _ (lt_of_block hx6) (by omega)).trans hx6
  have H6 : Hid (CurX w6 B P bs σ6 ∧ But B w w6) := ⟨hc6, (H5.out.2.below_to ((Below.refl _ _).setCell hz1 _)).trans hb6⟩
  have Y6 : Hid (Blk w6 w.heap.size #[.int .i64 0, .int .i64 0, .int .i64 0, .int .i64 0, .int .i64 0, .int .i64 0] 24) := (hb6.block _ (by have := lt_of_block Y5.out; simpa using this) (by omega)).trans (Y5.out.keepS (by omega) _)
  clear hc6 hb6 hx6 Y5 H5 X5 c4 f4
  have p6 : (v6 : Int) < 200 := by omega
  have c0 := X6.out.cell 0
  have c1 := X6.out.cell 1
  have c2 := X6.out.cell 2
  have c3 := X6.out.cell 3
  have c4 := X6.out.cell 4
  have c5 := X6.out.cell 5
  have f5 := X6.out.free 5
  have r0 := Y6.out.cell 0
  have s0 := Y6.out.free 0
  have r1 := Y6.out.cell 1
  have s1 := Y6.out.free 1
  have r2 := Y6.out.cell 2
  have s2 := Y6.out.free 2
  have r3 := Y6.out.cell 3
  have s3 := Y6.out.free 3
  have r4 := Y6.out.cell 4
  have s4 := Y6.out.free 4
  have r5 := Y6.out.cell 5
  have s5 := Y6.out.free 5
  have n1 : ¬ (w.heap.size = w1.heap.size) := by omega
  have n2 : ¬ (w1.heap.size = w.heap.size) := by omega
  go_wp2
  refine bodyPost_ret (v := .agg #[.int .i64 (1 + v1), .int .i64 (1 + v2), .int .i64 (1 + v3), .int .i64 (1 + v4), .int .i64 v5, .int .i64 (100 + v6)]) (by simp [results, Tryz.results34, go_sem, r0, r1, r2, r3, r4, r5]) rfl ?_
  have hP0 : P ≤ w.heap.size := hPw
  have hP1 : P ≤ w1.heap.size := by omega
  have hZ : w.heap.size ≤ w.heap.size := Nat.le_refl _
  refine ⟨rfl, H6.out.1.below ?_, H6.out.2.below_to ?_⟩
  · exact ((((((((Below.refl _ _).setCell hP1 _).setCell hP0 _).setCell hP0 _).setCell hP0 _).setCell hP0 _).setCell hP0 _).setCell hP0 _)
  · exact ((((((((Below.refl _ _).setCell hz1 _).setCell hZ _).setCell hZ _).setCell hZ _).setCell hZ _).setCell hZ _).setCell hZ _)
end Go.Proofs.YtnbkmmmlhlbfoaaGreatDoor
namespace Go.Proofs.YtnbkmmmlhlbfoaaGreatDoor
open Go.RowKit Go.Lib
def powT : Nat → Nat
  | 0 => 10000
  | j + 1 => powT j / 10
def nmJ (i : Nat) : Nat → ByteArray
  | 0 => ⟨#[]⟩
  | j + 1 => nmJ i j ++ strOfNums [48 + ((i / powT j % 10 : Nat) : Int)]
theorem nmJ_size (i j : Nat) : (nmJ i j).size = j := by
  induction j with
  | zero => rfl
  | succ j ih => rw [nmJ, ByteArray.size_append, ih, strOfNums_len]; rfl
def bigT (i : Nat) : TenD := ⟨⟨#[116]⟩ ++ nmJ i 5, 3, [], []⟩
def bigTs : Nat → List TenD
  | 0 => []
  | k + 1 => bigTs k ++ [bigT k]
theorem bigTs_length (k : Nat) : (bigTs k).length = k := by
  induction k with
  | zero => rfl
  | succ k ih => rw [bigTs, List.length_append, ih]; rfl
theorem bigTs_bulk (k : Nat) : tensBulk (bigTs k) = 6 * k := by
  induction k with
  | zero => rfl
  | succ k ih =>
    have e : tensBulk [bigT k] = 6 := by
      simp only [tensBulk, tenBulk, bigT, ByteArray.size_append, nmJ_size, pairBulk, List.length_nil]
      rfl
    rw [bigTs, tensBulk_append, ih, e]
    omega
theorem powT_pos : ∀ {j : Nat}, j < 5 → 1 ≤ powT j ∧ powT j ≤ 10000 := by
  intro j hj
  match j, hj with
  | 0, _ => decide
  | 1, _ => decide
  | 2, _ => decide
  | 3, _ => decide
  | 4, _ => decide
theorem powT_five : powT 5 = 0 := by decide
def bothY (bs : List Nat) (mode : Nat) (c : CfgD) (now : Int) (ts : List TenD) (σ : CSt) : CfgD × Int × List TenD × CSt :=
  if mode = 1 then
    if (pickX bs σ 3).1 = 0 then ((spoilCfgX bs (pickX bs σ 3).2 c).1, now, ts, (spoilCfgX bs (pickX bs σ 3).2 c).2)
    else (c, spX bs now ts (pickX bs σ 3).2)
  else if mode = 2 then
    if (pickX bs σ 3).1 = 0 then (c, 0, bigTs (10000 + (pickX bs (pickX bs σ 3).2 2).1), (pickX bs (pickX bs σ 3).2 2).2)
    else (c, now, ts, (pickX bs σ 3).2)
  else (c, now, ts, σ)
def bothZ (bs : List Nat) (mode : Nat) (c : CfgD) (x : Int × List TenD × CSt) : CfgD × Int × List TenD × CSt := bothY bs mode c x.1 x.2.1 x.2.2
def bothC (bs : List Nat) (mode : Nat) (x : CfgD × CSt) : CfgD × Int × List TenD × CSt := bothZ bs mode x.1 (stateX x.1 bs x.2)
def bothX (bs : List Nat) (σ : CSt) : CfgD × Int × List TenD × CSt := bothC bs (modeX bs σ).1 (configX bs (modeX bs σ).2)
theorem spoilCfgX_k (bs : List Nat) (σ : CSt) (c : CfgD) : (spoilCfgX bs σ c).2.k ≤ σ.k + 2 := by
  have h0 := pickX_k bs σ 6
  unfold spoilCfgX
  generalize pickX bs σ 6 = R at *
  obtain ⟨v, τ⟩ := R
  have h3 := pickX_k bs τ 3
  have h2 := pickX_k bs τ 2
  simp only at h0
  split <;> (rename_i e; simp only [Prod.mk.injEq] at e; obtain ⟨_, rfl⟩ := e; simp only; omega)
theorem configX_k (bs : List Nat) (σ : CSt) : (configX bs σ).2.k ≤ σ.k + 6 := by
  have a0 := pickX_k bs σ 8
  have a1 := pickX_k bs (pickX bs σ 8).2 7
  have a2 := pickX_k bs (pickX bs (pickX bs σ 8).2 7).2 5
  have a3 := pickX_k bs (pickX bs (pickX bs (pickX bs σ 8).2 7).2 5).2 5
  have a4 := pickX_k bs (pickX bs (pickX bs (pickX bs (pickX bs σ 8).2 7).2 5).2 5).2 3
  have a5 := pickX_k bs (pickX bs (pickX bs (pickX bs (pickX bs (pickX bs σ 8).2 7).2 5).2 5).2 3).2 200
  unfold configX
  simp only
  omega
theorem bothY_is (bs : List Nat) (mode : Nat) (c : CfgD) (now : Int) (ts : List TenD) (σ : CSt) (hb : ts.length + tensBulk ts ≤ 281200) : (bothY bs mode c now ts σ).2.2.1.length + tensBulk (bothY bs mode c now ts σ).2.2.1 ≤ 1000000 ∧ (bothY bs mode c now ts σ).2.2.2.k ≤ σ.k + 20 := by
  have h3 := pickX_k bs σ 3
  unfold bothY
  split
  · split
    · have := spoilCfgX_k bs (pickX bs σ 3).2 c
      simp only
      omega
    · have := spX_is bs now ts (pickX bs σ 3).2 hb
      simp only
      omega
  · split
    · split
      · have h2 := pickX_k bs (pickX bs σ 3).2 2
        have hl := pickX_lt bs (pickX bs σ 3).2 (n := 2) (by omega)
        simp only [bigTs_length, bigTs_bulk]
        omega
      · simp only
        omega
    · simp only
      omega
theorem bothX_is (bs : List Nat) (σ : CSt) : (bothX bs σ).2.2.1.length + tensBulk (bothX bs σ).2.2.1 ≤ 1000000 ∧ (bothX bs σ).2.2.2.k ≤ σ.k + 830 := by
  have h0 : (modeX bs σ).2.k ≤ σ.k + 1 := pickX_k bs σ 10
  have h1 := configX_k bs (modeX bs σ).2
  have h2 := stateX_is (configX bs (modeX bs σ).2).1 bs (configX bs (modeX bs σ).2).2
  have h3 := stateX_k (configX bs (modeX bs σ).2).1 bs (configX bs (modeX bs σ).2).2
  have h4 := bothY_is bs (modeX bs σ).1 (configX bs (modeX bs σ).2).1 (stateX (configX bs (modeX bs σ).2).1 bs (configX bs (modeX bs σ).2).2).1 (stateX (configX bs (modeX bs σ).2).1 bs (configX bs (modeX bs σ).2).2).2.1 (stateX (configX bs (modeX bs σ).2).1 bs (configX bs (modeX bs σ).2).2).2.2 h2.1
  show (bothY _ _ _ _ _ _).2.2.1.length + tensBulk (bothY _ _ _ _ _ _).2.2.1 ≤ 1000000 ∧ (bothY _ _ _ _ _ _).2.2.2.k ≤ _
  omega
end Go.Proofs.YtnbkmmmlhlbfoaaGreatDoor
namespace Go.Proofs.YtnbkmmmlhlbfoaaGreatDoor
open Go.RowKit
def PairsN (w : World) (A : Nat → Prop) (a : Option Addr) (ps : List PairD) : Prop := ps = [] ∨ ∃ g o, a = some ⟨g, o, none⟩ ∧ A g ∧ g < w.heap.size ∧ PairsAt w g o ps
theorem PairsN.but {w w' : World} {B : Nat} {A : Nat → Prop} {a : Option Addr} {ps : List PairD} (h : PairsN w A a ps) (hb : But B w w') (hA : ¬ A B) : PairsN w' A a ps := by
  rcases h with h | ⟨g, o, rfl, hne, hlt, h⟩
  · exact Or.inl h
  · have hk := hb.block g hlt (fun e => hA (e ▸ hne))
    have hc : ∀ j, w'.cell? ⟨g, j, none⟩ = w.cell? ⟨g, j, none⟩ := fun j => World.cell?_of_block hk
    exact Or.inr ⟨g, o, rfl, hne, Nat.lt_of_lt_of_le hlt hb.size, fun i hi => by simp only [hc]; exact h i hi⟩
theorem PairsN.pairs {w : World} {A : Nat → Prop} {a : Option Addr} {ps : List PairD} (h : PairsN w A a ps) : PairsIn w a ps := by
  rcases h with h | ⟨g, o, rfl, _, hlt, h⟩
  · exact Or.inl h
  · exact Or.inr ⟨g, o, rfl, hlt, h⟩
theorem PairsOwn.toN {w : World} {C : Nat} {A : Nat → Prop} {a : Option Addr} {ps : List PairD} (h : PairsOwn w C a ps) (hA : ∀ g, C ≤ g → A g) : PairsN w A a ps := by
  rcases h with h | ⟨g, o, cur, t, rfl, hC, hb, h⟩
  · exact Or.inl h
  · exact Or.inr ⟨g, o, rfl, hA g hC, lt_of_block hb, h⟩
def TenN (w : World) (A : Nat → Prop) (b o : Nat) (t : TenD) : Prop :=
  ∃ a1 c1 a2 c2, w.cell? ⟨b, o, none⟩ = some (.string t.name) ∧ w.cell? ⟨b, o + 1, none⟩ = some (.int .i64 t.limit) ∧ w.cell? ⟨b, o + 2, none⟩ = some (.slice a1 t.mets.length c1) ∧ w.cell? ⟨b, o + 3, none⟩ = some (.slice a2 t.sers.length c2) ∧
    PairsN w A a1 t.mets ∧ PairsN w A a2 t.sers
theorem TenN.but {w w' : World} {B b o : Nat} {A : Nat → Prop} {t : TenD} (h : TenN w A b o t) (hne : b ≠ B) (hlt : b < w.heap.size) (hb : But B w w') (hA : ¬ A B) : TenN w' A b o t := by
  obtain ⟨a1, c1, a2, c2, h0, h1, h2, h3, h4, h5⟩ := h
  have hk : ∀ j, w'.cell? ⟨b, j, none⟩ = w.cell? ⟨b, j, none⟩ := fun j => World.cell?_of_block (hb.block b hlt hne)
  exact ⟨a1, c1, a2, c2, (hk _).trans h0, (hk _).trans h1, (hk _).trans h2, (hk _).trans h3, h4.but hb hA, h5.but hb hA⟩
def TensN (w : World) (A : Nat → Prop) (a : Option Addr) (ts : List TenD) : Prop := ts = [] ∨ ∃ b o, a = some ⟨b, o, none⟩ ∧ A b ∧ b < w.heap.size ∧ ∀ i (h : i < ts.length), TenN w A b (o + i * 4) ts[i]
theorem TensN.but {w w' : World} {B : Nat} {A : Nat → Prop} {a : Option Addr} {ts : List TenD} (h : TensN w A a ts) (hb : But B w w') (hA : ¬ A B) : TensN w' A a ts := by
  rcases h with h | ⟨b, o, rfl, hne, hlt, h⟩
  · exact Or.inl h
  · exact Or.inr ⟨b, o, rfl, hne, Nat.lt_of_lt_of_le hlt hb.size, fun i hi => (h i hi).but (fun e : b = B => hA (e ▸ hne)) hlt hb hA⟩
theorem PairsN.keep {w w' : World} {A : Nat → Prop} {a : Option Addr} {ps : List PairD} (h : PairsN w A a ps) (hs : w.heap.size ≤ w'.heap.size) (hk : ∀ g, A g → g < w.heap.size → w'.heap[g]? = w.heap[g]?) : PairsN w' A a ps := by
  rcases h with h | ⟨g, o, rfl, hA, hlt, h⟩
  · exact Or.inl h
  · have hc : ∀ j, w'.cell? ⟨g, j, none⟩ = w.cell? ⟨g, j, none⟩ := fun j => World.cell?_of_block (hk g hA hlt)
    exact Or.inr ⟨g, o, rfl, hA, by omega, fun i hi => by simp only [hc]; exact h i hi⟩
theorem TensN.keep {w w' : World} {A : Nat → Prop} {a : Option Addr} {ts : List TenD} (h : TensN w A a ts) (hs : w.heap.size ≤ w'.heap.size) (hk : ∀ g, A g → g < w.heap.size → w'.heap[g]? = w.heap[g]?) : TensN w' A a ts := by
  rcases h with h | ⟨b, o, rfl, hA, hlt, h⟩
  · exact Or.inl h
  · refine Or.inr ⟨b, o, rfl, hA, by omega, fun i hi => ?_⟩
    obtain ⟨a1, c1, a2, c2, h0, h1, h2, h3, h4, h5⟩ := h i hi
    have hc : ∀ j, w'.cell? ⟨b, j, none⟩ = w.cell? ⟨b, j, none⟩ := fun j => World.cell?_of_block (hk b hA hlt)
    exact ⟨a1, c1, a2, c2, (hc _).trans h0, (hc _).trans h1, (hc _).trans h2, (hc _).trans h3, h4.keep hs hk, h5.keep hs hk⟩
theorem TensN.later {w w' : World} {A : Nat → Prop} {a : Option Addr} {ts : List TenD} (h : TensN w A a ts) (hb : Below w.heap.size w w') : TensN w' A a ts := h.keep hb.size fun g _ hg => hb.block g hg
theorem PairsN.mono {w : World} {A A' : Nat → Prop} {a : Option Addr} {ps : List PairD} (h : PairsN w A a ps) (hA : ∀ g, A g → A' g) : PairsN w A' a ps := by
  rcases h with h | ⟨g, o, e, q, h⟩
  · exact Or.inl h
  · exact Or.inr ⟨g, o, e, hA g q, h⟩
theorem TensN.mono {w : World} {A A' : Nat → Prop} {a : Option Addr} {ts : List TenD} (h : TensN w A a ts) (hA : ∀ g, A g → A' g) : TensN w A' a ts := by
  rcases h with h | ⟨b, o, e, q, hlt, h⟩
  · exact Or.inl h
  · refine Or.inr ⟨b, o, e, hA b q, hlt, fun i hi => ?_⟩
    obtain ⟨a1, c1, a2, c2, h0, h1, h2, h3, h4, h5⟩ := h i hi
    exact ⟨a1, c1, a2, c2, h0, h1, h2, h3, h4.mono hA, h5.mono hA⟩
theorem TensN.tens {w : World} {A : Nat → Prop} {a : Option Addr} {ts : List TenD} (h : TensN w A a ts) : TensIn w a ts := by
  rcases h with h | ⟨b, o, rfl, _, hlt, h⟩
  · exact Or.inl h
  · refine Or.inr ⟨b, o, rfl, hlt, fun i hi => ?_⟩
    obtain ⟨a1, c1, a2, c2, h0, h1, h2, h3, h4, h5⟩ := h i hi
    exact ⟨a1, c1, a2, c2, h0, h1, h2, h3, h4.pairs, h5.pairs⟩
theorem TensOwn.toN {w : World} {C : Nat} {A : Nat → Prop} {a : Option Addr} {ts : List TenD} (h : TensOwn w C a ts) (hA : ∀ g, C ≤ g → A g) : TensN w A a ts := by
  rcases h with h | ⟨g, o, cur, t, T, rfl, hC, hb, _, h⟩
  · exact Or.inl h
  · refine Or.inr ⟨g, o, rfl, hA g hC, lt_of_block hb, fun i hi => ?_⟩
    obtain ⟨a1, c1, a2, c2, h0, h1, h2, h3, h4, h5⟩ := h i hi
    exact ⟨a1, c1, a2, c2, h0, h1, h2, h3, h4.own.toN hA, h5.own.toN hA⟩
end Go.Proofs.YtnbkmmmlhlbfoaaGreatDoor
namespace Go.Proofs.YtnbkmmmlhlbfoaaGreatDoor
open Go.RowKit
structure TV where
  t : TenD
  a1 : Option Addr
  c1 : Nat
  a2 : Option Addr
  c2 : Nat
def flatV (ys : List TV) : List Value := ys.flatMap fun y => [.string y.t.name, .int .i64 y.t.limit, .slice y.a1 y.t.mets.length y.c1, .slice y.a2 y.t.sers.length y.c2]
theorem flatV_append (a b : List TV) : flatV (a ++ b) = flatV a ++ flatV b := by simp [flatV]
def PartsV (w : World) (b : Nat) (T : Nat → Nat) (ys : List TV) : Prop :=
  ∀ i (h : i < ys.length), PairsTag w b T (2 * i + 1) ys[i].a1 ys[i].t.mets ∧ PairsTag w b T (2 * i + 2) ys[i].a2 ys[i].t.sers
def RowV (w : World) (b : Nat) (e : TypeId) (v : Value) (n : Nat) (ts : List TenD) : Prop :=
  ∃ T ys, w.ownsRow b e 4 v n (flatV ys) ∧ ys.map (·.t) = ts ∧ (∀ g, v.ownBlock = some g → T g = 0) ∧ PartsV w b T ys
theorem RowV.nil (w : World) (b : Nat) (e : TypeId) : RowV w b e (.slice none 0 0) 0 [] :=
  ⟨fun _ => 0, [], World.ownsRow_nil _ _ _ _, rfl, fun _ _ => rfl, fun i h => absurd h (by simp)⟩
theorem RowV.row {w : World} {b : Nat} {e : TypeId} {v : Value} {n : Nat} {ts : List TenD} (h : RowV w b e v n ts) : ∃ a c, v = .slice a n c := by
  obtain ⟨_, _, h, _⟩ := h
  rcases h.2 with ⟨rfl, rfl⟩ | ⟨g, cap, cur, rfl, _⟩
  · exact ⟨none, 0, rfl⟩
  · exact ⟨_, _, rfl⟩
theorem RowV.turn {w w' : World} {S : Nat → Prop} {b : Nat} {e : TypeId} {v : Value} {n : Nat} {ts : List TenD} (h : RowV w b e v n ts) (ht : Turn S w w') (hS : ∀ g, S g → g < b) : RowV w' b e v n ts := by
  obtain ⟨T, ys, h1, h2, h3, h4⟩ := h
  refine ⟨T, ys, ht.row h1 (fun g hg e => by have := (h1.lt g hg).1; have := hS g e; omega), h2, h3, fun i hi => ?_⟩
  have hk : ∀ g, g < w.heap.size → b ≤ g → w'.heap[g]? = w.heap[g]? := fun g hg hb => ht.block g hg (fun e => by have := hS g e; omega)
  exact ⟨(h4 i hi).1.keep fun g hg hb hT => ⟨hk g hg hb, hT⟩, (h4 i hi).2.keep fun g hg hb hT => ⟨hk g hg hb, hT⟩⟩
theorem RowV.snoc {wr w4 w6 : World} {b M gg cap k : Nat} {e : TypeId} {v : Value} {T : Nat → Nat} {ys : List TV} {ts : List TenD} {t : TenD} {a1 a2 : Option Addr} {c1 c2 : Nat}
    (hrow : w6.ownsRow b e 4 (.slice (some ⟨gg, 0, none⟩) (k + 1) cap) (k + 1) (flatV ys ++ [.string t.name, .int .i64 t.limit, .slice a1 t.mets.length c1, .slice a2 t.sers.length c2]))
    (hys : ys.map (·.t) = ts) (hyk : ys.length = k) (hv : ∀ g, v.ownBlock = some g → T g = 0) (hp : PartsV wr b T ys) (hb : b ≤ wr.heap.size) (hM : wr.heap.size ≤ M)
    (hk0 : ∀ g, g < wr.heap.size → b ≤ g → v.ownBlock ≠ some g → w6.heap[g]? = wr.heap[g]?) (hk4 : ∀ g, wr.heap.size ≤ g → g < w4.heap.size → w6.heap[g]? = w4.heap[g]?)
    (h1 : PairsOwn w4 wr.heap.size a1 t.mets) (h1M : ∀ g o, a1 = some ⟨g, o, none⟩ → g < M) (h2 : PairsOwn w4 M a2 t.sers)
    (hgg : (v.ownBlock = some gg ∧ gg < wr.heap.size) ∨ w4.heap.size ≤ gg) (h4r : wr.heap.size ≤ w4.heap.size) (hM4 : M ≤ w4.heap.size) : RowV w6 b e (.slice (some ⟨gg, 0, none⟩) (k + 1) cap) (k + 1) (ts ++ [t]) := by
  have own6 : ∀ {B n : Nat} {T' : Nat → Nat} {a : Option Addr} {ps : List PairD}, wr.heap.size ≤ B → PairsOwn w4 B a ps → (∀ g o, a = some ⟨g, o, none⟩ → B ≤ g → g < w4.heap.size → T' g = n) → PairsTag w6 b T' n a ps := by
    intro B n T' a ps hB h hT
    rcases h with h | ⟨g, o, cur, ty, rfl, hBg, hblk, hat⟩
    · exact Or.inl h
    · have hlt := lt_of_block hblk
      have hke := hk4 g (by omega) hlt
      have hc : ∀ j, w6.cell? ⟨g, j, none⟩ = w4.cell? ⟨g, j, none⟩ := fun j => World.cell?_of_block hke
      exact Or.inr ⟨g, o, cur, ty, rfl, by omega, hT g o rfl hBg hlt, hke.trans hblk, fun i hi => by simp only [hc]; exact hat i hi⟩
  refine ⟨fun g => if g < wr.heap.size then T g else if g < M then 2 * k + 1 else if g < w4.heap.size then 2 * k + 2 else 0, ys ++ [⟨t, a1, c1, a2, c2⟩], ?_, ?_, ?_, ?_⟩
  · rw [flatV_append]; exact hrow
  · rw [List.map_append, hys]; rfl
  · intro g hg
    simp only [Value.ownBlock, Option.some.injEq] at hg
    subst hg
    rcases hgg with ⟨h, hl⟩ | h
    · simp only [if_pos hl]; exact hv _ h
    · simp only [if_neg (show ¬ gg < wr.heap.size by omega), if_neg (show ¬ gg < M by omega), if_neg (show ¬ gg < w4.heap.size by omega)]
  · intro i hi
    by_cases hik : i < ys.length
    · rw [List.getElem_append_left hik]
      obtain ⟨p1, p2⟩ := hp i hik
      refine ⟨p1.keep fun g hg hbg hT => ⟨hk0 g hg hbg (fun e => by have := hv g e; omega), by simp only [if_pos hg]; exact hT⟩, p2.keep fun g hg hbg hT => ⟨hk0 g hg hbg (fun e => by have := hv g e; omega), by simp only [if_pos hg]; exact hT⟩⟩
    · have e : i = k := by simp at hi; omega
      subst e
      rw [List.getElem_append_right (by omega)]
      simp only [hyk, Nat.sub_self, List.getElem_cons_zero]
      refine ⟨own6 (Nat.le_refl _) h1 fun g o ha hg _ => ?_, own6 hM h2 fun g o ha hg hl => ?_⟩
      · simp only [if_neg (show ¬ g < wr.heap.size by omega), if_pos (h1M g o ha)]
      · simp only [if_neg (show ¬ g < wr.heap.size by omega), if_neg (show ¬ g < M by omega), if_pos hl]
theorem RowV.own {w : World} {b : Nat} {e : TypeId} {a : Option Addr} {n cap : Nat} {ts : List TenD} (h : RowV w b e (.slice a n cap) n ts) (hn : ts.length = n) : TensOwn w b a ts := by
  obtain ⟨T, ys, h1, h2, h3, h4⟩ := h
  have hyl : ys.length = n := by rw [← hn, ← h2, List.length_map]
  rcases h1.2 with ⟨_, hl⟩ | ⟨g, cap', cur, he, hB, hg, _, _, hsz, htk⟩
  · exact Or.inl (List.length_eq_zero_iff.1 (by omega))
  · simp only [Value.slice.injEq] at he
    have hT : T g = 0 := h3 g (by rw [he.1]; rfl)
    have hf : ∀ (l : List TV) i (hi : i < l.length), (flatV l)[i * 4]? = some (.string l[i].t.name) ∧ (flatV l)[i * 4 + 1]? = some (.int .i64 l[i].t.limit) ∧ (flatV l)[i * 4 + 2]? = some (.slice l[i].a1 l[i].t.mets.length l[i].c1) ∧ (flatV l)[i * 4 + 3]? = some (.slice l[i].a2 l[i].t.sers.length l[i].c2) := by
      intro l
      unfold flatV
      induction l with
      | nil => intro i hi; exact absurd hi (by simp)
      | cons x r ih =>
        intro i hi
        cases i with
        | zero => simp
        | succ i =>
          have := ih i (by simpa using hi)
          simp only [List.flatMap_cons, List.cons_append, List.nil_append, List.getElem_cons_succ]
          refine ⟨?_, ?_, ?_, ?_⟩
          · rw [show (i + 1) * 4 = i * 4 + 1 + 1 + 1 + 1 by omega, List.getElem?_cons_succ, List.getElem?_cons_succ, List.getElem?_cons_succ, List.getElem?_cons_succ]; exact this.1
          · rw [show (i + 1) * 4 + 1 = i * 4 + 1 + 1 + 1 + 1 + 1 by omega, List.getElem?_cons_succ, List.getElem?_cons_succ, List.getElem?_cons_succ, List.getElem?_cons_succ]; exact this.2.1
          · rw [show (i + 1) * 4 + 2 = i * 4 + 2 + 1 + 1 + 1 + 1 by omega, List.getElem?_cons_succ, List.getElem?_cons_succ, List.getElem?_cons_succ, List.getElem?_cons_succ]; exact this.2.2.1
          · rw [show (i + 1) * 4 + 3 = i * 4 + 3 + 1 + 1 + 1 + 1 by omega, List.getElem?_cons_succ, List.getElem?_cons_succ, List.getElem?_cons_succ, List.getElem?_cons_succ]; exact this.2.2.2
    have hc : ∀ j, j < n * 4 → w.cell? ⟨g, j, none⟩ = (flatV ys)[j]? := fun j hj => by
      rw [Blk.cell (show Blk w g cur e from hg) j, ← Array.getElem?_toList, ← htk, List.getElem?_take_of_lt hj]
    refine Or.inr ⟨g, 0, cur, e, T, he.1, hB, hg, hT, fun i hi => ?_⟩
    have hiy : i < ys.length := by omega
    have et : ts[i] = ys[i].t := by simp only [← h2, List.getElem_map]
    obtain ⟨f0, f1, f2, f3⟩ := hf ys i hiy
    rw [et]
    refine ⟨ys[i].a1, ys[i].c1, ys[i].a2, ys[i].c2, ?_, ?_, ?_, ?_, (h4 i hiy).1, (h4 i hiy).2⟩
    · rw [Nat.zero_add, hc _ (by omega)]; exact f0
    · rw [Nat.zero_add, hc _ (by omega)]; exact f1
    · rw [Nat.zero_add, hc _ (by omega)]; exact f2
    · rw [Nat.zero_add, hc _ (by omega)]; exact f3
end Go.Proofs.YtnbkmmmlhlbfoaaGreatDoor
namespace Go.Proofs.YtnbkmmmlhlbfoaaGreatDoor
open Go.RowKit
def TelOut (w : World) (nm : ByteArray) (t : TenD) (e : Ending) (w' : World) : Prop :=
  ∃ M a1 c1 a2 c2, e = .returned (.agg #[.string nm, .int .i64 t.limit, .slice a1 t.mets.length c1, .slice a2 t.sers.length c2]) ∧ w.heap.size ≤ M ∧ PairsOwn w' w.heap.size a1 t.mets ∧ (∀ g o, a1 = some ⟨g, o, none⟩ → g < M) ∧ PairsOwn w' M a2 t.sers ∧ M ≤ w'.heap.size ∧ Below w.heap.size w w'
def flatK (ps : List PairD) : List Value := ps.flatMap fun x => [.string x.s, .int .i64 x.n]
def TelOutR (w : World) (nm : ByteArray) (t : TenD) (e : Ending) (w' : World) : Prop :=
  ∃ M a1 c1 a2 c2, e = .returned (.agg #[.string nm, .int .i64 t.limit, .slice a1 t.mets.length c1, .slice a2 t.sers.length c2]) ∧ w.heap.size ≤ M ∧ PairsOwn w' w.heap.size a1 t.mets ∧ (∀ g o, a1 = some ⟨g, o, none⟩ → g < M) ∧ w'.ownsRow M 50 2 (.slice a2 t.sers.length c2) t.sers.length (flatK t.sers) ∧ M ≤ w'.heap.size ∧ Below w.heap.size w w'
theorem TelOutR.tel {w : World} {nm : ByteArray} {t : TenD} {e : Ending} {w' : World} (h : TelOutR w nm t e w') : TelOut w nm t e w' := by
  obtain ⟨M, a1, c1, a2, c2, h1, h2, h3, h4, h5, h6⟩ := h
  exact ⟨M, a1, c1, a2, c2, h1, h2, h3, h4, pairs_of_row h5, h6⟩
theorem flatK_append (a b : List PairD) : flatK (a ++ b) = flatK a ++ flatK b := by simp [flatK]
theorem flatK_length (ps : List PairD) : (flatK ps).length = ps.length * 2 := by
  induction ps with
  | nil => rfl
  | cons x r ih => simp only [flatK, List.flatMap_cons, List.length_append, List.length_cons, List.length_nil] at ih ⊢; omega
theorem flatK_cell (ps : List PairD) : ∀ u ∈ flatK ps, u.oneCell' = true := by
  intro u hu
  simp only [flatK, List.mem_flatMap] at hu
  obtain ⟨x, _, hu⟩ := hu
  simp only [List.mem_cons, List.mem_nil_iff, or_false] at hu
  rcases hu with rfl | rfl <;> rfl
theorem flatK_get : ∀ (ps : List PairD) (j : Nat) (u : Value), (flatK ps)[j]? = some u → ∃ i, ∃ h : i < ps.length, (j = i * 2 ∧ u = .string ps[i].s) ∨ (j = i * 2 + 1 ∧ u = .int .i64 ps[i].n)
  | [], j, u, h => by simp [flatK] at h
  | x :: r, 0, u, h => ⟨0, by simp, Or.inl ⟨rfl, by simpa [flatK] using h.symm⟩⟩
  | x :: r, 1, u, h => ⟨0, by simp, Or.inr ⟨rfl, by simpa [flatK] using h.symm⟩⟩
  | x :: r, j + 2, u, h => by
    have h' : (flatK r)[j]? = some u := by simpa [flatK] using h
    obtain ⟨i, hi, q⟩ := flatK_get r j u h'
    refine ⟨i + 1, by simpa using hi, ?_⟩
    rcases q with ⟨e, q⟩ | ⟨e, q⟩
    · exact Or.inl ⟨by omega, by simpa using q⟩
    · exact Or.inr ⟨by omega, by simpa using q⟩
theorem pairs_news {w : World} {b o : Nat} {ps : List PairD} (h : ∀ i (hi : i < ps.length), w.cell? ⟨b, o + i * 2, none⟩ = some (.string ps[i].s) ∧ w.cell? ⟨b, o + i * 2 + 1, none⟩ = some (.int .i64 ps[i].n)) :
    ∀ j u, (flatK ps)[j]? = some u → w.cell? ((⟨b, o, none⟩ : Addr).add j) = some u := by
  intro j u hu
  have hadd : (⟨b, o, none⟩ : Addr).add j = ⟨b, o + j, none⟩ := by unfold Addr.add; split <;> simp_all
  rw [hadd]
  obtain ⟨i, hi, q⟩ := flatK_get ps j u hu
  rcases q with ⟨rfl, rfl⟩ | ⟨rfl, rfl⟩
  · exact (h i hi).1
  · exact (h i hi).2
end Go.Proofs.YtnbkmmmlhlbfoaaGreatDoor
namespace Go.Proofs.YtnbkmmmlhlbfoaaGreatDoor
open Go.RowKit
end Go.Proofs.YtnbkmmmlhlbfoaaGreatDoor
namespace Go.Proofs.YtnbkmmmlhlbfoaaGreatDoor
open Go.RowKit
end Go.Proofs.YtnbkmmmlhlbfoaaGreatDoor
namespace Go.Proofs.YtnbkmmmlhlbfoaaGreatDoor
open Go.RowKit
theorem info_tenant : (Tryz.prog.info? 46).map (fun i => (i.zero, i.size, i.bytes)) = some (some (.agg #[.string ByteArray.empty, .int .i64 0, .slice none 0 0, .slice none 0 0]), 4, 72) := by kernel_rfl
def SmallT (fs : List TenD) : Prop := ∀ i (h : i < fs.length), fs[i].mets.length ≤ 1048576 ∧ fs[i].sers.length ≤ 1048576
theorem TensOwn.mono {B B' : Nat} {w : World} {a : Option Addr} {ts : List TenD} (h : TensOwn w B a ts) (hB' : B' ≤ B) : TensOwn w B' a ts := by
  rcases h with h | ⟨g', o, cur, t, T, rfl, hB, hg', hT, h⟩
  · exact Or.inl h
  · have m : ∀ {n a ps}, PairsTag w B T n a ps → PairsTag w B' T n a ps := fun {n a ps} h => by
      rcases h with h | ⟨g', o', cur', t', e, hB', r⟩
      · exact Or.inl h
      · exact Or.inr ⟨g', o', cur', t', e, by omega, r⟩
    refine Or.inr ⟨g', o, cur, t, T, rfl, by omega, hg', hT, fun i hi => ?_⟩
    obtain ⟨a1, c1, a2, c2, k0, k1, k2, k3, k4, k5⟩ := h i hi
    exact ⟨a1, c1, a2, c2, k0, k1, k2, k3, m k4, m k5⟩
end Go.Proofs.YtnbkmmmlhlbfoaaGreatDoor
