import Derived.Test.YtnbkmmmlhlbfoaaGreatDoorProg
import Derived.Test.YtnbkmmmlhlbfoaaGreatDoorJ01DrawV
import Derived.Test.YtnbkmmmlhlbfoaaGreatDoorJ06Win
namespace Go.Proofs.YtnbkmmmlhlbfoaaGreatDoor
open Go.RowKit
structure CfgD where
  w : Int
  tl : Int
  ml : Int
  sh : Int
  ha : Int
  sg : Int
def cfgV (c : CfgD) : Value := .agg #[.int .i64 c.w, .int .i64 c.tl, .int .i64 c.ml, .int .i64 c.sh, .int .i64 c.ha, .int .i64 c.sg]
def cfgB (c : CfgD) : Bool := btwB c.w 1 1000000000 && btwB c.tl 0 1000000 && btwB c.ml 0 1000000 && btwB c.sh 1 64 && btwB c.ha 0 2 && btwB c.sg 100 1000000
theorem btw_in {x lo hi : Int} (h : btwB x lo hi = true) : lo ≤ x ∧ x ≤ hi := by simpa [btwB] using h
theorem btw_out {x lo hi : Int} (h : ¬ btwB x lo hi = true) : x < lo ∨ hi < x := by
  by_cases h1 : lo ≤ x
  · by_cases h2 : x ≤ hi
    · exact absurd (by simp [btwB, h1, h2]) h
    · exact Or.inr (by omega)
  · exact Or.inl (by omega)
set_option maxHeartbeats 400000 in
theorem isLimit_any (x : Int) (w : World) : Calls Tryz.prog 74 #[.int .i64 x] w fun e w' => e = .returned (.bool (btwB x 0 1000000)) ∧ w' = w := by
  go_enter Tryz.func74, Tryz.ntmps74
  go_wp2_with (go_at_call 48; refine (within_any _ _ _).mono ?_; rintro e w' ⟨rfl, rfl⟩)
  go_ret
  exact ⟨rfl, rfl⟩
set_option maxRecDepth 100000 in
set_option maxHeartbeats 1000000 in
theorem specCfg_any (c : CfgD) (w : World) : Calls Tryz.prog 43 #[cfgV c] w fun e w' => e = .returned (.bool (cfgB c)) ∧ Below w.heap.size w w' := by
  obtain ⟨cw, ctl, cml, csh, cha, csg⟩ := c
  unfold cfgV
  simp only
  by_cases g0 : btwB cw 1 1000000000 = false
  · have h0 := g0
    have E : Hid (cfgB ⟨cw, ctl, cml, csh, cha, csg⟩ = false) := by show _ = _; simp [cfgB, g0]
    clear h0
    go_enter Tryz.func43, Tryz.ntmps43
    go_wp2_with (go_at_call 44; refine (between_any _ _ _ _).mono ?_; rintro e w' ⟨rfl, rfl⟩)
    go_ret
    exact ⟨ret_bool E.out.symm, bnew _ _⟩
  have h0 : btwB cw 1 1000000000 = true := by simpa using g0
  clear g0
  by_cases g1 : btwB ctl 0 1000000 = false
  · have h1 := g1
    have E : Hid (cfgB ⟨cw, ctl, cml, csh, cha, csg⟩ = false) := by show _ = _; simp [cfgB, h0, g1]
    clear h1
    go_enter Tryz.func43, Tryz.ntmps43
    go_wp2_with (go_at_call 44; refine (between_any _ _ _ _).mono ?_; rintro e w' ⟨rfl, rfl⟩)
    go_ret
    exact ⟨ret_bool E.out.symm, bnew _ _⟩
  have h1 : btwB ctl 0 1000000 = true := by simpa using g1
  clear g1
  by_cases g2 : btwB cml 0 1000000 = false
  · have h2 := g2
    have E : Hid (cfgB ⟨cw, ctl, cml, csh, cha, csg⟩ = false) := by show _ = _; simp [cfgB, h0, h1, g2]
    clear h2
    go_enter Tryz.func43, Tryz.ntmps43
    go_wp2_with (go_at_call 44; refine (between_any _ _ _ _).mono ?_; rintro e w' ⟨rfl, rfl⟩)
    go_ret
    exact ⟨ret_bool E.out.symm, bnew _ _⟩
  have h2 : btwB cml 0 1000000 = true := by simpa using g2
  clear g2
  by_cases g3 : btwB csh 1 64 = false
  · have h3 := g3
    have E : Hid (cfgB ⟨cw, ctl, cml, csh, cha, csg⟩ = false) := by show _ = _; simp [cfgB, h0, h1, h2, g3]
    clear h3
    go_enter Tryz.func43, Tryz.ntmps43
    go_wp2_with (go_at_call 44; refine (between_any _ _ _ _).mono ?_; rintro e w' ⟨rfl, rfl⟩)
    go_ret
    exact ⟨ret_bool E.out.symm, bnew _ _⟩
  have h3 : btwB csh 1 64 = true := by simpa using g3
  clear g3
  by_cases g4 : btwB cha 0 2 = false
  · have h4 := g4
    have E : Hid (cfgB ⟨cw, ctl, cml, csh, cha, csg⟩ = false) := by show _ = _; simp [cfgB, h0, h1, h2, h3, g4]
    clear h4
    go_enter Tryz.func43, Tryz.ntmps43
    go_wp2_with (go_at_call 44; refine (between_any _ _ _ _).mono ?_; rintro e w' ⟨rfl, rfl⟩)
    go_ret
    exact ⟨ret_bool E.out.symm, bnew _ _⟩
  have h4 : btwB cha 0 2 = true := by simpa using g4
  clear g4
  by_cases g5 : btwB csg 100 1000000 = false
  · have h5 := g5
    have E : Hid (cfgB ⟨cw, ctl, cml, csh, cha, csg⟩ = false) := by show _ = _; simp [cfgB, h0, h1, h2, h3, h4, g5]
    clear h5
    go_enter Tryz.func43, Tryz.ntmps43
    go_wp2_with (go_at_call 44; refine (between_any _ _ _ _).mono ?_; rintro e w' ⟨rfl, rfl⟩)
    go_ret
    exact ⟨ret_bool E.out.symm, bnew _ _⟩
  have h5 : btwB csg 100 1000000 = true := by simpa using g5
  clear g5
  have E : Hid (cfgB ⟨cw, ctl, cml, csh, cha, csg⟩ = true) := by show _ = _; simp [cfgB, h0, h1, h2, h3, h4, h5]
  go_enter Tryz.func43, Tryz.ntmps43
  go_wp2_with (go_at_call 44; refine (between_any _ _ _ _).mono ?_; rintro e w' ⟨rfl, rfl⟩)
  go_ret
  exact ⟨ret_bool E.out.symm, bnew _ _⟩
set_option maxRecDepth 100000 in
set_option maxHeartbeats 1000000 in
theorem implCfg_any (c : CfgD) (w : World) : Calls Tryz.prog 47 #[cfgV c] w fun e w' => e = .returned (.bool (cfgB c)) ∧ Below w.heap.size w w' := by
  obtain ⟨cw, ctl, cml, csh, cha, csg⟩ := c
  unfold cfgV
  simp only
  by_cases g0 : btwB cw 1 1000000000 = false
  · have h0 : ¬ btwB cw 1 1000000000 = true := by simpa using g0
    have E : Hid (cfgB ⟨cw, ctl, cml, csh, cha, csg⟩ = false) := by show _ = _; simp [cfgB, g0]
    have ho := btw_out h0
    clear h0 g0
    by_cases hx : 1 ≤ cw
    · have hy : ¬ cw ≤ 1000000000 := by omega
      clear ho
      go_enter Tryz.func47, Tryz.ntmps47
      go_wp2_with (first | (go_at_call 74; refine (isLimit_any _ _).mono ?_; rintro e w' ⟨rfl, rfl⟩) | (go_at_call 48; refine (within_any _ _ _).mono ?_; rintro e w' ⟨rfl, rfl⟩))
      go_ret
      exact ⟨ret_bool (by first | exact E.out.symm | (rw [E.out]; simp; omega)), bnew _ _⟩
    · clear ho
      go_enter Tryz.func47, Tryz.ntmps47
      go_wp2_with (first | (go_at_call 74; refine (isLimit_any _ _).mono ?_; rintro e w' ⟨rfl, rfl⟩) | (go_at_call 48; refine (within_any _ _ _).mono ?_; rintro e w' ⟨rfl, rfl⟩))
      go_ret
      exact ⟨ret_bool (by first | exact E.out.symm | (rw [E.out]; simp; omega)), bnew _ _⟩
  have h0 : btwB cw 1 1000000000 = true := by simpa using g0
  clear g0
  obtain ⟨i0, j0⟩ := btw_in h0
  by_cases g1 : btwB ctl 0 1000000 = false
  · have h1 : ¬ btwB ctl 0 1000000 = true := by simpa using g1
    have E : Hid (cfgB ⟨cw, ctl, cml, csh, cha, csg⟩ = false) := by show _ = _; simp [cfgB, h0, g1]
    clear h1
    go_enter Tryz.func47, Tryz.ntmps47
    go_wp2_with (first | (go_at_call 74; refine (isLimit_any _ _).mono ?_; rintro e w' ⟨rfl, rfl⟩) | (go_at_call 48; refine (within_any _ _ _).mono ?_; rintro e w' ⟨rfl, rfl⟩))
    go_ret
    exact ⟨ret_bool (by first | exact E.out.symm | (rw [E.out]; simp; omega)), bnew _ _⟩
  have h1 : btwB ctl 0 1000000 = true := by simpa using g1
  clear g1
  by_cases g2 : btwB cml 0 1000000 = false
  · have h2 : ¬ btwB cml 0 1000000 = true := by simpa using g2
    have E : Hid (cfgB ⟨cw, ctl, cml, csh, cha, csg⟩ = false) := by show _ = _; simp [cfgB, h0, h1, g2]
    clear h2
    go_enter Tryz.func47, Tryz.ntmps47
    go_wp2_with (first | (go_at_call 74; refine (isLimit_any _ _).mono ?_; rintro e w' ⟨rfl, rfl⟩) | (go_at_call 48; refine (within_any _ _ _).mono ?_; rintro e w' ⟨rfl, rfl⟩))
    go_ret
    exact ⟨ret_bool (by first | exact E.out.symm | (rw [E.out]; simp; omega)), bnew _ _⟩
  have h2 : btwB cml 0 1000000 = true := by simpa using g2
  clear g2
  by_cases g3 : btwB csh 1 64 = false
  · have h3 : ¬ btwB csh 1 64 = true := by simpa using g3
    have E : Hid (cfgB ⟨cw, ctl, cml, csh, cha, csg⟩ = false) := by show _ = _; simp [cfgB, h0, h1, h2, g3]
    have ho := btw_out h3
    clear h3 g3
    by_cases hx : 1 ≤ csh
    · have hy : ¬ csh ≤ 64 := by omega
      clear ho
      go_enter Tryz.func47, Tryz.ntmps47
      go_wp2_with (first | (go_at_call 74; refine (isLimit_any _ _).mono ?_; rintro e w' ⟨rfl, rfl⟩) | (go_at_call 48; refine (within_any _ _ _).mono ?_; rintro e w' ⟨rfl, rfl⟩))
      go_ret
      exact ⟨ret_bool (by first | exact E.out.symm | (rw [E.out]; simp; omega)), bnew _ _⟩
    · clear ho
      go_enter Tryz.func47, Tryz.ntmps47
      go_wp2_with (first | (go_at_call 74; refine (isLimit_any _ _).mono ?_; rintro e w' ⟨rfl, rfl⟩) | (go_at_call 48; refine (within_any _ _ _).mono ?_; rintro e w' ⟨rfl, rfl⟩))
      go_ret
      exact ⟨ret_bool (by first | exact E.out.symm | (rw [E.out]; simp; omega)), bnew _ _⟩
  have h3 : btwB csh 1 64 = true := by simpa using g3
  clear g3
  obtain ⟨i3, j3⟩ := btw_in h3
  by_cases g4 : btwB cha 0 2 = false
  · have h4 : ¬ btwB cha 0 2 = true := by simpa using g4
    have E : Hid (cfgB ⟨cw, ctl, cml, csh, cha, csg⟩ = false) := by show _ = _; simp [cfgB, h0, h1, h2, h3, g4]
    clear h4
    go_enter Tryz.func47, Tryz.ntmps47
    go_wp2_with (first | (go_at_call 74; refine (isLimit_any _ _).mono ?_; rintro e w' ⟨rfl, rfl⟩) | (go_at_call 48; refine (within_any _ _ _).mono ?_; rintro e w' ⟨rfl, rfl⟩))
    go_ret
    exact ⟨ret_bool (by first | exact E.out.symm | (rw [E.out]; simp; omega)), bnew _ _⟩
  have h4 : btwB cha 0 2 = true := by simpa using g4
  clear g4
  by_cases g5 : btwB csg 100 1000000 = false
  · have h5 : ¬ btwB csg 100 1000000 = true := by simpa using g5
    have E : Hid (cfgB ⟨cw, ctl, cml, csh, cha, csg⟩ = false) := by show _ = _; simp [cfgB, h0, h1, h2, h3, h4, g5]
    have ho := btw_out h5
    clear h5 g5
    by_cases hx : 100 ≤ csg
    · have hy : ¬ csg ≤ 1000000 := by omega
      clear ho
      go_enter Tryz.func47, Tryz.ntmps47
      go_wp2_with (first | (go_at_call 74; refine (isLimit_any _ _).mono ?_; rintro e w' ⟨rfl, rfl⟩) | (go_at_call 48; refine (within_any _ _ _).mono ?_; rintro e w' ⟨rfl, rfl⟩))
      go_ret
      exact ⟨ret_bool (by first | exact E.out.symm | (rw [E.out]; simp; omega)), bnew _ _⟩
    · clear ho
      go_enter Tryz.func47, Tryz.ntmps47
      go_wp2_with (first | (go_at_call 74; refine (isLimit_any _ _).mono ?_; rintro e w' ⟨rfl, rfl⟩) | (go_at_call 48; refine (within_any _ _ _).mono ?_; rintro e w' ⟨rfl, rfl⟩))
      go_ret
      exact ⟨ret_bool (by first | exact E.out.symm | (rw [E.out]; simp; omega)), bnew _ _⟩
  have h5 : btwB csg 100 1000000 = true := by simpa using g5
  clear g5
  obtain ⟨i5, j5⟩ := btw_in h5
  have E : Hid (cfgB ⟨cw, ctl, cml, csh, cha, csg⟩ = true) := by show _ = _; simp [cfgB, h0, h1, h2, h3, h4, h5]
  go_enter Tryz.func47, Tryz.ntmps47
  go_wp2_with (first | (go_at_call 74; refine (isLimit_any _ _).mono ?_; rintro e w' ⟨rfl, rfl⟩) | (go_at_call 48; refine (within_any _ _ _).mono ?_; rintro e w' ⟨rfl, rfl⟩))
  go_ret
  exact ⟨ret_bool (by first | exact E.out.symm | (rw [E.out]; simp; omega)), bnew _ _⟩
end Go.Proofs.YtnbkmmmlhlbfoaaGreatDoor
namespace Go.Proofs.YtnbkmmmlhlbfoaaGreatDoor
open Go.RowKit
structure QV where
  kind : Int
  tenant : ByteArray
  metric : ByteArray
  num : Int
  ys : List XV
  a : Option Addr
  c : Nat
end Go.Proofs.YtnbkmmmlhlbfoaaGreatDoor
namespace Go.Proofs.YtnbkmmmlhlbfoaaGreatDoor
open Go.RowKit
theorem Blk.keepS {w : World} {g h j : Nat} {cur : Array Value} {t : TypeId} (hb : Blk w g cur t) (hne : g ≠ h) (v : Value) : Blk (w.setCell ⟨h, j, none⟩ v) g cur t :=
  (((But.refl h w).setCell j v).block g (lt_of_block hb) hne).trans hb
end Go.Proofs.YtnbkmmmlhlbfoaaGreatDoor
namespace Go.Proofs.YtnbkmmmlhlbfoaaGreatDoor
open Go.RowKit
def LitT (w : World) (g : Nat) (L : List ByteArray) : Prop := ∃ t, Blk w g (L.map Value.string).toArray t
theorem LitT.but {w w' : World} {g B : Nat} {L : List ByteArray} (h : LitT w g L) (hb : But B w w') (hne : g ≠ B) : LitT w' g L := by
  obtain ⟨t, h1⟩ := h
  exact ⟨t, (hb.block g (lt_of_block h1) hne).trans h1⟩
theorem LitT.later {w w' : World} {g : Nat} {L : List ByteArray} (h : LitT w g L) (hb : Below w.heap.size w w') : LitT w' g L := by
  obtain ⟨t, h1⟩ := h
  exact ⟨t, h1.later hb⟩
theorem LitT.below {w w' : World} {g P : Nat} {L : List ByteArray} (h : LitT w g L) (hb : Below P w w') (hg : g < P) : LitT w' g L := by
  obtain ⟨t, h1⟩ := h
  exact ⟨t, (hb.block g hg).trans h1⟩
theorem LitT.at {w : World} {g : Nat} {L : List ByteArray} (h : LitT w g L) {j : Nat} (hj : j < L.length) : w.cell? ⟨g, j, none⟩ = some (.string (L.getD j ⟨#[]⟩)) := by
  obtain ⟨t, h1⟩ := h
  rw [h1.cell]
  simp [List.getD, hj]
theorem litT_new (w : World) (L : List ByteArray) (t : TypeId) : LitT (w.alloc (.cells (L.map .string).toArray t)) w.heap.size L := ⟨t, heap_alloc_new _ _⟩
def tenL : List ByteArray := [⟨#[97, 99, 109, 101]⟩, ⟨#[98, 45, 50]⟩, ⟨#[122, 122]⟩, ⟨#[97, 99, 109, 101]⟩]
def metL : List ByteArray := [⟨#[117, 112]⟩, ⟨#[99, 112, 117]⟩, ⟨#[109, 101, 109]⟩, ⟨#[]⟩]
def valL10 : List ByteArray := [⟨#[97]⟩, ⟨#[98]⟩, ⟨#[119, 101, 98]⟩, ⟨#[120, 32, 121]⟩, ⟨#[195, 169]⟩, ⟨#[226, 130, 172]⟩, ⟨#[240, 159, 152, 128]⟩, ⟨#[49]⟩, ⟨#[45]⟩, ⟨#[122]⟩]
def tenantX (bs : List Nat) (σ : CSt) : ByteArray × CSt := (tenL.getD (pickX bs σ 4).1 ⟨#[]⟩, (pickX bs σ 4).2)
def metricX (bs : List Nat) (σ : CSt) : ByteArray × CSt := (metL.getD (pickX bs σ 4).1 ⟨#[]⟩, (pickX bs σ 4).2)
def valK (bs : List Nat) (σ : CSt) : Nat → ByteArray × CSt
  | 0 => (⟨#[]⟩, σ)
  | k + 1 => ((valK bs σ k).1 ++ valL10.getD (pickX bs (valK bs σ k).2 10).1 ⟨#[]⟩, (pickX bs (valK bs σ k).2 10).2)
def valueX (bs : List Nat) (σ : CSt) : ByteArray × CSt := valK bs (pickX bs σ 4).2 (pickX bs σ 4).1
theorem valK_k (bs : List Nat) (σ : CSt) (k : Nat) : (valK bs σ k).2.k ≤ σ.k + k := by
  induction k with
  | zero => exact Nat.le_refl _
  | succ k ih =>
    rw [valK]
    have := pickX_k bs (valK bs σ k).2 10
    simp only
    omega
theorem getD_size {L : List ByteArray} {m : Nat} (h : (L.all fun s => decide (s.size ≤ m)) = true) (j : Nat) : (L.getD j ⟨#[]⟩).size ≤ m := by
  by_cases hj : j < L.length
  · have := List.all_eq_true.1 h L[j] (List.getElem_mem hj)
    simpa [List.getD, hj] using this
  · simp only [List.getD, List.getElem?_eq_none (Nat.le_of_not_lt hj), Option.getD_none]
    exact Nat.zero_le _
theorem valK_size (bs : List Nat) (σ : CSt) (k : Nat) : (valK bs σ k).1.size ≤ 4 * k := by
  induction k with
  | zero => exact Nat.le_refl _
  | succ k ih =>
    rw [valK]
    have := getD_size (L := valL10) (m := 4) (by decide) (pickX bs (valK bs σ k).2 10).1
    simp only [ByteArray.size_append]
    omega
theorem valueX_is (bs : List Nat) (σ : CSt) : (valueX bs σ).1.size ≤ 16 ∧ (valueX bs σ).2.k ≤ σ.k + 4 := by
  have h1 := pickX_lt bs σ (n := 4) (by omega)
  have h2 := pickX_k bs σ 4
  have h3 := valK_size bs (pickX bs σ 4).2 (pickX bs σ 4).1
  have h4 := valK_k bs (pickX bs σ 4).2 (pickX bs σ 4).1
  unfold valueX
  omega
set_option maxRecDepth 100000 in
set_option maxHeartbeats 1000000 in
theorem drawTenantX_any (B P : Nat) (bs : List Nat) (σ : CSt) (w : World) (h : CurX w B P bs σ) (hN : σ.k ≤ 1000000) :
    Calls Tryz.prog 39 #[.pointer (some ⟨B, 0, none⟩)] w fun e w' => e = .returned (.string (tenantX bs σ).1) ∧ CurX w' B P bs (tenantX bs σ).2 ∧ But B w w' := by
  have HC : Hid (CurX w B P bs σ) := h
  have hlt := h.lt
  clear h
  have HP : Hid (∀ W, CurX W B P bs σ → Calls Tryz.prog 14 #[.pointer (some ⟨B, 0, none⟩), .int .i64 4] W fun e w' => e = .returned (.int .i64 ((pickX bs σ 4).1 : Nat)) ∧ CurX w' B P bs (pickX bs σ 4).2 ∧ But B W w') := fun W h => curPickX_any B P bs σ 4 W h (by omega) (by omega)
  have hv := pickX_lt bs σ (n := 4) (by omega)
  unfold tenantX
  generalize pickX bs σ 4 = R at *
  obtain ⟨v, τ⟩ := R
  simp only at HP hv ⊢
  go_enter Tryz.func39, Tryz.ntmps39
  go_wp2_with fail
  have HR : Hid (LitT (w.alloc (.cells (tenL.map Value.string).toArray 9)) w.heap.size tenL) := litT_new w tenL _
  simp only [tenL, List.map_cons, List.map_nil] at HR
  refine (HP.out _ (HC.out.later (bnew _ _))).mono ?_
  rintro e w1 ⟨rfl, hc1, hb1⟩
  have hcell := (HR.out.but hb1 (by omega)).at (j := v) (by simpa using hv)
  have H1 : Hid (CurX w1 B P bs τ ∧ But B w w1) := ⟨hc1, (But.of (bnew _ _)).trans hb1⟩
  clear hc1 hb1 HC HR HP
  have HE : Hid (([⟨#[97, 99, 109, 101]⟩, ⟨#[98, 45, 50]⟩, ⟨#[122, 122]⟩, ⟨#[97, 99, 109, 101]⟩] : List ByteArray).getD v ⟨#[]⟩ = tenL.getD v ⟨#[]⟩) := hid rfl
  rw [HE.out] at hcell
  clear HE
  obtain ⟨s, hs⟩ : ∃ s, tenL.getD v ⟨#[]⟩ = s := ⟨_, rfl⟩
  rw [hs] at hcell
  have HS := hid hs
  clear hs
  have hv' : (v : Int) < 4 := by omega
  go_wp2
  go_ret
  exact ⟨by rw [HS.out]; rfl, H1.out⟩
set_option maxRecDepth 100000 in
set_option maxHeartbeats 1000000 in
theorem drawMetricX_any (B P : Nat) (bs : List Nat) (σ : CSt) (w : World) (h : CurX w B P bs σ) (hN : σ.k ≤ 1000000) :
    Calls Tryz.prog 64 #[.pointer (some ⟨B, 0, none⟩)] w fun e w' => e = .returned (.string (metricX bs σ).1) ∧ CurX w' B P bs (metricX bs σ).2 ∧ But B w w' := by
  have HC : Hid (CurX w B P bs σ) := h
  have hlt := h.lt
  clear h
  have HP : Hid (∀ W, CurX W B P bs σ → Calls Tryz.prog 14 #[.pointer (some ⟨B, 0, none⟩), .int .i64 4] W fun e w' => e = .returned (.int .i64 ((pickX bs σ 4).1 : Nat)) ∧ CurX w' B P bs (pickX bs σ 4).2 ∧ But B W w') := fun W h => curPickX_any B P bs σ 4 W h (by omega) (by omega)
  have hv := pickX_lt bs σ (n := 4) (by omega)
  unfold metricX
  generalize pickX bs σ 4 = R at *
  obtain ⟨v, τ⟩ := R
  simp only at HP hv ⊢
  go_enter Tryz.func64, Tryz.ntmps64
  go_wp2_with fail
  have HR : Hid (LitT (w.alloc (.cells (metL.map Value.string).toArray 9)) w.heap.size metL) := litT_new w metL _
  simp only [metL, List.map_cons, List.map_nil] at HR
  refine (HP.out _ (HC.out.later (bnew _ _))).mono ?_
  rintro e w1 ⟨rfl, hc1, hb1⟩
  have hcell := (HR.out.but hb1 (by omega)).at (j := v) (by simpa using hv)
  have H1 : Hid (CurX w1 B P bs τ ∧ But B w w1) := ⟨hc1, (But.of (bnew _ _)).trans hb1⟩
  clear hc1 hb1 HC HR HP
  have HE : Hid (([⟨#[117, 112]⟩, ⟨#[99, 112, 117]⟩, ⟨#[109, 101, 109]⟩, ⟨#[]⟩] : List ByteArray).getD v ⟨#[]⟩ = metL.getD v ⟨#[]⟩) := hid rfl
  rw [HE.out] at hcell
  clear HE
  obtain ⟨s, hs⟩ : ∃ s, metL.getD v ⟨#[]⟩ = s := ⟨_, rfl⟩
  rw [hs] at hcell
  have HS := hid hs
  clear hs
  have hv' : (v : Int) < 4 := by omega
  go_wp2
  go_ret
  exact ⟨by rw [HS.out]; rfl, H1.out⟩
set_option maxRecDepth 100000 in
set_option maxHeartbeats 1000000 in
theorem drawValueX_any (B P : Nat) (bs : List Nat) (σ : CSt) (w : World) (h : CurX w B P bs σ) (hN : σ.k ≤ 1000000) :
    Calls Tryz.prog 93 #[.pointer (some ⟨B, 0, none⟩)] w fun e w' => e = .returned (.string (valueX bs σ).1) ∧ CurX w' B P bs (valueX bs σ).2 ∧ But B w w' := by
  have HC : Hid (CurX w B P bs σ) := h
  have hlt := h.lt
  clear h
  have HP : Hid (∀ W, CurX W B P bs σ → Calls Tryz.prog 14 #[.pointer (some ⟨B, 0, none⟩), .int .i64 4] W fun e w' => e = .returned (.int .i64 ((pickX bs σ 4).1 : Nat)) ∧ CurX w' B P bs (pickX bs σ 4).2 ∧ But B W w') := fun W h => curPickX_any B P bs σ 4 W h (by omega) (by omega)
  have hn := pickX_lt bs σ (n := 4) (by omega)
  have hk4 := pickX_k bs σ 4
  unfold valueX
  generalize pickX bs σ 4 = R at *
  obtain ⟨n, τ⟩ := R
  simp only at HP hn hk4 ⊢
  go_enter Tryz.func93, Tryz.ntmps93
  go_wp2_with fail
  have HR : Hid (LitT (w.alloc (.cells (valL10.map Value.string).toArray 9)) w.heap.size valL10) := litT_new w valL10 _
  simp only [valL10, List.map_cons, List.map_nil] at HR
  refine (HP.out _ (HC.out.later (bnew _ _))).mono ?_
  rintro e w1 ⟨rfl, hc1, hb1⟩
  have H1 : Hid (CurX w1 B P bs τ ∧ But B w w1 ∧ LitT w1 w.heap.size valL10) := ⟨hc1, (But.of (bnew _ _)).trans hb1, HR.out.but hb1 (by omega)⟩
  clear hc1 hb1 HC HR HP
  generalize hg : w.heap.size = g at *
  have HG : Hid (g ≠ B) := by show g ≠ B; omega
  clear hg hlt
  go_wp2
  go_loopw [4, 6] (fun s i wr => ∃ k : Nat, k ≤ n ∧ i = .int .i64 (k : Nat) ∧ s = .string (valK bs τ k).1 ∧ Hid (CurX wr B P bs (valK bs τ k).2 ∧ But B w wr ∧ LitT wr g valL10)) (fun _ i _ => n - (intOf i).toNat)
  case atStart => exact ⟨0, by omega, rfl, rfl, H1.out⟩
  case round =>
    obtain ⟨k, hk, rfl, rfl, HR⟩ := hrel
    by_cases hkn : k < n
    · have hkn' : (k : Int) < (n : Int) := by omega
      have hvk := valK_k bs τ k
      have hsz := valK_size bs τ k
      have HP2 : Hid (∀ W, CurX W B P bs (valK bs τ k).2 → Calls Tryz.prog 14 #[.pointer (some ⟨B, 0, none⟩), .int .i64 10] W fun e w' => e = .returned (.int .i64 ((pickX bs (valK bs τ k).2 10).1 : Nat)) ∧ CurX w' B P bs (pickX bs (valK bs τ k).2 10).2 ∧ But B W w') := fun W h => curPickX_any B P bs _ 10 W h (by omega) (by omega)
      have hv := pickX_lt bs (valK bs τ k).2 (n := 10) (by omega)
      have HS : Hid (valK bs τ (k + 1) = ((valK bs τ k).1 ++ valL10.getD (pickX bs (valK bs τ k).2 10).1 ⟨#[]⟩, (pickX bs (valK bs τ k).2 10).2)) := hid rfl
      generalize pickX bs (valK bs τ k).2 10 = R at *
      obtain ⟨v, υ⟩ := R
      simp only at HP2 hv HS
      go_wp2_with fail
      refine (HP2.out _ HR.out.1).mono ?_
      rintro e w2 ⟨rfl, hc2, hb2⟩
      have HR2 := HR.out.2.2.but hb2 HG.out
      have hcell := HR2.at (j := v) (by simpa [valL10] using hv)
      have hs4 := getD_size (L := valL10) (m := 4) (by decide) v
      have H2 : Hid (CurX w2 B P bs υ ∧ But B w w2 ∧ LitT w2 g valL10) := ⟨hc2, HR.out.2.1.trans hb2, HR2⟩
      clear hc2 hb2 HR2 HR HP2
      generalize valL10.getD v ⟨#[]⟩ = s at *
      generalize (valK bs τ k).1 = t at *
      have hv' : (v : Int) < 10 := by omega
      go_wp2
      exact ⟨⟨k + 1, by omega, by go_num, by rw [HS.out], by rw [HS.out]; exact H2.out⟩, by simp [intOf]; omega⟩
    · have hkn' : ¬ ((k : Int) < (n : Int)) := by omega
      have hke : k = n := by omega
      subst hke
      go_wp2
      go_ret
      exact ⟨rfl, HR.out.1, HR.out.2.1⟩
end Go.Proofs.YtnbkmmmlhlbfoaaGreatDoor
namespace Go.Proofs.YtnbkmmmlhlbfoaaGreatDoor
open Go.RowKit
def metN : List ByteArray := [⟨#[117, 112]⟩, ⟨#[99, 112, 117]⟩, ⟨#[109, 101, 109]⟩, ⟨#[117, 112]⟩]
def namN : List ByteArray := [⟨#[106, 111, 98]⟩, ⟨#[104, 111, 115, 116]⟩, ⟨#[95, 120]⟩, ⟨#[90, 111, 110, 101]⟩, ⟨#[97, 49]⟩, ⟨#[108, 101]⟩]
def labS (bs : List Nat) (nm : ByteArray) (x : List LabD × CSt) : List LabD × CSt :=
  if (pickX bs x.2 3).1 = 0 then
    (if (pickX bs (valueX bs (pickX bs x.2 3).2).2 2).1 = 0 then x.1 ++ [⟨nm, (valueX bs (pickX bs x.2 3).2).1⟩] else ⟨nm, (valueX bs (pickX bs x.2 3).2).1⟩ :: x.1, (pickX bs (valueX bs (pickX bs x.2 3).2).2 2).2)
  else (x.1, (pickX bs x.2 3).2)
def labK (bs : List Nat) (m : ByteArray) (σ : CSt) : Nat → List LabD × CSt
  | 0 => ([⟨⟨#[95, 95, 110, 97, 109, 101, 95, 95]⟩, m⟩], σ)
  | k + 1 => labS bs (namN.getD k ⟨#[]⟩) (labK bs m σ k)
def labelsX (bs : List Nat) (σ : CSt) : List LabD × CSt := labK bs (metN.getD (pickX bs σ 4).1 ⟨#[]⟩) (pickX bs σ 4).2 6
theorem labS_is (bs : List Nat) (nm : ByteArray) (x : List LabD × CSt) (hn : nm.size ≤ 1000) (hs : SizL x.1) : SizL (labS bs nm x).1 ∧ (labS bs nm x).1.length ≤ x.1.length + 1 ∧ x.1.length ≤ (labS bs nm x).1.length ∧ (labS bs nm x).2.k ≤ x.2.k + 6 := by
  have h1 := pickX_k bs x.2 3
  have h2 := valueX_is bs (pickX bs x.2 3).2
  have h3 := pickX_k bs (valueX bs (pickX bs x.2 3).2).2 2
  have hv : nm.size ≤ 1000 ∧ (valueX bs (pickX bs x.2 3).2).1.size ≤ 1000 := ⟨hn, by omega⟩
  unfold labS
  split
  · refine ⟨?_, ?_, ?_, by simp only; omega⟩
    · simp only
      split
      · exact sizL_snoc hs hv
      · exact sizL_cons hs hv
    · simp only
      split <;> simp
    · simp only
      split <;> simp
  · exact ⟨hs, Nat.le_succ _, Nat.le_refl _, by simp only; omega⟩
theorem labK_is (bs : List Nat) (m : ByteArray) (σ : CSt) (hm : m.size ≤ 1000) (k : Nat) : SizL (labK bs m σ k).1 ∧ (labK bs m σ k).1.length ≤ k + 1 ∧ 1 ≤ (labK bs m σ k).1.length ∧ (labK bs m σ k).2.k ≤ σ.k + 6 * k := by
  induction k with
  | zero =>
    refine ⟨fun l hl => ?_, Nat.le_refl _, Nat.le_refl _, Nat.le_refl _⟩
    rw [labK, List.mem_singleton] at hl
    subst hl
    exact ⟨by show (8 : Nat) ≤ 1000; omega, hm⟩
  | succ k ih =>
    obtain ⟨h1, h2, h3, h4⟩ := ih
    have hn := getD_size (L := namN) (m := 4) (by decide) k
    obtain ⟨q1, q2, q3, q4⟩ := labS_is bs (namN.getD k ⟨#[]⟩) (labK bs m σ k) (by omega) h1
    rw [labK]
    exact ⟨q1, by omega, by omega, by omega⟩
theorem labelsX_is (bs : List Nat) (σ : CSt) : SizL (labelsX bs σ).1 ∧ (labelsX bs σ).1.length ≤ 7 ∧ 1 ≤ (labelsX bs σ).1.length ∧ (labelsX bs σ).2.k ≤ σ.k + 37 := by
  have h1 := pickX_k bs σ 4
  have h2 := getD_size (L := metN) (m := 4) (by decide) (pickX bs σ 4).1
  obtain ⟨q1, q2, q3, q4⟩ := labK_is bs (metN.getD (pickX bs σ 4).1 ⟨#[]⟩) (pickX bs σ 4).2 (by omega) 6
  unfold labelsX
  exact ⟨q1, q2, q3, by omega⟩
set_option maxRecDepth 100000 in
set_option maxHeartbeats 2000000 in
theorem drawLabelsX_any (B P : Nat) (bs : List Nat) (σ : CSt) (w : World) (h : CurX w B P bs σ) (hN : σ.k ≤ 100000) :
    Calls Tryz.prog 71 #[.pointer (some ⟨B, 0, none⟩)] w fun e w' => ∃ g cv, e = .returned (.slice (some ⟨g, 0, none⟩) (labelsX bs σ).1.length cv) ∧ w'.ownsRow w.heap.size 83 2 (.slice (some ⟨g, 0, none⟩) (labelsX bs σ).1.length cv) (labelsX bs σ).1.length (flatL (labelsX bs σ).1) ∧ CurX w' B P bs (labelsX bs σ).2 ∧ But B w w' := by
  obtain ⟨ti, hti, ht0, ht1, ht2⟩ := info_lab
  have HI : Hid (Tryz.prog.info? 83 = some ti) := hti
  clear hti
  have HC : Hid (CurX w B P bs σ) := h
  have hlt := h.lt
  have hPw := h.up.2
  clear h
  have HP1 : Hid (∀ W, CurX W B P bs σ → Calls Tryz.prog 14 #[.pointer (some ⟨B, 0, none⟩), .int .i64 4] W fun e w' => e = .returned (.int .i64 ((pickX bs σ 4).1 : Nat)) ∧ CurX w' B P bs (pickX bs σ 4).2 ∧ But B W w') := fun W h => curPickX_any B P bs σ 4 W h (by omega) (by omega)
  have hv := pickX_lt bs σ (n := 4) (by omega)
  have hk1 := pickX_k bs σ 4
  unfold labelsX
  generalize pickX bs σ 4 = R at *
  obtain ⟨v, τ⟩ := R
  simp only at HP1 hv hk1 ⊢
  have hmz := getD_size (L := metN) (m := 4) (by decide) v
  obtain ⟨mv, hmv⟩ : ∃ mv, metN.getD v ⟨#[]⟩ = mv := ⟨_, rfl⟩
  rw [hmv] at hmz ⊢
  have HMV := hid hmv
  clear hmv
  go_enter Tryz.func71, Tryz.ntmps71
  go_wp2_with fail
  have HR0 : Hid (LitT (w.alloc (.cells (namN.map Value.string).toArray 9)) w.heap.size namN) := litT_new w namN _
  simp only [namN, List.map_cons, List.map_nil] at HR0
  have HNN : Hid (namN = [⟨#[106, 111, 98]⟩, ⟨#[104, 111, 115, 116]⟩, ⟨#[95, 120]⟩, ⟨#[90, 111, 110, 101]⟩, ⟨#[97, 49]⟩, ⟨#[108, 101]⟩]) := hid rfl
  have HMN : Hid (metN = [⟨#[117, 112]⟩, ⟨#[99, 112, 117]⟩, ⟨#[109, 101, 109]⟩, ⟨#[117, 112]⟩]) := hid rfl
  generalize hW0 : w.alloc (.cells #[.string ⟨#[106, 111, 98]⟩, .string ⟨#[104, 111, 115, 116]⟩, .string ⟨#[95, 120]⟩, .string ⟨#[90, 111, 110, 101]⟩, .string ⟨#[97, 49]⟩, .string ⟨#[108, 101]⟩] 9) = W0 at *
  have hz0 : W0.heap.size = w.heap.size + 1 := by rw [← hW0]; simp
  have HB0 : Hid (Below w.heap.size w W0) := by show Below _ _ _; rw [← hW0]; exact bnew _ _
  clear hW0
  have HR1 : Hid (LitT (W0.alloc (.cells (metN.map Value.string).toArray 9)) W0.heap.size metN) := litT_new W0 metN _
  simp only [metN, List.map_cons, List.map_nil] at HR1
  generalize hW1 : W0.alloc (.cells #[.string ⟨#[117, 112]⟩, .string ⟨#[99, 112, 117]⟩, .string ⟨#[109, 101, 109]⟩, .string ⟨#[117, 112]⟩] 9) = W1 at *
  have hz1 : W1.heap.size = w.heap.size + 2 := by rw [← hW1]; simp; omega
  have HB1 : Hid (Below W0.heap.size W0 W1) := by show Below _ _ _; rw [← hW1]; exact bnew _ _
  clear hW1
  have hC1 := (HC.out.later HB0.out).later HB1.out
  refine (HP1.out _ hC1).mono ?_
  rintro e w1 ⟨rfl, hc1, hb1⟩
  rw [hz0] at HR1
  have HRm := HR1.out.but hb1 (by omega)
  have hcell := HRm.at (j := v) (by simpa using hv)
  rw [← HMN.out] at hcell
  rw [← HNN.out] at HR0
  rw [HMV.out] at hcell
  have H1 : Hid (CurX w1 B P bs τ ∧ But B w w1 ∧ LitT w1 w.heap.size namN) := ⟨hc1, ((But.of HB0.out).trans (But.of HB1.out)).trans hb1, (HR0.out.later HB1.out).but hb1 (by omega)⟩
  have hz2 : w.heap.size + 2 ≤ w1.heap.size := by have := hb1.size; omega
  clear hc1 hb1 hC1 HR0 HR1 HRm HB0 HB1 HC hz0 hz1 W0 W1 HNN HMN HP1 HMV
  have hv' : (v : Int) < 4 := by omega
  go_wp2
  go_loopw [5, 7, 8, 20] (fun out _ _ i wr => ∃ (k g cv : Nat), k ≤ 6 ∧ i = .int .i64 (k : Nat) ∧ out = .slice (some ⟨g, 0, none⟩) (labK bs mv τ k).1.length cv ∧ Hid (CurX wr B P bs (labK bs mv τ k).2 ∧ But B w wr ∧ LitT wr w.heap.size namN) ∧ Hid (wr.ownsRow (w.heap.size + 1) 83 2 (.slice (some ⟨g, 0, none⟩) (labK bs mv τ k).1.length cv) (labK bs mv τ k).1.length (flatL (labK bs mv τ k).1)) ∧ w.heap.size + 2 ≤ wr.heap.size) (fun _ _ _ i _ => 6 - (intOf i).toNat)
  case atStart => exact ⟨0, w1.heap.size, 1, by omega, rfl, rfl, ⟨H1.out.1.later (bnew _ _), H1.out.2.1.later (bnew _ _), H1.out.2.2.later (bnew _ _)⟩, row_one (by omega) (heap_alloc_new _ _), by simp; omega⟩
  case round =>
    clear H1
    obtain ⟨k, g, cv, hk, rfl, rfl, HR, HROW, hsz⟩ := hrel
    obtain ⟨hS, hL7, hL1, hK⟩ := labK_is bs mv τ (by omega) k
    by_cases hlt6 : k < 6
    · have hk6 : (k : Int) < 6 := by omega
      have hnc := HR.out.2.2.at (j := k) (by simpa [namN] using hlt6)
      have HS1 : Hid (labK bs mv τ (k + 1) = labS bs (namN.getD k ⟨#[]⟩) (labK bs mv τ k)) := hid rfl
      generalize labK bs mv τ k = A at *
      obtain ⟨acc, υ⟩ := A
      simp only at HR HROW hS hL7 hL1 hK HS1
      obtain ⟨nm, hnm⟩ : ∃ nm, namN.getD k ⟨#[]⟩ = nm := ⟨_, rfl⟩
      have hns := getD_size (L := namN) (m := 4) (by decide) k
      rw [hnm] at hnc hns HS1
      clear hnm
      have HP3 : Hid (∀ W, CurX W B P bs υ → Calls Tryz.prog 14 #[.pointer (some ⟨B, 0, none⟩), .int .i64 3] W fun e w' => e = .returned (.int .i64 ((pickX bs υ 3).1 : Nat)) ∧ CurX w' B P bs (pickX bs υ 3).2 ∧ But B W w') := fun W h => curPickX_any B P bs υ 3 W h (by omega) (by omega)
      have hp3 := pickX_lt bs υ (n := 3) (by omega)
      have hk3 := pickX_k bs υ 3
      unfold labS at HS1
      simp only at HS1
      generalize pickX bs υ 3 = R3 at *
      obtain ⟨v2, υ3⟩ := R3
      simp only at HP3 hp3 hk3 HS1
      go_wp2_with fail
      refine (HP3.out _ HR.out.1).mono ?_
      rintro e w2 ⟨rfl, hc2, hb2⟩
      have H2 : Hid (CurX w2 B P bs υ3 ∧ But B w w2 ∧ LitT w2 w.heap.size namN) := ⟨hc2, HR.out.2.1.trans hb2, HR.out.2.2.but hb2 (by omega)⟩
      have HROW2 : Hid (w2.ownsRow (w.heap.size + 1) 83 2 (.slice (some ⟨g, 0, none⟩) acc.length cv) acc.length (flatL acc)) := row_but0 HROW.out hb2 (by omega)
      have hsz2 : w.heap.size + 2 ≤ w2.heap.size := by have := hb2.size; omega
      clear hc2 hb2 HR HROW hnc HP3
      by_cases h0 : v2 = 0
      · subst h0
        rw [if_pos rfl] at HS1
        have HVX : Hid (∀ W, CurX W B P bs υ3 → Calls Tryz.prog 93 #[.pointer (some ⟨B, 0, none⟩)] W fun e w' => e = .returned (.string (valueX bs υ3).1) ∧ CurX w' B P bs (valueX bs υ3).2 ∧ But B W w') := fun W h => drawValueX_any B P bs υ3 W h (by omega)
        have hvx := valueX_is bs υ3
        generalize valueX bs υ3 = V at *
        obtain ⟨va, υ4⟩ := V
        simp only at HVX hvx HS1
        have HP4 : Hid (∀ W, CurX W B P bs υ4 → Calls Tryz.prog 14 #[.pointer (some ⟨B, 0, none⟩), .int .i64 2] W fun e w' => e = .returned (.int .i64 ((pickX bs υ4 2).1 : Nat)) ∧ CurX w' B P bs (pickX bs υ4 2).2 ∧ But B W w') := fun W h => curPickX_any B P bs υ4 2 W h (by omega) (by omega)
        have hp4 := pickX_lt bs υ4 (n := 2) (by omega)
        generalize pickX bs υ4 2 = R4 at *
        obtain ⟨v4, υ5⟩ := R4
        simp only at HP4 hp4 HS1
        go_wp2_with fail
        refine (HVX.out _ H2.out.1).mono ?_
        rintro e w3 ⟨rfl, hc3, hb3⟩
        have H3 : Hid (CurX w3 B P bs υ4 ∧ But B w w3 ∧ LitT w3 w.heap.size namN) := ⟨hc3, H2.out.2.1.trans hb3, H2.out.2.2.but hb3 (by omega)⟩
        have HROW3 : Hid (w3.ownsRow (w.heap.size + 1) 83 2 (.slice (some ⟨g, 0, none⟩) acc.length cv) acc.length (flatL acc)) := row_but0 HROW2.out hb3 (by omega)
        have hsz3 : w.heap.size + 2 ≤ w3.heap.size := by have := hb3.size; omega
        clear hc3 hb3 H2 HROW2 HVX
        go_wp2_with fail
        refine (HP4.out _ (H3.out.1.later (bnew _ _))).mono ?_
        rintro e w4 ⟨rfl, hc4, hb4⟩
        have hbx : Blk (w3.alloc (.cells #[.string nm, .string va] 83)) w3.heap.size #[.string nm, .string va] 83 := heap_alloc_new _ _
        have hbx4 : Blk w4 w3.heap.size #[.string nm, .string va] 83 := (hb4.block _ (lt_of_block hbx) (by omega)).trans hbx
        have x0 := Blk.cell hbx4 0
        have x1 := Blk.cell hbx4 1
        simp only [List.getElem?_toArray, List.getElem?_cons_zero, List.getElem?_cons_succ] at x0 x1
        have H4 : Hid (CurX w4 B P bs υ5 ∧ But B w w4 ∧ LitT w4 w.heap.size namN) := ⟨hc4, (H3.out.2.1.later (bnew _ _)).trans hb4, (H3.out.2.2.later (bnew _ _)).but hb4 (by omega)⟩
        have HROW4 : Hid (w4.ownsRow (w.heap.size + 1) 83 2 (.slice (some ⟨g, 0, none⟩) acc.length cv) acc.length (flatL acc)) := row_but0 (row_later HROW3.out (bnew _ _)) hb4 (by omega)
        have hsz4 : w.heap.size + 2 ≤ w4.heap.size := by have := hb4.size; simp at this; omega
        clear hc4 hb4 H3 HROW3 hbx hbx4 HP4
        by_cases h4 : v4 = 0
        · subst h4
          rw [if_pos rfl] at HS1
          go_wp2_with (at_builtin; refine wpList_append_lies _ rfl _ _ _ rfl (w.heap.size + 1) 83 ti _ 2 32 Tryz.underlying66 HI.out ht0 ht1 ht2 rfl (by omega) (.slice (some ⟨g, 0, none⟩) acc.length cv) acc.length (flatL acc) rfl (by exact row_later HROW4.out (bnew _ _)) ⟨w4.heap.size, 0, none⟩ 1 1 [.string nm, .string va] rfl rfl (by exact World.news_of_block (cs := #[.string nm, .string va]) (heap_alloc_new _ _)) (by simp [Value.oneCell']) (by omega) (by simp [maxLen]; omega) (by omega) (by simp; omega) (w4.heap.size + 1) (by simp) ?_; intro g5 cap5 w5 hown5 hgrow5 hat5 hlt5)
          have hB5 : Below (w.heap.size + 1) w4 w5 := (((bnew w4 _).mono (by omega)).grown hgrow5 (by simp; omega) (fun q hq => row_from HROW4.out q hq))
          have hle : (acc ++ [(⟨nm, va⟩ : LabD)]).length = acc.length + 1 := by simp
          have hxs : flatL acc ++ [.string nm, .string va] = flatL (acc ++ [⟨nm, va⟩]) := by rw [flatL_append]; rfl
          rw [hxs, ← hle] at hown5
          refine ⟨⟨k + 1, g5, cap5, by omega, by go_num, by rw [HS1.out, hle], ⟨by rw [HS1.out]; exact H4.out.1.below (hB5.mono (by omega)), H4.out.2.1.below_to (hB5.mono (by omega)), H4.out.2.2.below hB5 (by omega)⟩, by rw [HS1.out]; exact hown5, by have := hB5.size; omega⟩, by simp [intOf]; omega⟩
        · have h4' : ¬ (((v4 : Nat) : Int) = 0) := by omega
          rw [if_neg h4] at HS1
          go_wp2_with (at_builtin; refine wpList_append_lies _ rfl _ _ _ rfl (w.heap.size + 1) 83 ti _ 2 32 Tryz.underlying66 HI.out ht0 ht1 ht2 rfl (by omega) (.slice (some ⟨w4.heap.size, 0, none⟩) 1 1) 1 [.string nm, .string va] rfl (by exact row_one (by omega) (heap_alloc_new _ _)) ⟨g, 0, none⟩ acc.length cv (flatL acc) rfl (flatL_length acc) (by exact row_news (row_later HROW4.out (bnew _ _))) (by exact flatL_cell acc) (by omega) (by simp [maxLen]; omega) (by omega) (by simp; omega) (w4.heap.size + 1) (by simp) ?_; intro g5 cap5 w5 hown5 hgrow5 hat5 hlt5)
          have hB5 : Below (w.heap.size + 1) w4 w5 := (((bnew w4 _).mono (by omega)).grown hgrow5 (by simp; omega) (fun q hq => by simp [Value.ownBlock] at hq; omega))
          have hle : ((⟨nm, va⟩ : LabD) :: acc).length = 1 + acc.length := by simp; omega
          have hxs : [.string nm, .string va] ++ flatL acc = flatL (⟨nm, va⟩ :: acc) := rfl
          rw [hxs, ← hle] at hown5
          refine ⟨⟨k + 1, g5, cap5, by omega, by go_num, by rw [HS1.out, hle], ⟨by rw [HS1.out]; exact H4.out.1.below (hB5.mono (by omega)), H4.out.2.1.below_to (hB5.mono (by omega)), H4.out.2.2.below hB5 (by omega)⟩, by rw [HS1.out]; exact hown5, by have := hB5.size; omega⟩, by simp [intOf]; omega⟩
      · have h0' : ¬ (((v2 : Nat) : Int) = 0) := by omega
        rw [if_neg h0] at HS1
        go_wp2
        exact ⟨⟨k + 1, g, cv, by omega, by go_num, by rw [HS1.out], by rw [HS1.out]; exact H2.out, by rw [HS1.out]; exact HROW2.out, hsz2⟩, by simp [intOf]; omega⟩
    · have hk6 : ¬ ((k : Int) < 6) := by omega
      have hke : k = 6 := by omega
      subst hke
      go_wp2
      go_ret
      exact ⟨g, cv, rfl, row_mono0 HROW.out (by omega), HR.out.1, HR.out.2.1⟩
end Go.Proofs.YtnbkmmmlhlbfoaaGreatDoor
