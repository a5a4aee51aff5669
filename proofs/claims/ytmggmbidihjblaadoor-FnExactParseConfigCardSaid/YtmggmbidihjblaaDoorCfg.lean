import Derived.Test.YtmggmbidihjblaaDoorProg
import Derived.Test.YtmggmbidihjblaaDoorBtw
import Derived.Test.YtmggmbidihjblaaDoorWin
namespace Go.Proofs.YtmggmbidihjblaaDoor
open Go.RowKit

structure CfgD where
  w : Int
  tl : Int
  ml : Int
  sh : Int
  ha : Int
  sg : Int
def cfgV (c : CfgD) : Value := .agg #[.int .i64 c.w, .int .i64 c.tl, .int .i64 c.ml, .int .i64 c.sh, .int .i64 c.ha, .int .i64 c.sg]
def cfgB (c : CfgD) : Bool := btwB c.w 1 1000000000 && btwB c.tl 0 1000000 && btwB c.ml 0 1000000 && btwB c.sh 1 64 && btwB c.ha 0 2 && btwB c.sg 100 1000000
theorem btw_in {x lo hi : Int} (h : btwB x lo hi = true) : lo ≤ x ∧ x ≤ hi := by simpa [btwB] using h
theorem btw_out {x lo hi : Int} (h : ¬ btwB x lo hi = true) : x < lo ∨ hi < x := by
  by_cases h1 : lo ≤ x
  · by_cases h2 : x ≤ hi
    · exact absurd (by simp [btwB, h1, h2]) h
    · exact Or.inr (by omega)
  · exact Or.inl (by omega)

set_option maxHeartbeats 400000 in
theorem isLimit_any (x : Int) (w : World) : Calls Tryd.prog 20 #[.int .i64 x] w fun e w' => e = .returned (.bool (btwB x 0 1000000)) ∧ w' = w := by
  go_enter Tryd.func20, Tryd.ntmps20
  go_wp2_with (go_at_call 21; refine (within_any _ _ _).mono ?_; rintro e w' ⟨rfl, rfl⟩)
  go_ret
  exact ⟨rfl, rfl⟩

set_option maxRecDepth 100000 in
set_option maxHeartbeats 1000000 in
theorem specCfg_any (c : CfgD) (w : World) : Calls Tryd.prog 9 #[cfgV c] w fun e w' => e = .returned (.bool (cfgB c)) ∧ Below w.heap.size w w' := by
  obtain ⟨cw, ctl, cml, csh, cha, csg⟩ := c
  unfold cfgV
  simp only
  by_cases g0 : btwB cw 1 1000000000 = false
  · have h0 := g0
    have E : Hid (cfgB ⟨cw, ctl, cml, csh, cha, csg⟩ = false) := by show _ = _; simp [cfgB, g0]
    clear h0
    go_enter Tryd.func9, Tryd.ntmps9
    go_wp2_with (go_at_call 15; refine (between_any _ _ _ _).mono ?_; rintro e w' ⟨rfl, rfl⟩)
    go_ret
    exact ⟨ret_bool E.out.symm, bnew _ _⟩
  have h0 : btwB cw 1 1000000000 = true := by simpa using g0
  clear g0
  by_cases g1 : btwB ctl 0 1000000 = false
  · have h1 := g1
    have E : Hid (cfgB ⟨cw, ctl, cml, csh, cha, csg⟩ = false) := by show _ = _; simp [cfgB, h0, g1]
    clear h1
    go_enter Tryd.func9, Tryd.ntmps9
    go_wp2_with (go_at_call 15; refine (between_any _ _ _ _).mono ?_; rintro e w' ⟨rfl, rfl⟩)
    go_ret
    exact ⟨ret_bool E.out.symm, bnew _ _⟩
  have h1 : btwB ctl 0 1000000 = true := by simpa using g1
  clear g1
  by_cases g2 : btwB cml 0 1000000 = false
  · have h2 := g2
    have E : Hid (cfgB ⟨cw, ctl, cml, csh, cha, csg⟩ = false) := by show _ = _; simp [cfgB, h0, h1, g2]
    clear h2
    go_enter Tryd.func9, Tryd.ntmps9
    go_wp2_with (go_at_call 15; refine (between_any _ _ _ _).mono ?_; rintro e w' ⟨rfl, rfl⟩)
    go_ret
    exact ⟨ret_bool E.out.symm, bnew _ _⟩
  have h2 : btwB cml 0 1000000 = true := by simpa using g2
  clear g2
  by_cases g3 : btwB csh 1 64 = false
  · have h3 := g3
    have E : Hid (cfgB ⟨cw, ctl, cml, csh, cha, csg⟩ = false) := by show _ = _; simp [cfgB, h0, h1, h2, g3]
    clear h3
    go_enter Tryd.func9, Tryd.ntmps9
    go_wp2_with (go_at_call 15; refine (between_any _ _ _ _).mono ?_; rintro e w' ⟨rfl, rfl⟩)
    go_ret
    exact ⟨ret_bool E.out.symm, bnew _ _⟩
  have h3 : btwB csh 1 64 = true := by simpa using g3
  clear g3
  by_cases g4 : btwB cha 0 2 = false
  · have h4 := g4
    have E : Hid (cfgB ⟨cw, ctl, cml, csh, cha, csg⟩ = false) := by show _ = _; simp [cfgB, h0, h1, h2, h3, g4]
    clear h4
    go_enter Tryd.func9, Tryd.ntmps9
    go_wp2_with (go_at_call 15; refine (between_any _ _ _ _).mono ?_; rintro e w' ⟨rfl, rfl⟩)
    go_ret
    exact ⟨ret_bool E.out.symm, bnew _ _⟩
  have h4 : btwB cha 0 2 = true := by simpa using g4
  clear g4
  by_cases g5 : btwB csg 100 1000000 = false
  · have h5 := g5
    have E : Hid (cfgB ⟨cw, ctl, cml, csh, cha, csg⟩ = false) := by show _ = _; simp [cfgB, h0, h1, h2, h3, h4, g5]
    clear h5
    go_enter Tryd.func9, Tryd.ntmps9
    go_wp2_with (go_at_call 15; refine (between_any _ _ _ _).mono ?_; rintro e w' ⟨rfl, rfl⟩)
    go_ret
    exact ⟨ret_bool E.out.symm, bnew _ _⟩
  have h5 : btwB csg 100 1000000 = true := by simpa using g5
  clear g5
  have E : Hid (cfgB ⟨cw, ctl, cml, csh, cha, csg⟩ = true) := by show _ = _; simp [cfgB, h0, h1, h2, h3, h4, h5]
  go_enter Tryd.func9, Tryd.ntmps9
  go_wp2_with (go_at_call 15; refine (between_any _ _ _ _).mono ?_; rintro e w' ⟨rfl, rfl⟩)
  go_ret
  exact ⟨ret_bool E.out.symm, bnew _ _⟩

set_option maxRecDepth 100000 in
set_option maxHeartbeats 1000000 in
theorem implCfg_any (c : CfgD) (w : World) : Calls Tryd.prog 14 #[cfgV c] w fun e w' => e = .returned (.bool (cfgB c)) ∧ Below w.heap.size w w' := by
  obtain ⟨cw, ctl, cml, csh, cha, csg⟩ := c
  unfold cfgV
  simp only
  by_cases g0 : btwB cw 1 1000000000 = false
  · have h0 : ¬ btwB cw 1 1000000000 = true := by simpa using g0
    have E : Hid (cfgB ⟨cw, ctl, cml, csh, cha, csg⟩ = false) := by show _ = _; simp [cfgB, g0]
    have ho := btw_out h0
    clear h0 g0
    by_cases hx : 1 ≤ cw
    · have hy : ¬ cw ≤ 1000000000 := by omega
      clear ho
      go_enter Tryd.func14, Tryd.ntmps14
      go_wp2_with (first | (go_at_call 20; refine (isLimit_any _ _).mono ?_; rintro e w' ⟨rfl, rfl⟩) | (go_at_call 21; refine (within_any _ _ _).mono ?_; rintro e w' ⟨rfl, rfl⟩))
      go_ret
      exact ⟨ret_bool (by first | exact E.out.symm | (rw [E.out]; simp; omega)), bnew _ _⟩
    · clear ho
      go_enter Tryd.func14, Tryd.ntmps14
      go_wp2_with (first | (go_at_call 20; refine (isLimit_any _ _).mono ?_; rintro e w' ⟨rfl, rfl⟩) | (go_at_call 21; refine (within_any _ _ _).mono ?_; rintro e w' ⟨rfl, rfl⟩))
      go_ret
      exact ⟨ret_bool (by first | exact E.out.symm | (rw [E.out]; simp; omega)), bnew _ _⟩
  have h0 : btwB cw 1 1000000000 = true := by simpa using g0
  clear g0
  obtain ⟨i0, j0⟩ := btw_in h0
  by_cases g1 : btwB ctl 0 1000000 = false
  · have h1 : ¬ btwB ctl 0 1000000 = true := by simpa using g1
    have E : Hid (cfgB ⟨cw, ctl, cml, csh, cha, csg⟩ = false) := by show _ = _; simp [cfgB, h0, g1]
    clear h1
    go_enter Tryd.func14, Tryd.ntmps14
    go_wp2_with (first | (go_at_call 20; refine (isLimit_any _ _).mono ?_; rintro e w' ⟨rfl, rfl⟩) | (go_at_call 21; refine (within_any _ _ _).mono ?_; rintro e w' ⟨rfl, rfl⟩))
    go_ret
    exact ⟨ret_bool (by first | exact E.out.symm | (rw [E.out]; simp; omega)), bnew _ _⟩
  have h1 : btwB ctl 0 1000000 = true := by simpa using g1
  clear g1
  by_cases g2 : btwB cml 0 1000000 = false
  · have h2 : ¬ btwB cml 0 1000000 = true := by simpa using g2
    have E : Hid (cfgB ⟨cw, ctl, cml, csh, cha, csg⟩ = false) := by show _ = _; simp [cfgB, h0, h1, g2]
    clear h2
    go_enter Tryd.func14, Tryd.ntmps14
    go_wp2_with (first | (go_at_call 20; refine (isLimit_any _ _).mono ?_; rintro e w' ⟨rfl, rfl⟩) | (go_at_call 21; refine (within_any _ _ _).mono ?_; rintro e w' ⟨rfl, rfl⟩))
    go_ret
    exact ⟨ret_bool (by first | exact E.out.symm | (rw [E.out]; simp; omega)), bnew _ _⟩
  have h2 : btwB cml 0 1000000 = true := by simpa using g2
  clear g2
  by_cases g3 : btwB csh 1 64 = false
  · have h3 : ¬ btwB csh 1 64 = true := by simpa using g3
    have E : Hid (cfgB ⟨cw, ctl, cml, csh, cha, csg⟩ = false) := by show _ = _; simp [cfgB, h0, h1, h2, g3]
    have ho := btw_out h3
    clear h3 g3
    by_cases hx : 1 ≤ csh
    · have hy : ¬ csh ≤ 64 := by omega
      clear ho
      go_enter Tryd.func14, Tryd.ntmps14
      go_wp2_with (first | (go_at_call 20; refine (isLimit_any _ _).mono ?_; rintro e w' ⟨rfl, rfl⟩) | (go_at_call 21; refine (within_any _ _ _).mono ?_; rintro e w' ⟨rfl, rfl⟩))
      go_ret
      exact ⟨ret_bool (by first | exact E.out.symm | (rw [E.out]; simp; omega)), bnew _ _⟩
    · clear ho
      go_enter Tryd.func14, Tryd.ntmps14
      go_wp2_with (first | (go_at_call 20; refine (isLimit_any _ _).mono ?_; rintro e w' ⟨rfl, rfl⟩) | (go_at_call 21; refine (within_any _ _ _).mono ?_; rintro e w' ⟨rfl, rfl⟩))
      go_ret
      exact ⟨ret_bool (by first | exact E.out.symm | (rw [E.out]; simp; omega)), bnew _ _⟩
  have h3 : btwB csh 1 64 = true := by simpa using g3
  clear g3
  obtain ⟨i3, j3⟩ := btw_in h3
  by_cases g4 : btwB cha 0 2 = false
  · have h4 : ¬ btwB cha 0 2 = true := by simpa using g4
    have E : Hid (cfgB ⟨cw, ctl, cml, csh, cha, csg⟩ = false) := by show _ = _; simp [cfgB, h0, h1, h2, h3, g4]
    clear h4
    go_enter Tryd.func14, Tryd.ntmps14
    go_wp2_with (first | (go_at_call 20; refine (isLimit_any _ _).mono ?_; rintro e w' ⟨rfl, rfl⟩) | (go_at_call 21; refine (within_any _ _ _).mono ?_; rintro e w' ⟨rfl, rfl⟩))
    go_ret
    exact ⟨ret_bool (by first | exact E.out.symm | (rw [E.out]; simp; omega)), bnew _ _⟩
  have h4 : btwB cha 0 2 = true := by simpa using g4
  clear g4
  by_cases g5 : btwB csg 100 1000000 = false
  · have h5 : ¬ btwB csg 100 1000000 = true := by simpa using g5
    have E : Hid (cfgB ⟨cw, ctl, cml, csh, cha, csg⟩ = false) := by show _ = _; simp [cfgB, h0, h1, h2, h3, h4, g5]
    have ho := btw_out h5
    clear h5 g5
    by_cases hx : 100 ≤ csg
    · have hy : ¬ csg ≤ 1000000 := by omega
      clear ho
      go_enter Tryd.func14, Tryd.ntmps14
      go_wp2_with (first | (go_at_call 20; refine (isLimit_any _ _).mono ?_; rintro e w' ⟨rfl, rfl⟩) | (go_at_call 21; refine (within_any _ _ _).mono ?_; rintro e w' ⟨rfl, rfl⟩))
      go_ret
      exact ⟨ret_bool (by first | exact E.out.symm | (rw [E.out]; simp; omega)), bnew _ _⟩
    · clear ho
      go_enter Tryd.func14, Tryd.ntmps14
      go_wp2_with (first | (go_at_call 20; refine (isLimit_any _ _).mono ?_; rintro e w' ⟨rfl, rfl⟩) | (go_at_call 21; refine (within_any _ _ _).mono ?_; rintro e w' ⟨rfl, rfl⟩))
      go_ret
      exact ⟨ret_bool (by first | exact E.out.symm | (rw [E.out]; simp; omega)), bnew _ _⟩
  have h5 : btwB csg 100 1000000 = true := by simpa using g5
  clear g5
  obtain ⟨i5, j5⟩ := btw_in h5
  have E : Hid (cfgB ⟨cw, ctl, cml, csh, cha, csg⟩ = true) := by show _ = _; simp [cfgB, h0, h1, h2, h3, h4, h5]
  go_enter Tryd.func14, Tryd.ntmps14
  go_wp2_with (first | (go_at_call 20; refine (isLimit_any _ _).mono ?_; rintro e w' ⟨rfl, rfl⟩) | (go_at_call 21; refine (within_any _ _ _).mono ?_; rintro e w' ⟨rfl, rfl⟩))
  go_ret
  exact ⟨ret_bool (by first | exact E.out.symm | (rw [E.out]; simp; omega)), bnew _ _⟩
end Go.Proofs.YtmggmbidihjblaaDoor
