import Derived.Test.YtoecnlhnfhongaaGreatDoorProg
import Derived.Test.YtoecnlhnfhongaaGreatDoorJ02BatL
import Derived.Test.YtoecnlhnfhongaaGreatDoorJ09Win
import Derived.Test.YtoecnlhnfhongaaGreatDoorJ08LabB
import Derived.Test.YtoecnlhnfhongaaGreatDoorJ04AppA
import Derived.Test.YtoecnlhnfhongaaGreatDoorJ01RdL
import Derived.Test.YtoecnlhnfhongaaGreatDoorJ03StaB
import Derived.BigRegion
namespace Go.Proofs.YtoecnlhnfhongaaGreatDoor
open Go.RowKit

structure CfgD where
  w : Int
  tl : Int
  ml : Int
  sh : Int
  ha : Int
  sg : Int
def cfgV (c : CfgD) : Value := .agg #[.int .i64 c.w, .int .i64 c.tl, .int .i64 c.ml, .int .i64 c.sh, .int .i64 c.ha, .int .i64 c.sg]
def cfgB (c : CfgD) : Bool := btwB c.w 1 1000000000 && btwB c.tl 0 1000000 && btwB c.ml 0 1000000 && btwB c.sh 1 64 && btwB c.ha 0 2 && btwB c.sg 100 1000000
theorem btw_in {x lo hi : Int} (h : btwB x lo hi = true) : lo ≤ x ∧ x ≤ hi := by simpa [btwB] using h
theorem btw_out {x lo hi : Int} (h : ¬ btwB x lo hi = true) : x < lo ∨ hi < x := by
  by_cases h1 : lo ≤ x
  · by_cases h2 : x ≤ hi
    · exact absurd (by simp [btwB, h1, h2]) h
    · exact Or.inr (by omega)
  · exact Or.inl (by omega)

set_option maxHeartbeats 400000 in
theorem isLimit_any (x : Int) (w : World) : Calls Tryz.prog 72 #[.int .i64 x] w fun e w' => e = .returned (.bool (btwB x 0 1000000)) ∧ w' = w := by
  go_enter Tryz.func72, Tryz.ntmps72
  go_wp2_with (go_at_call 36; refine (within_any _ _ _).mono ?_; rintro e w' ⟨rfl, rfl⟩)
  go_ret
  exact ⟨rfl, rfl⟩

set_option maxRecDepth 100000 in
set_option maxHeartbeats 1000000 in
theorem specCfg_any (c : CfgD) (w : World) : Calls Tryz.prog 23 #[cfgV c] w fun e w' => e = .returned (.bool (cfgB c)) ∧ Below w.heap.size w w' := by
  obtain ⟨cw, ctl, cml, csh, cha, csg⟩ := c
  unfold cfgV
  simp only
  by_cases g0 : btwB cw 1 1000000000 = false
  · have h0 := g0
    have E : Hid (cfgB ⟨cw, ctl, cml, csh, cha, csg⟩ = false) := by show _ = _; simp [cfgB, g0]
    clear h0
    go_enter Tryz.func23, Tryz.ntmps23
    go_wp2_with (go_at_call 24; refine (between_any _ _ _ _).mono ?_; rintro e w' ⟨rfl, rfl⟩)
    go_ret
    exact ⟨ret_bool E.out.symm, bnew _ _⟩
  have h0 : btwB cw 1 1000000000 = true := by simpa using g0
  clear g0
  by_cases g1 : btwB ctl 0 1000000 = false
  · have h1 := g1
    have E : Hid (cfgB ⟨cw, ctl, cml, csh, cha, csg⟩ = false) := by show _ = _; simp [cfgB, h0, g1]
    clear h1
    go_enter Tryz.func23, Tryz.ntmps23
    go_wp2_with (go_at_call 24; refine (between_any _ _ _ _).mono ?_; rintro e w' ⟨rfl, rfl⟩)
    go_ret
    exact ⟨ret_bool E.out.symm, bnew _ _⟩
  have h1 : btwB ctl 0 1000000 = true := by simpa using g1
  clear g1
  by_cases g2 : btwB cml 0 1000000 = false
  · have h2 := g2
    have E : Hid (cfgB ⟨cw, ctl, cml, csh, cha, csg⟩ = false) := by show _ = _; simp [cfgB, h0, h1, g2]
    clear h2
    go_enter Tryz.func23, Tryz.ntmps23
    go_wp2_with (go_at_call 24; refine (between_any _ _ _ _).mono ?_; rintro e w' ⟨rfl, rfl⟩)
    go_ret
    exact ⟨ret_bool E.out.symm, bnew _ _⟩
  have h2 : btwB cml 0 1000000 = true := by simpa using g2
  clear g2
  by_cases g3 : btwB csh 1 64 = false
  · have h3 := g3
    have E : Hid (cfgB ⟨cw, ctl, cml, csh, cha, csg⟩ = false) := by show _ = _; simp [cfgB, h0, h1, h2, g3]
    clear h3
    go_enter Tryz.func23, Tryz.ntmps23
    go_wp2_with (go_at_call 24; refine (between_any _ _ _ _).mono ?_; rintro e w' ⟨rfl, rfl⟩)
    go_ret
    exact ⟨ret_bool E.out.symm, bnew _ _⟩
  have h3 : btwB csh 1 64 = true := by simpa using g3
  clear g3
  by_cases g4 : btwB cha 0 2 = false
  · have h4 := g4
    have E : Hid (cfgB ⟨cw, ctl, cml, csh, cha, csg⟩ = false) := by show _ = _; simp [cfgB, h0, h1, h2, h3, g4]
    clear h4
    go_enter Tryz.func23, Tryz.ntmps23
    go_wp2_with (go_at_call 24; refine (between_any _ _ _ _).mono ?_; rintro e w' ⟨rfl, rfl⟩)
    go_ret
    exact ⟨ret_bool E.out.symm, bnew _ _⟩
  have h4 : btwB cha 0 2 = true := by simpa using g4
  clear g4
  by_cases g5 : btwB csg 100 1000000 = false
  · have h5 := g5
    have E : Hid (cfgB ⟨cw, ctl, cml, csh, cha, csg⟩ = false) := by show _ = _; simp [cfgB, h0, h1, h2, h3, h4, g5]
    clear h5
    go_enter Tryz.func23, Tryz.ntmps23
    go_wp2_with (go_at_call 24; refine (between_any _ _ _ _).mono ?_; rintro e w' ⟨rfl, rfl⟩)
    go_ret
    exact ⟨ret_bool E.out.symm, bnew _ _⟩
  have h5 : btwB csg 100 1000000 = true := by simpa using g5
  clear g5
  have E : Hid (cfgB ⟨cw, ctl, cml, csh, cha, csg⟩ = true) := by show _ = _; simp [cfgB, h0, h1, h2, h3, h4, h5]
  go_enter Tryz.func23, Tryz.ntmps23
  go_wp2_with (go_at_call 24; refine (between_any _ _ _ _).mono ?_; rintro e w' ⟨rfl, rfl⟩)
  go_ret
  exact ⟨ret_bool E.out.symm, bnew _ _⟩

set_option maxRecDepth 100000 in
set_option maxHeartbeats 1000000 in
theorem implCfg_any (c : CfgD) (w : World) : Calls Tryz.prog 60 #[cfgV c] w fun e w' => e = .returned (.bool (cfgB c)) ∧ Below w.heap.size w w' := by
  obtain ⟨cw, ctl, cml, csh, cha, csg⟩ := c
  unfold cfgV
  simp only
  by_cases g0 : btwB cw 1 1000000000 = false
  · have h0 : ¬ btwB cw 1 1000000000 = true := by simpa using g0
    have E : Hid (cfgB ⟨cw, ctl, cml, csh, cha, csg⟩ = false) := by show _ = _; simp [cfgB, g0]
    have ho := btw_out h0
    clear h0 g0
    by_cases hx : 1 ≤ cw
    · have hy : ¬ cw ≤ 1000000000 := by omega
      clear ho
      go_enter Tryz.func60, Tryz.ntmps60
      go_wp2_with (first | (go_at_call 72; refine (isLimit_any _ _).mono ?_; rintro e w' ⟨rfl, rfl⟩) | (go_at_call 36; refine (within_any _ _ _).mono ?_; rintro e w' ⟨rfl, rfl⟩))
      go_ret
      exact ⟨ret_bool (by first | exact E.out.symm | (rw [E.out]; simp; omega)), bnew _ _⟩
    · clear ho
      go_enter Tryz.func60, Tryz.ntmps60
      go_wp2_with (first | (go_at_call 72; refine (isLimit_any _ _).mono ?_; rintro e w' ⟨rfl, rfl⟩) | (go_at_call 36; refine (within_any _ _ _).mono ?_; rintro e w' ⟨rfl, rfl⟩))
      go_ret
      exact ⟨ret_bool (by first | exact E.out.symm | (rw [E.out]; simp; omega)), bnew _ _⟩
  have h0 : btwB cw 1 1000000000 = true := by simpa using g0
  clear g0
  obtain ⟨i0, j0⟩ := btw_in h0
  by_cases g1 : btwB ctl 0 1000000 = false
  · have h1 : ¬ btwB ctl 0 1000000 = true := by simpa using g1
    have E : Hid (cfgB ⟨cw, ctl, cml, csh, cha, csg⟩ = false) := by show _ = _; simp [cfgB, h0, g1]
    clear h1
    go_enter Tryz.func60, Tryz.ntmps60
    go_wp2_with (first | (go_at_call 72; refine (isLimit_any _ _).mono ?_; rintro e w' ⟨rfl, rfl⟩) | (go_at_call 36; refine (within_any _ _ _).mono ?_; rintro e w' ⟨rfl, rfl⟩))
    go_ret
    exact ⟨ret_bool (by first | exact E.out.symm | (rw [E.out]; simp; omega)), bnew _ _⟩
  have h1 : btwB ctl 0 1000000 = true := by simpa using g1
  clear g1
  by_cases g2 : btwB cml 0 1000000 = false
  · have h2 : ¬ btwB cml 0 1000000 = true := by simpa using g2
    have E : Hid (cfgB ⟨cw, ctl, cml, csh, cha, csg⟩ = false) := by show _ = _; simp [cfgB, h0, h1, g2]
    clear h2
    go_enter Tryz.func60, Tryz.ntmps60
    go_wp2_with (first | (go_at_call 72; refine (isLimit_any _ _).mono ?_; rintro e w' ⟨rfl, rfl⟩) | (go_at_call 36; refine (within_any _ _ _).mono ?_; rintro e w' ⟨rfl, rfl⟩))
    go_ret
    exact ⟨ret_bool (by first | exact E.out.symm | (rw [E.out]; simp; omega)), bnew _ _⟩
  have h2 : btwB cml 0 1000000 = true := by simpa using g2
  clear g2
  by_cases g3 : btwB csh 1 64 = false
  · have h3 : ¬ btwB csh 1 64 = true := by simpa using g3
    have E : Hid (cfgB ⟨cw, ctl, cml, csh, cha, csg⟩ = false) := by show _ = _; simp [cfgB, h0, h1, h2, g3]
    have ho := btw_out h3
    clear h3 g3
    by_cases hx : 1 ≤ csh
    · have hy : ¬ csh ≤ 64 := by omega
      clear ho
      go_enter Tryz.func60, Tryz.ntmps60
      go_wp2_with (first | (go_at_call 72; refine (isLimit_any _ _).mono ?_; rintro e w' ⟨rfl, rfl⟩) | (go_at_call 36; refine (within_any _ _ _).mono ?_; rintro e w' ⟨rfl, rfl⟩))
      go_ret
      exact ⟨ret_bool (by first | exact E.out.symm | (rw [E.out]; simp; omega)), bnew _ _⟩
    · clear ho
      go_enter Tryz.func60, Tryz.ntmps60
      go_wp2_with (first | (go_at_call 72; refine (isLimit_any _ _).mono ?_; rintro e w' ⟨rfl, rfl⟩) | (go_at_call 36; refine (within_any _ _ _).mono ?_; rintro e w' ⟨rfl, rfl⟩))
      go_ret
      exact ⟨ret_bool (by first | exact E.out.symm | (rw [E.out]; simp; omega)), bnew _ _⟩
  have h3 : btwB csh 1 64 = true := by simpa using g3
  clear g3
  obtain ⟨i3, j3⟩ := btw_in h3
  by_cases g4 : btwB cha 0 2 = false
  · have h4 : ¬ btwB cha 0 2 = true := by simpa using g4
    have E : Hid (cfgB ⟨cw, ctl, cml, csh, cha, csg⟩ = false) := by show _ = _; simp [cfgB, h0, h1, h2, h3, g4]
    clear h4
    go_enter Tryz.func60, Tryz.ntmps60
    go_wp2_with (first | (go_at_call 72; refine (isLimit_any _ _).mono ?_; rintro e w' ⟨rfl, rfl⟩) | (go_at_call 36; refine (within_any _ _ _).mono ?_; rintro e w' ⟨rfl, rfl⟩))
    go_ret
    exact ⟨ret_bool (by first | exact E.out.symm | (rw [E.out]; simp; omega)), bnew _ _⟩
  have h4 : btwB cha 0 2 = true := by simpa using g4
  clear g4
  by_cases g5 : btwB csg 100 1000000 = false
  · have h5 : ¬ btwB csg 100 1000000 = true := by simpa using g5
    have E : Hid (cfgB ⟨cw, ctl, cml, csh, cha, csg⟩ = false) := by show _ = _; simp [cfgB, h0, h1, h2, h3, h4, g5]
    have ho := btw_out h5
    clear h5 g5
    by_cases hx : 100 ≤ csg
    · have hy : ¬ csg ≤ 1000000 := by omega
      clear ho
      go_enter Tryz.func60, Tryz.ntmps60
      go_wp2_with (first | (go_at_call 72; refine (isLimit_any _ _).mono ?_; rintro e w' ⟨rfl, rfl⟩) | (go_at_call 36; refine (within_any _ _ _).mono ?_; rintro e w' ⟨rfl, rfl⟩))
      go_ret
      exact ⟨ret_bool (by first | exact E.out.symm | (rw [E.out]; simp; omega)), bnew _ _⟩
    · clear ho
      go_enter Tryz.func60, Tryz.ntmps60
      go_wp2_with (first | (go_at_call 72; refine (isLimit_any _ _).mono ?_; rintro e w' ⟨rfl, rfl⟩) | (go_at_call 36; refine (within_any _ _ _).mono ?_; rintro e w' ⟨rfl, rfl⟩))
      go_ret
      exact ⟨ret_bool (by first | exact E.out.symm | (rw [E.out]; simp; omega)), bnew _ _⟩
  have h5 : btwB csg 100 1000000 = true := by simpa using g5
  clear g5
  obtain ⟨i5, j5⟩ := btw_in h5
  have E : Hid (cfgB ⟨cw, ctl, cml, csh, cha, csg⟩ = true) := by show _ = _; simp [cfgB, h0, h1, h2, h3, h4, h5]
  go_enter Tryz.func60, Tryz.ntmps60
  go_wp2_with (first | (go_at_call 72; refine (isLimit_any _ _).mono ?_; rintro e w' ⟨rfl, rfl⟩) | (go_at_call 36; refine (within_any _ _ _).mono ?_; rintro e w' ⟨rfl, rfl⟩))
  go_ret
  exact ⟨ret_bool (by first | exact E.out.symm | (rw [E.out]; simp; omega)), bnew _ _⟩
end Go.Proofs.YtoecnlhnfhongaaGreatDoor

namespace Go.Proofs.YtoecnlhnfhongaaGreatDoor

def allTo (f : Nat → Bool) : Nat → Bool
  | 0 => true
  | k + 1 => allTo f k && f k
theorem allTo_succ (f : Nat → Bool) (k : Nat) : allTo f (k + 1) = (allTo f k && f k) := rfl
theorem allTo_not {f : Nat → Bool} {k n : Nat} (h : f k = false) (hk : k < n) : allTo f n = false := by
  induction n with
  | zero => omega
  | succ n ih =>
    rw [allTo_succ]
    by_cases e : k = n
    · subst e; rw [h, Bool.and_false]
    · rw [ih (by omega), Bool.false_and]
theorem allTo_at {f : Nat → Bool} {k n : Nat} (h : allTo f n = true) (hk : k < n) : f k = true := by
  cases hf : f k with
  | true => rfl
  | false => rw [allTo_not hf hk] at h; cases h

def okT (c : UInt8) : Bool := (97 ≤ c && c ≤ 122) || (48 ≤ c && c ≤ 57) || c == 45
def tnameB (s : ByteArray) : Bool := decide (1 ≤ s.size) && decide (s.size ≤ 32) && s.data.toList.all okT
def mnameB (s : ByteArray) : Bool := !s.toList.isEmpty && decide (valV s = 0)
def metK (s : ByteArray) : ByteArray := metV (decV s).1
def keyOK (s : ByteArray) : Bool := !(metK s).toList.isEmpty
def idleB (t : TenD) : Bool := t.limit == -1 && t.mets.length == 0 && t.sers.length == 0

/-- The one before it, if there is one, has a smaller key. -/
def prevB (ps : List PairD) (i : Nat) : Bool := match i with
  | 0 => true
  | j + 1 => match ps[j]?, ps[j + 1]? with
    | some p, some q => blt p.s q.s
    | _, _ => false
def metAt (ms : List PairD) (i : Nat) : Bool := match ms[i]? with
  | some m => prevB ms i && mnameB m.s && btwB m.n 0 1000000
  | none => false
def metsB (ms : List PairD) : Bool := allTo (metAt ms) ms.length
def serAt (win now : Int) (xs : List PairD) (i : Nat) : Bool := match xs[i]? with
  | some x => prevB xs i && keyOK x.s && btwB x.n 0 now && decide (now - x.n < win)
  | none => false
def sersB (win now : Int) (xs : List PairD) : Bool := allTo (serAt win now xs) xs.length
def prevT (ts : List TenD) (i : Nat) : Bool := match i with
  | 0 => true
  | j + 1 => match ts[j]?, ts[j + 1]? with
    | some p, some q => blt p.name q.name
    | _, _ => false
def tenB (win now : Int) (t : TenD) : Bool := tnameB t.name && btwB t.limit (-1) 1000000 && metsB t.mets && sersB win now t.sers && !idleB t
def tenAt (win now : Int) (ts : List TenD) (i : Nat) : Bool := match ts[i]? with
  | some t => prevT ts i && tenB win now t
  | none => false
def tensB (win now : Int) (ts : List TenD) : Bool := allTo (tenAt win now ts) ts.length
def stateB (c : CfgD) (now : Int) (ts : List TenD) : Bool := cfgB c && btwB now 0 1000000000000 && decide (ts.length ≤ 10000) && tensB c.w now ts

theorem prevB_at {ps : List PairD} {k : Nat} (hk : 0 < k) (hl : k < ps.length) : prevB ps k = blt (ps[k - 1]'(by omega)).s ps[k].s := by
  obtain ⟨j, rfl⟩ : ∃ j, k = j + 1 := ⟨k - 1, by omega⟩
  simp [prevB, List.getElem?_eq_getElem (show j < ps.length by omega), List.getElem?_eq_getElem hl]
theorem prevT_at {ps : List TenD} {k : Nat} (hk : 0 < k) (hl : k < ps.length) : prevT ps k = blt (ps[k - 1]'(by omega)).name ps[k].name := by
  obtain ⟨j, rfl⟩ : ∃ j, k = j + 1 := ⟨k - 1, by omega⟩
  simp [prevT, List.getElem?_eq_getElem (show j < ps.length by omega), List.getElem?_eq_getElem hl]
theorem metAt_eq {ms : List PairD} {k : Nat} (hl : k < ms.length) : metAt ms k = (prevB ms k && mnameB ms[k].s && btwB ms[k].n 0 1000000) := by simp [metAt, List.getElem?_eq_getElem hl]
theorem serAt_eq {win now : Int} {ms : List PairD} {k : Nat} (hl : k < ms.length) : serAt win now ms k = (prevB ms k && keyOK ms[k].s && btwB ms[k].n 0 now && decide (now - ms[k].n < win)) := by simp [serAt, List.getElem?_eq_getElem hl]
theorem tenAt_eq {win now : Int} {ts : List TenD} {k : Nat} (hl : k < ts.length) : tenAt win now ts k = (prevT ts k && tenB win now ts[k]) := by simp [tenAt, List.getElem?_eq_getElem hl]

/-- What rises step by step rises. -/
theorem rise_steps {α : Type} {key : α → ByteArray} : ∀ (l : List α), (∀ k (h : k + 1 < l.length), blt (key (l[k]'(by omega))) (key l[k + 1]) = true) → RiseBy key l
  | [], _ => List.Pairwise.nil
  | [a], _ => List.pairwise_singleton ..
  | a :: b :: r, h => by
    have hr : RiseBy key (b :: r) := rise_steps (b :: r) fun k hk => h (k + 1) (by simp at hk ⊢; omega)
    have h0 : blt (key a) (key b) = true := h 0 (by simp)
    refine List.pairwise_cons.2 ⟨fun q hq => ?_, hr⟩
    rcases List.mem_cons.1 hq with rfl | hq
    · exact h0
    · exact blt_trans h0 (hr.head q hq)
theorem rise_take {α : Type} {key : α → ByteArray} {l : List α} (k : Nat) (h : RiseBy key l) : RiseBy key (l.take k) := List.Pairwise.sublist (List.take_sublist ..) h
theorem mets_rise {ms : List PairD} {n : Nat} (h : allTo (metAt ms) n = true) (hn : n ≤ ms.length) : RiseBy (·.s) (ms.take n) := by
  apply rise_steps
  intro k hk
  simp only [List.length_take] at hk
  have := allTo_at h (k := k + 1) (by omega)
  rw [metAt_eq (by omega), Bool.and_eq_true, Bool.and_eq_true] at this
  have h1 := this.1.1
  rw [prevB_at (by omega) (by omega)] at h1
  simpa using h1
theorem sers_rise {win now : Int} {ms : List PairD} {n : Nat} (h : allTo (serAt win now ms) n = true) (hn : n ≤ ms.length) : RiseBy (·.s) (ms.take n) := by
  apply rise_steps
  intro k hk
  simp only [List.length_take] at hk
  have := allTo_at h (k := k + 1) (by omega)
  rw [serAt_eq (by omega), Bool.and_eq_true, Bool.and_eq_true, Bool.and_eq_true] at this
  have h1 := this.1.1.1
  rw [prevB_at (by omega) (by omega)] at h1
  simpa using h1
theorem tens_rise {win now : Int} {ts : List TenD} {n : Nat} (h : allTo (tenAt win now ts) n = true) (hn : n ≤ ts.length) : RiseBy (·.name) (ts.take n) := by
  apply rise_steps
  intro k hk
  simp only [List.length_take] at hk
  have := allTo_at h (k := k + 1) (by omega)
  rw [tenAt_eq (by omega), Bool.and_eq_true] at this
  have h1 := this.1
  rw [prevT_at (by omega) (by omega)] at h1
  simpa using h1
/-- One more, whose key is behind all. -/
theorem ins_take {α : Type} {key : α → ByteArray} {l : List α} {k : Nat} (hk : k < l.length) (h : RiseBy key (l.take (k + 1))) : insBy key l[k] (l.take k) = l.take (k + 1) ∧ getBy key (key l[k]) (l.take k) = none := by
  rw [List.take_succ_eq_append_getElem hk] at h ⊢
  have hb : ∀ p ∈ l.take k, blt (key p) (key l[k]) = true := fun p hp => (List.pairwise_append.1 h).2.2 p hp _ (List.mem_singleton.2 rfl)
  exact ⟨insBy_end hb, getBy_none_of fun p hp => blt_ne (hb p hp)⟩
end Go.Proofs.YtoecnlhnfhongaaGreatDoor

namespace Go.Proofs.YtoecnlhnfhongaaGreatDoor
open Go.RowKit

theorem take_eat {n : Nat} {r : Rd} (h : (takeR n r).2.short = false) : (takeR n r).1.size = n := by
  unfold takeR at *
  split at h
  · simp at h
  · rename_i hn
    rw [if_neg hn]
    simp
    omega
theorem text_eat {k : Nat} {r : Rd} (h : (textR k r).2.short = false) : (textR k r).2.rest.size + k + (textR k r).1.size = r.rest.size := by
  rw [textR] at *
  have h1 : (numR k r).2.short = false := by
    cases hs : (numR k r).2.short with
    | false => rfl
    | true => rw [take_short hs] at h; exact h
  have h2 := num_room h1
  have h3 := take_room h
  have h4 := take_eat h
  omega
theorem pr_eat {r : Rd} (h : (prR r).2.short = false) : (prR r).2.rest.size + (encP (prR r).1).size = r.rest.size := by
  rw [encP_size]
  rw [prR_fst]
  rw [prR_snd] at *
  have h1 : (textR 2 r).2.short = false := by
    cases hs : (textR 2 r).2.short with
    | false => rfl
    | true => rw [num_short (k := 8) hs] at h; exact h
  have h2 := num_room h
  have h3 := text_eat h1
  show _ + (10 + (textR 2 r).1.size) = _
  omega
theorem rdPs_zero (r : Rd) : rdPs r 0 = ([], r) := by rw [rdPs]
theorem rdPs_eat {r : Rd} (k : Nat) : (rdPs r k).2.short = false → (rdPs r k).2.rest.size + (encPs (rdPs r k).1).size = r.rest.size := by
  induction k with
  | zero => intro _; rw [rdPs_zero]; simp [encPs]
  | succ k ih =>
    intro h
    have hk : (rdPs r k).2.short = false := by
      cases hs : (rdPs r k).2.short with
      | false => rfl
      | true => rw [rdps_short hs (k + 1) (by omega)] at h; exact h
    have h1 := ih hk
    rw [rdPs_succ] at h ⊢
    have h2 : (prR (rdPs r k).2).2.short = false → _ := pr_eat (r := (rdPs r k).2)
    generalize prR (rdPs r k).2 = A at *
    have h3 := h2 h
    have e : encPs ((rdPs r k).1 ++ [A.1]) = encPs (rdPs r k).1 ++ encP A.1 := by rw [encPs_append]; simp [encPs]
    show A.2.rest.size + (encPs ((rdPs r k).1 ++ [A.1])).size = _
    rw [e, ByteArray.size_append]
    omega
theorem encT_sz (t : TenD) : (encT t).size = 17 + t.name.size + (encPs t.mets).size + (encPs t.sers).size := by rw [encT_size, encPs_size, encPs_size]; omega
theorem ten_eat {r : Rd} (h : (tenR r).2.short = false) : (tenR r).2.rest.size + (encT (tenR r).1).size = r.rest.size := by
  rw [encT_sz, tenR_fst]
  rw [tenR_snd] at *
  have g6 : (tsN r).2.short = false := by
    cases hs : (tsN r).2.short with
    | false => rfl
    | true => rw [ts_short hs] at h; exact h
  have g5 : (tmR r).2.short = false := by
    cases hs : (tmR r).2.short with
    | false => rfl
    | true => rw [sn_short hs] at g6; exact g6
  have g4 : (tmN r).2.short = false := by
    cases hs : (tmN r).2.short with
    | false => rfl
    | true => rw [tm_short hs] at g5; exact g5
  have g3 : (tlR r).2.short = false := by
    cases hs : (tlR r).2.short with
    | false => rfl
    | true => rw [mn_short hs] at g4; exact g4
  have g2 : (tnR r).2.short = false := by
    cases hs : (tnR r).2.short with
    | false => rfl
    | true => rw [tl_short hs] at g3; exact g3
  have h1 : (tnR r).2.rest.size + 1 + (tnR r).1.size = r.rest.size := by rw [tnR] at g2 ⊢; exact text_eat (k := 1) g2
  have h2 : (tlR r).2.rest.size + 8 = (tnR r).2.rest.size := by rw [tlR] at g3 ⊢; exact num_room (k := 8) g3
  have h3 : (tmN r).2.rest.size + 4 = (tlR r).2.rest.size := by rw [tmN] at g4 ⊢; exact num_room (k := 4) g4
  have h4 : (tmR r).2.rest.size + (encPs (tmR r).1).size = (tmN r).2.rest.size := by rw [tmR] at g5 ⊢; exact rdPs_eat _ g5
  have h5 : (tsN r).2.rest.size + 4 = (tmR r).2.rest.size := by rw [tsN] at g6 ⊢; exact num_room (k := 4) g6
  have h6 : (tsR r).2.rest.size + (encPs (tsR r).1).size = (tsN r).2.rest.size := by rw [tsR] at h ⊢; exact rdPs_eat _ h
  generalize tsR r = A at *
  generalize tmR r = C at *
  generalize tnR r = D at *
  show _ + (17 + D.1.size + (encPs C.1).size + (encPs A.1).size) = _
  omega
theorem rdTs_eat {r : Rd} (k : Nat) : (rdTs r k).2.short = false → (rdTs r k).2.rest.size + (encTs (rdTs r k).1).size = r.rest.size := by
  induction k with
  | zero => intro _; rw [rdTs_zero]; simp [encTs]
  | succ k ih =>
    intro h
    have hk : (rdTs r k).2.short = false := by
      cases hs : (rdTs r k).2.short with
      | false => rfl
      | true => rw [rdts_short hs (k + 1) (by omega)] at h; exact h
    have h1 := ih hk
    rw [rdTs_succ] at h ⊢
    have h2 : (tenR (rdTs r k).2).2.short = false → _ := ten_eat (r := (rdTs r k).2)
    generalize tenR (rdTs r k).2 = A at *
    have h3 := h2 h
    have e : encTs ((rdTs r k).1 ++ [A.1]) = encTs (rdTs r k).1 ++ encT A.1 := by rw [encTs_append]; simp [encTs]
    show A.2.rest.size + (encTs ((rdTs r k).1 ++ [A.1])).size = _
    rw [e, ByteArray.size_append]
    omega
/-- What was read weighs no more than its text. -/
theorem sta_eat {s : ByteArray} (h : (staR s).2.short = false) : (encTs (staR s).1).size ≤ s.size := by
  have h1 : (ckR s).2.rest.size ≤ s.size := by rw [ckR]; exact (take_le 4 ⟨s, false⟩).2.2
  have h2 : (slR s).2.rest.size ≤ (ckR s).2.rest.size := by rw [slR]; exact num_le 8 _
  have h3 : (snR s).2.rest.size ≤ (slR s).2.rest.size := by rw [snR]; exact num_le 8 _
  have h4 : (scR s).2.rest.size ≤ (snR s).2.rest.size := by rw [scR]; exact num_le 4 _
  have h5 : (staR s).2.rest.size + (encTs (staR s).1).size = (scR s).2.rest.size := by rw [staR] at h ⊢; exact rdTs_eat _ h
  omega
theorem encT_in (ts : List TenD) (k : Nat) (h : k < ts.length) : (encT ts[k]).size ≤ (encTs ts).size := by
  have e := encTs_take ts k h
  have e2 := encTs_append (ts.take (k + 1)) (ts.drop (k + 1))
  rw [List.take_append_drop, e] at e2
  rw [e2, ByteArray.size_append, ByteArray.size_append]
  omega
theorem pair_in (ps : List PairD) (j : Nat) (h : j < ps.length) : ps[j].s.size ≤ (encPs ps).size := by
  have e := encPs_take ps j h
  have e2 := encPs_append (ps.take (j + 1)) (ps.drop (j + 1))
  have e3 := encP_size ps[j]
  rw [List.take_append_drop, e] at e2
  rw [e2, ByteArray.size_append, ByteArray.size_append]
  omega
/-- Every part of a state weighs no more than the whole. -/
theorem parts_in (ts : List TenD) (i : Nat) (h : i < ts.length) : ts[i].name.size ≤ (encTs ts).size ∧ ts[i].mets.length * 10 ≤ (encTs ts).size ∧ ts[i].sers.length * 10 ≤ (encTs ts).size ∧ (∀ j (h' : j < ts[i].mets.length), ts[i].mets[j].s.size ≤ (encTs ts).size) ∧ (∀ j (h' : j < ts[i].sers.length), ts[i].sers[j].s.size ≤ (encTs ts).size) := by
  have h1 := encT_in ts i h
  have h2 := encT_sz ts[i]
  have h3 := encPs_size ts[i].mets
  have h4 := encPs_size ts[i].sers
  refine ⟨by omega, by omega, by omega, fun j h' => ?_, fun j h' => ?_⟩
  · have := pair_in ts[i].mets j h'; omega
  · have := pair_in ts[i].sers j h'; omega
theorem count_in : ∀ (ts : List TenD), 17 * ts.length ≤ (encTs ts).size
  | [] => by simp
  | t :: q => by
    have h := count_in q
    have e := encT_size t
    show 17 * (q.length + 1) ≤ (encT t ++ encTs q).size
    rw [ByteArray.size_append]
    omega

/-- The state that a text is. -/
def decS (c : CfgD) (s : ByteArray) : Int × Int × List TenD × Bool :=
  if (staR s).2.short = false ∧ staB (wrapN (slR s).1) (wrapN (snR s).1) (staR s).1 = s ∧ stateB c (wrapN (snR s).1) (staR s).1 = true then (wrapN (slR s).1, wrapN (snR s).1, (staR s).1, true) else (0, 0, [], false)
theorem decS_short {c : CfgD} {s : ByteArray} (h : (staR s).2.short = true) : decS c s = (0, 0, [], false) := by unfold decS; rw [if_neg]; rw [h]; simp
theorem decS_ne {c : CfgD} {s : ByteArray} (h : staB (wrapN (slR s).1) (wrapN (snR s).1) (staR s).1 ≠ s) : decS c s = (0, 0, [], false) := by unfold decS; rw [if_neg]; exact fun hh => h hh.2.1
theorem decS_no {c : CfgD} {s : ByteArray} (h : stateB c (wrapN (snR s).1) (staR s).1 = false) : decS c s = (0, 0, [], false) := by unfold decS; rw [if_neg]; rw [h]; simp
theorem decS_eq {c : CfgD} {s : ByteArray} (h1 : (staR s).2.short = false) (h2 : staB (wrapN (slR s).1) (wrapN (snR s).1) (staR s).1 = s) (h3 : stateB c (wrapN (snR s).1) (staR s).1 = true) : decS c s = (wrapN (slR s).1, wrapN (snR s).1, (staR s).1, true) := by unfold decS; rw [if_pos ⟨h1, h2, h3⟩]
/-- The state that a text is, whoever names it: what is read. -/
theorem decS_of {c : CfgD} {s : ByteArray} {lsn now : Int} {ts : List TenD} (hs0 : s.size ≠ 0) (hs : s.size ≤ 1000000000) (hw : I64p now) (hn : RngT ts) (h : staB lsn now ts = s) (hc : stateB c now ts = true) : decS c s = (lsn, now, ts, true) := by
  have hb : staOK lsn ts := by
    by_cases hb : staOK lsn ts
    · exact hb
    · rw [staB_no hb] at h; rw [← h] at hs0; exact absurd rfl hs0
  have hz : (encTs ts).size ≤ s.size := by
    rw [← h, staB_ok hb, ByteArray.size_append, staX, ByteArray.size_append]; omega
  have hl := count_in ts
  obtain ⟨a1, a2, _, a4, a5⟩ := sta_full hb hw hn (by omega) (fun i hi => by have := parts_in ts i hi; omega)
  rw [h] at a1 a2 a4 a5
  have := decS_eq (c := c) a5 (by rw [a1, a2, a4]; exact h) (by rw [a2, a4]; exact hc)
  rw [this, a1, a2, a4]
end Go.Proofs.YtoecnlhnfhongaaGreatDoor

namespace Go.Proofs.YtoecnlhnfhongaaGreatDoor

structure SgD where
  b : Nat
  t : Int
def hget (l : List SgD) (i : Nat) : SgD := l.getD i ⟨0, 0⟩
def swapL (l : List SgD) (i j : Nat) : List SgD := (l.set i (hget l j)).set j (hget l i)
theorem hget_eq {l : List SgD} {i : Nat} (h : i < l.length) : hget l i = l[i] := by simp [hget, List.getD, List.getElem?_eq_getElem h]
theorem swapL_length (l : List SgD) (i j : Nat) : (swapL l i j).length = l.length := by simp [swapL]
theorem hget_swap {l : List SgD} {i j : Nat} (hi : i < l.length) (hj : j < l.length) (k : Nat) : hget (swapL l i j) k = if k = j then hget l i else if k = i then hget l j else hget l k := by
  unfold swapL
  have e : ∀ (m : List SgD) (p : Nat) (x : SgD) (k : Nat), p < m.length → hget (m.set p x) k = if k = p then x else hget m k := fun m p x k hp => by
    by_cases h : k = p
    · subst h; simp [hget, List.getD, hp]
    · rw [if_neg h]; simp [hget, List.getD, Ne.symm h]
  rw [e _ _ _ _ (by simpa using hj), e _ _ _ _ hi]
theorem swapL_perm {l : List SgD} {i j : Nat} (hi : i < l.length) (hj : j < l.length) : (swapL l i j).Perm l := by
  unfold swapL
  rw [hget_eq hi, hget_eq hj]
  exact List.set_set_perm hi hj

/-- Each at least as late as the one above it. -/
def HeapOK (l : List SgD) : Prop := ∀ i, 0 < i → i < l.length → (hget l ((i - 1) / 2)).t ≤ (hget l i).t
/-- .. but perhaps the one at k, which is no later than what lies above it would ask of those below. -/
def HeapUp (l : List SgD) (k : Nat) : Prop := (∀ i, 0 < i → i < l.length → i ≠ k → (hget l ((i - 1) / 2)).t ≤ (hget l i).t) ∧ ∀ i, 0 < i → i < l.length → (i - 1) / 2 = k → 0 < k → (hget l ((k - 1) / 2)).t ≤ (hget l i).t
theorem HeapOK.push {l : List SgD} (h : HeapOK l) (x : SgD) : HeapUp (l ++ [x]) l.length := by
  have e : ∀ i, i < l.length → hget (l ++ [x]) i = hget l i := fun i hi => by simp [hget, List.getD, List.getElem?_append_left hi]
  refine ⟨fun i h0 hi hne => ?_, fun i h0 hi hp _ => ?_⟩
  · simp at hi
    rw [e i (by omega), e _ (by omega)]
    exact h i h0 (by omega)
  · simp at hi
    omega
theorem HeapUp.done {l : List SgD} {k : Nat} (h : HeapUp l k) (hk : k = 0 ∨ (hget l ((k - 1) / 2)).t ≤ (hget l k).t) : HeapOK l := by
  intro i h0 hi
  by_cases e : i = k
  · subst e
    rcases hk with hk | hk
    · omega
    · exact hk
  · exact h.1 i h0 hi e
theorem HeapUp.step {l : List SgD} {k : Nat} (h : HeapUp l k) (hk : k < l.length) (h0 : 0 < k) (hlt : (hget l k).t < (hget l ((k - 1) / 2)).t) : HeapUp (swapL l k ((k - 1) / 2)) ((k - 1) / 2) := by
  have hp : (k - 1) / 2 < l.length := by omega
  have hpk : (k - 1) / 2 ≠ k := by omega
  refine ⟨fun i hi0 hi hne => ?_, fun i hi0 hi hpi hp0 => ?_⟩
  · rw [swapL_length] at hi
    rw [hget_swap hk hp, hget_swap hk hp, if_neg hne]
    by_cases e1 : i = k
    · subst e1
      rw [if_pos rfl, if_pos rfl]; omega
    · rw [if_neg e1]
      by_cases e2 : (i - 1) / 2 = (k - 1) / 2
      · rw [if_pos e2]
        have := h.1 i hi0 hi e1
        rw [e2] at this; omega
      · rw [if_neg e2]
        by_cases e3 : (i - 1) / 2 = k
        · rw [if_pos e3]; exact h.2 i hi0 hi e3 h0
        · rw [if_neg e3]; exact h.1 i hi0 hi e1
  · rw [swapL_length] at hi
    rw [hget_swap hk hp, hget_swap hk hp, if_neg (by omega : ((k - 1) / 2 - 1) / 2 ≠ (k - 1) / 2), if_neg (by omega : ((k - 1) / 2 - 1) / 2 ≠ k), if_neg (by omega : i ≠ (k - 1) / 2)]
    have hg := h.1 ((k - 1) / 2) hp0 hp hpk
    by_cases e1 : i = k
    · rw [if_pos e1]; exact hg
    · rw [if_neg e1]
      have := h.1 i hi0 hi e1
      rw [hpi] at this; omega

/-- What sifting up from k makes of a list. -/
def siftUp (l : List SgD) : Nat → List SgD
  | 0 => l
  | k + 1 => if (hget l (k + 1)).t < (hget l (k / 2)).t then siftUp (swapL l (k + 1) (k / 2)) (k / 2) else l
theorem siftUp_step {l : List SgD} {k : Nat} (h0 : 0 < k) : siftUp l k = if (hget l k).t < (hget l ((k - 1) / 2)).t then siftUp (swapL l k ((k - 1) / 2)) ((k - 1) / 2) else l := by
  obtain ⟨j, rfl⟩ : ∃ j, k = j + 1 := ⟨k - 1, by omega⟩
  rw [siftUp, Nat.add_sub_cancel]
theorem siftUp_zero (l : List SgD) : siftUp l 0 = l := by rw [siftUp]
theorem siftUp_says : ∀ (k : Nat) (l : List SgD), k < l.length → HeapUp l k → HeapOK (siftUp l k) ∧ (siftUp l k).Perm l ∧ (siftUp l k).length = l.length
  | 0, l, _, h => by rw [siftUp_zero]; exact ⟨h.done (Or.inl rfl), List.Perm.refl _, rfl⟩
  | k + 1, l, hk, h => by
    rw [siftUp_step (by omega)]
    by_cases hlt : (hget l (k + 1)).t < (hget l ((k + 1 - 1) / 2)).t
    · rw [if_pos hlt]
      obtain ⟨a, b, c⟩ := siftUp_says ((k + 1 - 1) / 2) (swapL l (k + 1) ((k + 1 - 1) / 2)) (by rw [swapL_length]; omega) (h.step hk (by omega) hlt)
      exact ⟨a, b.trans (swapL_perm hk (by omega)), c.trans (swapL_length _ _ _)⟩
    · rw [if_neg hlt]
      exact ⟨h.done (Or.inr (by omega)), List.Perm.refl _, rfl⟩
def pushL (l : List SgD) (x : SgD) : List SgD := siftUp (l ++ [x]) l.length
theorem pushL_says {l : List SgD} (h : HeapOK l) (x : SgD) : HeapOK (pushL l x) ∧ (pushL l x).Perm (x :: l) ∧ (pushL l x).length = l.length + 1 := by
  obtain ⟨a, b, c⟩ := siftUp_says l.length (l ++ [x]) (by simp) (h.push x)
  exact ⟨a, b.trans (List.perm_append_singleton x l), by rw [pushL, c]; simp⟩
end Go.Proofs.YtoecnlhnfhongaaGreatDoor

namespace Go.Proofs.YtoecnlhnfhongaaGreatDoor
open Go.RowKit

/-- The cells of the sights hs, two each. -/
def SgAt (cur : Array Value) (hs : List SgD) : Prop := ∀ k, k < hs.length → cur[k * 2]? = some (.pointer (some ⟨(hget hs k).b, 0, none⟩)) ∧ cur[k * 2 + 1]? = some (.int .i64 (hget hs k).t)
/-- Block g is a row of cap sights, the first of them hs. -/
def HeapM (w : World) (g cap : Nat) (hs : List SgD) : Prop := ∃ cur, Blk w g cur 140 ∧ cur.size = cap * 2 ∧ hs.length ≤ cap ∧ cap ≤ maxLen ∧ SgAt cur hs
theorem HeapM.cells {w : World} {g cap k : Nat} {hs : List SgD} (h : HeapM w g cap hs) (hk : k < hs.length) :
    w.cell? ⟨g, k * 2, none⟩ = some (.pointer (some ⟨(hget hs k).b, 0, none⟩)) ∧ w.cell? ⟨g, k * 2 + 1, none⟩ = some (.int .i64 (hget hs k).t) ∧ w.frozen? ⟨g, k * 2, none⟩ = false ∧ w.frozen? ⟨g, k * 2 + 1, none⟩ = false := by
  obtain ⟨cur, hb, _, _, _, hc⟩ := h
  rw [hb.cell, hb.cell]
  exact ⟨(hc k hk).1, (hc k hk).2, hb.free _, hb.free _⟩
theorem HeapM.later {w w' : World} {g cap : Nat} {hs : List SgD} (h : HeapM w g cap hs) (hb : Below w.heap.size w w') : HeapM w' g cap hs := by
  obtain ⟨cur, h1, h2⟩ := h
  exact ⟨cur, h1.later hb, h2⟩
theorem HeapM.lt {w : World} {g cap : Nat} {hs : List SgD} (h : HeapM w g cap hs) : g < w.heap.size := by
  obtain ⟨cur, h1, h2⟩ := h
  exact lt_of_block h1
theorem But.drew {g : Nat} {a w : World} (h : But g a w) : But g a w.drew := ⟨h.os, h.tape, h.output, h.size, h.block⟩
/-- Two sights change places. -/
theorem HeapM.swap {w : World} {g cap i j : Nat} {hs : List SgD} (h : HeapM w g cap hs) (hi : i < hs.length) (hj : j < hs.length) :
    HeapM ((((w.setCell ⟨g, i * 2, none⟩ (.pointer (some ⟨(hget hs j).b, 0, none⟩))).setCell ⟨g, i * 2 + 1, none⟩ (.int .i64 (hget hs j).t)).setCell ⟨g, j * 2, none⟩ (.pointer (some ⟨(hget hs i).b, 0, none⟩))).setCell ⟨g, j * 2 + 1, none⟩ (.int .i64 (hget hs i).t)) g cap (swapL hs i j) := by
  obtain ⟨cur, h1, h2, h3, h4, h5⟩ := h
  refine ⟨_, (((h1.set _ _).set _ _).set _ _).set _ _, by simp [h2], by rw [swapL_length]; exact h3, h4, fun k hk => ?_⟩
  rw [swapL_length] at hk
  rw [hget_swap hi hj]
  by_cases e1 : k = j
  · subst e1
    rw [if_pos rfl]
    constructor <;> simp [Array.getElem?_setIfInBounds, h2] <;> omega
  · rw [if_neg e1]
    by_cases e2 : k = i
    · subst e2
      rw [if_pos rfl]
      constructor
      · rw [Array.getElem?_setIfInBounds_ne (by omega), Array.getElem?_setIfInBounds_ne (by omega), Array.getElem?_setIfInBounds_ne (by omega)]; simp [Array.getElem?_setIfInBounds, h2]; omega
      · rw [Array.getElem?_setIfInBounds_ne (by omega), Array.getElem?_setIfInBounds_ne (by omega)]; simp [Array.getElem?_setIfInBounds, h2]; omega
    · rw [if_neg e2]
      obtain ⟨c1, c2⟩ := h5 k hk
      constructor
      · rw [Array.getElem?_setIfInBounds_ne (by omega), Array.getElem?_setIfInBounds_ne (by omega), Array.getElem?_setIfInBounds_ne (by omega), Array.getElem?_setIfInBounds_ne (by omega)]; exact c1
      · rw [Array.getElem?_setIfInBounds_ne (by omega), Array.getElem?_setIfInBounds_ne (by omega), Array.getElem?_setIfInBounds_ne (by omega), Array.getElem?_setIfInBounds_ne (by omega)]; exact c2

set_option maxRecDepth 100000 in
set_option maxHeartbeats 4000000 in
theorem swap_any (x o g n cap i j : Nat) (hs : List SgD) (w : World) (hp : w.cell? ⟨x, o, none⟩ = some (.slice (some ⟨g, 0, none⟩) n cap)) (hn : n = hs.length) (hH : HeapM w g cap hs) (hi : i < n) (hj : j < n) :
    Calls Tryz.prog 104 #[.pointer (some ⟨x, o, none⟩), .int .i64 i, .int .i64 j] w fun e w' => e = .returned (.tuple #[]) ∧ HeapM w' g cap (swapL hs i j) ∧ But g w w' := by
  have HSW : Hid (HeapM ((((w.setCell ⟨g, i * 2, none⟩ (.pointer (some ⟨(hget hs j).b, 0, none⟩))).setCell ⟨g, i * 2 + 1, none⟩ (.int .i64 (hget hs j).t)).setCell ⟨g, j * 2, none⟩ (.pointer (some ⟨(hget hs i).b, 0, none⟩))).setCell ⟨g, j * 2 + 1, none⟩ (.int .i64 (hget hs i).t)) g cap (swapL hs i j)) := hH.swap (by omega) (by omega)
  obtain ⟨c0, c1, f0, f1⟩ := hH.cells (k := i) (by omega)
  obtain ⟨d0, d1, u0, u1⟩ := hH.cells (k := j) (by omega)
  have HE : ∀ (a b : Value), (∃ v, ((w.setCell ⟨g, i * 2, none⟩ a).setCell ⟨g, i * 2 + 1, none⟩ b).cell? ⟨g, j * 2, none⟩ = some v) ∧ (∃ v, ((w.setCell ⟨g, i * 2, none⟩ a).setCell ⟨g, i * 2 + 1, none⟩ b).cell? ⟨g, j * 2 + 1, none⟩ = some v) ∧
      ((w.setCell ⟨g, i * 2, none⟩ a).setCell ⟨g, i * 2 + 1, none⟩ b).frozen? ⟨g, j * 2, none⟩ = false ∧ ((w.setCell ⟨g, i * 2, none⟩ a).setCell ⟨g, i * 2 + 1, none⟩ b).frozen? ⟨g, j * 2 + 1, none⟩ = false := fun a b => by
    obtain ⟨cur, h1, h2, h3, _⟩ := hH
    have hB := (h1.set (i * 2) a).set (i * 2 + 1) b
    exact ⟨hB.there (by simp; omega), hB.there (by simp; omega), hB.free _, hB.free _⟩
  obtain ⟨⟨v0, e0⟩, ⟨v1, e1⟩, e2, e3⟩ := HE (.pointer (some ⟨(hget hs j).b, 0, none⟩)) (.int .i64 (hget hs j).t)
  clear hn hH HE
  generalize hget hs i = A at *
  generalize hget hs j = C at *
  generalize swapL hs i j = R at *
  clear hs
  go_enter Tryz.func104, Tryz.ntmps104
  go_wp2_with fail
  go_region
  go_wp2
  go_end0
  exact ⟨rfl, HSW.out, (((((But.refl g w).setCell _ _).setCell _ _).setCell _ _).setCell _ _).drew⟩
end Go.Proofs.YtoecnlhnfhongaaGreatDoor

