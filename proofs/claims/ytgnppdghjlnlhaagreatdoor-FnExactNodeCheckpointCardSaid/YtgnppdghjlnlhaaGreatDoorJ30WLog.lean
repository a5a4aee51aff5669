import Derived.Test.YtgnppdghjlnlhaaGreatDoorProg
import Derived.Test.YtgnppdghjlnlhaaGreatDoorJ01Btw
import Derived.Test.YtgnppdghjlnlhaaGreatDoorJ29Win
import Derived.Test.YtgnppdghjlnlhaaGreatDoorJ21MarkT
import Derived.Test.YtgnppdghjlnlhaaGreatDoorJ13SWith2
import Derived.Test.YtgnppdghjlnlhaaGreatDoorJ07Code
import Derived.Test.YtgnppdghjlnlhaaGreatDoorJ03Ord
import Derived.Test.YtgnppdghjlnlhaaGreatDoorJ10Ren
namespace Go.Proofs.YtgnppdghjlnlhaaGreatDoor
open Go.RowKit
structure CfgD where
  w : Int
  tl : Int
  ml : Int
  sh : Int
  ha : Int
  sg : Int
def cfgV (c : CfgD) : Value := .agg #[.int .i64 c.w, .int .i64 c.tl, .int .i64 c.ml, .int .i64 c.sh, .int .i64 c.ha, .int .i64 c.sg]
def cfgB (c : CfgD) : Bool := btwB c.w 1 1000000000 && btwB c.tl 0 1000000 && btwB c.ml 0 1000000 && btwB c.sh 1 64 && btwB c.ha 0 2 && btwB c.sg 100 1000000
theorem btw_in {x lo hi : Int} (h : btwB x lo hi = true) : lo ≤ x ∧ x ≤ hi := by simpa [btwB] using h
theorem btw_out {x lo hi : Int} (h : ¬ btwB x lo hi = true) : x < lo ∨ hi < x := by
  by_cases h1 : lo ≤ x
  · by_cases h2 : x ≤ hi
    · exact absurd (by simp [btwB, h1, h2]) h
    · exact Or.inr (by omega)
  · exact Or.inl (by omega)
set_option maxHeartbeats 400000 in
theorem isLimit_any (x : Int) (w : World) : Calls Tryz.prog 56 #[.int .i64 x] w fun e w' => e = .returned (.bool (btwB x 0 1000000)) ∧ w' = w := by
  go_enter Tryz.func56, Tryz.ntmps56
  go_wp2_with (go_at_call 57; refine (within_any _ _ _).mono ?_; rintro e w' ⟨rfl, rfl⟩)
  go_ret
  exact ⟨rfl, rfl⟩
set_option maxRecDepth 100000 in
set_option maxHeartbeats 1000000 in
theorem specCfg_any (c : CfgD) (w : World) : Calls Tryz.prog 14 #[cfgV c] w fun e w' => e = .returned (.bool (cfgB c)) ∧ Below w.heap.size w w' := by
  obtain ⟨cw, ctl, cml, csh, cha, csg⟩ := c
  unfold cfgV
  simp only
  by_cases g0 : btwB cw 1 1000000000 = false
  · have h0 := g0
    have E : Hid (cfgB ⟨cw, ctl, cml, csh, cha, csg⟩ = false) := by show _ = _; simp [cfgB, g0]
    clear h0
    go_enter Tryz.func14, Tryz.ntmps14
    go_wp2_with (go_at_call 45; refine (between_any _ _ _ _).mono ?_; rintro e w' ⟨rfl, rfl⟩)
    go_ret
    exact ⟨ret_bool E.out.symm, bnew _ _⟩
  have h0 : btwB cw 1 1000000000 = true := by simpa using g0
  clear g0
  by_cases g1 : btwB ctl 0 1000000 = false
  · have h1 := g1
    have E : Hid (cfgB ⟨cw, ctl, cml, csh, cha, csg⟩ = false) := by show _ = _; simp [cfgB, h0, g1]
    clear h1
    go_enter Tryz.func14, Tryz.ntmps14
    go_wp2_with (go_at_call 45; refine (between_any _ _ _ _).mono ?_; rintro e w' ⟨rfl, rfl⟩)
    go_ret
    exact ⟨ret_bool E.out.symm, bnew _ _⟩
  have h1 : btwB ctl 0 1000000 = true := by simpa using g1
  clear g1
  by_cases g2 : btwB cml 0 1000000 = false
  · have h2 := g2
    have E : Hid (cfgB ⟨cw, ctl, cml, csh, cha, csg⟩ = false) := by show _ = _; simp [cfgB, h0, h1, g2]
    clear h2
    go_enter Tryz.func14, Tryz.ntmps14
    go_wp2_with (go_at_call 45; refine (between_any _ _ _ _).mono ?_; rintro e w' ⟨rfl, rfl⟩)
    go_ret
    exact ⟨ret_bool E.out.symm, bnew _ _⟩
  have h2 : btwB cml 0 1000000 = true := by simpa using g2
  clear g2
  by_cases g3 : btwB csh 1 64 = false
  · have h3 := g3
    have E : Hid (cfgB ⟨cw, ctl, cml, csh, cha, csg⟩ = false) := by show _ = _; simp [cfgB, h0, h1, h2, g3]
    clear h3
    go_enter Tryz.func14, Tryz.ntmps14
    go_wp2_with (go_at_call 45; refine (between_any _ _ _ _).mono ?_; rintro e w' ⟨rfl, rfl⟩)
    go_ret
    exact ⟨ret_bool E.out.symm, bnew _ _⟩
  have h3 : btwB csh 1 64 = true := by simpa using g3
  clear g3
  by_cases g4 : btwB cha 0 2 = false
  · have h4 := g4
    have E : Hid (cfgB ⟨cw, ctl, cml, csh, cha, csg⟩ = false) := by show _ = _; simp [cfgB, h0, h1, h2, h3, g4]
    clear h4
    go_enter Tryz.func14, Tryz.ntmps14
    go_wp2_with (go_at_call 45; refine (between_any _ _ _ _).mono ?_; rintro e w' ⟨rfl, rfl⟩)
    go_ret
    exact ⟨ret_bool E.out.symm, bnew _ _⟩
  have h4 : btwB cha 0 2 = true := by simpa using g4
  clear g4
  by_cases g5 : btwB csg 100 1000000 = false
  · have h5 := g5
    have E : Hid (cfgB ⟨cw, ctl, cml, csh, cha, csg⟩ = false) := by show _ = _; simp [cfgB, h0, h1, h2, h3, h4, g5]
    clear h5
    go_enter Tryz.func14, Tryz.ntmps14
    go_wp2_with (go_at_call 45; refine (between_any _ _ _ _).mono ?_; rintro e w' ⟨rfl, rfl⟩)
    go_ret
    exact ⟨ret_bool E.out.symm, bnew _ _⟩
  have h5 : btwB csg 100 1000000 = true := by simpa using g5
  clear g5
  have E : Hid (cfgB ⟨cw, ctl, cml, csh, cha, csg⟩ = true) := by show _ = _; simp [cfgB, h0, h1, h2, h3, h4, h5]
  go_enter Tryz.func14, Tryz.ntmps14
  go_wp2_with (go_at_call 45; refine (between_any _ _ _ _).mono ?_; rintro e w' ⟨rfl, rfl⟩)
  go_ret
  exact ⟨ret_bool E.out.symm, bnew _ _⟩
set_option maxRecDepth 100000 in
set_option maxHeartbeats 1000000 in
theorem implCfg_any (c : CfgD) (w : World) : Calls Tryz.prog 25 #[cfgV c] w fun e w' => e = .returned (.bool (cfgB c)) ∧ Below w.heap.size w w' := by
  obtain ⟨cw, ctl, cml, csh, cha, csg⟩ := c
  unfold cfgV
  simp only
  by_cases g0 : btwB cw 1 1000000000 = false
  · have h0 : ¬ btwB cw 1 1000000000 = true := by simpa using g0
    have E : Hid (cfgB ⟨cw, ctl, cml, csh, cha, csg⟩ = false) := by show _ = _; simp [cfgB, g0]
    have ho := btw_out h0
    clear h0 g0
    by_cases hx : 1 ≤ cw
    · have hy : ¬ cw ≤ 1000000000 := by omega
      clear ho
      go_enter Tryz.func25, Tryz.ntmps25
      go_wp2_with (first | (go_at_call 56; refine (isLimit_any _ _).mono ?_; rintro e w' ⟨rfl, rfl⟩) | (go_at_call 57; refine (within_any _ _ _).mono ?_; rintro e w' ⟨rfl, rfl⟩))
      go_ret
      exact ⟨ret_bool (by first | exact E.out.symm | (rw [E.out]; simp; omega)), bnew _ _⟩
    · clear ho
      go_enter Tryz.func25, Tryz.ntmps25
      go_wp2_with (first | (go_at_call 56; refine (isLimit_any _ _).mono ?_; rintro e w' ⟨rfl, rfl⟩) | (go_at_call 57; refine (within_any _ _ _).mono ?_; rintro e w' ⟨rfl, rfl⟩))
      go_ret
      exact ⟨ret_bool (by first | exact E.out.symm | (rw [E.out]; simp; omega)), bnew _ _⟩
  have h0 : btwB cw 1 1000000000 = true := by simpa using g0
  clear g0
  obtain ⟨i0, j0⟩ := btw_in h0
  by_cases g1 : btwB ctl 0 1000000 = false
  · have h1 : ¬ btwB ctl 0 1000000 = true := by simpa using g1
    have E : Hid (cfgB ⟨cw, ctl, cml, csh, cha, csg⟩ = false) := by show _ = _; simp [cfgB, h0, g1]
    clear h1
    go_enter Tryz.func25, Tryz.ntmps25
    go_wp2_with (first | (go_at_call 56; refine (isLimit_any _ _).mono ?_; rintro e w' ⟨rfl, rfl⟩) | (go_at_call 57; refine (within_any _ _ _).mono ?_; rintro e w' ⟨rfl, rfl⟩))
    go_ret
    exact ⟨ret_bool (by first | exact E.out.symm | (rw [E.out]; simp; omega)), bnew _ _⟩
  have h1 : btwB ctl 0 1000000 = true := by simpa using g1
  clear g1
  by_cases g2 : btwB cml 0 1000000 = false
  · have h2 : ¬ btwB cml 0 1000000 = true := by simpa using g2
    have E : Hid (cfgB ⟨cw, ctl, cml, csh, cha, csg⟩ = false) := by show _ = _; simp [cfgB, h0, h1, g2]
    clear h2
    go_enter Tryz.func25, Tryz.ntmps25
    go_wp2_with (first | (go_at_call 56; refine (isLimit_any _ _).mono ?_; rintro e w' ⟨rfl, rfl⟩) | (go_at_call 57; refine (within_any _ _ _).mono ?_; rintro e w' ⟨rfl, rfl⟩))
    go_ret
    exact ⟨ret_bool (by first | exact E.out.symm | (rw [E.out]; simp; omega)), bnew _ _⟩
  have h2 : btwB cml 0 1000000 = true := by simpa using g2
  clear g2
  by_cases g3 : btwB csh 1 64 = false
  · have h3 : ¬ btwB csh 1 64 = true := by simpa using g3
    have E : Hid (cfgB ⟨cw, ctl, cml, csh, cha, csg⟩ = false) := by show _ = _; simp [cfgB, h0, h1, h2, g3]
    have ho := btw_out h3
    clear h3 g3
    by_cases hx : 1 ≤ csh
    · have hy : ¬ csh ≤ 64 := by omega
      clear ho
      go_enter Tryz.func25, Tryz.ntmps25
      go_wp2_with (first | (go_at_call 56; refine (isLimit_any _ _).mono ?_; rintro e w' ⟨rfl, rfl⟩) | (go_at_call 57; refine (within_any _ _ _).mono ?_; rintro e w' ⟨rfl, rfl⟩))
      go_ret
      exact ⟨ret_bool (by first | exact E.out.symm | (rw [E.out]; simp; omega)), bnew _ _⟩
    · clear ho
      go_enter Tryz.func25, Tryz.ntmps25
      go_wp2_with (first | (go_at_call 56; refine (isLimit_any _ _).mono ?_; rintro e w' ⟨rfl, rfl⟩) | (go_at_call 57; refine (within_any _ _ _).mono ?_; rintro e w' ⟨rfl, rfl⟩))
      go_ret
      exact ⟨ret_bool (by first | exact E.out.symm | (rw [E.out]; simp; omega)), bnew _ _⟩
  have h3 : btwB csh 1 64 = true := by simpa using g3
  clear g3
  obtain ⟨i3, j3⟩ := btw_in h3
  by_cases g4 : btwB cha 0 2 = false
  · have h4 : ¬ btwB cha 0 2 = true := by simpa using g4
    have E : Hid (cfgB ⟨cw, ctl, cml, csh, cha, csg⟩ = false) := by show _ = _; simp [cfgB, h0, h1, h2, h3, g4]
    clear h4
    go_enter Tryz.func25, Tryz.ntmps25
    go_wp2_with (first | (go_at_call 56; refine (isLimit_any _ _).mono ?_; rintro e w' ⟨rfl, rfl⟩) | (go_at_call 57; refine (within_any _ _ _).mono ?_; rintro e w' ⟨rfl, rfl⟩))
    go_ret
    exact ⟨ret_bool (by first | exact E.out.symm | (rw [E.out]; simp; omega)), bnew _ _⟩
  have h4 : btwB cha 0 2 = true := by simpa using g4
  clear g4
  by_cases g5 : btwB csg 100 1000000 = false
  · have h5 : ¬ btwB csg 100 1000000 = true := by simpa using g5
    have E : Hid (cfgB ⟨cw, ctl, cml, csh, cha, csg⟩ = false) := by show _ = _; simp [cfgB, h0, h1, h2, h3, h4, g5]
    have ho := btw_out h5
    clear h5 g5
    by_cases hx : 100 ≤ csg
    · have hy : ¬ csg ≤ 1000000 := by omega
      clear ho
      go_enter Tryz.func25, Tryz.ntmps25
      go_wp2_with (first | (go_at_call 56; refine (isLimit_any _ _).mono ?_; rintro e w' ⟨rfl, rfl⟩) | (go_at_call 57; refine (within_any _ _ _).mono ?_; rintro e w' ⟨rfl, rfl⟩))
      go_ret
      exact ⟨ret_bool (by first | exact E.out.symm | (rw [E.out]; simp; omega)), bnew _ _⟩
    · clear ho
      go_enter Tryz.func25, Tryz.ntmps25
      go_wp2_with (first | (go_at_call 56; refine (isLimit_any _ _).mono ?_; rintro e w' ⟨rfl, rfl⟩) | (go_at_call 57; refine (within_any _ _ _).mono ?_; rintro e w' ⟨rfl, rfl⟩))
      go_ret
      exact ⟨ret_bool (by first | exact E.out.symm | (rw [E.out]; simp; omega)), bnew _ _⟩
  have h5 : btwB csg 100 1000000 = true := by simpa using g5
  clear g5
  obtain ⟨i5, j5⟩ := btw_in h5
  have E : Hid (cfgB ⟨cw, ctl, cml, csh, cha, csg⟩ = true) := by show _ = _; simp [cfgB, h0, h1, h2, h3, h4, h5]
  go_enter Tryz.func25, Tryz.ntmps25
  go_wp2_with (first | (go_at_call 56; refine (isLimit_any _ _).mono ?_; rintro e w' ⟨rfl, rfl⟩) | (go_at_call 57; refine (within_any _ _ _).mono ?_; rintro e w' ⟨rfl, rfl⟩))
  go_ret
  exact ⟨ret_bool (by first | exact E.out.symm | (rw [E.out]; simp; omega)), bnew _ _⟩
end Go.Proofs.YtgnppdghjlnlhaaGreatDoor
namespace Go.Proofs.YtgnppdghjlnlhaaGreatDoor
open Go.RowKit
def node0 : NodeD := ⟨⟨[], 0, 0, 0, 0, false⟩, ⟨0, 0, 0⟩, 0, [], 0, false, false⟩
def tmpN : ByteArray := ⟨#[99, 107, 112, 116, 46, 116, 109, 112]⟩
def ckN : ByteArray := ⟨#[99, 107, 112, 116]⟩
def runD : DiskD → List OpD → DiskD × Nat
  | K, [] => (K, 0)
  | K, op :: r => if (stepD K op).2 = 0 then runD (stepD K op).1 r else stepD K op
def opDel (n : Int) : OpD := ⟨6, segS n, ⟨#[]⟩, ⟨#[]⟩, 0⟩
def opTmp : OpD := ⟨6, tmpN, ⟨#[]⟩, ⟨#[]⟩, 0⟩
def fiveO (last : Int) (text : ByteArray) : List OpD :=
  [⟨1, tmpN, ⟨#[]⟩, ⟨#[]⟩, 0⟩, ⟨2, tmpN, ⟨#[]⟩, text, 0⟩, ⟨3, tmpN, ⟨#[]⟩, ⟨#[]⟩, 0⟩, ⟨5, tmpN, ckN, ⟨#[]⟩, 0⟩, ⟨1, segS (last + 1), ⟨#[]⟩, ⟨#[]⟩, 0⟩]
def delsO (first : Int) (k : Nat) : List OpD := (List.range k).map fun (i : Nat) => opDel (first + (i : Int))
def firstO (fs : List FileD) : List OpD := if 0 ≤ findFrom tmpN fs 0 then [opTmp] else []
def ckOps (K : DiskD) (L : LogD) (text : ByteArray) : List OpD := firstO K.fs ++ (fiveO L.last text ++ delsO L.first (L.last + 1 - L.first).toNat)
def upB (N : NodeD) : Bool := N.up && !N.deg
def failN (N : NodeD) (K : DiskD) : NodeD := ⟨K, N.l, N.now, N.ts, N.lsn, true, !K.dn⟩
def ckV (c : CfgD) (N : NodeD) : NodeD × Int :=
  if cfgB c = false then (node0, 61)
  else if upB N = false then (N, 60)
  else if logB N.l = false then (N, 21)
  else if N.l.last = 999999 then (N, 23)
  else if staB N.lsn N.now N.ts = ⟨#[]⟩ then (N, 62)
  else if (runD N.d (ckOps N.d N.l (staB N.lsn N.now N.ts))).2 = 0 then (⟨(runD N.d (ckOps N.d N.l (staB N.lsn N.now N.ts))).1, ⟨N.l.last + 1, N.l.last + 1, 0⟩, N.now, N.ts, N.lsn, N.deg, N.up⟩, 0)
  else (failN N (runD N.d (ckOps N.d N.l (staB N.lsn N.now N.ts))).1, ((runD N.d (ckOps N.d N.l (staB N.lsn N.now N.ts))).2 : Int))
theorem runD_append (xs ys : List OpD) : ∀ K : DiskD, runD K (xs ++ ys) = if (runD K xs).2 = 0 then runD (runD K xs).1 ys else runD K xs := by
  induction xs with
  | nil => intro K; simp [runD]
  | cons x r ih =>
    intro K
    simp only [List.cons_append, runD]
    split
    · exact ih _
    · rfl
theorem runD_snoc {K : DiskD} {xs : List OpD} (op : OpD) (h : (runD K xs).2 = 0) : runD K (xs ++ [op]) = stepD (runD K xs).1 op := by
  rw [runD_append, if_pos h]
  simp only [runD]
  split
  · rename_i h'; rw [← h']
  · rfl
theorem runD_stop {K : DiskD} {xs ys : List OpD} (op : OpD) (h : (runD K xs).2 = 0) (hx : (stepD (runD K xs).1 op).2 ≠ 0) : runD K (xs ++ op :: ys) = stepD (runD K xs).1 op := by
  rw [runD_append, if_pos h]
  simp only [runD]
  rw [if_neg hx]
theorem delsO_succ (f : Int) (k : Nat) : delsO f (k + 1) = delsO f k ++ [opDel (f + k)] := by simp [delsO, List.range_succ]
theorem delsO_split (f : Int) (j k : Nat) (h : j < k) : ∃ r, delsO f k = delsO f j ++ opDel (f + j) :: r := by
  obtain ⟨m, rfl⟩ : ∃ m, k = j + 1 + m := ⟨k - j - 1, by omega⟩
  refine ⟨((List.range m).map fun i => opDel (f + (j + 1 + i : Nat))), ?_⟩
  simp only [delsO, List.range_add, List.map_append, List.map_map, List.range_one, List.append_assoc, List.map_cons, List.map_nil]
  simp only [Nat.add_zero, List.cons_append, List.nil_append, List.append_cancel_left_eq, List.cons.injEq, true_and]
  refine List.map_congr_left fun i _ => ?_
  simp only [Function.comp_apply]
def OpFit (op : OpD) : Prop := op.name.size ≤ maxLen ∧ op.to.size ≤ maxLen ∧ op.data.size ≤ 200000000
theorem ckOps_fit {K : DiskD} {L : LogD} {text : ByteArray} (ht : text.size ≤ 200000000) : ∀ op ∈ ckOps K L text, OpFit op := by
  intro op hop
  have hs : ∀ n, (segS n).size ≤ maxLen := fun n => by have := segS_size n; unfold maxLen; omega
  have h1 : tmpN.size ≤ maxLen := by unfold maxLen; decide
  have h2 : ckN.size ≤ maxLen := by unfold maxLen; decide
  have h3 : (⟨#[]⟩ : ByteArray).size ≤ maxLen := Nat.zero_le _
  have h4 : (⟨#[]⟩ : ByteArray).size ≤ 200000000 := Nat.zero_le _
  simp only [ckOps, firstO, fiveO, delsO, List.mem_append, List.mem_map, List.mem_cons, List.not_mem_nil, or_false] at hop
  rcases hop with hop | (hop | hop | hop | hop | hop) | ⟨i, _, hop⟩
  · split at hop
    · simp only [List.mem_cons, List.not_mem_nil, or_false] at hop
      subst hop; exact ⟨h1, h3, h4⟩
    · cases hop
  · subst hop; exact ⟨h1, h3, h4⟩
  · subst hop; exact ⟨h1, h3, ht⟩
  · subst hop; exact ⟨h1, h3, h4⟩
  · subst hop; exact ⟨h1, h2, h4⟩
  · subst hop; exact ⟨hs _, h3, h4⟩
  · subst hop; exact ⟨hs _, h3, h4⟩
theorem fit_run : ∀ (xs : List OpD) (K : DiskD), Fit K.fs → (∀ op ∈ xs, OpFit op) → Fit (runD K xs).1.fs
  | [], K, h, _ => h
  | op :: r, K, h, ho => by
    obtain ⟨h1, h2, _⟩ := ho op (by simp)
    have hf := fit_step h h1 h2
    simp only [runD]
    split
    · exact fit_run r _ hf (fun o hm => ho o (List.mem_cons_of_mem _ hm))
    · exact hf
theorem stepD_code (K : DiskD) (op : OpD) : (stepD K op).2 ≤ 6 := by
  unfold stepD outR
  split
  · exact stepR_code _ _ _ _ _ _ _
  · exact Nat.le_refl 6
theorem runD_code : ∀ (xs : List OpD) (K : DiskD), (runD K xs).2 ≤ 6
  | [], _ => Nat.zero_le _
  | op :: r, K => by
    simp only [runD]
    split
    · exact runD_code r _
    · exact stepD_code K op
theorem stepD_bad {K : DiskD} (op : OpD) (h : diskB K.fs K.c K.k K.cr K.fl = false) : stepD K op = (⟨[], 0, 0, 0, 0, false⟩, 6) := by
  unfold stepD outR
  rw [if_neg (by simp [h])]
theorem run_bad {K : DiskD} {L : LogD} {text : ByteArray} (h : diskB K.fs K.c K.k K.cr K.fl = false) : runD K (ckOps K L text) = (⟨[], 0, 0, 0, 0, false⟩, 6) := by
  unfold ckOps firstO
  split
  · simp only [List.cons_append, List.nil_append, runD, stepD_bad _ h]; rfl
  · simp only [fiveO, List.nil_append, List.cons_append, runD, stepD_bad _ h]; rfl
theorem ckV_fit {c : CfgD} {N : NodeD} (hf : Fit N.d.fs) (hz : (staB N.lsn N.now N.ts).size ≤ 200000000) : Fit (ckV c N).1.d.fs ∧ ((ckV c N).1.ts = N.ts ∨ (ckV c N).1.ts = []) := by
  have hr := fit_run (ckOps N.d N.l (staB N.lsn N.now N.ts)) N.d hf (ckOps_fit hz)
  unfold ckV
  repeat' split
  all_goals first | exact ⟨fit_nil, Or.inr rfl⟩ | exact ⟨hf, Or.inl rfl⟩ | exact ⟨hr, Or.inl rfl⟩
theorem found_has {fs : List FileD} {t : ByteArray} (ha : Asc fs) : (0 ≤ findFrom t fs 0) ↔ hasB fs t (posOf t fs) = true := by
  rw [find_pos ha (posOf_is t ha)]
  split
  · rename_i h; simp [h]
  · rename_i h; simp [h]
end Go.Proofs.YtgnppdghjlnlhaaGreatDoor
namespace Go.Proofs.YtgnppdghjlnlhaaGreatDoor
open Go.RowKit
theorem ck_cfg {c : CfgD} {N : NodeD} (h : cfgB c = false) : ckV c N = (node0, 61) := by unfold ckV; rw [if_pos h]
theorem ck_up {c : CfgD} {N : NodeD} (h0 : cfgB c = true) (h : upB N = false) : ckV c N = (N, 60) := by
  unfold ckV
  rw [if_neg (by rw [h0]; simp), if_pos h]
theorem ck_log {c : CfgD} {N : NodeD} (h0 : cfgB c = true) (h1 : upB N = true) (h : logB N.l = false) : ckV c N = (N, 21) := by
  unfold ckV
  rw [if_neg (by rw [h0]; simp), if_neg (by rw [h1]; simp), if_pos h]
theorem ck_last {c : CfgD} {N : NodeD} (h0 : cfgB c = true) (h1 : upB N = true) (h2 : logB N.l = true) (h : N.l.last = 999999) : ckV c N = (N, 23) := by
  unfold ckV
  rw [if_neg (by rw [h0]; simp), if_neg (by rw [h1]; simp), if_neg (by rw [h2]; simp), if_pos h]
theorem ck_text {c : CfgD} {N : NodeD} (h0 : cfgB c = true) (h1 : upB N = true) (h2 : logB N.l = true) (h3 : ¬ N.l.last = 999999) (h : staB N.lsn N.now N.ts = ⟨#[]⟩) : ckV c N = (N, 62) := by
  unfold ckV
  rw [if_neg (by rw [h0]; simp), if_neg (by rw [h1]; simp), if_neg (by rw [h2]; simp), if_neg h3, if_pos h]
theorem ck_ok {c : CfgD} {N : NodeD} {text : ByteArray} {K : DiskD} (h0 : cfgB c = true) (h1 : upB N = true) (h2 : logB N.l = true) (h3 : ¬ N.l.last = 999999) (ht : text = staB N.lsn N.now N.ts) (h4 : ¬ text = ⟨#[]⟩) (h : runD N.d (ckOps N.d N.l text) = (K, 0)) :
    ckV c N = (⟨K, ⟨N.l.last + 1, N.l.last + 1, 0⟩, N.now, N.ts, N.lsn, N.deg, N.up⟩, 0) := by
  unfold ckV
  rw [← ht, if_neg (by rw [h0]; simp), if_neg (by rw [h1]; simp), if_neg (by rw [h2]; simp), if_neg h3, if_neg h4, h, if_pos rfl]
theorem ck_bad {c : CfgD} {N : NodeD} {text : ByteArray} {K : DiskD} {x : Nat} (h0 : cfgB c = true) (h1 : upB N = true) (h2 : logB N.l = true) (h3 : ¬ N.l.last = 999999) (ht : text = staB N.lsn N.now N.ts) (h4 : ¬ text = ⟨#[]⟩) (h : runD N.d (ckOps N.d N.l text) = (K, x)) (hx : ¬ x = 0) :
    ckV c N = (⟨K, N.l, N.now, N.ts, N.lsn, true, !K.dn⟩, (x : Int)) := by
  unfold ckV
  rw [← ht, if_neg (by rw [h0]; simp), if_neg (by rw [h1]; simp), if_neg (by rw [h2]; simp), if_neg h3, if_neg h4, h, if_neg hx]
  rfl
end Go.Proofs.YtgnppdghjlnlhaaGreatDoor
namespace Go.Proofs.YtgnppdghjlnlhaaGreatDoor
open Go.RowKit
def tCorrupt : ByteArray := ⟨#[97, 32, 115, 101, 103, 109, 101, 110, 116, 32, 97, 104, 101, 97, 100, 32, 111, 102, 32, 116, 104, 101, 32, 108, 97, 115, 116, 32, 105, 115, 32, 116, 111, 114, 110]⟩
def tGap : ByteArray := ⟨#[116, 104, 101, 32, 115, 101, 103, 109, 101, 110, 116, 115, 32, 97, 114, 101, 32, 110, 111, 32, 108, 111, 103]⟩
def tTooBig : ByteArray := ⟨#[116, 104, 101, 32, 112, 97, 121, 108, 111, 97, 100, 32, 104, 97, 115, 32, 110, 111, 32, 102, 114, 97, 109, 101]⟩
def tEnd : ByteArray := ⟨#[116, 104, 101, 32, 108, 111, 103, 32, 104, 97, 115, 32, 110, 111, 32, 115, 101, 103, 109, 101, 110, 116, 115, 32, 108, 101, 102, 116]⟩
def errW (code : Nat) : Value := match code with
  | 20 => .iface 126 (.string tCorrupt)
  | 21 => .iface 126 (.string tGap)
  | 22 => .iface 126 (.string tTooBig)
  | 23 => .iface 126 (.string tEnd)
  | c => errV c
theorem run_eql_nil_iface {P : Program} (w : World) {t tx : TypeId} {ms : Array (String × TypeId)} (b : ByteArray) (ht : P.underlying t = some (.interface ms)) :
    (binOp .eql t .nilIface (.iface tx (.string b))).run P w = .ok (.bool false) w := by
  have h : ∀ d : Nat, (Op.equalIn (d + 2) t .nilIface (.iface tx (.string b))).run P w = .ok false w := fun d => by
    simp [Op.equalIn, run_underlying ht]
  simp only [binOp]
  simp [Op.equal, Op.maxDepth, h 9998]
set_option maxHeartbeats 1000000 in
set_option maxRecDepth 100000 in
theorem is_nil (b : ByteArray) (w : World) :
    Calls Tryz.prog 70 #[.nilIface, .iface 126 (.string b)] w fun e w' => e = .returned (.bool false) ∧ w' = w := by
  have heq : (binOp .eql 78 .nilIface (.iface 126 (.string b))).run Tryz.prog w = .ok (.bool false) w := run_eql_nil_iface w b Tryz.underlying78
  go_enter Tryz.func70, Tryz.ntmps70
  go_wp2
  go_ret
  exact ⟨rfl, rfl⟩
theorem is_not (code : Nat) (h : code ≤ 6) (b : ByteArray) (w : World) (h1 : (tDown == b) = false) (h2 : (tFailed == b) = false) (h3 : (tFull == b) = false) (h4 : (tMissing == b) = false) (h5 : (tExists == b) = false) (h6 : (tBad == b) = false) :
    Calls Tryz.prog 70 #[errV code, .iface 126 (.string b)] w fun e w' => e = .returned (.bool false) ∧ w' = w := by
  match code, h with
  | 0, _ => exact is_nil b w
  | 1, _ => exact is_any _ _ false h1 w
  | 2, _ => exact is_any _ _ false h2 w
  | 3, _ => exact is_any _ _ false h3 w
  | 4, _ => exact is_any _ _ false h4 w
  | 5, _ => exact is_any _ _ false h5 w
  | 6, _ => exact is_any _ _ false h6 w
theorem errW_disk {code : Nat} (h : code ≤ 6) : errW code = errV code := by
  match code, h with
  | 0, _ => rfl
  | 1, _ => rfl
  | 2, _ => rfl
  | 3, _ => rfl
  | 4, _ => rfl
  | 5, _ => rfl
  | 6, _ => rfl
end Go.Proofs.YtgnppdghjlnlhaaGreatDoor
namespace Go.Proofs.YtgnppdghjlnlhaaGreatDoor
open Go.RowKit
end Go.Proofs.YtgnppdghjlnlhaaGreatDoor
namespace Go.Proofs.YtgnppdghjlnlhaaGreatDoor
open Go.RowKit
def WrAt (w : World) (P D : Nat) (L : LogD) : Prop := Blk w P #[.pointer (some ⟨D, 0, none⟩), .int .i64 L.first, .int .i64 L.last, .int .i64 L.size] 76
theorem WrAt.later {w w' : World} {P D : Nat} {L : LogD} (h : WrAt w P D L) (hb : Below w.heap.size w w') : WrAt w' P D L := Blk.later h hb
theorem WrAt.cells {w : World} {P D : Nat} {L : LogD} (h : WrAt w P D L) : w.cell? ⟨P, 0, none⟩ = some (.pointer (some ⟨D, 0, none⟩)) ∧ w.cell? ⟨P, 1, none⟩ = some (.int .i64 L.first) ∧ w.cell? ⟨P, 2, none⟩ = some (.int .i64 L.last) ∧ w.cell? ⟨P, 3, none⟩ = some (.int .i64 L.size) := by
  refine ⟨?_, ?_, ?_, ?_⟩ <;> rw [Blk.cell h] <;> rfl
set_option maxRecDepth 100000 in
set_option maxHeartbeats 1000000 in
theorem isLog_any (L : LogD) (w : World) : Calls Tryz.prog 29 #[.agg #[.int .i64 L.first, .int .i64 L.last, .int .i64 L.size]] w fun e w' => e = .returned (.bool (logB L)) ∧ Below w.heap.size w w' := by
  obtain ⟨a, b, c⟩ := L
  have HB : Hid (Below w.heap.size w (w.alloc (.cells #[.int .i64 a, .int .i64 b, .int .i64 c] 38))) := bnew _ _
  by_cases h1 : 1 ≤ a
  · by_cases h2 : a ≤ b
    · by_cases h3 : b ≤ 999999
      · have e : Hid (logB ⟨a, b, c⟩ = btwB c 0 1000000000) := by
          show _ = _
          have e1 : btwB b 1 999999 = true := by simp [btwB]; omega
          have e2 : btwB a 1 b = true := by simp [btwB]; omega
          simp only [logB, e1, e2, Bool.true_and]
        go_enter Tryz.func29, Tryz.ntmps29
        go_wp2_with fail
        refine (within_any _ _ _).mono ?_
        rintro e w' ⟨rfl, hw⟩; replace hw := hw.symm; subst hw
        go_wp2
        go_ret
        exact ⟨ret_bool e.out.symm, HB.out⟩
      · have e : Hid (logB ⟨a, b, c⟩ = false) := by
          show _ = _
          have e1 : btwB b 1 999999 = false := by simp [btwB]; omega
          simp [logB, e1]
        go_enter Tryz.func29, Tryz.ntmps29
        go_wp2
        go_ret
        exact ⟨ret_bool e.out.symm, HB.out⟩
    · have e : Hid (logB ⟨a, b, c⟩ = false) := by
        show _ = _
        have e1 : btwB a 1 b = false := by simp [btwB]; omega
        simp [logB, e1]
      go_enter Tryz.func29, Tryz.ntmps29
      go_wp2
      go_ret
      exact ⟨ret_bool e.out.symm, HB.out⟩
  · have e : Hid (logB ⟨a, b, c⟩ = false) := by
      show _ = _
      have e1 : btwB a 1 b = false := by simp [btwB]; omega
      simp [logB, e1]
    go_enter Tryz.func29, Tryz.ntmps29
    go_wp2
    go_ret
    exact ⟨ret_bool e.out.symm, HB.out⟩
def fullB (L : LogD) (z most : Int) : Bool := decide (L.size ≠ 0) && decide (most < L.size + z)
end Go.Proofs.YtgnppdghjlnlhaaGreatDoor
