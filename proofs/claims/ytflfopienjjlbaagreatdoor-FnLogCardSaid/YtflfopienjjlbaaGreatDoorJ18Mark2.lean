import Derived.Test.YtflfopienjjlbaaGreatDoorJ17IFrame
import Derived.Test.YtflfopienjjlbaaGreatDoorJ08Find
import Derived.Deep.RegionHeld3
import Derived.Test.YtflfopienjjlbaaGreatDoorJ13Ins2
import Derived.Test.YtflfopienjjlbaaGreatDoorProg
import Derived.Test.YtflfopienjjlbaaGreatDoorJ11IFrames
namespace Go.Proofs.YtflfopienjjlbaaGreatDoor
open Go.RowKit

theorem okByte_dig (k : Nat) (h : k < 10) : okByte (48 + UInt8.ofNat k) = true := by
  rcases (show k = 0 ∨ k = 1 ∨ k = 2 ∨ k = 3 ∨ k = 4 ∨ k = 5 ∨ k = 6 ∨ k = 7 ∨ k = 8 ∨ k = 9 by omega) with rfl | rfl | rfl | rfl | rfl | rfl | rfl | rfl | rfl | rfl <;> decide
theorem okBytes_seg (n : Nat) : ∀ i, okBytes (segD n i) = true
  | 0 => rfl
  | i + 1 => by
    have h1 := okBytes_seg n i
    simp only [okBytes, segD, List.all_cons, Bool.and_eq_true] at h1 ⊢
    exact ⟨okByte_dig _ (by omega), h1⟩
theorem segS_is (n : Int) (h1 : 1 ≤ n) (h2 : n ≤ 999999) : segS n = segN n.toNat := if_pos ⟨h1, h2⟩
theorem nameB_seg (n : Int) (h1 : 1 ≤ n) (h2 : n ≤ 999999) : nameB (segS n) = true := by
  rw [segS_is n h1 h2]
  have hz : (segN n.toNat).size = 10 := by
    show (119 :: 97 :: 108 :: 45 :: segD n.toNat 6).toArray.size = 10
    simp [segD_length]
  have hd : (segN n.toNat).data.toList = 119 :: 97 :: 108 :: 45 :: segD n.toNat 6 := rfl
  have hb := okBytes_seg n.toNat 6
  unfold nameB
  rw [hz, hd]
  simp only [okBytes, List.all_cons] at hb ⊢
  rw [hb]
  decide

theorem opB_mk {k : Int} {n : Int} {d : ByteArray} {z : Int} (hk : 1 ≤ k ∧ k ≤ 4) (h1 : 1 ≤ n) (h2 : n ≤ 999999) : opB ⟨k, segS n, ⟨#[]⟩, d, z⟩ = true := by
  have hn := nameB_seg n h1 h2
  have hb : btwB k 1 6 = true := by simp [btwB]; omega
  have h5 : decide (k ≠ 5) = true := by simp; omega
  simp only [opB, hb, hn, h5, Bool.true_and, Bool.true_or]

/-- A writer at work: its log, its drive with a valid disk; what lay at the entry lies on. -/
structure WSt (w0 w : World) (B P D : Nat) (K : DiskD) (L : LogD) : Prop where
  pow : PowTab w0
  below : Below w0.heap.size w0 w
  hB : w0.heap.size ≤ B
  hP : w0.heap.size ≤ P
  wr : WrAt w P D L
  drive : ∃ v, DriveAt w B D K.fs K.c K.k K.cr K.fl K.dn v
  valid : diskB K.fs K.c K.k K.cr K.fl = true
theorem WSt.later {w0 w w' : World} {B P D : Nat} {K : DiskD} {L : LogD} (h : WSt w0 w B P D K L) (hb : Below w.heap.size w w') : WSt w0 w' B P D K L :=
  ⟨h.pow, bto h.below hb, h.hB, h.hP, h.wr.later hb, by obtain ⟨v, hv⟩ := h.drive; exact ⟨v, hv.later hb⟩, h.valid⟩
theorem WSt.tab {w0 w : World} {B P D : Nat} {K : DiskD} {L : LogD} (h : WSt w0 w B P D K L) : PowTab w := h.pow.later h.below
theorem WSt.set {w0 w : World} {B P D : Nat} {K : DiskD} {L L' : LogD} (h : WSt w0 w B P D K L) (j : Nat) (x : Value) (hj : #[Value.pointer (some ⟨D, 0, none⟩), .int .i64 L'.first, .int .i64 L'.last, .int .i64 L'.size] = (#[Value.pointer (some ⟨D, 0, none⟩), .int .i64 L.first, .int .i64 L.last, .int .i64 L.size] : Array Value).setIfInBounds j x) : WSt w0 (w.setCell ⟨P, j, none⟩ x) B P D K L' := by
  refine ⟨h.pow, h.below.setCell (by show w0.heap.size ≤ P; exact h.hP) _, h.hB, h.hP, ?_, ?_, h.valid⟩
  · show Blk _ _ _ _
    rw [hj]
    exact Blk.set h.wr j x
  · obtain ⟨v, hv⟩ := h.drive
    refine ⟨v, hv.from', ?_, ?_, hv.apart⟩
    · refine (Below.heap_setCell _ _ _ D (fun e => ?_)).trans hv.blk
      have e2 : D = P := e
      have e4 := hv.blk
      rw [e2] at e4
      have e3 := (show w.heap[P]? = _ from e4).symm.trans h.wr
      simp at e3
    · refine row_keeps (S := fun k => k = P) hv.row ((Keeps.refl (fun k => k = P) w).setCell (g := P) rfl j x) (fun g hg e => ?_)
      obtain ⟨cur, hc⟩ := own_file hv.row g hg
      rw [e] at hc
      have e3 := (show w.heap[P]? = _ from hc).symm.trans h.wr
      simp at e3

theorem stepD_ok {K : DiskD} {op : OpD} (h : diskB K.fs K.c K.k K.cr K.fl = true) (ho : opB op = true) :
    stepD K op = (⟨(stepR K.fs K.c K.k K.cr K.fl K.dn op).2.1, K.c, (stepR K.fs K.c K.k K.cr K.fl K.dn op).2.2.1, K.cr, K.fl, (stepR K.fs K.c K.k K.cr K.fl K.dn op).2.2.2⟩, (stepR K.fs K.c K.k K.cr K.fl K.dn op).1) := by
  unfold stepD outR
  rw [if_pos (by simp [h, ho])]

theorem stepW {w0 w : World} {B P D : Nat} {K : DiskD} {L : LogD} (op : OpD) (h : WSt w0 w B P D K L) (ho : opB op = true) (hk : op.kind ≤ 4) :
    Calls Tryz.prog 49 #[.pointer (some ⟨D, 0, none⟩), .agg #[.int .i64 op.kind, .string op.name, .string op.to, .string op.data, .int .i64 op.size]] w fun e w' =>
      e = .returned (errV (stepD K op).2) ∧ (stepD K op).2 ≤ 6 ∧ WSt w0 w' B P D (stepD K op).1 L := by
  obtain ⟨v, hv⟩ := h.drive
  obtain ⟨f1, f2, f3, f4, f5, f6, f7, _⟩ := files_of_disk h.valid
  have hop : btwB op.kind 1 6 = true := by simp only [opB, Bool.and_eq_true] at ho; exact ho.1.1
  rw [stepD_ok h.valid ho]
  refine (step_any w B D K.fs K.c K.k K.cr K.fl K.dn v op ⟨hv, asc_of f1, f2, f5, f4, f6, f7⟩ hop).mono ?_
  rintro e w' ⟨rfl, hb, hko, v', hd', hkv⟩
  have hd := Exists.intro v' hd'
  exact ⟨rfl, stepR_code _ _ _ _ _ _ _, h.pow, h.below.trans (hb.mono h.hB), h.hB, h.hP, hko hk P _ _ h.wr (by decide) (by decide), hd, diskB_step h.valid ho hk⟩

/-- LogAppend's disk operations. -/
def addR (K : DiskD) (L : LogD) (f : ByteArray) (most : Int) : DiskD × LogD × Nat :=
  if fullB L f.size most = true then
    if (stepD K (opCreate (L.last + 1))).2 ≠ 0 then ((stepD K (opCreate (L.last + 1))).1, L, (stepD K (opCreate (L.last + 1))).2)
    else appendT (stepD K (opCreate (L.last + 1))).1 ⟨L.first, L.last + 1, 0⟩ f
  else appendT K L f

theorem ret_err {a b : Nat} (h : a = b) : Ending.returned (errV a) = .returned (errV b) := by rw [h]

theorem errV_iface {x : Nat} (h0 : ¬ x = 0) (h6 : x ≤ 6) : ∃ t, errV x = .iface 103 (.string t) := by
  match x, h0, h6 with
  | 1, _, _ => exact ⟨_, rfl⟩
  | 2, _, _ => exact ⟨_, rfl⟩
  | 3, _, _ => exact ⟨_, rfl⟩
  | 4, _, _ => exact ⟨_, rfl⟩
  | 5, _, _ => exact ⟨_, rfl⟩
  | 6, _, _ => exact ⟨_, rfl⟩
theorem stepOf {w0 w : World} {B P D : Nat} {K K' : DiskD} {L : LogD} {x : Nat} (op : OpD) (h : WSt w0 w B P D K L) (ho : opB op = true) (hk : op.kind ≤ 4) (e : stepD K op = (K', x)) :
    Calls Tryz.prog 49 #[.pointer (some ⟨D, 0, none⟩), .agg #[.int .i64 op.kind, .string op.name, .string op.to, .string op.data, .int .i64 op.size]] w fun e w' =>
      e = .returned (errV x) ∧ x ≤ 6 ∧ WSt w0 w' B P D K' L := by
  have := stepW op h ho hk
  rw [e] at this
  exact this

set_option maxRecDepth 100000 in
set_option maxHeartbeats 4000000 in
theorem add_short {w0 w : World} {B P D : Nat} {K : DiskD} {L : LogD} (f : ByteArray) (most : Int) (h : WSt w0 w B P D K L) (hl : logB L = true) (hf : f.size ≤ 60008) (hn : fullB L f.size most = false) :
    Calls Tryz.prog 46 #[.pointer (some ⟨P, 0, none⟩), .string f, .int .i64 most] w fun e w' =>
      e = .returned (errV (addR K L f most).2.2) ∧ (addR K L f most).2.2 ≤ 6 ∧ WSt w0 w' B P D (addR K L f most).1 (addR K L f most).2.1 := by
  obtain ⟨hs0, hs1, _, _, hl1, hl2⟩ := log_size hl
  have E0 : Hid (addR K L f most = appendT K L f) := by show _ = _; rw [addR, if_neg (by rw [hn]; simp)]
  have HFU : Hid (Calls Tryz.prog 73 #[.pointer (some ⟨P, 0, none⟩), .int .i64 (f.size : Int), .int .i64 most] w fun e w' => e = .returned (.bool false) ∧ w' = w) := by
    have := full_any P D L (f.size : Int) most w h.wr ⟨hs0, hs1⟩ (by omega)
    rw [hn] at this
    exact this
  have HW : Hid (WSt w0 w B P D K L) := h
  clear h hl hn
  obtain ⟨c0, c1, c2, c3⟩ := HW.out.wr.cells
  go_enter Tryz.func46, Tryz.ntmps46
  go_wp2_with fail
  refine HFU.out.mono ?_
  rintro e w' ⟨rfl, hw⟩; replace hw := hw.symm; subst hw
  go_wp2_with fail
  refine (implSeg_any L.last _ HW.out.tab).mono ?_
  rintro e w1 ⟨rfl, hb1⟩
  have HW1 : Hid (WSt w0 w1 B P D K L) := HW.out.later hb1
  clear hb1 c0 c1 c2 c3 HFU HW
  obtain ⟨c0, _, _, _⟩ := HW1.out.wr.cells
  obtain ⟨⟨K1, x1⟩, hS1⟩ : ∃ R, stepD K (opAppend L.last f) = R := ⟨_, rfl⟩
  have HS1 : Hid (stepD K (opAppend L.last f) = (K1, x1)) := hS1
  have HC1 : Hid (Calls Tryz.prog 49 #[.pointer (some ⟨D, 0, none⟩), .agg #[.int .i64 2, .string (segS L.last), .string ⟨#[]⟩, .string f, .int .i64 0]] w1 fun e w' => e = .returned (errV x1) ∧ x1 ≤ 6 ∧ WSt w0 w' B P D K1 L) := stepOf (opAppend L.last f) HW1.out (opB_mk (by omega) (by omega) (by omega)) (by show (2 : Int) ≤ 4; omega) hS1
  clear hS1
  go_wp2_with fail
  refine HC1.out.mono ?_
  rintro e w2 ⟨rfl, h6, hw2⟩
  have HW2 : Hid (WSt w0 w2 B P D K1 L) := hw2
  clear hw2 c0 HC1
  by_cases hx : x1 = 0
  · subst hx
    simp only [errV]
    obtain ⟨c0, _, _, _⟩ := HW2.out.wr.cells
    obtain ⟨⟨K2, x2⟩, hS2⟩ : ∃ R, stepD K1 (opSync L.last) = R := ⟨_, rfl⟩
    have HS2 : Hid (stepD K1 (opSync L.last) = (K2, x2)) := hS2
    have HC2 : Hid (Calls Tryz.prog 49 #[.pointer (some ⟨D, 0, none⟩), .agg #[.int .i64 3, .string (segS L.last), .string ⟨#[]⟩, .string ⟨#[]⟩, .int .i64 0]] w2 fun e w' => e = .returned (errV x2) ∧ x2 ≤ 6 ∧ WSt w0 w' B P D K2 L) := stepOf (opSync L.last) HW2.out (opB_mk (by omega) (by omega) (by omega)) (by show (3 : Int) ≤ 4; omega) hS2
    clear hS2 h6
    go_wp2_with fail
    refine HC2.out.mono ?_
    rintro e w3 ⟨rfl, h6, hw3⟩
    have HW3 : Hid (WSt w0 w3 B P D K2 L) := hw3
    have EA : Hid (appendT K L f = if x2 ≠ 0 then (K2, L, x2) else (K2, ⟨L.first, L.last, L.size + f.size⟩, 0)) := appendT_sync (L := L) HS1.out rfl HS2.out
    clear hw3 c0 HC2
    by_cases hx : x2 = 0
    · subst hx
      simp only [errV]
      have EB : Hid (addR K L f most = (K2, ⟨L.first, L.last, L.size + f.size⟩, 0)) := by show _ = _; rw [E0.out, EA.out, if_neg (by simp)]
      have HWF : Hid (WSt w0 (w3.setCell ⟨P, 3, none⟩ (.int .i64 (L.size + (f.size : Int)))) B P D K2 ⟨L.first, L.last, L.size + f.size⟩) := HW3.out.set 3 _ (by simp)
      obtain ⟨_, _, _, c3⟩ := HW3.out.wr.cells
      have q3 := Blk.free HW3.out.wr 3
      have hwz : IntKind.i64.wrap (L.size + (f.size : Int)) = L.size + (f.size : Int) := by rw [IntKind.wrap_i64]; omega
      go_wp2
      go_ret
      rw [EB.out]
      exact ⟨rfl, by omega, HWF.out⟩
    · obtain ⟨t, ht⟩ := errV_iface hx h6
      have EB : Hid (addR K L f most = (K2, L, x2)) := by show _ = _; rw [E0.out, EA.out, if_pos hx]
      have HT : Hid (errV x2 = .iface 103 (.string t)) := ht
      rw [ht]
      clear ht
      go_wp2
      go_ret
      rw [EB.out]
      exact ⟨by rw [HT.out]; rfl, h6, HW3.out⟩
  · obtain ⟨t, ht⟩ := errV_iface hx h6
    have EB : Hid (addR K L f most = (K1, L, x1)) := by show _ = _; rw [E0.out, appendT_fail (L := L) HS1.out hx]
    have HT : Hid (errV x1 = .iface 103 (.string t)) := ht
    rw [ht]
    clear ht
    go_wp2
    go_ret
    rw [EB.out]
    exact ⟨by rw [HT.out]; rfl, h6, HW2.out⟩

set_option maxRecDepth 100000 in
set_option maxHeartbeats 4000000 in
theorem add_full {w0 w : World} {B P D : Nat} {K : DiskD} {L : LogD} (f : ByteArray) (most : Int) (h : WSt w0 w B P D K L) (hl : logB L = true) (hf : f.size ≤ 60008) (hn : fullB L f.size most = true) (h9 : L.last ≠ 999999) :
    Calls Tryz.prog 46 #[.pointer (some ⟨P, 0, none⟩), .string f, .int .i64 most] w fun e w' =>
      e = .returned (errV (addR K L f most).2.2) ∧ (addR K L f most).2.2 ≤ 6 ∧ WSt w0 w' B P D (addR K L f most).1 (addR K L f most).2.1 := by
  obtain ⟨hs0, hs1, _, _, hl1, hl2⟩ := log_size hl
  have HFU : Hid (Calls Tryz.prog 73 #[.pointer (some ⟨P, 0, none⟩), .int .i64 (f.size : Int), .int .i64 most] w fun e w' => e = .returned (.bool true) ∧ w' = w) := by
    have := full_any P D L (f.size : Int) most w h.wr ⟨hs0, hs1⟩ (by omega)
    rw [hn] at this
    exact this
  obtain ⟨⟨K0, x0⟩, hS0⟩ : ∃ R, stepD K (opCreate (L.last + 1)) = R := ⟨_, rfl⟩
  have E0 : Hid (addR K L f most = if x0 ≠ 0 then (K0, L, x0) else appendT K0 ⟨L.first, L.last + 1, 0⟩ f) := by show _ = _; rw [addR, if_pos hn, hS0]
  have HC0 : Hid (∀ W, WSt w0 W B P D K L → Calls Tryz.prog 49 #[.pointer (some ⟨D, 0, none⟩), .agg #[.int .i64 1, .string (segS (L.last + 1)), .string ⟨#[]⟩, .string ⟨#[]⟩, .int .i64 0]] W fun e w' => e = .returned (errV x0) ∧ x0 ≤ 6 ∧ WSt w0 w' B P D K0 L) := fun W hW => stepOf (opCreate (L.last + 1)) hW (opB_mk (by omega) (by omega) (by omega)) (by show (1 : Int) ≤ 4; omega) hS0
  have HW : Hid (WSt w0 w B P D K L) := h
  have hwl : IntKind.i64.wrap (L.last + 1) = L.last + 1 := by rw [IntKind.wrap_i64]; omega
  clear h hl hn hS0
  obtain ⟨c0, c1, c2, c3⟩ := HW.out.wr.cells
  have HK : Hid (∀ W K' , WSt w0 W B P D K' L → W.cell? ⟨P, 0, none⟩ = some (.pointer (some ⟨D, 0, none⟩)) ∧ W.cell? ⟨P, 2, none⟩ = some (.int .i64 L.last)) := fun W K' h => ⟨h.wr.cells.1, h.wr.cells.2.2.1⟩
  go_enter Tryz.func46, Tryz.ntmps46
  go_wp2_with fail
  refine HFU.out.mono ?_
  rintro e w' ⟨rfl, hw⟩; replace hw := hw.symm; subst hw
  go_wp2_with fail
  go_region_held3 (fun w' => w'.cell? ⟨P, 0, none⟩ = some (.pointer (some ⟨D, 0, none⟩)) ∧ w'.cell? ⟨P, 2, none⟩ = some (.int .i64 L.last))
    (first | exact HK.out _ _ HW8.out | exact HK.out _ _ HW7.out | exact HK.out _ _ (HW.out.later (Below.refl _ _).drew))
    (first
    | (go_at_call 22; refine (implSeg_any (L.last + 1) _ (HW.out.later (Below.refl _ _).drew).tab).mono ?_; rintro e w7 ⟨rfl, hb7⟩; have HW7 : Hid (WSt w0 w7 B P D K L) := (HW.out.later (Below.refl _ _).drew).later hb7)
    | (go_at_call 49; refine (HC0.out _ HW7.out).mono ?_; rintro e w8 ⟨rfl, h6, hw8⟩; have HW8 : Hid (WSt w0 w8 B P D K0 L) := hw8))
  clear c0 c1 c2 c3 HK HC0 HFU HW HW7 hb7 hw8
  by_cases hx0 : x0 = 0
  · subst hx0
    simp only [errV]
    have E1 : Hid (addR K L f most = appendT K0 ⟨L.first, L.last + 1, 0⟩ f) := by show _ = _; rw [E0.out, if_neg (by simp)]
    obtain ⟨_, _, c2, c3⟩ := HW8.out.wr.cells
    have q2 := Blk.free HW8.out.wr 2
    have HWA : Hid (WSt w0 (w8.setCell ⟨P, 2, none⟩ (.int .i64 (L.last + 1))) B P D K0 ⟨L.first, L.last + 1, L.size⟩) := HW8.out.set 2 _ (by simp)
    have c3' := HWA.out.wr.cells.2.2.2
    have q3 := Blk.free HWA.out.wr 3
    have HWB0 : Hid (WSt w0 ((w8.setCell ⟨P, 2, none⟩ (.int .i64 (L.last + 1))).setCell ⟨P, 3, none⟩ (.int .i64 0)) B P D K0 ⟨L.first, L.last + 1, 0⟩) := HWA.out.set 3 _ (by simp)
    have c2' := HWB0.out.wr.cells.2.2.1
    go_wp2_with fail
    refine (implSeg_any (L.last + 1) _ HWB0.out.tab).mono ?_
    rintro e w9 ⟨rfl, hb9⟩
    have HWB : Hid (WSt w0 w9 B P D K0 ⟨L.first, L.last + 1, 0⟩) := HWB0.out.later hb9
    clear hb9 HWB0 HWA HW8 c2 c3 c3' q2 q3 c2'
    obtain ⟨c0, _, _, _⟩ := HWB.out.wr.cells
    obtain ⟨⟨K1, x1⟩, hS1⟩ : ∃ R, stepD K0 (opAppend (L.last + 1) f) = R := ⟨_, rfl⟩
    have HS1 : Hid (stepD K0 (opAppend (L.last + 1) f) = (K1, x1)) := hS1
    have HC1 : Hid (Calls Tryz.prog 49 #[.pointer (some ⟨D, 0, none⟩), .agg #[.int .i64 2, .string (segS (L.last + 1)), .string ⟨#[]⟩, .string f, .int .i64 0]] w9 fun e w' => e = .returned (errV x1) ∧ x1 ≤ 6 ∧ WSt w0 w' B P D K1 ⟨L.first, L.last + 1, 0⟩) := stepOf (opAppend (L.last + 1) f) HWB.out (opB_mk (by omega) (by omega) (by omega)) (by show (2 : Int) ≤ 4; omega) hS1
    clear hS1
    go_wp2_with fail
    refine HC1.out.mono ?_
    rintro e w2 ⟨rfl, h6, hw2⟩
    have HW2 : Hid (WSt w0 w2 B P D K1 ⟨L.first, L.last + 1, 0⟩) := hw2
    clear hw2 c0 HC1
    by_cases hx : x1 = 0
    · subst hx
      simp only [errV]
      obtain ⟨c0, _, _, _⟩ := HW2.out.wr.cells
      obtain ⟨⟨K2, x2⟩, hS2⟩ : ∃ R, stepD K1 (opSync (L.last + 1)) = R := ⟨_, rfl⟩
      have HS2 : Hid (stepD K1 (opSync (L.last + 1)) = (K2, x2)) := hS2
      have HC2 : Hid (Calls Tryz.prog 49 #[.pointer (some ⟨D, 0, none⟩), .agg #[.int .i64 3, .string (segS (L.last + 1)), .string ⟨#[]⟩, .string ⟨#[]⟩, .int .i64 0]] w2 fun e w' => e = .returned (errV x2) ∧ x2 ≤ 6 ∧ WSt w0 w' B P D K2 ⟨L.first, L.last + 1, 0⟩) := stepOf (opSync (L.last + 1)) HW2.out (opB_mk (by omega) (by omega) (by omega)) (by show (3 : Int) ≤ 4; omega) hS2
      clear hS2 h6
      go_wp2_with fail
      refine HC2.out.mono ?_
      rintro e w3 ⟨rfl, h6, hw3⟩
      have HW3 : Hid (WSt w0 w3 B P D K2 ⟨L.first, L.last + 1, 0⟩) := hw3
      have EA : Hid (appendT K0 ⟨L.first, L.last + 1, 0⟩ f = if x2 ≠ 0 then (K2, ⟨L.first, L.last + 1, 0⟩, x2) else (K2, ⟨L.first, (L.last + 1), 0 + f.size⟩, 0)) := appendT_sync (L := ⟨L.first, L.last + 1, 0⟩) HS1.out rfl HS2.out
      clear hw3 c0 HC2
      by_cases hx : x2 = 0
      · subst hx
        simp only [errV]
        have EB : Hid (addR K L f most = (K2, ⟨L.first, (L.last + 1), 0 + f.size⟩, 0)) := by show _ = _; rw [E1.out, EA.out, if_neg (by simp)]
        have HWF : Hid (WSt w0 (w3.setCell ⟨P, 3, none⟩ (.int .i64 (f.size : Int))) B P D K2 ⟨L.first, (L.last + 1), 0 + f.size⟩) := HW3.out.set 3 _ (by simp)
        obtain ⟨_, _, _, c3⟩ := HW3.out.wr.cells
        have q3 := Blk.free HW3.out.wr 3
        have hwz : IntKind.i64.wrap ((0 : Int) + (f.size : Int)) = (0 : Int) + (f.size : Int) := by rw [IntKind.wrap_i64]; omega
        go_wp2
        go_ret
        rw [EB.out]
        exact ⟨rfl, by omega, HWF.out⟩
      · obtain ⟨t, ht⟩ := errV_iface hx h6
        have EB : Hid (addR K L f most = (K2, ⟨L.first, L.last + 1, 0⟩, x2)) := by show _ = _; rw [E1.out, EA.out, if_pos hx]
        have HT : Hid (errV x2 = .iface 103 (.string t)) := ht
        rw [ht]
        clear ht
        go_wp2
        go_ret
        rw [EB.out]
        exact ⟨by rw [HT.out]; rfl, h6, HW3.out⟩
    · obtain ⟨t, ht⟩ := errV_iface hx h6
      have EB : Hid (addR K L f most = (K1, ⟨L.first, L.last + 1, 0⟩, x1)) := by show _ = _; rw [E1.out, appendT_fail (L := ⟨L.first, L.last + 1, 0⟩) HS1.out hx]
      have HT : Hid (errV x1 = .iface 103 (.string t)) := ht
      rw [ht]
      clear ht
      go_wp2
      go_ret
      rw [EB.out]
      exact ⟨by rw [HT.out]; rfl, h6, HW2.out⟩
  · obtain ⟨t, ht⟩ := errV_iface hx0 h6
    have EB : Hid (addR K L f most = (K0, L, x0)) := by show _ = _; rw [E0.out, if_pos hx0]
    have HT : Hid (errV x0 = .iface 103 (.string t)) := ht
    rw [ht]
    clear ht
    go_wp2
    go_ret
    rw [EB.out]
    exact ⟨by rw [HT.out]; rfl, h6, HW8.out⟩
end Go.Proofs.YtflfopienjjlbaaGreatDoor

namespace Go.Proofs.YtflfopienjjlbaaGreatDoor
open Go.RowKit

def opTrunc (n z : Int) : OpD := ⟨4, segS n, ⟨#[]⟩, ⟨#[]⟩, z⟩
/-- The file of the segment n. -/
def fileAt (fs : List FileD) (n : Int) : FileD := (fs[posOf (segS n) fs]?).getD ⟨ByteArray.empty, ByteArray.empty, 0⟩
theorem pos_seg {fs : List FileD} {i : Nat} {n : Int} (ha : Asc fs) (hi : i < fs.length) (hn : fs[i].name = segS n) : posOf (segS n) fs = i := by
  rw [← hn]
  exact (posOf_is _ ha).uniq (pos_at ha hi)
theorem fileAt_eq {fs : List FileD} {i : Nat} {n : Int} (ha : Asc fs) (hi : i < fs.length) (hn : fs[i].name = segS n) : fileAt fs n = fs[i] := by
  unfold fileAt
  rw [pos_seg ha hi hn, List.getElem?_eq_getElem hi]
  rfl
/-- What is not synced is synced. -/
def syncD (K : DiskD) (n : Int) : DiskD × Nat := if (fileAt K.fs n).synced < ((fileAt K.fs n).data.size : Int) then stepD K (opSync n) else (K, 0)
/-- A torn end is cut off, then synced. -/
def mendD (K : DiskD) (n z : Int) : DiskD × Nat :=
  if z < ((fileAt K.fs n).data.size : Int) then
    (if (stepD K (opTrunc n z)).2 ≠ 0 then stepD K (opTrunc n z) else syncD (stepD K (opTrunc n z)).1 n)
  else syncD K n
def noLog : LogD := ⟨0, 0, 0⟩
/-- What opening answers where there are so many segments, from x to y. -/
def openG (K : DiskD) (x y : Int) (n : Nat) : DiskD × LogD × List ByteArray × Nat :=
  if (n : Int) ≤ y - x then (K, noLog, [], 21)
  else match readR K.fs y ((y - x).toNat + 1) x [] 0 with
    | none => (K, noLog, [], 20)
    | some (all, sz) => if (mendD K y sz).2 ≠ 0 then ((mendD K y sz).1, noLog, [], (mendD K y sz).2) else ((mendD K y sz).1, ⟨x, y, sz⟩, all, 0)
/-- What opening answers. -/
def openD (K : DiskD) : DiskD × LogD × List ByteArray × Nat :=
  if diskB K.fs K.c K.k K.cr K.fl = false then (⟨[], 0, 0, 0, 0, false⟩, noLog, [], 6)
  else if K.dn = true then (K, noLog, [], 1)
  else match numsL K.fs with
    | [] => if (stepD K (opCreate 1)).2 ≠ 0 then ((stepD K (opCreate 1)).1, noLog, [], (stepD K (opCreate 1)).2) else ((stepD K (opCreate 1)).1, ⟨1, 1, 0⟩, [], 0)
    | x :: l => openG K x ((x :: l).getLast (by simp)) (l.length + 1)
/-- What opening answers over these segments. -/
def openN (K : DiskD) : List Int → DiskD × LogD × List ByteArray × Nat
  | [] => if (stepD K (opCreate 1)).2 ≠ 0 then ((stepD K (opCreate 1)).1, noLog, [], (stepD K (opCreate 1)).2) else ((stepD K (opCreate 1)).1, ⟨1, 1, 0⟩, [], 0)
  | x :: l => openG K x ((x :: l).getLast (by simp)) (l.length + 1)
theorem openD_ok {K : DiskD} (hv : diskB K.fs K.c K.k K.cr K.fl = true) (hd : K.dn = false) : openD K = openN K (numsL K.fs) := by
  unfold openD
  rw [if_neg (by rw [hv]; decide), if_neg (by rw [hd]; decide)]
  cases numsL K.fs <;> rfl
theorem openG_gap {K : DiskD} {x y : Int} {n : Nat} (h : (n : Int) ≤ y - x) : openG K x y n = (K, noLog, [], 21) := by unfold openG; rw [if_pos h]
theorem openG_torn {K : DiskD} {x y : Int} {n : Nat} (h : ¬ (n : Int) ≤ y - x) (hr : readR K.fs y ((y - x).toNat + 1) x [] 0 = none) : openG K x y n = (K, noLog, [], 20) := by unfold openG; rw [if_neg h, hr]
theorem openG_read {K KM : DiskD} {x y : Int} {n sz xm : Nat} {all : List ByteArray} (h : ¬ (n : Int) ≤ y - x) (hr : readR K.fs y ((y - x).toNat + 1) x [] 0 = some (all, sz)) (hm : mendD K y sz = (KM, xm)) : openG K x y n = if xm ≠ 0 then (KM, noLog, [], xm) else (KM, ⟨x, y, sz⟩, all, 0) := by unfold openG; rw [if_neg h, hr]; simp only [hm]

/-- A file that was cut keeps its place and its name. -/
theorem trunc_keep {K : DiskD} {i : Nat} {n z : Int} (hv : diskB K.fs K.c K.k K.cr K.fl = true) (ho : opB (opTrunc n z) = true) (ha : Asc K.fs) (hi : i < K.fs.length) (hn : K.fs[i].name = segS n) :
    ∃ h : i < (stepD K (opTrunc n z)).1.fs.length, (stepD K (opTrunc n z)).1.fs[i].name = segS n ∧ (stepD K (opTrunc n z)).1.fs.length = K.fs.length := by
  have hp : posOf (opTrunc n z).name K.fs = i := pos_seg ha hi hn
  have hfs : (stepD K (opTrunc n z)).1.fs = (stepR K.fs K.c K.k K.cr K.fl K.dn (opTrunc n z)).2.1 := by rw [stepD_ok hv ho]
  have hcs : (stepD K (opTrunc n z)).1.fs = K.fs ∨ ∃ d s, (stepD K (opTrunc n z)).1.fs = K.fs.set i ⟨K.fs[i].name, d, s⟩ := by
    rw [hfs]
    unfold stepR
    split
    · show (doR K.fs K.c (opTrunc n z)).2 = _ ∨ _
      unfold doR
      simp only [hp, List.getElem?_eq_getElem hi]
      rw [if_neg (show ¬ (opTrunc n z).kind = 1 from (by decide : ¬ ((4 : Int) = 1)))]
      split
      · exact Or.inl rfl
      · rw [if_neg (show ¬ (opTrunc n z).kind = 2 from (by decide : ¬ ((4 : Int) = 2))), if_neg (show ¬ (opTrunc n z).kind = 3 from (by decide : ¬ ((4 : Int) = 3))), if_pos (show (opTrunc n z).kind = 4 from rfl)]
        split
        · exact Or.inr ⟨_, _, rfl⟩
        · exact Or.inl rfl
    · exact Or.inl rfl
  rcases hcs with h | ⟨d, s, h⟩
  · simp only [h]
    exact ⟨hi, hn, trivial⟩
  · simp only [h]
    refine ⟨by rw [List.length_set]; exact hi, ?_, List.length_set⟩
    rw [List.getElem_set_self]
    exact hn
theorem stepD_code (K : DiskD) (op : OpD) : (stepD K op).2 ≤ 6 := by
  unfold stepD outR
  split
  · exact stepR_code _ _ _ _ _ _ _
  · exact Nat.le_refl _
theorem mendD_code (K : DiskD) (n z : Int) : (mendD K n z).2 ≤ 6 := by
  have hs : ∀ K, (syncD K n).2 ≤ 6 := fun K => by
    unfold syncD
    split
    · exact stepD_code _ _
    · exact Nat.zero_le _
  unfold mendD
  split
  · split
    · exact stepD_code _ _
    · exact hs _
  · exact hs _
/-- What is told of a log that did not open. -/
theorem openD_code (K : DiskD) : ((openD K).2.2.2 ≤ 6 ∨ (openD K).2.2.2 = 20 ∨ (openD K).2.2.2 = 21) ∧ ((openD K).2.2.2 ≠ 0 → (openD K).2.1 = noLog ∧ (openD K).2.2.1 = []) := by
  unfold openD
  split
  · exact ⟨Or.inl (Nat.le_refl _), fun _ => ⟨rfl, rfl⟩⟩
  · split
    · exact ⟨Or.inl (show 1 ≤ 6 by decide), fun _ => ⟨rfl, rfl⟩⟩
    · split
      · split
        · exact ⟨Or.inl (stepD_code _ _), fun _ => ⟨rfl, rfl⟩⟩
        · exact ⟨Or.inl (Nat.zero_le _), fun h => absurd rfl h⟩
      · unfold openG
        split
        · exact ⟨Or.inr (Or.inr rfl), fun _ => ⟨rfl, rfl⟩⟩
        · split
          · exact ⟨Or.inr (Or.inl rfl), fun _ => ⟨rfl, rfl⟩⟩
          · split
            · exact ⟨Or.inl (mendD_code _ _ _), fun _ => ⟨rfl, rfl⟩⟩
            · exact ⟨Or.inl (Nat.zero_le _), fun h => absurd rfl h⟩
theorem nums_mem {fs : List FileD} {n : Int} (h : n ∈ numsL fs) : 1 ≤ n ∧ n ≤ 999999 ∧ ∃ i, ∃ hi : i < fs.length, fs[i].name = segS n := by
  unfold numsL at h
  obtain ⟨f, hf, rfl⟩ := List.mem_map.1 h
  simp only [List.mem_filter, decide_eq_true_eq] at hf
  obtain ⟨hm, hp⟩ := hf
  obtain ⟨e, hlt⟩ := segOf_pos hp
  obtain ⟨i, hi, rfl⟩ := List.getElem_of_mem hm
  refine ⟨by omega, by omega, i, hi, ?_⟩
  rw [segS_is _ (by omega) (by omega)]
  simpa using e
/-- Where the numbers leave none out each of them has its file. -/
theorem nums_at {fs : List FileD} {x : Int} {l : List Int} (ha : Asc fs) (hq : numsL fs = x :: l) (hg : ¬ ((x :: l).length : Int) ≤ (x :: l).getLast (by simp) - x) :
    ∃ cnt : Nat, (x :: l).getLast (by simp) = x + cnt ∧ cnt + 1 = (x :: l).length ∧ 1 ≤ x ∧ x + cnt ≤ 999999 ∧ ∀ j : Nat, j ≤ cnt → ∃ i, ∃ h : i < fs.length, fs[i].name = segS (x + j) := by
  have hu : Up (x :: l) := by rw [← hq]; exact up_nums ha
  have hall := (up_gap hu).2 (by omega)
  have hlast : (x :: l).getLast (by simp) = (x :: l)[(x :: l).length - 1] := List.getLast_eq_getElem _
  have hl := hall ((x :: l).length - 1) (by simp)
  refine ⟨(x :: l).length - 1, by rw [hlast, hl], by simp, ?_, ?_, ?_⟩
  · exact (nums_mem (fs := fs) (n := x) (by rw [hq]; simp)).1
  · have := (nums_mem (fs := fs) (n := (x :: l)[(x :: l).length - 1]) (by rw [hq]; exact List.getElem_mem _)).2.1
    rw [hl] at this
    exact this
  · intro j hj
    have hj' : j < (x :: l).length := by simp at hj ⊢; omega
    have := (nums_mem (fs := fs) (n := (x :: l)[j]) (by rw [hq]; exact List.getElem_mem _)).2.2
    rw [hall j hj'] at this
    exact this
end Go.Proofs.YtflfopienjjlbaaGreatDoor

namespace Go.Proofs.YtflfopienjjlbaaGreatDoor
open Go.RowKit

set_option maxRecDepth 100000 in
set_option maxHeartbeats 2000000 in
theorem markFileS_any (a : Option Addr) (cap : Nat) (fs : List FileD) (k B : Nat) (w : World) (hk : 0 < k) (hk2 : k + 3 * fs.length ≤ 100000000) (hf : Owned w B a fs) :
    Calls Tryz.prog 39 #[.slice a fs.length cap, .int .i64 (k : Int)] w fun e w' => e = .returned (.int .i64 ((k + 3 * fs.length : Nat) : Int)) ∧ Marked w w' B a fs.length ∧ Owned w' B a (markL k fs.length) := by
  have hf2 : Owned w B a fs ∧ (fs = [] ∨ 0 < fs.length) := ⟨hf, by rcases fs with _ | ⟨f, r⟩ <;> simp⟩
  have hf3 : fs = [] ∨ (0 < fs.length ∧ ∃ g o cur t, a = some ⟨g, o, none⟩ ∧ B ≤ g ∧ w.heap[g]? = some (.cells cur t (0, 0)) ∧ FilesAt w g o fs) := by
    rcases hf2.2 with h | h
    · exact Or.inl h
    · rcases hf2.1 with h' | h'
      · exact Or.inl h'
      · exact Or.inr ⟨h, h'⟩
  clear hf hf2
  rcases hf3 with rfl | ⟨hpos, g, o, cur, t, rfl, hB, hg, hfs⟩
  · go_enter Tryz.func39, Tryz.ntmps39
    go_wp2
    go_loopw [1, 5] (fun l i wr => l = .int .i64 (k : Int) ∧ i = .int .i64 0 ∧ wr = w) (fun _ i _ => 0)
    case atStart => exact ⟨rfl, rfl, rfl⟩
    case round =>
      obtain ⟨rfl, rfl, rfl⟩ := hrel
      go_wp2
      go_ret
      exact ⟨rfl, Or.inl ⟨rfl, Below.refl _ _⟩, Or.inl rfl⟩
  have hrow : ∀ j (hj : j < fs.length), RowFile cur o j fs[j] := rows_of_filesAt hg hfs
  have hsz := rows_size hrow
  have HG : Hid (Blk w g cur t) := hg
  clear hrow hg hfs
  generalize hn : fs.length = n at *
  have hsz2 : n = 0 ∨ o + n * 3 ≤ cur.size := by
    rcases hsz with h | h
    · left; rw [← hn, h]; rfl
    · exact Or.inr h
  clear hsz hn
  go_enter Tryz.func39, Tryz.ntmps39
  go_wp2
  go_loopw [1, 5] (fun l i wr => ∃ (j : Nat) (c : Array Value), j ≤ n ∧ i = .int .i64 j ∧ l = .int .i64 ((k + 3 * j : Nat) : Int) ∧ Blk wr g c t ∧ c.size = cur.size ∧ (∀ m, m < j → RowFile c o m (markF k m)) ∧ But g w wr) (fun _ i _ => n - (intOf i).toNat)
  case atStart => exact ⟨0, cur, Nat.zero_le _, rfl, rfl, HG.out, rfl, fun m h => absurd h (by omega), But.refl _ _⟩
  case round =>
    obtain ⟨j, c, hj, rfl, rfl, hblk, hcs, hrows, hbut⟩ := hrel
    have HBLK : Hid (Blk wr g c t) := hblk
    have HROWS : Hid (∀ m, m < j → RowFile c o m (markF k m)) := hrows
    have HCS : Hid (c.size = cur.size) := hcs
    clear hblk hrows
    by_cases hlt : j < n
    · have hbd : o + j * 3 + 2 < c.size := by rcases hsz2 with h | h <;> omega
      clear hcs hsz2
      go_wp2_with fail
      refine (markText_int _ (k + 3 * j) (by omega) _ (by omega) (by omega)).mono ?_
      rintro e w1 ⟨rfl, hb1⟩
      have hB1 := HBLK.out.later hb1
      obtain ⟨v0, d0⟩ := hB1.there (j := o + j * 3) (by omega)
      have f0 := hB1.free (o + j * 3)
      have HB1 : Hid (Blk w1 g c t) := hB1
      clear hB1
      go_wp2_with fail
      refine (markText_int _ (k + 3 * j + 1) (by omega) _ (by omega) (by omega)).mono ?_
      rintro e w2 ⟨rfl, hb2⟩
      have hB2 := (HB1.out.set (o + j * 3) (.string (mt (k + 3 * j)))).later hb2
      obtain ⟨v1, d1⟩ := hB2.there (j := o + j * 3 + 1) (by simp; omega)
      have f1 := hB2.free (o + j * 3 + 1)
      obtain ⟨v2, d2⟩ := hB2.there (j := o + j * 3 + 2) (by simp; omega)
      have f2 := hB2.free (o + j * 3 + 2)
      have HB2 : Hid (Blk w2 g (c.setIfInBounds (o + j * 3) (.string (mt (k + 3 * j)))) t) := hB2
      have HBUT : Hid (But g w w2) := ((hbut.trans (But.of hb1)).setCell _ _).trans (But.of hb2)
      clear hB2 d0 f0 hb1 hb2 hbut
      go_wp2
      refine ⟨⟨j + 1, _, by omega, by go_num, by go_num, (HB2.out.set (o + j * 3 + 1) (.string (mt (k + 3 * j + 1)))).set (o + j * 3 + 2) (.int .i64 ((k + 3 * j + 2 : Nat) : Int)), by simp [HCS.out], ?_, (HBUT.out.setCell _ _).setCell _ _⟩, by simp [intOf]; omega⟩
      intro m hm
      by_cases e : m = j
      · subst e
        exact RowFile.made c o m (markF k m) hbd
      · exact (((HROWS.out m (by omega)).set (by omega) _).set (by omega) _).set (by omega) _
    · go_wp2
      go_ret
      have e : j = n := by omega
      subst e
      refine ⟨ret_int (by omega), Or.inr ⟨hpos, g, o, rfl, hB, hbut⟩, Or.inr ⟨g, o, c, t, rfl, hB, HBLK.out, filesAt_of_rows HBLK.out ?_⟩⟩
      intro m hm
      rw [markL_get]
      exact HROWS.out m (by rw [markL_length] at hm; exact hm)
end Go.Proofs.YtflfopienjjlbaaGreatDoor

namespace Go.Proofs.YtflfopienjjlbaaGreatDoor
open Go.RowKit

theorem Marked.from {w w1 w' : World} {B n : Nat} {a : Option Addr} (hb : Below w.heap.size w w1) (h : Marked w1 w' B a n) : Marked w w' B a n := by
  rcases h with ⟨h0, h⟩ | ⟨hp, g, o, e, hB, h⟩
  · exact Or.inl ⟨h0, bto hb h⟩
  · exact Or.inr ⟨hp, g, o, e, hB, (But.of hb).trans h⟩

set_option maxHeartbeats 1000000 in
theorem markDisk_any (a : Option Addr) (cap : Nat) (fs : List FileD) (c k0 cr fl : Int) (dn : Bool) (k B : Nat) (w : World) (hk : 0 < k) (hk2 : k + 3 * fs.length ≤ 100000000) (hf : Owned w B a fs) :
    Calls Tryz.prog 12 #[.agg #[.slice a fs.length cap, .int .i64 c, .int .i64 k0, .int .i64 cr, .int .i64 fl, .bool dn], .int .i64 (k : Int)] w fun e w' =>
      e = .returned (.int .i64 ((k + 3 * fs.length : Nat) : Int)) ∧ Marked w w' B a fs.length ∧ Owned w' B a (markL k fs.length) := by
  have HF : Hid (Owned w B a fs) := hf
  clear hf
  go_enter Tryz.func12, Tryz.ntmps12
  go_wp2_with fail
  refine (markFileS_any a cap fs k B _ hk hk2 (HF.out.later (bnew _ _))).mono ?_
  rintro e w1 ⟨rfl, hm, ho⟩
  have HM : Hid (Marked w w1 B a fs.length ∧ Owned w1 B a (markL k fs.length)) := ⟨hm.from (bnew _ _), ho⟩
  clear hm ho
  go_wp2
  go_ret
  exact ⟨rfl, HM.out.1, HM.out.2⟩

set_option maxRecDepth 100000 in
set_option maxHeartbeats 2000000 in
theorem heldFileS_any (a : Option Addr) (cap : Nat) (k n : Nat) (w : World) (hk : 0 < k) (hk2 : k + 3 * n ≤ 100000000) (hf : FilesIn w a (markL k n)) :
    Calls Tryz.prog 41 #[.slice a n cap, .int .i64 (k : Int)] w fun e w' => e = .returned (.int .i64 ((k + 3 * n : Nat) : Int)) ∧ Below w.heap.size w w' := by
  have HF : Hid (FilesIn w a (markL k n)) := hf
  clear hf
  go_enter Tryz.func41, Tryz.ntmps41
  go_wp2
  go_loopw [1, 5] (fun l i wr => ∃ j : Nat, j ≤ n ∧ i = .int .i64 j ∧ l = .int .i64 ((k + 3 * j : Nat) : Int) ∧ Below w.heap.size w wr) (fun _ i _ => n - (intOf i).toNat)
  case atStart => exact ⟨0, Nat.zero_le _, rfl, rfl, Below.refl _ _⟩
  case round =>
    obtain ⟨j, hj, rfl, rfl, hbel⟩ := hrel
    by_cases hlt : j < n
    · obtain ⟨b, o, rfl, hb, c0, c1, c2⟩ := (HF.out.later hbel).at (i := j) (by rw [markL_length]; exact hlt)
      rw [markL_get] at c0 c1 c2
      simp only [markF] at c0 c1 c2
      have d0 := Later.cells c0
      have hne := Later.there wr
      have HC : Hid (wr.cell? ⟨b, o + j * 3 + 1, none⟩ = some (.string (mt (k + 3 * j + 1))) ∧ wr.cell? ⟨b, o + j * 3 + 2, none⟩ = some (.int .i64 ((k + 3 * j + 2 : Nat) : Int))) := ⟨c1, c2⟩
      clear c0 c1 c2
      go_wp2_with fail
      refine wp_region_later (by kernel_rfl) (by kernel_rfl) ?_
      repeat (go_big_quiet_step (first | (go_at_call 40; exact calls_later (markText_int _ (k + 3 * j) (by omega) _ (by omega) (by omega)))))
      refine wpQuiet_nil ?_
      rintro _ ⟨x, rfl⟩
      have d1 := Later.cells (x.cell HC.out.1)
      have d2 : ∀ y : Later x.w', y.w'.cell? ⟨b, o + j * 3 + 2, none⟩ = some (.int .i64 ((k : Int) + 3 * (j : Int) + 2)) := fun y => by rw [y.cell (x.cell HC.out.2)]; simp
      have hne2 := Later.there x.w'
      have HX : Hid (Below w.heap.size w x.w') := bto hbel x.h
      clear d0 hne HC hbel
      generalize x.w' = W at *
      clear x
      go_wp2_with fail
      refine wp_region_later (by kernel_rfl) (by kernel_rfl) ?_
      repeat (go_big_quiet_step (first | (go_at_call 40; exact calls_later (markText_int _ (k + 3 * j + 1) (by omega) _ (by omega) (by omega)))))
      refine wpQuiet_nil ?_
      rintro _ ⟨y, rfl⟩
      have e2 := d2 y
      have HY : Hid (Below w.heap.size w y.w') := bto HX.out y.h
      clear d1 d2 hne2
      generalize y.w' = W2 at *
      clear y
      go_wp2
      exact ⟨⟨j + 1, by omega, by go_num, by go_num, HY.out⟩, by simp [intOf]; omega⟩
    · go_wp2
      go_ret
      have e : j = n := by omega
      subst e
      exact ⟨ret_int (by omega), hbel⟩

set_option maxHeartbeats 1000000 in
theorem heldDisk_any (a : Option Addr) (cap : Nat) (c k0 cr fl : Int) (dn : Bool) (k n : Nat) (w : World) (hk : 0 < k) (hk2 : k + 3 * n ≤ 100000000) (hf : FilesIn w a (markL k n)) :
    Calls Tryz.prog 14 #[.agg #[.slice a n cap, .int .i64 c, .int .i64 k0, .int .i64 cr, .int .i64 fl, .bool dn], .int .i64 (k : Int)] w fun e w' =>
      e = .returned (.int .i64 ((k + 3 * n : Nat) : Int)) ∧ Below w.heap.size w w' := by
  have HF : Hid (FilesIn w a (markL k n)) := hf
  clear hf
  go_enter Tryz.func14, Tryz.ntmps14
  go_wp2_with fail
  refine (heldFileS_any a cap k n _ hk hk2 (HF.out.later (bnew _ _))).mono ?_
  rintro e w1 ⟨rfl, hb⟩
  have HB : Hid (Below w.heap.size w w1) := bto (bnew _ _) hb
  clear hb
  go_wp2
  go_ret
  exact ⟨ret_int (by omega), HB.out⟩
end Go.Proofs.YtflfopienjjlbaaGreatDoor

