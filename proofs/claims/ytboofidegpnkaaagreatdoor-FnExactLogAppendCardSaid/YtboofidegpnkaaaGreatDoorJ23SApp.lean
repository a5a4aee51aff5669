import Derived.Test.YtboofidegpnkaaaGreatDoorProg
import Derived.Test.YtboofidegpnkaaaGreatDoorJ22SFrame
import Derived.Deep.RegionHeld3
import Derived.Deep.DeepCutAuto
namespace Go.Proofs.YtboofidegpnkaaaGreatDoor
open Go.RowKit
theorem FilesIn.set1 {w : World} {a : Option Addr} {fs : List FileD} {p : Addr} (h : FilesIn w a fs) (ha : Apart a fs p.block) (v : Value) : FilesIn (w.setCell p v) a fs := by
  rcases ha with hn | ⟨b, o, rfl, hne⟩
  · exact Or.inl hn
  · exact h.setCell (Ne.symm hne) v
theorem FilesIn.drew {w : World} {a : Option Addr} {fs : List FileD} (h : FilesIn w a fs) : FilesIn w.drew a fs := h.later (Below.refl _ _).drew
theorem logOK_is {L : LogD} {b : Bool} (h : logB L = b) (w : World) : Calls Tryz.prog 15 #[.agg #[.int .i64 L.first, .int .i64 L.last, .int .i64 L.size]] w fun e w' => e = .returned (.bool b) ∧ Below w.heap.size w w' := h ▸ specLogOK_any L w
def appV (R : DiskD × LogD × Nat) (a : Option Addr) (cap : Nat) : Value :=
  .tuple #[.agg #[.slice a R.1.fs.length cap, .int .i64 R.1.c, .int .i64 R.1.k, .int .i64 R.1.cr, .int .i64 R.1.fl, .bool R.1.dn], .agg #[.int .i64 R.2.1.first, .int .i64 R.2.1.last, .int .i64 R.2.1.size], .int .i64 R.2.2]
set_option maxRecDepth 100000 in
set_option maxHeartbeats 4000000 in
theorem specApp_any (a : Option Addr) (cap : Nat) (fs : List FileD) (c k cr fl : Int) (dn : Bool) (lf ll ls : Int) (p : ByteArray) (most : Int) (w : World) (hf : FilesIn w a fs) (hfit : Fit fs) (hp : p.size ≤ 1048576) :
    Calls Tryz.prog 5 #[.agg #[.slice a fs.length cap, .int .i64 c, .int .i64 k, .int .i64 cr, .int .i64 fl, .bool dn], .agg #[.int .i64 lf, .int .i64 ll, .int .i64 ls], .string p, .int .i64 most] w fun e w' =>
      ∃ a' cap', e = .returned (appV (appendD ⟨fs, c, k, cr, fl, dn⟩ ⟨lf, ll, ls⟩ p most) a' cap') ∧ FilesIn w' a' (appendD ⟨fs, c, k, cr, fl, dn⟩ ⟨lf, ll, ls⟩ p most).1.fs ∧ Below w.heap.size w w' := by
  have HF : Hid (FilesIn w a fs) := hf
  have HFIT : Hid (Fit fs) := hfit
  have HP : Hid (p.size ≤ maxLen) := by show _ ≤ _; unfold maxLen; omega
  have hlen := hfit.len
  clear hf hfit
  go_enter Tryz.func5, Tryz.ntmps5
  go_wp2_with fail
  refine (specFrame_any p _ HP.out).mono ?_
  rintro e w1 ⟨rfl, hb1⟩
  obtain ⟨hD, hL, hRD, hRL, hbel⟩ := fourBoxes hb1
  obtain ⟨a1, cap1, W2, hrun, hfi, hb2, hap⟩ := copy_run w1 a cap fs (HF.out.later hbel) hlen
  have HRUN : Hid ((Builtin.append_ #[28, 28] 28 #[.slice (some ⟨w1.heap.size, 0, none⟩) 0 0, .slice a fs.length cap]).run Tryz.prog (w1.alloc (.cells #[] 71)) = .ok (.slice a1 fs.length cap1) W2) := hrun
  have hD2 := hD.later hb2
  have H2 : Hid (FilesIn W2 a1 fs ∧ Blk W2 w.heap.size #[.slice a fs.length cap, .int .i64 c, .int .i64 k, .int .i64 cr, .int .i64 fl, .bool dn] 30 ∧ Blk W2 (w.heap.size + 1) #[.int .i64 lf, .int .i64 ll, .int .i64 ls] 31 ∧ Blk W2 (w.heap.size + 1 + 1) #[.slice none 0 0, .int .i64 0, .int .i64 0, .int .i64 0, .int .i64 0, .bool false] 30 ∧ Blk W2 (w.heap.size + 1 + 1 + 1) #[.int .i64 0, .int .i64 0, .int .i64 0] 31 ∧ Below w.heap.size w W2) := ⟨hfi, hD2, hL.later hb2, hRD.later hb2, hRL.later hb2, bto hbel hb2⟩
  have d0 := hD2.cell 0
  simp only [List.getElem?_toArray, List.getElem?_cons_zero] at d0
  have y0 := hD2.free 0
  have x0 := hD.cell 0
  simp only [List.getElem?_toArray, List.getElem?_cons_zero] at x0
  have hlt : w.heap.size + 1 + 1 + 1 < w1.heap.size := lt_of_block hRL
  have hn2 : ¬ w.heap.size = w1.heap.size := by omega
  have hn3 : w.heap.size < w1.heap.size := by omega
  clear hb1 hD hL hRD hRL hbel hrun hfi hb2 hap hD2
  have HSZ : Hid ((frameS p).size ≤ 60008) := by
    show _ ≤ _
    unfold frameS
    split
    · rw [ByteArray.size_append, ByteArray.size_append, numS_size, numS_size]; omega
    · simp
  have HFR : Hid (frameS p = frameS p) := rfl
  generalize hFr : frameS p = F at *
  have HFR2 : Hid (frameS p = F) := hFr
  clear HFR hFr
  go_upto_region 2 with fail
  go_cut [11] (fun s11 wx => s11 = .string F ∧ ∃ a1 cap1, Blk wx w.heap.size #[.slice a1 fs.length cap1, .int .i64 c, .int .i64 k, .int .i64 cr, .int .i64 fl, .bool dn] 30 ∧ Blk wx (w.heap.size + 1) #[.int .i64 lf, .int .i64 ll, .int .i64 ls] 31 ∧ Blk wx (w.heap.size + 1 + 1) #[.slice none 0 0, .int .i64 0, .int .i64 0, .int .i64 0, .int .i64 0, .bool false] 30 ∧ Blk wx (w.heap.size + 1 + 1 + 1) #[.int .i64 0, .int .i64 0, .int .i64 0] 31 ∧ FilesIn wx a1 fs ∧ Below w.heap.size w wx)
  case first =>
    go_wp2_with (at_builtin; refine Lib.wpList_append_run _ rfl _ _ _ _ rfl _ _ rfl rfl _ _ HRUN.out ?_)
    go_meet
    have hbut : But w.heap.size W2 (W2.setCell ⟨w.heap.size, 0, none⟩ (.slice a1 fs.length cap1)) := (But.refl _ _).setCell 0 _
    have h0 := H2.out.2.1.set 0 (.slice a1 fs.length cap1)
    refine ⟨rfl, a1, cap1, by simpa using h0, H2.out.2.2.1.but hbut (by omega), H2.out.2.2.2.1.but hbut (by omega), H2.out.2.2.2.2.1.but hbut (by omega), H2.out.1.apart (apart_disk H2.out.1 H2.out.2.1) hbut, H2.out.2.2.2.2.2.setCell (Nat.le_refl _) _⟩
  obtain ⟨rfl, a1, cap1, hD, hL, hRD, hRL, hfi, hbel⟩ := hcut
  rename World => w2
  have D2 : Hid (Blk w2 w.heap.size #[.slice a1 fs.length cap1, .int .i64 c, .int .i64 k, .int .i64 cr, .int .i64 fl, .bool dn] 30) := hD
  have L2 : Hid (Blk w2 (w.heap.size + 1) #[.int .i64 lf, .int .i64 ll, .int .i64 ls] 31) := hL
  have RD2 : Hid (Blk w2 (w.heap.size + 1 + 1) #[.slice none 0 0, .int .i64 0, .int .i64 0, .int .i64 0, .int .i64 0, .bool false] 30) := hRD
  have RL2 : Hid (Blk w2 (w.heap.size + 1 + 1 + 1) #[.int .i64 0, .int .i64 0, .int .i64 0] 31) := hRL
  have F2 : Hid (FilesIn w2 a1 fs) := hfi
  have B2 : Hid (Below w.heap.size w w2) := hbel
  clear hD hL hRD hRL hfi hbel H2 HRUN d0 y0 x0 hlt hn2 hn3
  obtain ⟨l0, l1, l2⟩ := L2.out.three
  cases hlb : logB ⟨lf, ll, ls⟩ with
  | false =>
    have HLB : Hid (logB ⟨lf, ll, ls⟩ = false) := hlb
    have E : Hid ((appendD ⟨fs, c, k, cr, fl, dn⟩ ⟨lf, ll, ls⟩ p most) = (⟨fs, c, k, cr, fl, dn⟩, ⟨lf, ll, ls⟩, 21)) := by show _ = _; unfold appendD; rw [if_pos (by rw [hlb]; rfl)]
    clear hlb
    go_wp2_with fail
    refine (logOK_is (L := ⟨lf, ll, ls⟩) HLB.out _).mono ?_
    rintro e w3 ⟨rfl, hb3⟩
    have D3 : Hid (Blk w3 w.heap.size #[.slice a1 fs.length cap1, .int .i64 c, .int .i64 k, .int .i64 cr, .int .i64 fl, .bool dn] 30) := D2.out.later hb3
    have L3 : Hid (Blk w3 (w.heap.size + 1) #[.int .i64 lf, .int .i64 ll, .int .i64 ls] 31) := L2.out.later hb3
    have RD3 : Hid (Blk w3 (w.heap.size + 1 + 1) #[.slice none 0 0, .int .i64 0, .int .i64 0, .int .i64 0, .int .i64 0, .bool false] 30) := RD2.out.later hb3
    have RL3 : Hid (Blk w3 (w.heap.size + 1 + 1 + 1) #[.int .i64 0, .int .i64 0, .int .i64 0] 31) := RL2.out.later hb3
    have F3 : Hid (FilesIn w3 a1 fs) := F2.out.later hb3
    have B3 : Hid (Below w.heap.size w w3) := bto B2.out hb3
    clear D2 L2 RD2 RL2 F2 B2
    clear hb3 l0 l1 l2
    obtain ⟨d0, d1, d2, d3, d4, d5⟩ := D3.out.six
    obtain ⟨l0, l1, l2⟩ := L3.out.three
    obtain ⟨r0, r1, r2, r3, r4, r5⟩ := RD3.out.six
    have q0 := RD3.out.free 0
    have q1 := RD3.out.free 1
    have q2 := RD3.out.free 2
    have q3 := RD3.out.free 3
    have q4 := RD3.out.free 4
    have q5 := RD3.out.free 5
    obtain ⟨s0, s1, s2⟩ := RL3.out.three
    have t0 := RL3.out.free 0
    have t1 := RL3.out.free 1
    have t2 := RL3.out.free 2
    have hlt : w.heap.size + 1 + 1 + 1 < w3.heap.size := lt_of_block RL3.out
    go_wp2_with fail
    go_region
    go_wp2
    refine bodyPost_ret (v := .tuple #[.agg #[.slice a1 fs.length cap1, .int .i64 c, .int .i64 k, .int .i64 cr, .int .i64 fl, .bool dn], .agg #[.int .i64 lf, .int .i64 ll, .int .i64 ls], .int .i64 21]) (by simp [results, Tryz.results5, go_sem, r0, r1, r2, r3, r4, r5, s0, s1, s2]) rfl ?_
    rw [E.out]
    refine ⟨a1, cap1, rfl, ?_, ?_⟩
    · have h := F3.out
      repeat (first | with_reducible refine FilesIn.drew ?_ | with_reducible refine FilesIn.set1 ?_ (by first | exact apart_disk F3.out RD3.out | exact apart_log F3.out RL3.out) _)
      exact h
    · have h := B3.out
      repeat (first | with_reducible refine Below.drew ?_ | with_reducible refine Below.setCell ?_ (by first | (simp; done) | (simp; omega)) _)
      exact h
  | true =>
    have HLB : Hid (logB ⟨lf, ll, ls⟩ = true) := hlb
    have hlb2 := hlb
    simp only [logB, btwB, Bool.and_eq_true, decide_eq_true_eq] at hlb2
    obtain ⟨⟨⟨hl1, hl2⟩, _⟩, hl3, hl4⟩ := hlb2
    go_wp2_with fail
    refine (logOK_is (L := ⟨lf, ll, ls⟩) HLB.out _).mono ?_
    rintro e w3 ⟨rfl, hb3⟩
    have D3 : Hid (Blk w3 w.heap.size #[.slice a1 fs.length cap1, .int .i64 c, .int .i64 k, .int .i64 cr, .int .i64 fl, .bool dn] 30) := D2.out.later hb3
    have L3 : Hid (Blk w3 (w.heap.size + 1) #[.int .i64 lf, .int .i64 ll, .int .i64 ls] 31) := L2.out.later hb3
    have RD3 : Hid (Blk w3 (w.heap.size + 1 + 1) #[.slice none 0 0, .int .i64 0, .int .i64 0, .int .i64 0, .int .i64 0, .bool false] 30) := RD2.out.later hb3
    have RL3 : Hid (Blk w3 (w.heap.size + 1 + 1 + 1) #[.int .i64 0, .int .i64 0, .int .i64 0] 31) := RL2.out.later hb3
    have F3 : Hid (FilesIn w3 a1 fs) := F2.out.later hb3
    have B3 : Hid (Below w.heap.size w w3) := bto B2.out hb3
    clear D2 L2 RD2 RL2 F2 B2
    clear hb3 l0 l1 l2
    cases hmb : btwB most 1 1000000000 with
    | false =>
      have HMB : Hid (btwB most 1 1000000000 = false) := hmb
      have E : Hid ((appendD ⟨fs, c, k, cr, fl, dn⟩ ⟨lf, ll, ls⟩ p most) = (⟨fs, c, k, cr, fl, dn⟩, ⟨lf, ll, ls⟩, 21)) := by show _ = _; unfold appendD; rw [if_pos (by rw [hmb]; simp)]
      clear hmb hlb
      go_wp2_with fail
      refine (btw_is HMB.out _).mono ?_
      rintro e w' ⟨rfl, hw⟩
      replace hw := hw.symm
      subst hw
      obtain ⟨d0, d1, d2, d3, d4, d5⟩ := D3.out.six
      obtain ⟨l0, l1, l2⟩ := L3.out.three
      obtain ⟨r0, r1, r2, r3, r4, r5⟩ := RD3.out.six
      have q0 := RD3.out.free 0
      have q1 := RD3.out.free 1
      have q2 := RD3.out.free 2
      have q3 := RD3.out.free 3
      have q4 := RD3.out.free 4
      have q5 := RD3.out.free 5
      obtain ⟨s0, s1, s2⟩ := RL3.out.three
      have t0 := RL3.out.free 0
      have t1 := RL3.out.free 1
      have t2 := RL3.out.free 2
      have hlt : w.heap.size + 1 + 1 + 1 < w3.heap.size := lt_of_block RL3.out
      go_wp2_with fail
      go_region
      go_wp2
      refine bodyPost_ret (v := .tuple #[.agg #[.slice a1 fs.length cap1, .int .i64 c, .int .i64 k, .int .i64 cr, .int .i64 fl, .bool dn], .agg #[.int .i64 lf, .int .i64 ll, .int .i64 ls], .int .i64 21]) (by simp [results, Tryz.results5, go_sem, r0, r1, r2, r3, r4, r5, s0, s1, s2]) rfl ?_
      rw [E.out]
      refine ⟨a1, cap1, rfl, ?_, ?_⟩
      · have h := F3.out
        repeat (first | with_reducible refine FilesIn.drew ?_ | with_reducible refine FilesIn.set1 ?_ (by first | exact apart_disk F3.out RD3.out | exact apart_log F3.out RL3.out) _)
        exact h
      · have h := B3.out
        repeat (first | with_reducible refine Below.drew ?_ | with_reducible refine Below.setCell ?_ (by first | (simp; done) | (simp; omega)) _)
        exact h
    | true =>
      have HMB : Hid (btwB most 1 1000000000 = true) := hmb
      have HC1 : Hid (¬ (logB ⟨lf, ll, ls⟩ && btwB most 1 1000000000) = false) := by show ¬ _; rw [hlb, hmb]; simp
      simp only [btwB, Bool.and_eq_true, decide_eq_true_eq] at hmb
      obtain ⟨hm1, hm2⟩ := hmb
      clear hlb
      go_wp2_with fail
      refine (btw_is HMB.out _).mono ?_
      rintro e w' ⟨rfl, hw⟩
      replace hw := hw.symm
      subst hw
      by_cases hE : F = ByteArray.empty
      · have E : Hid ((appendD ⟨fs, c, k, cr, fl, dn⟩ ⟨lf, ll, ls⟩ p most) = (⟨fs, c, k, cr, fl, dn⟩, ⟨lf, ll, ls⟩, 22)) := by show _ = _; unfold appendD; rw [if_neg HC1.out, if_pos (by rw [HFR2.out]; exact hE)]
        have hEb : F.toList.isEmpty = true := str_nil.2 hE
        clear hE
        obtain ⟨d0, d1, d2, d3, d4, d5⟩ := D3.out.six
        obtain ⟨l0, l1, l2⟩ := L3.out.three
        obtain ⟨r0, r1, r2, r3, r4, r5⟩ := RD3.out.six
        have q0 := RD3.out.free 0
        have q1 := RD3.out.free 1
        have q2 := RD3.out.free 2
        have q3 := RD3.out.free 3
        have q4 := RD3.out.free 4
        have q5 := RD3.out.free 5
        obtain ⟨s0, s1, s2⟩ := RL3.out.three
        have t0 := RL3.out.free 0
        have t1 := RL3.out.free 1
        have t2 := RL3.out.free 2
        have hlt : w.heap.size + 1 + 1 + 1 < w3.heap.size := lt_of_block RL3.out
        go_wp2_with fail
        go_region
        go_wp2
        refine bodyPost_ret (v := .tuple #[.agg #[.slice a1 fs.length cap1, .int .i64 c, .int .i64 k, .int .i64 cr, .int .i64 fl, .bool dn], .agg #[.int .i64 lf, .int .i64 ll, .int .i64 ls], .int .i64 22]) (by simp [results, Tryz.results5, go_sem, r0, r1, r2, r3, r4, r5, s0, s1, s2]) rfl ?_
        rw [E.out]
        refine ⟨a1, cap1, rfl, ?_, ?_⟩
        · have h := F3.out
          repeat (first | with_reducible refine FilesIn.drew ?_ | with_reducible refine FilesIn.set1 ?_ (by first | exact apart_disk F3.out RD3.out | exact apart_log F3.out RL3.out) _)
          exact h
        · have h := B3.out
          repeat (first | with_reducible refine Below.drew ?_ | with_reducible refine Below.setCell ?_ (by first | (simp; done) | (simp; omega)) _)
          exact h
      · have HNE : Hid (¬ frameS p = ByteArray.empty) := by show ¬ _; rw [HFR2.out]; exact hE
        have hEb : F.toList.isEmpty = false := str_some.2 hE
        have hFs : F.size ≤ 60008 := HSZ.out
        clear hE
        obtain ⟨l0, l1, l2⟩ := L3.out.three
        go_upto_region 7 with fail
        go_cut [48] (fun s48 wx => s48 = .bool (decide (ls ≠ 0 ∧ most < ls + F.size)) ∧ wx = w3)
        case first =>
          by_cases h0 : ls = 0
          · have HD : Hid (decide (ls ≠ 0 ∧ most < ls + F.size) = false) := by show _ = _; simp [h0]
            have h0b : (ls == 0) = true := by simpa using h0
            have h0c : (ls != 0) = false := by simpa using h0
            go_wp2
            go_meet
            exact ⟨by rw [HD.out], rfl⟩
          · have h0c : (ls != 0) = true := by simpa using h0
            by_cases hm : most < ls + F.size
            · have HD : Hid (decide (ls ≠ 0 ∧ most < ls + F.size) = true) := by show _ = _; simp [h0, hm]
              go_wp2
              go_meet
              exact ⟨by rw [HD.out], rfl⟩
            · have HD : Hid (decide (ls ≠ 0 ∧ most < ls + F.size) = false) := by show _ = _; simp [h0, hm]
              go_wp2
              go_meet
              exact ⟨by rw [HD.out], rfl⟩
        obtain ⟨rfl, hw⟩ := hcut
        subst hw
        rename World => w3
        clear l0 l1 l2
        go_upto_if 48 with fail
        go_cut [12, 13] (fun _ _ wx => ∃ (fs9 : List FileD) (c9 k9 cr9 fl9 : Int) (dn9 : Bool) (ll9 ls9 : Int) (a9 : Option Addr) (cap9 : Nat), (Blk wx w.heap.size #[.slice a9 fs9.length cap9, .int .i64 c9, .int .i64 k9, .int .i64 cr9, .int .i64 fl9, .bool dn9] 30 ∧ Blk wx (w.heap.size + 1) #[.int .i64 lf, .int .i64 ll9, .int .i64 ls9] 31 ∧ Blk wx (w.heap.size + 1 + 1) #[.slice none 0 0, .int .i64 0, .int .i64 0, .int .i64 0, .int .i64 0, .bool false] 30 ∧ Blk wx (w.heap.size + 1 + 1 + 1) #[.int .i64 0, .int .i64 0, .int .i64 0] 31 ∧ FilesIn wx a9 fs9 ∧ Below w.heap.size w wx) ∧ Fit fs9 ∧ 1 ≤ ll9 ∧ ll9 ≤ 999999 ∧ 0 ≤ ls9 ∧ ls9 ≤ 1000000000 ∧ Hid ((appendD ⟨fs, c, k, cr, fl, dn⟩ ⟨lf, ll, ls⟩ p most) = appendT ⟨fs9, c9, k9, cr9, fl9, dn9⟩ ⟨lf, ll9, ls9⟩ F))
        case first =>
          by_cases hb : ls ≠ 0 ∧ most < ls + F.size
          · have HBT : Hid (ls ≠ 0 ∧ most < ls + F.size) := hb
            have hbt : decide (ls ≠ 0 ∧ most < ls + F.size) = true := decide_eq_true hb
            rw [hbt]
            clear hb hbt
            obtain ⟨l0, l1, l2⟩ := L3.out.three
            by_cases hend : ll = 999999
            · have E : Hid ((appendD ⟨fs, c, k, cr, fl, dn⟩ ⟨lf, ll, ls⟩ p most) = (⟨fs, c, k, cr, fl, dn⟩, ⟨lf, ll, ls⟩, 23)) := by show _ = _; unfold appendD; rw [if_neg HC1.out, if_neg HNE.out, if_pos (by rw [HFR2.out]; exact HBT.out), if_pos hend]
              have hendb : (ll == 999999) = true := by simpa using hend
              clear hend l0 l1 l2
              obtain ⟨d0, d1, d2, d3, d4, d5⟩ := D3.out.six
              obtain ⟨l0, l1, l2⟩ := L3.out.three
              obtain ⟨r0, r1, r2, r3, r4, r5⟩ := RD3.out.six
              have q0 := RD3.out.free 0
              have q1 := RD3.out.free 1
              have q2 := RD3.out.free 2
              have q3 := RD3.out.free 3
              have q4 := RD3.out.free 4
              have q5 := RD3.out.free 5
              obtain ⟨s0, s1, s2⟩ := RL3.out.three
              have t0 := RL3.out.free 0
              have t1 := RL3.out.free 1
              have t2 := RL3.out.free 2
              have hlt : w.heap.size + 1 + 1 + 1 < w3.heap.size := lt_of_block RL3.out
              go_wp2_with fail
              go_region
              go_wp2
              refine bodyPost_ret (v := .tuple #[.agg #[.slice a1 fs.length cap1, .int .i64 c, .int .i64 k, .int .i64 cr, .int .i64 fl, .bool dn], .agg #[.int .i64 lf, .int .i64 ll, .int .i64 ls], .int .i64 23]) (by simp [results, Tryz.results5, go_sem, r0, r1, r2, r3, r4, r5, s0, s1, s2]) rfl ?_
              rw [E.out]
              refine ⟨a1, cap1, rfl, ?_, ?_⟩
              · have h := F3.out
                repeat (first | with_reducible refine FilesIn.drew ?_ | with_reducible refine FilesIn.set1 ?_ (by first | exact apart_disk F3.out RD3.out | exact apart_log F3.out RL3.out) _)
                exact h
              · have h := B3.out
                repeat (first | with_reducible refine Below.drew ?_ | with_reducible refine Below.setCell ?_ (by first | (simp; done) | (simp; omega)) _)
                exact h
            · have hendb : (ll == 999999) = false := by simpa using hend
              have HEND : Hid (¬ ll = 999999) := hend
              have hl5 : ll + 1 ≤ 999999 := by omega
              have hwr : IntKind.i64.wrap (ll + 1) = ll + 1 := by
                simp only [IntKind.wrap, IntKind.bits, IntKind.signed]
                simp
                omega
              obtain ⟨⟨fs1, c1, k1, cr1, fl1, dn1⟩, code1, hst⟩ : ∃ (D1 : DiskD) (x : Nat), stepD ⟨fs, c, k, cr, fl, dn⟩ (opCreate (ll + 1)) = (D1, x) := ⟨_, _, rfl⟩
              have HS1 : Hid (stepD ⟨fs, c, k, cr, fl, dn⟩ (opCreate (ll + 1)) = (⟨fs1, c1, k1, cr1, fl1, dn1⟩, code1)) := hst
              have HFIT1 : Hid (Fit fs1) := by
                have h := fit_step (D := ⟨fs, c, k, cr, fl, dn⟩) (op := opCreate (ll + 1)) HFIT.out (by have := segS_size (ll + 1); unfold maxLen; show (segS (ll + 1)).size ≤ _; omega) (by show (0 : Nat) ≤ _; omega)
                rw [hst] at h
                exact h
              have HST1 : Hid (∀ a' cap' W, FilesIn W a' fs → Calls Tryz.prog 17 #[.agg #[.slice a' fs.length cap', .int .i64 c, .int .i64 k, .int .i64 cr, .int .i64 fl, .bool dn], .agg #[.int .i64 1, .string (segS (ll + 1)), .string ⟨#[]⟩, .string ⟨#[]⟩, .int .i64 0]] W fun e w' => ∃ aw cw, e = .returned (.tuple #[.agg #[.slice aw fs1.length cw, .int .i64 c1, .int .i64 k1, .int .i64 cr1, .int .i64 fl1, .bool dn1], .int .i64 (code1 : Nat)]) ∧ FilesIn w' aw fs1 ∧ Below W.heap.size W w') := fun a' cap' W h => by
                have h2 := stepTo (D := ⟨fs, c, k, cr, fl, dn⟩) (op := opCreate (ll + 1)) HFIT.out (by have := segS_size (ll + 1); unfold maxLen; show (segS (ll + 1)).size ≤ _; omega) (by show (0 : Nat) ≤ _; omega) (by show (0 : Nat) ≤ _; omega) a' cap' W h
                rw [hst] at h2
                exact h2
              clear hst
              clear l0 l1 l2 hend
              have HK : Hid (∀ w', Below w3.heap.size w3 w' → w'.cell? ⟨w.heap.size, 0, none⟩ = some (.slice a1 fs.length cap1) ∧ w'.cell? ⟨w.heap.size, 1, none⟩ = some (.int .i64 c) ∧ w'.cell? ⟨w.heap.size, 2, none⟩ = some (.int .i64 k) ∧ w'.cell? ⟨w.heap.size, 3, none⟩ = some (.int .i64 cr) ∧ w'.cell? ⟨w.heap.size, 4, none⟩ = some (.int .i64 fl) ∧ w'.cell? ⟨w.heap.size, 5, none⟩ = some (.bool dn) ∧ w'.cell? ⟨w.heap.size + 1, 0, none⟩ = some (.int .i64 lf) ∧ w'.cell? ⟨w.heap.size + 1, 1, none⟩ = some (.int .i64 ll) ∧ w'.cell? ⟨w.heap.size + 1, 2, none⟩ = some (.int .i64 ls)) := fun w' h => by
                obtain ⟨a0, a1, a2, a3, a4, a5⟩ := (D3.out.later h).six
                obtain ⟨b0, b1, b2⟩ := (L3.out.later h).three
                exact ⟨a0, a1, a2, a3, a4, a5, b0, b1, b2⟩
              obtain ⟨x0, x1, x2, x3, x4, x5⟩ := D3.out.six
              obtain ⟨o0, o1, o2⟩ := L3.out.three
              go_upto_region 10 with fail
              go_cut [12, 13] (fun sa sb wx => ∃ (P : Nat) (a2 : Option Addr) (cap2 : Nat), sa = .pointer (some ⟨P, 0, none⟩) ∧ sb = .int .i64 (code1 : Nat) ∧ w3.heap.size ≤ P ∧ Blk wx P #[.slice a2 fs1.length cap2, .int .i64 c1, .int .i64 k1, .int .i64 cr1, .int .i64 fl1, .bool dn1] 30 ∧ FilesIn wx a2 fs1 ∧ Below w3.heap.size w3 wx)
              case first =>
                go_region_held3 (fun w' => w'.cell? ⟨w.heap.size, 0, none⟩ = some (.slice a1 fs.length cap1) ∧ w'.cell? ⟨w.heap.size, 1, none⟩ = some (.int .i64 c) ∧ w'.cell? ⟨w.heap.size, 2, none⟩ = some (.int .i64 k) ∧ w'.cell? ⟨w.heap.size, 3, none⟩ = some (.int .i64 cr) ∧ w'.cell? ⟨w.heap.size, 4, none⟩ = some (.int .i64 fl) ∧ w'.cell? ⟨w.heap.size, 5, none⟩ = some (.bool dn) ∧ w'.cell? ⟨w.heap.size + 1, 0, none⟩ = some (.int .i64 lf) ∧ w'.cell? ⟨w.heap.size + 1, 1, none⟩ = some (.int .i64 ll) ∧ w'.cell? ⟨w.heap.size + 1, 2, none⟩ = some (.int .i64 ls))
                  (exact HK.out _ (by repeat (first | with_reducible refine Below.setCell ?_ (by first | exact Nat.le_refl _ | exact low (by repeat (first | with_reducible exact Below.refl _ _ | exact (Below.refl _ _).drew | with_reducible refine bto ?_ (bnew _ _) | with_reducible refine Below.drew ?_ | refine bto ?_ (by assumption)))) _ | with_reducible exact Below.refl _ _ | with_reducible refine bto ?_ (bnew _ _) | with_reducible refine Below.drew ?_ | exact (Below.refl _ _).drew | refine bto ?_ (by assumption))))
                  (first
                  | (go_at_call 18; refine (specSeg_any _ _).mono ?_; rintro e v2 ⟨rfl, hb2⟩; (first | (have hz := blk_of_drew hb2) | (have hz := hz.later hb2) | skip))
                  | (go_at_call 17; refine (HST1.out _ _ _ (F3.out.later (by repeat (first | with_reducible refine Below.setCell ?_ (by first | exact Nat.le_refl _ | exact low (by repeat (first | with_reducible exact Below.refl _ _ | exact (Below.refl _ _).drew | with_reducible refine bto ?_ (bnew _ _) | with_reducible refine Below.drew ?_ | refine bto ?_ (by assumption)))) _ | with_reducible exact Below.refl _ _ | with_reducible refine bto ?_ (bnew _ _) | with_reducible refine Below.drew ?_ | exact (Below.refl _ _).drew | refine bto ?_ (by assumption))))).mono ?_; rintro e v3 ⟨a2, cap2, rfl, how, hb3⟩; (first | (have hz := blk_of_drew hb3) | (have hz : Blk _ v2.heap.size _ _ := blk_of_alloc hb3) | (have hz := hz.later hb3) | skip); (try (obtain ⟨q0, q1, q2, q3, q4, q5⟩ := hz.six; have f0 := hz.free 0; have f1 := hz.free 1; have f2 := hz.free 2; have f3 := hz.free 3; have f4 := hz.free 4; have f5 := hz.free 5))))
                all_goals (go_wp2_with fail; go_meet)
                · refine ⟨v3.heap.size, a2, cap2, rfl, rfl, ?_, ?_, ?_, ?_⟩
                  · exact low (by repeat (first | with_reducible refine Below.setCell ?_ (by first | exact Nat.le_refl _ | exact low (by repeat (first | with_reducible exact Below.refl _ _ | exact (Below.refl _ _).drew | with_reducible refine bto ?_ (bnew _ _) | with_reducible refine Below.drew ?_ | refine bto ?_ (by assumption)))) _ | with_reducible exact Below.refl _ _ | with_reducible refine bto ?_ (bnew _ _) | with_reducible refine Below.drew ?_ | exact (Below.refl _ _).drew | refine bto ?_ (by assumption)))
                  · exact blk_new _ _ _
                  · exact how.later (bnew _ _)
                  · exact (by repeat (first | with_reducible refine Below.setCell ?_ (by first | exact Nat.le_refl _ | exact low (by repeat (first | with_reducible exact Below.refl _ _ | exact (Below.refl _ _).drew | with_reducible refine bto ?_ (bnew _ _) | with_reducible refine Below.drew ?_ | refine bto ?_ (by assumption)))) _ | with_reducible exact Below.refl _ _ | with_reducible refine bto ?_ (bnew _ _) | with_reducible refine Below.drew ?_ | exact (Below.refl _ _).drew | refine bto ?_ (by assumption)))
                · refine ⟨v2.heap.size, a2, cap2, rfl, rfl, ?_, ?_, ?_, ?_⟩
                  · exact low (by repeat (first | with_reducible refine Below.setCell ?_ (by first | exact Nat.le_refl _ | exact low (by repeat (first | with_reducible exact Below.refl _ _ | exact (Below.refl _ _).drew | with_reducible refine bto ?_ (bnew _ _) | with_reducible refine Below.drew ?_ | refine bto ?_ (by assumption)))) _ | with_reducible exact Below.refl _ _ | with_reducible refine bto ?_ (bnew _ _) | with_reducible refine Below.drew ?_ | exact (Below.refl _ _).drew | refine bto ?_ (by assumption)))
                  · exact blk_fill hz
                  · exact how.apart (apart_zero how hz) (but_fill _ _ _ _ _ _)
                  · exact (by repeat (first | with_reducible refine Below.setCell ?_ (by first | exact Nat.le_refl _ | exact low (by repeat (first | with_reducible exact Below.refl _ _ | exact (Below.refl _ _).drew | with_reducible refine bto ?_ (bnew _ _) | with_reducible refine Below.drew ?_ | refine bto ?_ (by assumption)))) _ | with_reducible exact Below.refl _ _ | with_reducible refine bto ?_ (bnew _ _) | with_reducible refine Below.drew ?_ | exact (Below.refl _ _).drew | refine bto ?_ (by assumption)))
                · refine ⟨w3.heap.size, a2, cap2, rfl, rfl, ?_, ?_, ?_, ?_⟩
                  · exact low (by repeat (first | with_reducible refine Below.setCell ?_ (by first | exact Nat.le_refl _ | exact low (by repeat (first | with_reducible exact Below.refl _ _ | exact (Below.refl _ _).drew | with_reducible refine bto ?_ (bnew _ _) | with_reducible refine Below.drew ?_ | refine bto ?_ (by assumption)))) _ | with_reducible exact Below.refl _ _ | with_reducible refine bto ?_ (bnew _ _) | with_reducible refine Below.drew ?_ | exact (Below.refl _ _).drew | refine bto ?_ (by assumption)))
                  · exact blk_fill hz
                  · exact how.apart (apart_zero how hz) (but_fill _ _ _ _ _ _)
                  · exact (by repeat (first | with_reducible refine Below.setCell ?_ (by first | exact Nat.le_refl _ | exact low (by repeat (first | with_reducible exact Below.refl _ _ | exact (Below.refl _ _).drew | with_reducible refine bto ?_ (bnew _ _) | with_reducible refine Below.drew ?_ | refine bto ?_ (by assumption)))) _ | with_reducible exact Below.refl _ _ | with_reducible refine bto ?_ (bnew _ _) | with_reducible refine Below.drew ?_ | exact (Below.refl _ _).drew | refine bto ?_ (by assumption)))
              obtain ⟨P, a2, cap2, rfl, rfl, hP, hPB, hf2, hb4⟩ := hcut
              rename World => w4
              have hN3 : w.heap.size + 1 + 1 + 1 < P := by have := lt_of_block RL3.out; omega
              have PB4 : Hid (Blk w4 P #[.slice a2 fs1.length cap2, .int .i64 c1, .int .i64 k1, .int .i64 cr1, .int .i64 fl1, .bool dn1] 30) := hPB
              have F4 : Hid (FilesIn w4 a2 fs1) := hf2
              clear hPB hf2
              have D4 : Hid (Blk w4 w.heap.size #[.slice a1 fs.length cap1, .int .i64 c, .int .i64 k, .int .i64 cr, .int .i64 fl, .bool dn] 30) := D3.out.later hb4
              have L4 : Hid (Blk w4 (w.heap.size + 1) #[.int .i64 lf, .int .i64 ll, .int .i64 ls] 31) := L3.out.later hb4
              have RD4 : Hid (Blk w4 (w.heap.size + 1 + 1) #[.slice none 0 0, .int .i64 0, .int .i64 0, .int .i64 0, .int .i64 0, .bool false] 30) := RD3.out.later hb4
              have RL4 : Hid (Blk w4 (w.heap.size + 1 + 1 + 1) #[.int .i64 0, .int .i64 0, .int .i64 0] 31) := RL3.out.later hb4
              have B4 : Hid (Below w.heap.size w w4) := bto B3.out hb4
              clear D3 L3 RD3 RL3 B3
              clear hb4 HK x0 x1 x2 x3 x4 x5 o0 o1 o2
              obtain ⟨x0, x1, x2, x3, x4, x5⟩ := PB4.out.six
              obtain ⟨d0, d1, d2, d3, d4, d5⟩ := D4.out.six
              have y0 := D4.out.free 0
              have y1 := D4.out.free 1
              have y2 := D4.out.free 2
              have y3 := D4.out.free 3
              have y4 := D4.out.free 4
              have y5 := D4.out.free 5
              go_upto_region 11 with fail
              go_cut [] (fun wx => Blk wx w.heap.size #[.slice a2 fs1.length cap2, .int .i64 c1, .int .i64 k1, .int .i64 cr1, .int .i64 fl1, .bool dn1] 30 ∧ Blk wx (w.heap.size + 1) #[.int .i64 lf, .int .i64 ll, .int .i64 ls] 31 ∧ Blk wx (w.heap.size + 1 + 1) #[.slice none 0 0, .int .i64 0, .int .i64 0, .int .i64 0, .int .i64 0, .bool false] 30 ∧ Blk wx (w.heap.size + 1 + 1 + 1) #[.int .i64 0, .int .i64 0, .int .i64 0] 31 ∧ FilesIn wx a2 fs1 ∧ Below w.heap.size w wx)
              case first =>
                go_wp2_with fail
                go_meet
                refine ⟨blk_fill D4.out, L4.out.but (but_fill _ _ _ _ _ _) (by omega), RD4.out.but (but_fill _ _ _ _ _ _) (by omega), RL4.out.but (but_fill _ _ _ _ _ _) (by omega), F4.out.apart (apart_disk F4.out D4.out) (but_fill _ _ _ _ _ _), ?_⟩
                have h := B4.out
                exact (by repeat (first | with_reducible exact h | with_reducible refine Below.setCell ?_ (by first | (simp; done) | (simp; omega)) _))
              obtain ⟨hD, hL, hRD, hRL, hfi, hbel⟩ := hcut
              rename World => w5
              clear x0 x1 x2 x3 x4 x5 d0 d1 d2 d3 d4 d5 y0 y1 y2 y3 y4 y5 PB4 F4 D4 L4 RD4 RL4 B4
              have D5 : Hid (Blk w5 w.heap.size #[.slice a2 fs1.length cap2, .int .i64 c1, .int .i64 k1, .int .i64 cr1, .int .i64 fl1, .bool dn1] 30) := hD
              have L5 : Hid (Blk w5 (w.heap.size + 1) #[.int .i64 lf, .int .i64 ll, .int .i64 ls] 31) := hL
              have RD5 : Hid (Blk w5 (w.heap.size + 1 + 1) #[.slice none 0 0, .int .i64 0, .int .i64 0, .int .i64 0, .int .i64 0, .bool false] 30) := hRD
              have RL5 : Hid (Blk w5 (w.heap.size + 1 + 1 + 1) #[.int .i64 0, .int .i64 0, .int .i64 0] 31) := hRL
              have F5 : Hid (FilesIn w5 a2 fs1) := hfi
              have B5 : Hid (Below w.heap.size w w5) := hbel
              clear hD hL hRD hRL hfi hbel
              by_cases hc : code1 = 0
              · have hcb : ((code1 : Int) != 0) = false := by simp [hc]
                have E : Hid ((appendD ⟨fs, c, k, cr, fl, dn⟩ ⟨lf, ll, ls⟩ p most) = appendT ⟨fs1, c1, k1, cr1, fl1, dn1⟩ ⟨lf, ll + 1, 0⟩ F) := by
                  show _ = _
                  rw [append_new HFR2.out HC1.out HNE.out HBT.out HEND.out HS1.out, if_neg (by simp [hc])]
                clear hc
                obtain ⟨l0, l1, l2⟩ := L5.out.three
                have t0 := L5.out.free 0
                have t1 := L5.out.free 1
                have t2 := L5.out.free 2
                go_wp2_with fail
                go_meet
                have hbut : But (w.heap.size + 1) w5 ((w5.setCell ⟨w.heap.size + 1, 1, none⟩ (.int .i64 (ll + 1))).setCell ⟨w.heap.size + 1, 2, none⟩ (.int .i64 0)) := ((But.refl _ _).setCell 1 _).setCell 2 _
                have hLn := (L5.out.set 1 (.int .i64 (ll + 1))).set 2 (.int .i64 0)
                refine ⟨fs1, c1, k1, cr1, fl1, dn1, ll + 1, 0, a2, cap2, ⟨D5.out.but hbut (by omega), by simpa using hLn, RD5.out.but hbut (by omega), RL5.out.but hbut (by omega), F5.out.apart (apart_log F5.out L5.out) hbut, ?_⟩, HFIT1.out, by omega, hl5, by omega, by omega, E⟩
                have h := B5.out
                exact (by repeat (first | with_reducible exact h | with_reducible refine Below.setCell ?_ (by first | (simp; done) | (simp; omega)) _))
              · have hcb : ((code1 : Int) != 0) = true := by simpa using hc
                have E : Hid ((appendD ⟨fs, c, k, cr, fl, dn⟩ ⟨lf, ll, ls⟩ p most) = (⟨fs1, c1, k1, cr1, fl1, dn1⟩, ⟨lf, ll, ls⟩, code1)) := by
                  show _ = _
                  rw [append_new HFR2.out HC1.out HNE.out HBT.out HEND.out HS1.out, if_pos hc]
                clear hc
                obtain ⟨d0, d1, d2, d3, d4, d5⟩ := D5.out.six
                obtain ⟨l0, l1, l2⟩ := L5.out.three
                obtain ⟨r0, r1, r2, r3, r4, r5⟩ := RD5.out.six
                have q0 := RD5.out.free 0
                have q1 := RD5.out.free 1
                have q2 := RD5.out.free 2
                have q3 := RD5.out.free 3
                have q4 := RD5.out.free 4
                have q5 := RD5.out.free 5
                obtain ⟨s0, s1, s2⟩ := RL5.out.three
                have t0 := RL5.out.free 0
                have t1 := RL5.out.free 1
                have t2 := RL5.out.free 2
                have hlt : w.heap.size + 1 + 1 + 1 < w5.heap.size := lt_of_block RL5.out
                go_wp2_with fail
                go_region
                go_wp2
                refine bodyPost_ret (v := .tuple #[.agg #[.slice a2 fs1.length cap2, .int .i64 c1, .int .i64 k1, .int .i64 cr1, .int .i64 fl1, .bool dn1], .agg #[.int .i64 lf, .int .i64 ll, .int .i64 ls], .int .i64 (code1 : Nat)]) (by simp [results, Tryz.results5, go_sem, r0, r1, r2, r3, r4, r5, s0, s1, s2]) rfl ?_
                rw [E.out]
                refine ⟨a2, cap2, rfl, ?_, ?_⟩
                · have h := F5.out
                  repeat (first | with_reducible refine FilesIn.drew ?_ | with_reducible refine FilesIn.set1 ?_ (by first | exact apart_disk F5.out RD5.out | exact apart_log F5.out RL5.out) _)
                  exact h
                · have h := B5.out
                  repeat (first | with_reducible refine Below.drew ?_ | with_reducible refine Below.setCell ?_ (by first | (simp; done) | (simp; omega)) _)
                  exact h
          · have hbt : decide (ls ≠ 0 ∧ most < ls + F.size) = false := decide_eq_false hb
            have E : Hid ((appendD ⟨fs, c, k, cr, fl, dn⟩ ⟨lf, ll, ls⟩ p most) = appendT ⟨fs, c, k, cr, fl, dn⟩ ⟨lf, ll, ls⟩ F) := by show _ = _; unfold appendD; rw [if_neg HC1.out, if_neg HNE.out, if_neg (by rw [HFR2.out]; exact hb), HFR2.out]
            rw [hbt]
            clear hb hbt
            go_wp2_with fail
            go_meet
            exact ⟨fs, c, k, cr, fl, dn, ll, ls, a1, cap1, ⟨D3.out, L3.out, RD3.out, RL3.out, F3.out, B3.out⟩, HFIT.out, hl1, hl2, hl3, hl4, E⟩
        obtain ⟨fs9, c9, k9, cr9, fl9, dn9, ll9, ls9, a9, cap9, ⟨hD, hL, hRD, hRL, hfi, hbel⟩, hfit9, h91, h92, h93, h94, E9⟩ := hcut
        rename World => w9
        have HFIT9 : Hid (Fit fs9) := hfit9
        clear hfit9 HFIT
        have D9 : Hid (Blk w9 w.heap.size #[.slice a9 fs9.length cap9, .int .i64 c9, .int .i64 k9, .int .i64 cr9, .int .i64 fl9, .bool dn9] 30) := hD
        have L9 : Hid (Blk w9 (w.heap.size + 1) #[.int .i64 lf, .int .i64 ll9, .int .i64 ls9] 31) := hL
        have RD9 : Hid (Blk w9 (w.heap.size + 1 + 1) #[.slice none 0 0, .int .i64 0, .int .i64 0, .int .i64 0, .int .i64 0, .bool false] 30) := hRD
        have RL9 : Hid (Blk w9 (w.heap.size + 1 + 1 + 1) #[.int .i64 0, .int .i64 0, .int .i64 0] 31) := hRL
        have F9 : Hid (FilesIn w9 a9 fs9) := hfi
        have B9 : Hid (Below w.heap.size w w9) := hbel
        clear hD hL hRD hRL hfi hbel
        obtain ⟨⟨fs6, c6, k6, cr6, fl6, dn6⟩, code6, hst⟩ : ∃ (D1 : DiskD) (x : Nat), stepD ⟨fs9, c9, k9, cr9, fl9, dn9⟩ (opAppend ll9 F) = (D1, x) := ⟨_, _, rfl⟩
        have HS6 : Hid (stepD ⟨fs9, c9, k9, cr9, fl9, dn9⟩ (opAppend ll9 F) = (⟨fs6, c6, k6, cr6, fl6, dn6⟩, code6)) := hst
        have HFIT6 : Hid (Fit fs6) := by
          have h := fit_step (D := ⟨fs9, c9, k9, cr9, fl9, dn9⟩) (op := opAppend ll9 F) HFIT9.out (by have := segS_size (ll9); unfold maxLen; show (segS (ll9)).size ≤ _; omega) (by show (0 : Nat) ≤ _; omega)
          rw [hst] at h
          exact h
        have HST6 : Hid (∀ a' cap' W, FilesIn W a' fs9 → Calls Tryz.prog 17 #[.agg #[.slice a' fs9.length cap', .int .i64 c9, .int .i64 k9, .int .i64 cr9, .int .i64 fl9, .bool dn9], .agg #[.int .i64 2, .string (segS ll9), .string ⟨#[]⟩, .string F, .int .i64 0]] W fun e w' => ∃ aw cw, e = .returned (.tuple #[.agg #[.slice aw fs6.length cw, .int .i64 c6, .int .i64 k6, .int .i64 cr6, .int .i64 fl6, .bool dn6], .int .i64 (code6 : Nat)]) ∧ FilesIn w' aw fs6 ∧ Below W.heap.size W w') := fun a' cap' W h => by
          have h2 := stepTo (D := ⟨fs9, c9, k9, cr9, fl9, dn9⟩) (op := opAppend ll9 F) HFIT9.out (by have := segS_size (ll9); unfold maxLen; show (segS (ll9)).size ≤ _; omega) (by show (0 : Nat) ≤ _; omega) (by show F.size ≤ _; omega) a' cap' W h
          rw [hst] at h2
          exact h2
        clear hst
        have HK : Hid (∀ w', Below w9.heap.size w9 w' → w'.cell? ⟨w.heap.size, 0, none⟩ = some (.slice a9 fs9.length cap9) ∧ w'.cell? ⟨w.heap.size, 1, none⟩ = some (.int .i64 c9) ∧ w'.cell? ⟨w.heap.size, 2, none⟩ = some (.int .i64 k9) ∧ w'.cell? ⟨w.heap.size, 3, none⟩ = some (.int .i64 cr9) ∧ w'.cell? ⟨w.heap.size, 4, none⟩ = some (.int .i64 fl9) ∧ w'.cell? ⟨w.heap.size, 5, none⟩ = some (.bool dn9) ∧ w'.cell? ⟨w.heap.size + 1, 0, none⟩ = some (.int .i64 lf) ∧ w'.cell? ⟨w.heap.size + 1, 1, none⟩ = some (.int .i64 ll9) ∧ w'.cell? ⟨w.heap.size + 1, 2, none⟩ = some (.int .i64 ls9)) := fun w' h => by
          obtain ⟨a0, a1, a2, a3, a4, a5⟩ := (D9.out.later h).six
          obtain ⟨b0, b1, b2⟩ := (L9.out.later h).three
          exact ⟨a0, a1, a2, a3, a4, a5, b0, b1, b2⟩
        obtain ⟨x0, x1, x2, x3, x4, x5⟩ := D9.out.six
        obtain ⟨o0, o1, o2⟩ := L9.out.three
        go_upto_region 16 with fail
        go_cut [14, 15] (fun sa sb wx => ∃ (P : Nat) (a2 : Option Addr) (cap2 : Nat), sa = .pointer (some ⟨P, 0, none⟩) ∧ sb = .int .i64 (code6 : Nat) ∧ w9.heap.size ≤ P ∧ Blk wx P #[.slice a2 fs6.length cap2, .int .i64 c6, .int .i64 k6, .int .i64 cr6, .int .i64 fl6, .bool dn6] 30 ∧ FilesIn wx a2 fs6 ∧ Below w9.heap.size w9 wx)
        case first =>
          go_region_held3 (fun w' => w'.cell? ⟨w.heap.size, 0, none⟩ = some (.slice a9 fs9.length cap9) ∧ w'.cell? ⟨w.heap.size, 1, none⟩ = some (.int .i64 c9) ∧ w'.cell? ⟨w.heap.size, 2, none⟩ = some (.int .i64 k9) ∧ w'.cell? ⟨w.heap.size, 3, none⟩ = some (.int .i64 cr9) ∧ w'.cell? ⟨w.heap.size, 4, none⟩ = some (.int .i64 fl9) ∧ w'.cell? ⟨w.heap.size, 5, none⟩ = some (.bool dn9) ∧ w'.cell? ⟨w.heap.size + 1, 0, none⟩ = some (.int .i64 lf) ∧ w'.cell? ⟨w.heap.size + 1, 1, none⟩ = some (.int .i64 ll9) ∧ w'.cell? ⟨w.heap.size + 1, 2, none⟩ = some (.int .i64 ls9))
            (exact HK.out _ (by repeat (first | with_reducible refine Below.setCell ?_ (by first | exact Nat.le_refl _ | exact low (by repeat (first | with_reducible exact Below.refl _ _ | exact (Below.refl _ _).drew | with_reducible refine bto ?_ (bnew _ _) | with_reducible refine Below.drew ?_ | refine bto ?_ (by assumption)))) _ | with_reducible exact Below.refl _ _ | with_reducible refine bto ?_ (bnew _ _) | with_reducible refine Below.drew ?_ | exact (Below.refl _ _).drew | refine bto ?_ (by assumption))))
            (first
            | (go_at_call 18; refine (specSeg_any _ _).mono ?_; rintro e v2 ⟨rfl, hb2⟩; (first | (have hz := blk_of_drew hb2) | (have hz := hz.later hb2) | skip))
            | (go_at_call 17; refine (HST6.out _ _ _ (F9.out.later (by repeat (first | with_reducible refine Below.setCell ?_ (by first | exact Nat.le_refl _ | exact low (by repeat (first | with_reducible exact Below.refl _ _ | exact (Below.refl _ _).drew | with_reducible refine bto ?_ (bnew _ _) | with_reducible refine Below.drew ?_ | refine bto ?_ (by assumption)))) _ | with_reducible exact Below.refl _ _ | with_reducible refine bto ?_ (bnew _ _) | with_reducible refine Below.drew ?_ | exact (Below.refl _ _).drew | refine bto ?_ (by assumption))))).mono ?_; rintro e v3 ⟨a2, cap2, rfl, how, hb3⟩; (first | (have hz := blk_of_drew hb3) | (have hz : Blk _ v2.heap.size _ _ := blk_of_alloc hb3) | (have hz := hz.later hb3) | skip); (try (obtain ⟨q0, q1, q2, q3, q4, q5⟩ := hz.six; have f0 := hz.free 0; have f1 := hz.free 1; have f2 := hz.free 2; have f3 := hz.free 3; have f4 := hz.free 4; have f5 := hz.free 5))))
          all_goals (go_wp2_with fail; go_meet)
          · refine ⟨v3.heap.size, a2, cap2, rfl, rfl, ?_, ?_, ?_, ?_⟩
            · exact low (by repeat (first | with_reducible refine Below.setCell ?_ (by first | exact Nat.le_refl _ | exact low (by repeat (first | with_reducible exact Below.refl _ _ | exact (Below.refl _ _).drew | with_reducible refine bto ?_ (bnew _ _) | with_reducible refine Below.drew ?_ | refine bto ?_ (by assumption)))) _ | with_reducible exact Below.refl _ _ | with_reducible refine bto ?_ (bnew _ _) | with_reducible refine Below.drew ?_ | exact (Below.refl _ _).drew | refine bto ?_ (by assumption)))
            · exact blk_new _ _ _
            · exact how.later (bnew _ _)
            · exact (by repeat (first | with_reducible refine Below.setCell ?_ (by first | exact Nat.le_refl _ | exact low (by repeat (first | with_reducible exact Below.refl _ _ | exact (Below.refl _ _).drew | with_reducible refine bto ?_ (bnew _ _) | with_reducible refine Below.drew ?_ | refine bto ?_ (by assumption)))) _ | with_reducible exact Below.refl _ _ | with_reducible refine bto ?_ (bnew _ _) | with_reducible refine Below.drew ?_ | exact (Below.refl _ _).drew | refine bto ?_ (by assumption)))
          · refine ⟨v2.heap.size, a2, cap2, rfl, rfl, ?_, ?_, ?_, ?_⟩
            · exact low (by repeat (first | with_reducible refine Below.setCell ?_ (by first | exact Nat.le_refl _ | exact low (by repeat (first | with_reducible exact Below.refl _ _ | exact (Below.refl _ _).drew | with_reducible refine bto ?_ (bnew _ _) | with_reducible refine Below.drew ?_ | refine bto ?_ (by assumption)))) _ | with_reducible exact Below.refl _ _ | with_reducible refine bto ?_ (bnew _ _) | with_reducible refine Below.drew ?_ | exact (Below.refl _ _).drew | refine bto ?_ (by assumption)))
            · exact blk_fill hz
            · exact how.apart (apart_zero how hz) (but_fill _ _ _ _ _ _)
            · exact (by repeat (first | with_reducible refine Below.setCell ?_ (by first | exact Nat.le_refl _ | exact low (by repeat (first | with_reducible exact Below.refl _ _ | exact (Below.refl _ _).drew | with_reducible refine bto ?_ (bnew _ _) | with_reducible refine Below.drew ?_ | refine bto ?_ (by assumption)))) _ | with_reducible exact Below.refl _ _ | with_reducible refine bto ?_ (bnew _ _) | with_reducible refine Below.drew ?_ | exact (Below.refl _ _).drew | refine bto ?_ (by assumption)))
          · refine ⟨w9.heap.size, a2, cap2, rfl, rfl, ?_, ?_, ?_, ?_⟩
            · exact low (by repeat (first | with_reducible refine Below.setCell ?_ (by first | exact Nat.le_refl _ | exact low (by repeat (first | with_reducible exact Below.refl _ _ | exact (Below.refl _ _).drew | with_reducible refine bto ?_ (bnew _ _) | with_reducible refine Below.drew ?_ | refine bto ?_ (by assumption)))) _ | with_reducible exact Below.refl _ _ | with_reducible refine bto ?_ (bnew _ _) | with_reducible refine Below.drew ?_ | exact (Below.refl _ _).drew | refine bto ?_ (by assumption)))
            · exact blk_fill hz
            · exact how.apart (apart_zero how hz) (but_fill _ _ _ _ _ _)
            · exact (by repeat (first | with_reducible refine Below.setCell ?_ (by first | exact Nat.le_refl _ | exact low (by repeat (first | with_reducible exact Below.refl _ _ | exact (Below.refl _ _).drew | with_reducible refine bto ?_ (bnew _ _) | with_reducible refine Below.drew ?_ | refine bto ?_ (by assumption)))) _ | with_reducible exact Below.refl _ _ | with_reducible refine bto ?_ (bnew _ _) | with_reducible refine Below.drew ?_ | exact (Below.refl _ _).drew | refine bto ?_ (by assumption)))
        obtain ⟨P, a6, cap6, rfl, rfl, hP, hPB, hf6, hb10⟩ := hcut
        rename World => w10
        have hN3 : w.heap.size + 1 + 1 + 1 < P := by have := lt_of_block RL9.out; omega
        have PB10 : Hid (Blk w10 P #[.slice a6 fs6.length cap6, .int .i64 c6, .int .i64 k6, .int .i64 cr6, .int .i64 fl6, .bool dn6] 30) := hPB
        have F10 : Hid (FilesIn w10 a6 fs6) := hf6
        clear hPB hf6
        have L10 : Hid (Blk w10 (w.heap.size + 1) #[.int .i64 lf, .int .i64 ll9, .int .i64 ls9] 31) := L9.out.later hb10
        have RD10 : Hid (Blk w10 (w.heap.size + 1 + 1) #[.slice none 0 0, .int .i64 0, .int .i64 0, .int .i64 0, .int .i64 0, .bool false] 30) := RD9.out.later hb10
        have RL10 : Hid (Blk w10 (w.heap.size + 1 + 1 + 1) #[.int .i64 0, .int .i64 0, .int .i64 0] 31) := RL9.out.later hb10
        have B10 : Hid (Below w.heap.size w w10) := bto B9.out hb10
        clear L9 RD9 RL9 B9
        clear hb10 HK x0 x1 x2 x3 x4 x5 o0 o1 o2 D9 F9
        by_cases hc : code6 = 0
        · have hcb : ((code6 : Int) != 0) = false := by simp [hc]
          have HC6 : Hid (code6 = 0) := hc
          clear hc
          obtain ⟨⟨fs7, c7, k7, cr7, fl7, dn7⟩, code7, hst⟩ : ∃ (D1 : DiskD) (x : Nat), stepD ⟨fs6, c6, k6, cr6, fl6, dn6⟩ (opSync ll9) = (D1, x) := ⟨_, _, rfl⟩
          have HS7 : Hid (stepD ⟨fs6, c6, k6, cr6, fl6, dn6⟩ (opSync ll9) = (⟨fs7, c7, k7, cr7, fl7, dn7⟩, code7)) := hst
          have HFIT7 : Hid (Fit fs7) := by
            have h := fit_step (D := ⟨fs6, c6, k6, cr6, fl6, dn6⟩) (op := opSync ll9) HFIT6.out (by have := segS_size (ll9); unfold maxLen; show (segS (ll9)).size ≤ _; omega) (by show (0 : Nat) ≤ _; omega)
            rw [hst] at h
            exact h
          have HST7 : Hid (∀ a' cap' W, FilesIn W a' fs6 → Calls Tryz.prog 17 #[.agg #[.slice a' fs6.length cap', .int .i64 c6, .int .i64 k6, .int .i64 cr6, .int .i64 fl6, .bool dn6], .agg #[.int .i64 3, .string (segS ll9), .string ⟨#[]⟩, .string ⟨#[]⟩, .int .i64 0]] W fun e w' => ∃ aw cw, e = .returned (.tuple #[.agg #[.slice aw fs7.length cw, .int .i64 c7, .int .i64 k7, .int .i64 cr7, .int .i64 fl7, .bool dn7], .int .i64 (code7 : Nat)]) ∧ FilesIn w' aw fs7 ∧ Below W.heap.size W w') := fun a' cap' W h => by
            have h2 := stepTo (D := ⟨fs6, c6, k6, cr6, fl6, dn6⟩) (op := opSync ll9) HFIT6.out (by have := segS_size (ll9); unfold maxLen; show (segS (ll9)).size ≤ _; omega) (by show (0 : Nat) ≤ _; omega) (by show (0 : Nat) ≤ _; omega) a' cap' W h
            rw [hst] at h2
            exact h2
          clear hst
          obtain ⟨x0, x1, x2, x3, x4, x5⟩ := PB10.out.six
          obtain ⟨o0, o1, o2⟩ := L10.out.three
          go_upto_region 19 with fail
          go_cut [15] (fun sb wx => ∃ (a7 : Option Addr) (cap7 : Nat), sb = .int .i64 (code7 : Nat) ∧ Blk wx P #[.slice a7 fs7.length cap7, .int .i64 c7, .int .i64 k7, .int .i64 cr7, .int .i64 fl7, .bool dn7] 30 ∧ (Blk wx (w.heap.size + 1) #[.int .i64 lf, .int .i64 ll9, .int .i64 ls9] 31 ∧ Blk wx (w.heap.size + 1 + 1) #[.slice none 0 0, .int .i64 0, .int .i64 0, .int .i64 0, .int .i64 0, .bool false] 30 ∧ Blk wx (w.heap.size + 1 + 1 + 1) #[.int .i64 0, .int .i64 0, .int .i64 0] 31) ∧ FilesIn wx a7 fs7 ∧ Below w.heap.size w wx)
          case first =>
            go_region_with (first
              | (go_at_call 18; refine (specSeg_any _ _).mono ?_; rintro e v2 ⟨rfl, hb2⟩; obtain ⟨x0, x1, x2, x3, x4, x5⟩ := (PB10.out.later (bto (Below.refl _ _).drew hb2)).six)
              | (go_at_call 17; refine (HST7.out _ _ _ (F10.out.later (by repeat (first | with_reducible refine Below.setCell ?_ (by first | exact Nat.le_refl _ | exact low (by repeat (first | with_reducible exact Below.refl _ _ | exact (Below.refl _ _).drew | with_reducible refine bto ?_ (bnew _ _) | with_reducible refine Below.drew ?_ | refine bto ?_ (by assumption)))) _ | with_reducible exact Below.refl _ _ | with_reducible refine bto ?_ (bnew _ _) | with_reducible refine Below.drew ?_ | exact (Below.refl _ _).drew | refine bto ?_ (by assumption))))).mono ?_; rintro e v3 ⟨a7, cap7, rfl, how, hb3⟩; have hz : Blk v3 P _ _ := PB10.out.later (by repeat (first | with_reducible refine Below.setCell ?_ (by first | exact Nat.le_refl _ | exact low (by repeat (first | with_reducible exact Below.refl _ _ | exact (Below.refl _ _).drew | with_reducible refine bto ?_ (bnew _ _) | with_reducible refine Below.drew ?_ | refine bto ?_ (by assumption)))) _ | with_reducible exact Below.refl _ _ | with_reducible refine bto ?_ (bnew _ _) | with_reducible refine Below.drew ?_ | exact (Below.refl _ _).drew | refine bto ?_ (by assumption))); obtain ⟨q0, q1, q2, q3, q4, q5⟩ := hz.six; have f0 := hz.free 0; have f1 := hz.free 1; have f2 := hz.free 2; have f3 := hz.free 3; have f4 := hz.free 4; have f5 := hz.free 5))
            all_goals (
              go_wp2_with fail
              go_meet
              have hbx : Below w10.heap.size w10 v3 := bto (bto (Below.refl _ _).drew hb2) hb3
              refine ⟨a7, cap7, rfl, blk_fill hz, ⟨(L10.out.later hbx).but (but_fill _ _ _ _ _ _) (by omega), (RD10.out.later hbx).but (but_fill _ _ _ _ _ _) (by omega), (RL10.out.later hbx).but (but_fill _ _ _ _ _ _) (by omega)⟩, how.apart (apart_disk how hz) (but_fill _ _ _ _ _ _), ?_⟩
              have h : Below w.heap.size w v3 := bto B10.out hbx
              exact (by repeat (first | with_reducible exact h | with_reducible refine Below.setCell ?_ (by first | (simp; done) | (simp; omega)) _)))
          obtain ⟨a7, cap7, rfl, hPB, ⟨hL, hRD, hRL⟩, hfi, hbel⟩ := hcut
          rename World => w11
          have PB11 : Hid (Blk w11 P #[.slice a7 fs7.length cap7, .int .i64 c7, .int .i64 k7, .int .i64 cr7, .int .i64 fl7, .bool dn7] 30) := hPB
          have L11 : Hid (Blk w11 (w.heap.size + 1) #[.int .i64 lf, .int .i64 ll9, .int .i64 ls9] 31) := hL
          have RD11 : Hid (Blk w11 (w.heap.size + 1 + 1) #[.slice none 0 0, .int .i64 0, .int .i64 0, .int .i64 0, .int .i64 0, .bool false] 30) := hRD
          have RL11 : Hid (Blk w11 (w.heap.size + 1 + 1 + 1) #[.int .i64 0, .int .i64 0, .int .i64 0] 31) := hRL
          have F11 : Hid (FilesIn w11 a7 fs7) := hfi
          have B11 : Hid (Below w.heap.size w w11) := hbel
          clear hPB hL hRD hRL hfi hbel x0 x1 x2 x3 x4 x5 o0 o1 o2 PB10 L10 RD10 RL10 F10 B10
          have ET := E9.out.trans (appendT_sync HS6.out HC6.out HS7.out)
          by_cases hc7 : code7 = 0
          · have hcb7 : ((code7 : Int) == 0) = true := by simp [hc7]
            have E : Hid ((appendD ⟨fs, c, k, cr, fl, dn⟩ ⟨lf, ll, ls⟩ p most) = (⟨fs7, c7, k7, cr7, fl7, dn7⟩, ⟨lf, ll9, ls9 + F.size⟩, code7)) := by
              show _ = _
              rw [ET, if_neg (by simp [hc7]), hc7]
            clear hc7 ET
            obtain ⟨l0, l1, l2⟩ := L11.out.three
            have t0 := L11.out.free 0
            have t1 := L11.out.free 1
            have t2 := L11.out.free 2
            go_upto_region 21 with fail
            go_cut [] (fun wx => Blk wx P #[.slice a7 fs7.length cap7, .int .i64 c7, .int .i64 k7, .int .i64 cr7, .int .i64 fl7, .bool dn7] 30 ∧ Blk wx (w.heap.size + 1) #[.int .i64 lf, .int .i64 ll9, .int .i64 (ls9 + F.size)] 31 ∧ Blk wx (w.heap.size + 1 + 1) #[.slice none 0 0, .int .i64 0, .int .i64 0, .int .i64 0, .int .i64 0, .bool false] 30 ∧ Blk wx (w.heap.size + 1 + 1 + 1) #[.int .i64 0, .int .i64 0, .int .i64 0] 31 ∧ FilesIn wx a7 fs7 ∧ Below w.heap.size w wx)
            case first =>
              go_wp2_with fail
              go_meet
              have hbut : But (w.heap.size + 1) w11 (w11.setCell ⟨w.heap.size + 1, 2, none⟩ (.int .i64 (ls9 + F.size))) := (But.refl _ _).setCell 2 _
              have hLn := L11.out.set 2 (.int .i64 (ls9 + F.size))
              exact ⟨PB11.out.but hbut (by omega), by simpa using hLn, RD11.out.but hbut (by omega), RL11.out.but hbut (by omega), F11.out.apart (apart_log F11.out L11.out) hbut, B11.out.setCell (by simp) _⟩
            obtain ⟨hPB, hL, hRD, hRL, hfi, hbel⟩ := hcut
            rename World => w12
            have PB12 : Hid (Blk w12 P #[.slice a7 fs7.length cap7, .int .i64 c7, .int .i64 k7, .int .i64 cr7, .int .i64 fl7, .bool dn7] 30) := hPB
            have L12 : Hid (Blk w12 (w.heap.size + 1) #[.int .i64 lf, .int .i64 ll9, .int .i64 (ls9 + F.size)] 31) := hL
            have RD12 : Hid (Blk w12 (w.heap.size + 1 + 1) #[.slice none 0 0, .int .i64 0, .int .i64 0, .int .i64 0, .int .i64 0, .bool false] 30) := hRD
            have RL12 : Hid (Blk w12 (w.heap.size + 1 + 1 + 1) #[.int .i64 0, .int .i64 0, .int .i64 0] 31) := hRL
            have F12 : Hid (FilesIn w12 a7 fs7) := hfi
            have B12 : Hid (Below w.heap.size w w12) := hbel
            clear hPB hL hRD hRL hfi hbel l0 l1 l2 t0 t1 t2 PB11 L11 RD11 RL11 F11 B11
            obtain ⟨d0, d1, d2, d3, d4, d5⟩ := PB12.out.six
            obtain ⟨l0, l1, l2⟩ := L12.out.three
            obtain ⟨r0, r1, r2, r3, r4, r5⟩ := RD12.out.six
            have q0 := RD12.out.free 0
            have q1 := RD12.out.free 1
            have q2 := RD12.out.free 2
            have q3 := RD12.out.free 3
            have q4 := RD12.out.free 4
            have q5 := RD12.out.free 5
            obtain ⟨s0, s1, s2⟩ := RL12.out.three
            have t0 := RL12.out.free 0
            have t1 := RL12.out.free 1
            have t2 := RL12.out.free 2
            have hlt : w.heap.size + 1 + 1 + 1 < w12.heap.size := lt_of_block RL12.out
            go_wp2_with fail
            go_region
            go_wp2
            refine bodyPost_ret (v := .tuple #[.agg #[.slice a7 fs7.length cap7, .int .i64 c7, .int .i64 k7, .int .i64 cr7, .int .i64 fl7, .bool dn7], .agg #[.int .i64 lf, .int .i64 ll9, .int .i64 (ls9 + F.size)], .int .i64 (code7 : Nat)]) (by simp [results, Tryz.results5, go_sem, r0, r1, r2, r3, r4, r5, s0, s1, s2]) rfl ?_
            rw [E.out]
            refine ⟨a7, cap7, rfl, ?_, ?_⟩
            · have h := F12.out
              repeat (first | with_reducible refine FilesIn.drew ?_ | with_reducible refine FilesIn.set1 ?_ (by first | exact apart_disk F12.out RD12.out | exact apart_log F12.out RL12.out) _)
              exact h
            · have h := B12.out
              repeat (first | with_reducible refine Below.drew ?_ | with_reducible refine Below.setCell ?_ (by first | (simp; done) | (simp; omega)) _)
              exact h
          · have hcb7 : ((code7 : Int) == 0) = false := by simpa using hc7
            have E : Hid ((appendD ⟨fs, c, k, cr, fl, dn⟩ ⟨lf, ll, ls⟩ p most) = (⟨fs7, c7, k7, cr7, fl7, dn7⟩, ⟨lf, ll9, ls9⟩, code7)) := by
              show _ = _
              rw [ET, if_pos hc7]
            clear hc7 ET
            obtain ⟨d0, d1, d2, d3, d4, d5⟩ := PB11.out.six
            obtain ⟨l0, l1, l2⟩ := L11.out.three
            obtain ⟨r0, r1, r2, r3, r4, r5⟩ := RD11.out.six
            have q0 := RD11.out.free 0
            have q1 := RD11.out.free 1
            have q2 := RD11.out.free 2
            have q3 := RD11.out.free 3
            have q4 := RD11.out.free 4
            have q5 := RD11.out.free 5
            obtain ⟨s0, s1, s2⟩ := RL11.out.three
            have t0 := RL11.out.free 0
            have t1 := RL11.out.free 1
            have t2 := RL11.out.free 2
            have hlt : w.heap.size + 1 + 1 + 1 < w11.heap.size := lt_of_block RL11.out
            go_wp2_with fail
            go_region
            go_wp2
            refine bodyPost_ret (v := .tuple #[.agg #[.slice a7 fs7.length cap7, .int .i64 c7, .int .i64 k7, .int .i64 cr7, .int .i64 fl7, .bool dn7], .agg #[.int .i64 lf, .int .i64 ll9, .int .i64 ls9], .int .i64 (code7 : Nat)]) (by simp [results, Tryz.results5, go_sem, r0, r1, r2, r3, r4, r5, s0, s1, s2]) rfl ?_
            rw [E.out]
            refine ⟨a7, cap7, rfl, ?_, ?_⟩
            · have h := F11.out
              repeat (first | with_reducible refine FilesIn.drew ?_ | with_reducible refine FilesIn.set1 ?_ (by first | exact apart_disk F11.out RD11.out | exact apart_log F11.out RL11.out) _)
              exact h
            · have h := B11.out
              repeat (first | with_reducible refine Below.drew ?_ | with_reducible refine Below.setCell ?_ (by first | (simp; done) | (simp; omega)) _)
              exact h
        · have hcb : ((code6 : Int) != 0) = true := by simpa using hc
          have E : Hid ((appendD ⟨fs, c, k, cr, fl, dn⟩ ⟨lf, ll, ls⟩ p most) = (⟨fs6, c6, k6, cr6, fl6, dn6⟩, ⟨lf, ll9, ls9⟩, code6)) := E9.out.trans (appendT_fail HS6.out hc)
          clear hc
          obtain ⟨d0, d1, d2, d3, d4, d5⟩ := PB10.out.six
          obtain ⟨l0, l1, l2⟩ := L10.out.three
          obtain ⟨r0, r1, r2, r3, r4, r5⟩ := RD10.out.six
          have q0 := RD10.out.free 0
          have q1 := RD10.out.free 1
          have q2 := RD10.out.free 2
          have q3 := RD10.out.free 3
          have q4 := RD10.out.free 4
          have q5 := RD10.out.free 5
          obtain ⟨s0, s1, s2⟩ := RL10.out.three
          have t0 := RL10.out.free 0
          have t1 := RL10.out.free 1
          have t2 := RL10.out.free 2
          have hlt : w.heap.size + 1 + 1 + 1 < w10.heap.size := lt_of_block RL10.out
          go_wp2_with fail
          go_region
          go_wp2
          refine bodyPost_ret (v := .tuple #[.agg #[.slice a6 fs6.length cap6, .int .i64 c6, .int .i64 k6, .int .i64 cr6, .int .i64 fl6, .bool dn6], .agg #[.int .i64 lf, .int .i64 ll9, .int .i64 ls9], .int .i64 (code6 : Nat)]) (by simp [results, Tryz.results5, go_sem, r0, r1, r2, r3, r4, r5, s0, s1, s2]) rfl ?_
          rw [E.out]
          refine ⟨a6, cap6, rfl, ?_, ?_⟩
          · have h := F10.out
            repeat (first | with_reducible refine FilesIn.drew ?_ | with_reducible refine FilesIn.set1 ?_ (by first | exact apart_disk F10.out RD10.out | exact apart_log F10.out RL10.out) _)
            exact h
          · have h := B10.out
            repeat (first | with_reducible refine Below.drew ?_ | with_reducible refine Below.setCell ?_ (by first | (simp; done) | (simp; omega)) _)
            exact h
end Go.Proofs.YtboofidegpnkaaaGreatDoor
