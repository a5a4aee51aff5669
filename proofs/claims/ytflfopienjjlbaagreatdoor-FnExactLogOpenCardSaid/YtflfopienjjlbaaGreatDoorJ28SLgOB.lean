import Derived.Test.YtflfopienjjlbaaGreatDoorProg
import Derived.Test.YtflfopienjjlbaaGreatDoorJ26SLgP
import Derived.Deep.RegionHeld3
import Derived.Deep.DeepCutAuto
namespace Go.Proofs.YtflfopienjjlbaaGreatDoor
open Go.RowKit

set_option maxRecDepth 100000 in
set_option maxHeartbeats 40000000 in
theorem specOpen_some (a : Option Addr) (cap : Nat) (K : DiskD) (w : World) (hf : FilesIn w a K.fs) (hfit : Fit K.fs) (HYES : Hid (diskB K.fs K.c K.k K.cr K.fl = true ∧ K.dn = false ∧ numsL K.fs ≠ [])) :
    Calls Tryz.prog 6 #[.agg #[.slice a K.fs.length cap, .int .i64 K.c, .int .i64 K.k, .int .i64 K.cr, .int .i64 K.fl, .bool K.dn]] w fun e w' => OpenSpec w (openD K) e w' := by
  have HF : Hid (FilesIn w a K.fs) := hf
  have hlen := hfit.len
  have HS : Hid (Fit K.fs) := hfit
  have hlm : K.fs.length ≤ maxLen := by unfold maxLen; omega
  obtain ⟨⟨KR, LR, ys, code⟩, hR⟩ : ∃ R, openD K = R := ⟨_, rfl⟩
  have HR := hid hR
  rw [hR]
  clear hf hfit hR
  go_enter Tryz.func6, Tryz.ntmps6
  go_upto_region 2 with fail
  have hb3 := fourBoxes (w := w) (x := #[.slice a K.fs.length cap, .int .i64 K.c, .int .i64 K.k, .int .i64 K.cr, .int .i64 K.fl, .bool K.dn]) (tx := 28) (y := #[.slice none 0 0, .int .i64 0, .int .i64 0, .int .i64 0, .int .i64 0, .bool false]) (ty := 28) (z := #[.int .i64 0, .int .i64 0, .int .i64 0]) (tz := 30) (u := #[]) (tu := 9) (Below.refl _ _)
  generalize ((((w.alloc (.cells #[.slice a K.fs.length cap, .int .i64 K.c, .int .i64 K.k, .int .i64 K.cr, .int .i64 K.fl, .bool K.dn] 28)).alloc (.cells #[.slice none 0 0, .int .i64 0, .int .i64 0, .int .i64 0, .int .i64 0, .bool false] 28)).alloc (.cells #[.int .i64 0, .int .i64 0, .int .i64 0] 30)).alloc (.cells #[] 9)) = W3 at *
  have H3 : Hid (SO w.heap.size w W3 K a cap) := ⟨hb3.1, hb3.2.1, hb3.2.2.1, HF.out.later hb3.2.2.2.2, hb3.2.2.2.2⟩
  clear hb3
  obtain ⟨k0, k1, k2, k3, k4, k5⟩ := H3.out.dk.six
  cases hdv : diskB K.fs K.c K.k K.cr K.fl with
  | false =>
    exact absurd (hdv.symm.trans HYES.out.1) (by decide)
  | true =>
    have HDV := hid hdv
    have HV := hid (specValid_is (cap := cap) (dn := K.dn) hdv W3 H3.out.fi HS.out.short hlm HS.out.sum)
    clear hdv
    go_wp2_with fail
    refine HV.out.mono ?_
    rintro e w4 ⟨rfl, hb4⟩
    have H4 := hid (H3.out.later hb4)
    clear hb4 k0 k1 k2 k3 k4 k5 HV
    obtain ⟨a1, cap1, W5, hrun, hfi, hb5, hap⟩ := copy_run w4 a cap K.fs H4.out.fi hlen
    have HRUN := hid hrun
    have H5 : Hid (SO w.heap.size w W5 K a cap ∧ FilesIn W5 a1 K.fs) := ⟨H4.out.later hb5, hfi⟩
    have x0 := H4.out.dk.cell 0
    simp only [List.getElem?_toArray, List.getElem?_cons_zero] at x0
    have d0 := H5.out.1.dk.cell 0
    simp only [List.getElem?_toArray, List.getElem?_cons_zero] at d0
    have y0 := H5.out.1.dk.free 0
    have hlt : w.heap.size < w4.heap.size := lt_of_block H4.out.dk
    have hn2 : ¬ w.heap.size = w4.heap.size := by omega
    clear hrun hfi hb5
    go_upto_region 4 with fail
    go_cut [36] (fun _ wx => ∃ a1 cap1, SO w.heap.size w wx K a1 cap1)
    case first => as_aux_lemma =>
      go_wp2_with (at_builtin; refine Lib.wpList_append_run _ rfl _ _ _ _ rfl _ _ rfl rfl _ _ HRUN.out ?_)
      go_meet
      have hbut : But w.heap.size W5 (W5.setCell ⟨w.heap.size, 0, none⟩ (.slice a1 K.fs.length cap1)) := (But.refl _ _).setCell 0 _
      have h0 := H5.out.1.dk.set 0 (.slice a1 K.fs.length cap1)
      exact ⟨a1, cap1, by simpa using h0, H5.out.1.rd.but hbut (by omega), H5.out.1.rl.but hbut (by omega), H5.out.2.apart (apart_disk H5.out.2 H5.out.1.dk) hbut, H5.out.1.be.setCell (Nat.le_refl _) _⟩
    clear H5 HRUN x0 d0 y0 hlt hn2 H4 H3 hap
    clear a1 cap1
    obtain ⟨a1, cap1, h6⟩ := hcut
    rename World => W6
    have H6 := hid h6
    clear h6
    obtain ⟨d0, d1, d2, d3, d4, d5⟩ := H6.out.dk.six
    by_cases hdn : K.dn = true
    · exact absurd (hdn.symm.trans HYES.out.2.1) (by decide)
    · have hdf : K.dn = false := by simpa using hdn
      have E : Hid ((KR, LR, ys, code) = openN K (numsL K.fs)) := by show _ = _; rw [← HR.out, openD_ok HDV.out hdf]
      rw [hdf] at d5
      have HDF := hid hdf
      clear hdn hdf
      have hlt : w.heap.size < W6.heap.size := lt_of_block H6.out.dk
      have hne : ¬ w.heap.size = W6.heap.size := by omega
      obtain ⟨ti, hti, hz0, hz1, hz2⟩ := info_num
      have HI : Hid (Tryz.prog.info? 3 = some ti) := hti
      have HNM : Hid (∀ i (h : i < K.fs.length), K.fs[i].name.size ≤ maxLen) := fun i h => (HS.out.short i h).1
      clear hti
      go_wp2_with fail
      go_loopw [7, 47] (fun nv iv wr => ∃ (k : Nat) (zs : List Int) (av : Option Addr) (cv : Nat), k ≤ K.fs.length ∧ zs.length ≤ k ∧ Hid (zs = numsL (K.fs.take k)) ∧ iv = .int .i64 k ∧ nv = .slice av zs.length cv ∧ Hid (wr.ownsRow W6.heap.size 3 1 (.slice av zs.length cv) zs.length (zs.map (Value.int .i64))) ∧ Below W6.heap.size W6 wr) (fun _ iv _ => K.fs.length - (intOf iv).toNat)
      case atStart =>
        exact ⟨0, [], _, _, Nat.zero_le _, Nat.zero_le _, rfl, rfl, rfl, World.ownsRow_made W6 #[] 0 (Nat.le_refl _) (by simp [maxLen]) (by simp), bnew _ _⟩
      case round =>
        obtain ⟨k, zs, av, cv, hk, hzl, HZ, rfl, rfl, hrow, hbel⟩ := hrel
        have hsz := hbel.size
        clear d0 d1 d2 d3 d4 d5
        by_cases hkl : k < K.fs.length
        · obtain ⟨b, o, rfl, hbb, q0, q1, q2⟩ := (H6.out.fi.later hbel).at hkl
          have hsn := HNM.out k hkl
          have HYy : Hid (0 < segOf K.fs[k].name → zs ++ [(segOf K.fs[k].name : Int)] = numsL (K.fs.take (k + 1))) := fun h => by rw [numsL_take_yes hkl h, HZ.out]
          have HYn : Hid (¬ 0 < segOf K.fs[k].name → zs = numsL (K.fs.take (k + 1))) := fun h => by rw [numsL_take_no hkl h, HZ.out]
          generalize K.fs[k].name = nm at *
          generalize K.fs[k].data = dt at *
          generalize K.fs[k].synced = sy at *
          have HSG : Hid (∀ W, Calls Tryz.prog 26 #[.string nm] W fun e w' => e = .returned (.int .i64 (segOf nm : Nat)) ∧ w' = W) := fun W => specSegOf_any nm W hsn
          obtain ⟨sg, hsg⟩ : ∃ n, segOf nm = n := ⟨_, rfl⟩
          rw [hsg] at HSG HYy HYn
          clear hsg
          by_cases hp : 0 < sg
          · have HP := hid (HYy.out hp)
            have hp1 : (0 : Int) < (sg : Int) := by omega
            have hs1 : w.heap.size ≤ wr.heap.size := by omega
            go_wp2_with fail
            refine (HSG.out _).mono ?_
            rintro e w7 ⟨rfl, hw7⟩
            replace hw7 := hw7.symm
            subst hw7
            go_wp2_with fail
            refine (HSG.out _).mono ?_
            rintro e w8 ⟨rfl, hw8⟩
            replace hw8 := hw8.symm
            subst hw8
            go_wp2_with (at_builtin; refine wpList_append_lies _ rfl _ _ _ rfl W6.heap.size 3 ti _ 1 8 Tryz.underlying54 HI.out hz0 hz1 hz2 rfl (by omega) (.slice av zs.length cv) zs.length (zs.map (Value.int .i64)) rfl (by exact row_later (row_later hrow.out (bnew _ _)) (bnew _ _)) ⟨wr.heap.size + 1, 0, none⟩ 1 1 [.int .i64 (sg : Int)] rfl rfl (by exact World.news_of_block (by simpa using heap_alloc_new (wr.alloc (.cells #[.string nm, .string dt, .int .i64 sy] 59)) (.cells #[.int .i64 (sg : Int)] 3))) (by simp [Value.oneCell']) (by omega) (by simp [maxLen]; omega) (by omega) (by simp; omega) (wr.heap.size + 2) (by simp) ?_; intro g5 cap5 w5 hown5 hgrow5 hat5 hlt5)
            have hB5 : Below W6.heap.size W6 w5 := (bto (bto hbel (bnew _ _)) (bnew _ _)).grown hgrow5 (by simp; omega) (fun q hq => by
              rcases hrow.out.2 with ⟨he, _⟩ | ⟨g, cap, cur, he, hB, _⟩
              · rw [he] at hq; simp [Value.ownBlock] at hq
              · rw [he] at hq; simp [Value.ownBlock] at hq; omega)
            have hxs : zs.map (Value.int .i64) ++ [Value.int .i64 (sg : Int)] = (zs ++ [(sg : Int)]).map (Value.int .i64) := by simp
            have hle : (zs ++ [(sg : Int)]).length = zs.length + 1 := by simp
            rw [hxs, ← hle] at hown5
            go_roundw
            case rel => exact ⟨k + 1, zs ++ [(sg : Int)], some ⟨g5, 0, none⟩, cap5, by omega, by rw [hle]; omega, HP.out, by go_num, by rw [hle], hown5, hB5⟩
            case measure => simp [intOf]; omega
          · obtain rfl : sg = 0 := by omega
            have HP := hid (HYn.out (by omega))
            go_wp2_with fail
            refine (HSG.out _).mono ?_
            rintro e w7 ⟨rfl, hw7⟩
            replace hw7 := hw7.symm
            subst hw7
            go_wp2
            go_roundw
            case rel => exact ⟨k + 1, zs, av, cv, by omega, by omega, HP.out, by go_num, rfl, row_later hrow.out (bnew _ _), bto hbel (bnew _ _)⟩
            case measure => simp [intOf]; omega
        · obtain rfl : k = K.fs.length := by omega
          have HZZ : Hid (zs = numsL K.fs) := by have := HZ.out; rw [List.take_length] at this; exact this
          have H7 := hid (H6.out.later hbel)
          have HNI := nums_of_row hrow.out
          have hzk := numsL_length K.fs
          rw [← HZZ.out] at E hzk
          clear HZ hrow H6 HNM
          cases zs with
          | nil =>
            exact absurd HZZ.out.symm HYES.out.2.2
          | cons x l =>
            obtain ⟨f1, f2, f3, f4, f5, f6, f7, _⟩ := files_of_disk HDV.out
            have hasc : Asc K.fs := asc_of f1
            have hu : Up (x :: l) := by rw [HZZ.out]; exact up_nums hasc
            obtain ⟨nb, no, rfl, hnb, hnc⟩ : ∃ b o, av = some ⟨b, o, none⟩ ∧ b < wr.heap.size ∧ ∀ i (h : i < (x :: l).length), wr.cell? ⟨b, o + i, none⟩ = some (.int .i64 (x :: l)[i]) := by
              rcases HNI with h | ⟨b, o, e, hlt, h⟩
              · cases h
              · exact ⟨b, o, e, hlt, h⟩
            have HNC := hid hnc
            have HUP := hid hu
            have n0 : wr.cell? ⟨nb, no, none⟩ = some (.int .i64 x) := hnc 0 (by simp)
            have HXB : Hid (∀ j (h : j < (x :: l).length), 1 ≤ (x :: l)[j] ∧ (x :: l)[j] ≤ 999999) := fun j h => by
              have := nums_mem (fs := K.fs) (n := (x :: l)[j]) (by rw [← HZZ.out]; exact List.getElem_mem _)
              exact ⟨this.1, this.2.1⟩
            have hx0 := HXB.out 0 (by simp)
            obtain ⟨hx1, hx2⟩ : 1 ≤ x ∧ x ≤ 999999 := hx0
            have HASC := hid hasc
            clear HNI hnc hu hasc f1 f3 f4 f5 f6 f7
            rw [List.length_cons] at hzk
            generalize wr = WB at *
            clear wr
            obtain ⟨d0, d1, d2, d3, d4, d5⟩ := H7.out.dk.six
            go_wp2_with fail
            go_loop [83] (fun iv => ∃ k : Nat, k ≤ l.length + 1 ∧ iv = .int .i64 k ∧ Hid (∀ j (h : j < (x :: l).length), j < k → (x :: l)[j] = x + j)) (fun iv => l.length + 1 - (intOf iv).toNat)
            case atStart => exact ⟨0, Nat.zero_le _, rfl, fun j _ h => absurd h (by omega)⟩
            case round =>
              obtain ⟨k, hk2, rfl, HALL⟩ := hrel
              by_cases hk3 : k < l.length + 1
              · have hkc : k < (x :: l).length := by rw [List.length_cons]; exact hk3
                have n1 := HNC.out k hkc
                have hxb := HXB.out k hkc
                by_cases hq : (x :: l)[k] = x + k
                · have HQ := hid hq
                  have HNX : Hid (∀ j (h : j < (x :: l).length), j < k + 1 → (x :: l)[j] = x + j) := fun j h hj => by
                    rcases Nat.lt_or_ge j k with h' | h'
                    · exact HALL.out j h h'
                    · obtain rfl : j = k := by omega
                      exact hq
                  rw [hq] at n1
                  clear hq hxb
                  go_wp2
                  go_round
                  case rel => exact ⟨k + 1, by omega, by go_num, HNX.out⟩
                  case measure => simp [intOf]; omega
                · have HE : Hid ((KR, LR, ys, code) = (K, noLog, [], 21)) := by
                    show _ = _
                    rw [E.out]
                    unfold openN
                    refine openG_gap ?_
                    rcases Int.lt_or_le ((x :: l).getLast (by simp) - x) (((x :: l).length : Nat) : Int) with h' | h'
                    · exact absurd ((up_gap HUP.out).2 h' k hkc) hq
                    · rw [List.length_cons] at h'
                      exact h'
                  obtain ⟨z, hz⟩ : ∃ z, (x :: l)[k] = z := ⟨_, rfl⟩
                  rw [hz] at n1 hxb hq
                  obtain ⟨hb1, hb2⟩ := hxb
                  clear hz
                  obtain ⟨r0, r1, r2, r3, r4, r5⟩ := H7.out.rd.six
                  obtain ⟨y0, y1, y2⟩ := H7.out.rl.three
                  have f0 := H7.out.rd.free 0
                  have f1 := H7.out.rd.free 1
                  have f2 := H7.out.rd.free 2
                  have f3 := H7.out.rd.free 3
                  have f4 := H7.out.rd.free 4
                  have f5 := H7.out.rd.free 5
                  have g0 := H7.out.rl.free 0
                  have g1 := H7.out.rl.free 1
                  have g2 := H7.out.rl.free 2
                  have HBL := hid (fillPQ_blks (v0 := .slice a1 K.fs.length cap1) (v1 := .int .i64 K.c) (v2 := .int .i64 K.k) (v3 := .int .i64 K.cr) (v4 := .int .i64 K.fl) (v5 := .bool K.dn) (x0 := .int .i64 0) (x1 := .int .i64 0) (x2 := .int .i64 0) (show w.heap.size + 1 ≠ w.heap.size + 1 + 1 by omega) H7.out.rd H7.out.rl)
                  have HFB : Hid (Below w.heap.size w (fillPQ (w.heap.size + 1) (w.heap.size + 1 + 1) WB (.slice a1 K.fs.length cap1) (.int .i64 K.c) (.int .i64 K.k) (.int .i64 K.cr) (.int .i64 K.fl) (.bool K.dn) (.int .i64 0) (.int .i64 0) (.int .i64 0))) := fillPQ_below H7.out.be (by omega) (by omega)
                  have HBT : Hid (Below w.heap.size w WB) := H7.out.be
                  go_wp2
                  obtain ⟨s0, s1, s2, s3, s4, s5⟩ := HBL.out.1.six
                  obtain ⟨t0, t1, t2⟩ := HBL.out.2.three
                  change bodyPost _ _ _ _ _ (fillPQ (w.heap.size + 1) (w.heap.size + 1 + 1) WB (.slice a1 K.fs.length cap1) (.int .i64 K.c) (.int .i64 K.k) (.int .i64 K.cr) (.int .i64 K.fl) (.bool K.dn) (.int .i64 0) (.int .i64 0) (.int .i64 0))
                  refine bodyPost_ret (v := .tuple #[.agg #[.slice a1 K.fs.length cap1, .int .i64 K.c, .int .i64 K.k, .int .i64 K.cr, .int .i64 K.fl, .bool K.dn], .agg #[.int .i64 0, .int .i64 0, .int .i64 0], .slice (some ⟨w.heap.size + 1 + 1 + 1, 0, none⟩) 0 0, .int .i64 21]) (by simp [results, Tryz.results6, go_sem, s0, s1, s2, s3, s4, s5, t0, t1, t2]) rfl ?_
                  rw [HE.out]
                  exact ⟨a1, cap1, _, 0, rfl, H7.out.fill H7.out.fi, Or.inl rfl, HFB.out⟩
              · have hkk : k = l.length + 1 := by omega
                subst hkk
                have hgap : (x :: l).getLast (by simp) - x < (((x :: l).length : Nat) : Int) := (up_gap HUP.out).1 (fun i hi => HALL.out i hi (by rw [List.length_cons] at hi; exact hi))
                obtain ⟨cnt, hlast, hcn, _, hcx, hix⟩ := nums_at HASC.out HZZ.out.symm (by omega)
                have HIX := hid hix
                have EG : Hid ((KR, LR, ys, code) = openG K x (x + cnt) (l.length + 1)) := by
                  show _ = _
                  rw [E.out]
                  show openG K x ((x :: l).getLast (by simp)) (l.length + 1) = _
                  rw [hlast]
                have hcl : l.length = cnt := by rw [List.length_cons] at hcn; omega
                have n1 := HNC.out cnt (by rw [List.length_cons]; omega)
                rw [HALL.out cnt (by rw [List.length_cons]; omega) (by omega)] at n1
                have HGP : Hid (¬ (((l.length + 1 : Nat)) : Int) ≤ (x + (cnt : Int)) - x) := by show ¬ _; omega
                subst hcl
                clear hix hgap hlast hcn HALL HNC HXB E HUP HZZ
                have hnl : ¬ nb = WB.heap.size := by omega
                have EGO : Hid ((KR, LR, ys, code) = goR K x (x + l.length) (readR K.fs (x + l.length) (l.length + 1) x [] 0)) := by
                  show _ = _
                  rw [EG.out, openG_go HGP.out, show (x + (l.length : Int) - x).toNat = l.length by omega]
                clear EG HGP
                go_upto_region 26 with fail
                go_cut [15] (fun sl wx => ∃ Q, sl = .pointer (some ⟨Q, 0, none⟩) ∧ WB.heap.size < Q ∧ Blk wx Q #[.int .i64 x, .int .i64 (x + l.length), .int .i64 0] 30 ∧ wx.ownsRow WB.heap.size 9 1 (.slice (some ⟨WB.heap.size, 0, none⟩) 0 0) 0 [] ∧ Below WB.heap.size WB wx)
                case first => as_aux_lemma =>
                  go_region
                  all_goals (go_wp2_with fail; go_meet)
                  have hq := (blk_new (WB.alloc (.cells #[] 9)) #[.int .i64 x, .int .i64 (x + l.length), .int .i64 0] 30).later (Below.refl _ _).drew
                  exact ⟨_, rfl, Nat.lt_succ_self _, by simpa using hq, row_later (row_later (World.ownsRow_made WB #[] 0 (Nat.le_refl _) (by simp [maxLen]) (by simp)) (bnew _ _)) (Below.refl _ _).drew, (bto (bnew _ _) (bnew _ _)).drew⟩
                obtain ⟨Q, rfl, hQ, hqb, hrow0, hb0⟩ := hcut
                rename World => WC
                have HQB := hid hqb
                have HR0 := hid hrow0
                have HC := hid hb0
                have hWC := hb0.size
                have hWBn : w.heap.size + 1 + 1 < WB.heap.size := lt_of_block H7.out.rl
                have o0 := hqb.cell 0
                simp only [List.getElem?_toArray, List.getElem?_cons_zero] at o0
                have HB0 := hid hb0
                clear hqb hrow0 hb0 d0 d1 d2 d3 d4 d5 n0 n1 HC
                try rw [List.length_cons]
                generalize l.length = m at *
                obtain ⟨M, hM⟩ : ∃ M : Nat, M = 1000000001 := ⟨_, rfl⟩
                have HM := hid hM
                clear hM
                obtain ⟨ts, hts, ys0, ys1, ys2⟩ := info_str
                have HIS : Hid (Tryz.prog.info? 9 = some ts) := hts
                clear hts
                generalize hRR : (KR, LR, ys, code) = RR at *
                have HRR := hid hRR
                clear hRR
                go_wp2_with fail
                go_loopw [14, 16] (fun allv nv wr => ∃ (j sz : Nat) (zs : List ByteArray) (av : Option Addr) (cv : Nat), j ≤ m + 1 ∧ Hid (zs.length ≤ j * M) ∧ nv = .int .i64 (x + j) ∧ allv = .slice av zs.length cv ∧ Hid (wr.ownsRow WB.heap.size 9 1 (.slice av zs.length cv) zs.length (zs.map Value.string)) ∧ Hid (Blk wr Q #[.int .i64 x, .int .i64 (x + m), .int .i64 (sz : Nat)] 30) ∧ WC.heap.size ≤ wr.heap.size ∧ Hid (Phase w.heap.size w WB wr K RR x m j sz zs)) (fun _ nv _ => (x + m + 1 - intOf nv).toNat)
                case atStart =>
                  exact ⟨0, 0, [], _, _, by omega, Nat.zero_le _, by simp, rfl, HR0.out, HQB.out, Nat.le_refl _, Or.inl ⟨by omega, HB0.out, by simpa using EGO.out⟩⟩
                case round =>
                  obtain ⟨j, sz, zs, av, cv, hj, HZL, rfl, rfl, HROW, HBQ, hws, HPH⟩ := hrel
                  have o1 : wr.cell? ⟨Q, 1, none⟩ = some (.int .i64 (x + m)) := by rw [HBQ.out.cell]; rfl
                  clear o0
                  by_cases hjm : j ≤ m
                  · obtain ⟨hbel2, hgo⟩ : Below WB.heap.size WB wr ∧ RR = goR K x (x + m) (readR K.fs (x + m) (m + 1 - j) (x + j) zs sz) := by
                      rcases HPH.out with ⟨_, h1, h2⟩ | ⟨h1, _⟩
                      · exact ⟨h1, h2⟩
                      · omega
                    have HBE := hid hbel2
                    have HGO := hid hgo
                    obtain ⟨i, hi, hnm⟩ := HIX.out j hjm
                    have hdt : datAt K.fs (x + j) = K.fs[i].data := datAt_eq HASC.out hi hnm
                    have HSO := hid (H7.out.later hbel2)
                    obtain ⟨dt, hd⟩ : ∃ d, K.fs[i].data = d := ⟨_, rfl⟩
                    have hds : dt.size ≤ 1000000000 := by rw [← hd]; exact Nat.le_trans (sumLen_mem i hi) HS.out.sum
                    have HRD : Hid (∀ W, FilesIn W a1 K.fs → Calls Tryz.prog 29 #[.agg #[.slice a1 K.fs.length cap1, .int .i64 K.c, .int .i64 K.k, .int .i64 K.cr, .int .i64 K.fl, .bool K.dn], .string (segS (x + j))] W fun e w' => e = .returned (.tuple #[.string dt, .bool true]) ∧ Below W.heap.size W w') := fun W hW => by
                      have := specRead_any a1 cap1 K.fs K.c K.k K.cr K.fl K.dn (segS (x + j)) W hW HS.out.short hlm HS.out.sum
                      rw [read_at HDV.out HDF.out HASC.out hi hnm, hd] at this
                      exact this
                    have HDT : Hid (datAt K.fs (x + j) = dt) := hdt.trans hd
                    have HFD : Hid ((fileAt K.fs (x + j)).data = dt) := by show _ = _; rw [fileAt_eq HASC.out hi hnm]; exact hd
                    have HFI : Hid (∃ i, ∃ h : i < K.fs.length, K.fs[i].name = segS (x + j)) := ⟨i, hi, hnm⟩
                    clear hbel2 hgo hnm hdt hd
                    have HK : Hid (∀ w', Below wr.heap.size wr w' → w'.cell? ⟨w.heap.size, 0, none⟩ = some (.slice a1 K.fs.length cap1) ∧ w'.cell? ⟨w.heap.size, 1, none⟩ = some (.int .i64 K.c) ∧ w'.cell? ⟨w.heap.size, 2, none⟩ = some (.int .i64 K.k) ∧ w'.cell? ⟨w.heap.size, 3, none⟩ = some (.int .i64 K.cr) ∧ w'.cell? ⟨w.heap.size, 4, none⟩ = some (.int .i64 K.fl) ∧ w'.cell? ⟨w.heap.size, 5, none⟩ = some (.bool K.dn)) := fun w' h => by
                      obtain ⟨b0, b1, b2, b3, b4, b5⟩ := (HSO.out.later h).dk.six
                      exact ⟨b0, b1, b2, b3, b4, b5⟩
                    obtain ⟨x0, x1, x2, x3, x4, x5⟩ := HK.out wr (Below.refl _ _)
                    go_upto_region 30 with fail
                    go_cut [17] (fun s17 wx => s17 = .string dt ∧ Below wr.heap.size wr wx)
                    case first => as_aux_lemma =>
                      go_region_held3 (fun w' => w'.cell? ⟨w.heap.size, 0, none⟩ = some (.slice a1 K.fs.length cap1) ∧ w'.cell? ⟨w.heap.size, 1, none⟩ = some (.int .i64 K.c) ∧ w'.cell? ⟨w.heap.size, 2, none⟩ = some (.int .i64 K.k) ∧ w'.cell? ⟨w.heap.size, 3, none⟩ = some (.int .i64 K.cr) ∧ w'.cell? ⟨w.heap.size, 4, none⟩ = some (.int .i64 K.fl) ∧ w'.cell? ⟨w.heap.size, 5, none⟩ = some (.bool K.dn))
                        (exact HK.out _ (by repeat (first | with_reducible refine Below.setCell ?_ (by first | exact Nat.le_refl _ | exact low (by repeat (first | with_reducible exact Below.refl _ _ | exact (Below.refl _ _).drew | with_reducible refine bto ?_ (bnew _ _) | with_reducible refine Below.drew ?_ | refine bto ?_ (by assumption)))) _ | with_reducible exact Below.refl _ _ | with_reducible refine bto ?_ (bnew _ _) | with_reducible refine Below.drew ?_ | exact (Below.refl _ _).drew | refine bto ?_ (by assumption))))
                        (first
                        | (go_at_call 28; refine (specSeg_any _ _).mono ?_; rintro e v2 ⟨rfl, hb2⟩)
                        | (go_at_call 29; refine (HRD.out _ (HSO.out.fi.later (by repeat (first | with_reducible refine Below.setCell ?_ (by first | exact Nat.le_refl _ | exact low (by repeat (first | with_reducible exact Below.refl _ _ | exact (Below.refl _ _).drew | with_reducible refine bto ?_ (bnew _ _) | with_reducible refine Below.drew ?_ | refine bto ?_ (by assumption)))) _ | with_reducible exact Below.refl _ _ | with_reducible refine bto ?_ (bnew _ _) | with_reducible refine Below.drew ?_ | exact (Below.refl _ _).drew | refine bto ?_ (by assumption))))).mono ?_; rintro e v3 ⟨rfl, hb3⟩))
                      all_goals (go_wp2_with fail; go_meet)
                      all_goals exact ⟨rfl, (by repeat (first | with_reducible refine Below.setCell ?_ (by first | exact Nat.le_refl _ | exact low (by repeat (first | with_reducible exact Below.refl _ _ | exact (Below.refl _ _).drew | with_reducible refine bto ?_ (bnew _ _) | with_reducible refine Below.drew ?_ | refine bto ?_ (by assumption)))) _ | with_reducible exact Below.refl _ _ | with_reducible refine bto ?_ (bnew _ _) | with_reducible refine Below.drew ?_ | exact (Below.refl _ _).drew | refine bto ?_ (by assumption)))⟩
                    obtain ⟨rfl, hb8⟩ := hcut
                    rename World => w8
                    have HB8 := hid hb8
                    have hs8 := hb8.size
                    clear HK x0 x1 x2 x3 x4 x5 hb8 o1
                    have hvl := scanV_len dt
                    have HSC : Hid (∀ W, Calls Tryz.prog 30 #[.string dt] W fun e w' => ∃ a cap, e = .returned (.tuple #[.slice a (scanV dt).1.length cap, .int .i64 ((scanV dt).2 : Nat)]) ∧ StrsOwn w' W.heap.size a (scanV dt).1 ∧ Below W.heap.size W w') := fun W => specScan_any dt W hds
                    have HG2 : Hid (RR = goR K x (x + m) (if (scanV dt).2 < dt.size ∧ x + (j : Int) < x + m then none else readR K.fs (x + m) (m - j) (x + j + 1) (zs ++ (scanV dt).1) (scanV dt).2)) := by
                      show _ = _
                      rw [HGO.out, show m + 1 - j = (m - j) + 1 by omega, readR, HDT.out]
                    generalize scanV dt = V at *
                    obtain ⟨ps, vz⟩ := V
                    simp only at hvl HSC HG2
                    go_wp2_with fail
                    refine (HSC.out _).mono ?_
                    rintro e w9 ⟨a2, c2, rfl, hst, hb9⟩
                    have HB9 : Hid (Below wr.heap.size wr w9) := bto HB8.out hb9
                    have HST := hid hst
                    have hs9 := HB9.out.size
                    have HROW9 : Hid (w9.ownsRow WB.heap.size 9 1 (.slice av zs.length cv) zs.length (zs.map Value.string)) := row_later HROW.out HB9.out
                    have HBQ9 : Hid (Blk w9 Q #[.int .i64 x, .int .i64 (x + m), .int .i64 (sz : Nat)] 30) := HBQ.out.later HB9.out
                    have HBE9 : Hid (Below WB.heap.size WB w9) := bto HBE.out HB9.out
                    have hz9 : WB.heap.size ≤ w9.heap.size := HBE9.out.size
                    have hzl : zs.length ≤ 1000 * 1000000001 := by
                      have h1 := HZL.out
                      rw [HM.out] at h1
                      exact Nat.le_trans h1 (Nat.mul_le_mul_right _ (by omega))
                    clear hst hb9 HSC
                    go_upto_region 32 with fail
                    go_cut [14] (fun s14 wx => ∃ (av2 : Option Addr) (cv2 : Nat), s14 = .slice av2 (zs ++ ps).length cv2 ∧ wx.ownsRow WB.heap.size 9 1 (.slice av2 (zs ++ ps).length cv2) (zs ++ ps).length ((zs ++ ps).map Value.string) ∧ Blk wx Q #[.int .i64 x, .int .i64 (x + m), .int .i64 (sz : Nat)] 30 ∧ Below WB.heap.size WB wx ∧ w9.heap.size ≤ wx.heap.size)
                    case first => as_aux_lemma =>
                      by_cases hm : 0 < ps.length
                      · rcases HST.out with hps | ⟨g, o2, cur, t2, ha2, hgB, hgb, hcl⟩
                        · rw [hps] at hm; simp at hm
                        · subst ha2
                          have HNEWS : Hid (∀ q u, (ps.map Value.string)[q]? = some u → w9.cell? ((⟨g, o2, none⟩ : Addr).add q) = some u) := fun q u hq => by
                            rw [List.getElem?_map] at hq
                            obtain ⟨y, hy, rfl⟩ := Option.map_eq_some_iff.1 hq
                            obtain ⟨hlt', rfl⟩ := List.getElem?_eq_some_iff.1 hy
                            rw [add_at]; exact hcl q hlt'
                          clear hcl hgb hgB
                          go_wp2_with (at_builtin; refine wpList_append_lies _ rfl _ _ _ rfl WB.heap.size 9 ts _ 1 16 Tryz.underlying31 HIS.out ys0 ys1 ys2 rfl (by omega) (.slice av zs.length cv) zs.length (zs.map Value.string) rfl HROW9.out ⟨g, o2, none⟩ ps.length c2 (ps.map Value.string) rfl (by simp) HNEWS.out (by simp [Value.oneCell']) hm (by simp [maxLen]; omega) (by omega) hz9 w9.heap.size rfl ?_; intro g5 cap5 w5 hown5 hgrow5 hat5 hlt5)
                          go_meet
                          have h6 := hown5
                          rw [← List.map_append, ← List.length_append] at h6
                          refine ⟨some ⟨g5, 0, none⟩, cap5, by rw [List.length_append], h6, blk_grownO HBQ9.out hgrow5 (row_neO HROW9.out HBQ9.out (by decide)), HBE9.out.grown hgrow5 hz9 (fun q hq => row_from3 HROW9.out q hq), hgrow5.size⟩
                      · obtain rfl : ps = [] := List.length_eq_zero_iff.1 (by omega)
                        go_wp2_with (at_builtin; refine wpList_append_empty rfl _ _ _ rfl WB.heap.size 9 ts 1 Tryz.underlying31 HIS.out (.slice av zs.length cv) zs.length (zs.map Value.string) rfl HROW9.out a2 c2 rfl ?_)
                        go_meet
                        rw [List.append_nil]
                        exact ⟨av, cv, rfl, HROW9.out, HBQ9.out, HBE9.out, Nat.le_refl _⟩
                    obtain ⟨av2, cv2, rfl, hrow3, hbq3, hbe3, hs10⟩ := hcut
                    rename World => w10
                    have HZE : ∃ z, zs ++ ps = z := ⟨_, rfl⟩
                    obtain ⟨zn, hzn⟩ := HZE
                    rw [hzn] at hrow3 HG2 ⊢
                    have HZN := hid hzn
                    clear hzn
                    have HROW3 := hid hrow3
                    have HBQ3 := hid hbq3
                    have HBE3 := hid hbe3
                    have HSO3 := hid (H7.out.later hbe3)
                    have HZ3 : Hid (zn.length ≤ (j + 1) * M) := by
                      show _ ≤ _
                      rw [← HZN.out]
                      have h1 := HZL.out
                      rw [List.length_append, Nat.succ_mul]
                      have h2 : ps.length ≤ M := by rw [HM.out]; omega
                      omega
                    have p0 : w10.cell? ⟨Q, 0, none⟩ = some (.int .i64 x) := by rw [hbq3.cell]; rfl
                    have p1 : w10.cell? ⟨Q, 1, none⟩ = some (.int .i64 (x + m)) := by rw [hbq3.cell]; rfl
                    have p2 : w10.cell? ⟨Q, 2, none⟩ = some (.int .i64 (sz : Nat)) := by rw [hbq3.cell]; rfl
                    have pf := hbq3.free 2
                    clear hrow3 hbq3 hbe3 HROW9 HBQ9 HBE9 HST HROW HBQ HBE HSO HZL HPH HGO HB9 HB8
                    by_cases ht : vz < dt.size
                    · have ht1 : (vz : Int) < (dt.size : Int) := by omega
                      by_cases hl : j < m
                      · have hl1 : x + (j : Int) < x + (m : Int) := by omega
                        have HE : Hid ((KR, LR, ys, code) = (K, noLog, [], 20)) := by
                          show _ = _
                          rw [HRR.out, HG2.out, if_pos ⟨ht, hl1⟩]
                          rfl
                        obtain ⟨d0, d1, d2, d3, d4, d5⟩ := HSO3.out.dk.six
                        obtain ⟨r0, r1, r2, r3, r4, r5⟩ := HSO3.out.rd.six
                        obtain ⟨y0, y1, y2⟩ := HSO3.out.rl.three
                        have f0 := HSO3.out.rd.free 0
                        have f1 := HSO3.out.rd.free 1
                        have f2 := HSO3.out.rd.free 2
                        have f3 := HSO3.out.rd.free 3
                        have f4 := HSO3.out.rd.free 4
                        have f5 := HSO3.out.rd.free 5
                        have g0 := HSO3.out.rl.free 0
                        have g1 := HSO3.out.rl.free 1
                        have g2 := HSO3.out.rl.free 2
                        have HBL := hid (fillPQ_blks (v0 := .slice a1 K.fs.length cap1) (v1 := .int .i64 K.c) (v2 := .int .i64 K.k) (v3 := .int .i64 K.cr) (v4 := .int .i64 K.fl) (v5 := .bool K.dn) (x0 := .int .i64 0) (x1 := .int .i64 0) (x2 := .int .i64 0) (show w.heap.size + 1 ≠ w.heap.size + 1 + 1 by omega) HSO3.out.rd HSO3.out.rl)
                        have HFB : Hid (Below w.heap.size w (fillPQ (w.heap.size + 1) (w.heap.size + 1 + 1) w10 (.slice a1 K.fs.length cap1) (.int .i64 K.c) (.int .i64 K.k) (.int .i64 K.cr) (.int .i64 K.fl) (.bool K.dn) (.int .i64 0) (.int .i64 0) (.int .i64 0))) := fillPQ_below HSO3.out.be (by omega) (by omega)
                        have HBT : Hid (Below w.heap.size w w10) := HSO3.out.be
                        go_wp2
                        obtain ⟨s0, s1, s2, s3, s4, s5⟩ := HBL.out.1.six
                        obtain ⟨t0, t1, t2⟩ := HBL.out.2.three
                        change bodyPost _ _ _ _ _ (fillPQ (w.heap.size + 1) (w.heap.size + 1 + 1) w10 (.slice a1 K.fs.length cap1) (.int .i64 K.c) (.int .i64 K.k) (.int .i64 K.cr) (.int .i64 K.fl) (.bool K.dn) (.int .i64 0) (.int .i64 0) (.int .i64 0))
                        refine bodyPost_ret (v := .tuple #[.agg #[.slice a1 K.fs.length cap1, .int .i64 K.c, .int .i64 K.k, .int .i64 K.cr, .int .i64 K.fl, .bool K.dn], .agg #[.int .i64 0, .int .i64 0, .int .i64 0], .slice (some ⟨w.heap.size + 1 + 1 + 1, 0, none⟩) 0 0, .int .i64 20]) (by simp [results, Tryz.results6, go_sem, s0, s1, s2, s3, s4, s5, t0, t1, t2]) rfl ?_
                        rw [HE.out]
                        exact ⟨a1, cap1, _, 0, rfl, HSO3.out.fill HSO3.out.fi, Or.inl rfl, HFB.out⟩
                      · obtain rfl : j = m := by omega
                        have hl1 : ¬ x + (j : Int) < x + (j : Int) := by omega
                        have HG3 : Hid (RR = goR K x (x + j) (some (zn, vz))) := by
                          show _ = _
                          rw [HG2.out, if_neg (fun h => hl1 h.2), Nat.sub_self, readR]
                        have HBQN : Hid (Blk (w10.setCell ⟨Q, 2, none⟩ (.int .i64 (vz : Nat))) Q #[.int .i64 x, .int .i64 (x + j), .int .i64 (vz : Nat)] 30) := by
                          have h := HBQ3.out.set 2 (.int .i64 (vz : Nat))
                          show Blk _ _ _ _
                          simpa using h
                        have HROWN := hid (row_set_ne (j := 2) (u := .int .i64 (vz : Nat)) HROW3.out HBQ3.out (by decide))
                        have HSN := hid (H7.out.later (HBE3.out.setCell (p := ⟨Q, 2, none⟩) (by show WB.heap.size ≤ Q; omega) (.int .i64 (vz : Nat))))
                        have hsz11 : w10.heap.size = (w10.setCell ⟨Q, 2, none⟩ (.int .i64 (vz : Nat))).heap.size := by simp
                        go_upto_region 37 with fail
                        generalize w10.setCell ⟨Q, 2, none⟩ (.int .i64 (vz : Nat)) = w11 at *
                        obtain ⟨⟨KT, xt⟩, hst⟩ : ∃ R, stepD K (opTrunc (x + j) vz) = R := ⟨_, rfl⟩
                        have HTS := hid hst
                        have HST : Hid (∀ a' cap' W, FilesIn W a' K.fs → Calls Tryz.prog 27 #[.agg #[.slice a' K.fs.length cap', .int .i64 K.c, .int .i64 K.k, .int .i64 K.cr, .int .i64 K.fl, .bool K.dn], .agg #[.int .i64 4, .string (segS (x + j)), .string ⟨#[]⟩, .string ⟨#[]⟩, .int .i64 (vz : Nat)]] W fun e w' => ∃ aw cw, e = .returned (.tuple #[.agg #[.slice aw KT.fs.length cw, .int .i64 KT.c, .int .i64 KT.k, .int .i64 KT.cr, .int .i64 KT.fl, .bool KT.dn], .int .i64 (xt : Nat)]) ∧ FilesIn w' aw KT.fs ∧ Below W.heap.size W w') := fun a' cap' W h => by
                          have h2 := stepTo (D := K) (op := opTrunc (x + j) vz) HS.out (by have := segS_size (x + j); unfold maxLen; show (segS (x + j)).size ≤ _; omega) (by show (0 : Nat) ≤ _; omega) (by show (0 : Nat) ≤ _; omega) a' cap' W h
                          rw [hst] at h2
                          exact h2
                        have HFT : Hid (Fit KT.fs) := by
                          have h := fit_step (D := K) (op := opTrunc (x + j) vz) HS.out (by have := segS_size (x + j); unfold maxLen; show (segS (x + j)).size ≤ _; omega) (by show (0 : Nat) ≤ _; omega)
                          rw [hst] at h
                          exact h
                        have HVT : Hid (diskB KT.fs KT.c KT.k KT.cr KT.fl = true ∧ ∃ i, ∃ h : i < KT.fs.length, KT.fs[i].name = segS (x + j)) := by
                          have ho : opB (opTrunc (x + j) vz) = true := opB_mk (by omega) (by omega) (by omega)
                          constructor
                          · have h := diskB_step (dn := K.dn) (op := opTrunc (x + j) vz) HDV.out ho (by show (4 : Int) ≤ 4; omega)
                            have e := stepD_ok (K := K) HDV.out ho
                            rw [hst] at e
                            simp only [Prod.mk.injEq] at e
                            rw [e.1]
                            exact h
                          · obtain ⟨i, hi, hn⟩ := HFI.out
                            have h := trunc_keep (z := (vz : Int)) HDV.out ho HASC.out hi hn
                            simp only [hst] at h
                            obtain ⟨h1, h2, _⟩ := h
                            exact ⟨i, h1, h2⟩
                        have HG4 : Hid (RR = if xt ≠ 0 then (KT, noLog, [], xt) else finD KT x (x + j) vz zn) := by
                          show _ = _
                          rw [HG3.out]
                          show (if (vz : Int) < ((fileAt K.fs (x + j)).data.size : Int) then (if (stepD K (opTrunc (x + j) vz)).2 ≠ 0 then ((stepD K (opTrunc (x + j) vz)).1, noLog, [], (stepD K (opTrunc (x + j) vz)).2) else finD (stepD K (opTrunc (x + j) vz)).1 x (x + j) vz zn) else _) = _
                          rw [HFD.out, if_pos ht1, hst]
                        clear hst
                        have HK : Hid (∀ w', Below w11.heap.size w11 w' → w'.cell? ⟨w.heap.size, 0, none⟩ = some (.slice a1 K.fs.length cap1) ∧ w'.cell? ⟨w.heap.size, 1, none⟩ = some (.int .i64 K.c) ∧ w'.cell? ⟨w.heap.size, 2, none⟩ = some (.int .i64 K.k) ∧ w'.cell? ⟨w.heap.size, 3, none⟩ = some (.int .i64 K.cr) ∧ w'.cell? ⟨w.heap.size, 4, none⟩ = some (.int .i64 K.fl) ∧ w'.cell? ⟨w.heap.size, 5, none⟩ = some (.bool K.dn)) := fun w' h => by
                          obtain ⟨a0, a1', a2, a3, a4, a5⟩ := (HSN.out.later h).dk.six
                          exact ⟨a0, a1', a2, a3, a4, a5⟩
                        obtain ⟨x0, x1, x2, x3, x4, x5⟩ := HK.out w11 (Below.refl _ _)
                        go_upto_region 37 with fail
                        go_cut [21, 22] (fun sa sb wx => ∃ (P : Nat) (a2 : Option Addr) (cap2 : Nat), sa = .pointer (some ⟨P, 0, none⟩) ∧ sb = .int .i64 (xt : Nat) ∧ w11.heap.size ≤ P ∧ Blk wx P #[.slice a2 KT.fs.length cap2, .int .i64 KT.c, .int .i64 KT.k, .int .i64 KT.cr, .int .i64 KT.fl, .bool KT.dn] 28 ∧ FilesIn wx a2 KT.fs ∧ Below w11.heap.size w11 wx)
                        case first => as_aux_lemma =>
                          go_region_held3 (fun w' => w'.cell? ⟨w.heap.size, 0, none⟩ = some (.slice a1 K.fs.length cap1) ∧ w'.cell? ⟨w.heap.size, 1, none⟩ = some (.int .i64 K.c) ∧ w'.cell? ⟨w.heap.size, 2, none⟩ = some (.int .i64 K.k) ∧ w'.cell? ⟨w.heap.size, 3, none⟩ = some (.int .i64 K.cr) ∧ w'.cell? ⟨w.heap.size, 4, none⟩ = some (.int .i64 K.fl) ∧ w'.cell? ⟨w.heap.size, 5, none⟩ = some (.bool K.dn))
                            (exact HK.out _ (by repeat (first | with_reducible refine Below.setCell ?_ (by first | exact Nat.le_refl _ | exact low (by repeat (first | with_reducible exact Below.refl _ _ | exact (Below.refl _ _).drew | with_reducible refine bto ?_ (bnew _ _) | with_reducible refine Below.drew ?_ | refine bto ?_ (by assumption)))) _ | with_reducible exact Below.refl _ _ | with_reducible refine bto ?_ (bnew _ _) | with_reducible refine Below.drew ?_ | exact (Below.refl _ _).drew | refine bto ?_ (by assumption))))
                            (first
                            | (go_at_call 28; refine (specSeg_any _ _).mono ?_; rintro e v2 ⟨rfl, hb2⟩; (first | (have hz := blk_of_drew hb2) | (have hz := hz.later hb2) | skip))
                            | (go_at_call 27; refine (HST.out _ _ _ (HSN.out.fi.later (by repeat (first | with_reducible refine Below.setCell ?_ (by first | exact Nat.le_refl _ | exact low (by repeat (first | with_reducible exact Below.refl _ _ | exact (Below.refl _ _).drew | with_reducible refine bto ?_ (bnew _ _) | with_reducible refine Below.drew ?_ | refine bto ?_ (by assumption)))) _ | with_reducible exact Below.refl _ _ | with_reducible refine bto ?_ (bnew _ _) | with_reducible refine Below.drew ?_ | exact (Below.refl _ _).drew | refine bto ?_ (by assumption))))).mono ?_; rintro e v3 ⟨a2, cap2, rfl, how, hb3⟩; (first | (have hz := blk_of_drew hb3) | (have hz : Blk _ v2.heap.size _ _ := blk_of_alloc hb3) | (have hz := hz.later hb3) | skip); (try (obtain ⟨q0, q1, q2, q3, q4, q5⟩ := hz.six; have f0 := hz.free 0; have f1 := hz.free 1; have f2 := hz.free 2; have f3 := hz.free 3; have f4 := hz.free 4; have f5 := hz.free 5))))
                          all_goals (go_wp2_with fail; go_meet)
                          · refine ⟨v3.heap.size, a2, cap2, rfl, rfl, ?_, ?_, ?_, ?_⟩
                            · exact low (by repeat (first | with_reducible refine Below.setCell ?_ (by first | exact Nat.le_refl _ | exact low (by repeat (first | with_reducible exact Below.refl _ _ | exact (Below.refl _ _).drew | with_reducible refine bto ?_ (bnew _ _) | with_reducible refine Below.drew ?_ | refine bto ?_ (by assumption)))) _ | with_reducible exact Below.refl _ _ | with_reducible refine bto ?_ (bnew _ _) | with_reducible refine Below.drew ?_ | exact (Below.refl _ _).drew | refine bto ?_ (by assumption)))
                            · exact blk_new _ _ _
                            · exact how.later (bnew _ _)
                            · exact (by repeat (first | with_reducible refine Below.setCell ?_ (by first | exact Nat.le_refl _ | exact low (by repeat (first | with_reducible exact Below.refl _ _ | exact (Below.refl _ _).drew | with_reducible refine bto ?_ (bnew _ _) | with_reducible refine Below.drew ?_ | refine bto ?_ (by assumption)))) _ | with_reducible exact Below.refl _ _ | with_reducible refine bto ?_ (bnew _ _) | with_reducible refine Below.drew ?_ | exact (Below.refl _ _).drew | refine bto ?_ (by assumption)))
                          · refine ⟨v2.heap.size, a2, cap2, rfl, rfl, ?_, ?_, ?_, ?_⟩
                            · exact low (by repeat (first | with_reducible refine Below.setCell ?_ (by first | exact Nat.le_refl _ | exact low (by repeat (first | with_reducible exact Below.refl _ _ | exact (Below.refl _ _).drew | with_reducible refine bto ?_ (bnew _ _) | with_reducible refine Below.drew ?_ | refine bto ?_ (by assumption)))) _ | with_reducible exact Below.refl _ _ | with_reducible refine bto ?_ (bnew _ _) | with_reducible refine Below.drew ?_ | exact (Below.refl _ _).drew | refine bto ?_ (by assumption)))
                            · exact blk_fill hz
                            · exact how.apart (apart_zero how hz) (but_fill _ _ _ _ _ _)
                            · exact (by repeat (first | with_reducible refine Below.setCell ?_ (by first | exact Nat.le_refl _ | exact low (by repeat (first | with_reducible exact Below.refl _ _ | exact (Below.refl _ _).drew | with_reducible refine bto ?_ (bnew _ _) | with_reducible refine Below.drew ?_ | refine bto ?_ (by assumption)))) _ | with_reducible exact Below.refl _ _ | with_reducible refine bto ?_ (bnew _ _) | with_reducible refine Below.drew ?_ | exact (Below.refl _ _).drew | refine bto ?_ (by assumption)))
                          · refine ⟨w11.heap.size, a2, cap2, rfl, rfl, ?_, ?_, ?_, ?_⟩
                            · exact low (by repeat (first | with_reducible refine Below.setCell ?_ (by first | exact Nat.le_refl _ | exact low (by repeat (first | with_reducible exact Below.refl _ _ | exact (Below.refl _ _).drew | with_reducible refine bto ?_ (bnew _ _) | with_reducible refine Below.drew ?_ | refine bto ?_ (by assumption)))) _ | with_reducible exact Below.refl _ _ | with_reducible refine bto ?_ (bnew _ _) | with_reducible refine Below.drew ?_ | exact (Below.refl _ _).drew | refine bto ?_ (by assumption)))
                            · exact blk_fill hz
                            · exact how.apart (apart_zero how hz) (but_fill _ _ _ _ _ _)
                            · exact (by repeat (first | with_reducible refine Below.setCell ?_ (by first | exact Nat.le_refl _ | exact low (by repeat (first | with_reducible exact Below.refl _ _ | exact (Below.refl _ _).drew | with_reducible refine bto ?_ (bnew _ _) | with_reducible refine Below.drew ?_ | refine bto ?_ (by assumption)))) _ | with_reducible exact Below.refl _ _ | with_reducible refine bto ?_ (bnew _ _) | with_reducible refine Below.drew ?_ | exact (Below.refl _ _).drew | refine bto ?_ (by assumption)))
                        obtain ⟨P, a2, cap2, rfl, rfl, hP, hPB, hf2, hb4⟩ := hcut
                        clear HK x0 x1 x2 x3 x4 x5
                        rename World => w12
                        have H12 := hid (HSN.out.later hb4)
                        have PB := hid hPB
                        have F12 := hid hf2
                        have HQ12 := hid (HBQN.out.later hb4)
                        have HR12 := hid (row_later HROWN.out hb4)
                        have hs12 := hb4.size
                        have hPn : w.heap.size < P := by have := lt_of_block HSN.out.dk; omega
                        have hPn2 : ¬ P = w.heap.size := by omega
                        obtain ⟨x0, x1, x2, x3, x4, x5⟩ := hPB.six
                        obtain ⟨d0, d1, d2, d3, d4, d5⟩ := H12.out.dk.six
                        have y0 := H12.out.dk.free 0
                        have y1 := H12.out.dk.free 1
                        have y2 := H12.out.dk.free 2
                        have y3 := H12.out.dk.free 3
                        have y4 := H12.out.dk.free 4
                        have y5 := H12.out.dk.free 5
                        clear hPB hf2 hb4 p0 p1 p2 pf
                        go_upto_region 38 with fail
                        go_cut [] (fun wx => SO w.heap.size w wx KT a2 cap2 ∧ Blk wx Q #[.int .i64 x, .int .i64 (x + j), .int .i64 (vz : Nat)] 30 ∧ wx.ownsRow WB.heap.size 9 1 (.slice av2 zn.length cv2) zn.length (zn.map Value.string) ∧ w12.heap.size ≤ wx.heap.size)
                        case first => as_aux_lemma =>
                          go_wp2_with fail
                          go_meet
                          exact ⟨H12.out.take F12.out, blk_six HQ12.out (by omega), row_six HR12.out (by omega), by simp⟩
                        obtain ⟨hso13, hbq13, hrow13, hs13⟩ := hcut
                        rename World => w13
                        have H13 := hid hso13
                        have HQ13 := hid hbq13
                        have HR13 := hid hrow13
                        clear hso13 hbq13 hrow13 x0 x1 x2 x3 x4 x5 d0 d1 d2 d3 d4 d5 y0 y1 y2 y3 y4 y5 H12 PB F12 HQ12 HR12
                        by_cases hc : xt = 0
                        · have hcb : ((xt : Int) != 0) = false := by simp [hc]
                          have HPN : Hid (Phase w.heap.size w WB w13 K RR x j (j + 1) vz zn) := by
                            refine Or.inr ⟨rfl, KT, a2, cap2, H13.out, HVT.out.1, HFT.out, HVT.out.2, ?_⟩
                            rw [HG4.out, if_neg (by rw [hc]; simp)]
                          clear hc
                          go_wp2
                          go_roundw
                          case rel => exact ⟨j + 1, vz, zn, av2, cv2, by omega, HZ3.out, by go_num, rfl, HR13.out, HQ13.out, by omega, HPN.out⟩
                          case measure => simp [intOf]; omega
                        · have hcb : ((xt : Int) != 0) = true := by simp [hc]
                          have HE : Hid ((KR, LR, ys, code) = (KT, noLog, [], xt)) := by show _ = _; rw [HRR.out, HG4.out, if_pos hc]
                          clear hc
                          obtain ⟨d0, d1, d2, d3, d4, d5⟩ := H13.out.dk.six
                          obtain ⟨r0, r1, r2, r3, r4, r5⟩ := H13.out.rd.six
                          obtain ⟨y0, y1, y2⟩ := H13.out.rl.three
                          have f0 := H13.out.rd.free 0
                          have f1 := H13.out.rd.free 1
                          have f2 := H13.out.rd.free 2
                          have f3 := H13.out.rd.free 3
                          have f4 := H13.out.rd.free 4
                          have f5 := H13.out.rd.free 5
                          have g0 := H13.out.rl.free 0
                          have g1 := H13.out.rl.free 1
                          have g2 := H13.out.rl.free 2
                          have HBL := hid (fillPQ_blks (v0 := .slice a2 KT.fs.length cap2) (v1 := .int .i64 KT.c) (v2 := .int .i64 KT.k) (v3 := .int .i64 KT.cr) (v4 := .int .i64 KT.fl) (v5 := .bool KT.dn) (x0 := .int .i64 0) (x1 := .int .i64 0) (x2 := .int .i64 0) (show w.heap.size + 1 ≠ w.heap.size + 1 + 1 by omega) H13.out.rd H13.out.rl)
                          have HFB : Hid (Below w.heap.size w (fillPQ (w.heap.size + 1) (w.heap.size + 1 + 1) w13 (.slice a2 KT.fs.length cap2) (.int .i64 KT.c) (.int .i64 KT.k) (.int .i64 KT.cr) (.int .i64 KT.fl) (.bool KT.dn) (.int .i64 0) (.int .i64 0) (.int .i64 0))) := fillPQ_below H13.out.be (by omega) (by omega)
                          have HBT : Hid (Below w.heap.size w w13) := H13.out.be
                          go_wp2
                          obtain ⟨s0, s1, s2, s3, s4, s5⟩ := HBL.out.1.six
                          obtain ⟨t0, t1, t2⟩ := HBL.out.2.three
                          change bodyPost _ _ _ _ _ (fillPQ (w.heap.size + 1) (w.heap.size + 1 + 1) w13 (.slice a2 KT.fs.length cap2) (.int .i64 KT.c) (.int .i64 KT.k) (.int .i64 KT.cr) (.int .i64 KT.fl) (.bool KT.dn) (.int .i64 0) (.int .i64 0) (.int .i64 0))
                          refine bodyPost_ret (v := .tuple #[.agg #[.slice a2 KT.fs.length cap2, .int .i64 KT.c, .int .i64 KT.k, .int .i64 KT.cr, .int .i64 KT.fl, .bool KT.dn], .agg #[.int .i64 0, .int .i64 0, .int .i64 0], .slice (some ⟨w.heap.size + 1 + 1 + 1, 0, none⟩) 0 0, .int .i64 (xt : Nat)]) (by simp [results, Tryz.results6, go_sem, s0, s1, s2, s3, s4, s5, t0, t1, t2]) rfl ?_
                          rw [HE.out]
                          exact ⟨a2, cap2, _, 0, rfl, H13.out.fill H13.out.fi, Or.inl rfl, HFB.out⟩
                    · have ht1 : ¬ (vz : Int) < (dt.size : Int) := by omega
                      have HG3 : Hid (RR = goR K x (x + m) (readR K.fs (x + m) (m - j) (x + j + 1) zn vz)) := by
                        show _ = _
                        rw [HG2.out, if_neg (fun h => ht h.1)]
                      have HPN : Hid (Phase w.heap.size w WB (w10.setCell ⟨Q, 2, none⟩ (.int .i64 (vz : Nat))) K RR x m (j + 1) vz zn) := by
                        by_cases hl : j < m
                        · refine Or.inl ⟨by omega, HBE3.out.setCell (by show WB.heap.size ≤ Q; omega) _, ?_⟩
                          rw [HG3.out, show m + 1 - (j + 1) = m - j by omega, show x + ((j + 1 : Nat) : Int) = x + j + 1 by omega]
                        · obtain rfl : j = m := by omega
                          refine Or.inr ⟨rfl, K, a1, cap1, ?_, HDV.out, HS.out, HFI.out, ?_⟩
                          · exact H7.out.later (HBE3.out.setCell (by show WB.heap.size ≤ Q; omega) _)
                          · rw [HG3.out, Nat.sub_self, readR]
                            show (if (vz : Int) < ((fileAt K.fs (x + j)).data.size : Int) then _ else _) = _
                            rw [HFD.out, if_neg ht1]
                      have HBQN : Hid (Blk (w10.setCell ⟨Q, 2, none⟩ (.int .i64 (vz : Nat))) Q #[.int .i64 x, .int .i64 (x + m), .int .i64 (vz : Nat)] 30) := by
                        have h := HBQ3.out.set 2 (.int .i64 (vz : Nat))
                        show Blk _ _ _ _
                        simpa using h
                      have HROWN := hid (row_set_ne (j := 2) (u := .int .i64 (vz : Nat)) HROW3.out HBQ3.out (by decide))
                      by_cases hl : j < m
                      · have hl1 : x + (j : Int) < x + (m : Int) := by omega
                        have hl2 : ¬ x + (j : Int) = x + (m : Int) := by omega
                        go_wp2
                        go_roundw
                        case rel => exact ⟨j + 1, vz, zn, av2, cv2, by omega, HZ3.out, by go_num, rfl, HROWN.out, HBQN.out, by simp; omega, HPN.out⟩
                        case measure => simp [intOf]; omega
                      · obtain rfl : j = m := by omega
                        go_wp2
                        go_roundw
                        case rel => exact ⟨j + 1, vz, zn, av2, cv2, by omega, HZ3.out, by go_num, rfl, HROWN.out, HBQN.out, by simp; omega, HPN.out⟩
                        case measure => simp [intOf]; omega
                  · obtain ⟨Kc, ac, cc, hso, hvc, hfc, ⟨i, hi, hnm⟩, hfin⟩ : ∃ Kc ac cc, SO w.heap.size w wr Kc ac cc ∧ diskB Kc.fs Kc.c Kc.k Kc.cr Kc.fl = true ∧ Fit Kc.fs ∧ (∃ i, ∃ h : i < Kc.fs.length, Kc.fs[i].name = segS (x + m)) ∧ RR = finD Kc x (x + m) sz zs := by
                      rcases HPH.out with ⟨h1, _⟩ | ⟨_, h2⟩
                      · omega
                      · exact h2
                    have HSO := hid hso
                    have HVC := hid hvc
                    have HFC := hid hfc
                    have HFN := hid hfin
                    have hjj : ¬ x + (j : Int) ≤ x + (m : Int) := by omega
                    obtain ⟨f1, f2', f3, f4, f5, f6, f7, _⟩ := files_of_disk hvc
                    have hascC : Asc Kc.fs := asc_of f1
                    have hFA : fileAt Kc.fs (x + m) = Kc.fs[i] := fileAt_eq hascC hi hnm
                    have hfnd : findFrom (segS (x + m)) Kc.fs 0 = (i : Int) := find_at hascC hi hnm
                    obtain ⟨fb, fo, rfl, hfb, q0, q1, q2⟩ := hso.fi.at hi
                    rw [hnm] at q0
                    obtain ⟨dt, hdt⟩ : ∃ d, Kc.fs[i].data = d := ⟨_, rfl⟩
                    obtain ⟨sy, hsy⟩ : ∃ d, Kc.fs[i].synced = d := ⟨_, rfl⟩
                    rw [hdt] at q1
                    rw [hsy] at q2
                    have HDS : Hid ((fileAt Kc.fs (x + m)).data = dt ∧ (fileAt Kc.fs (x + m)).synced = sy) := by show _ ∧ _; rw [hFA]; exact ⟨hdt, hsy⟩
                    have hiC : (i : Int) < (Kc.fs.length : Int) := by omega
                    have hQl : Q < wr.heap.size := lt_of_block HBQ.out
                    have HFND : Hid (∀ W, FilesIn W (some ⟨fb, fo, none⟩) Kc.fs → Calls Tryz.prog 31 #[.agg #[.slice (some ⟨fb, fo, none⟩) Kc.fs.length cc, .int .i64 Kc.c, .int .i64 Kc.k, .int .i64 Kc.cr, .int .i64 Kc.fl, .bool Kc.dn], .string (segS (x + m))] W fun e w' => e = .returned (.int .i64 (i : Int)) ∧ Below W.heap.size W w') := fun W hW => l1Find_is hfnd W hW (by unfold maxLen; omega)
                    have HK : Hid (∀ w', Below wr.heap.size wr w' → w'.cell? ⟨w.heap.size, 0, none⟩ = some (.slice (some ⟨fb, fo, none⟩) Kc.fs.length cc) ∧ w'.cell? ⟨w.heap.size, 1, none⟩ = some (.int .i64 Kc.c) ∧ w'.cell? ⟨w.heap.size, 2, none⟩ = some (.int .i64 Kc.k) ∧ w'.cell? ⟨w.heap.size, 3, none⟩ = some (.int .i64 Kc.cr) ∧ w'.cell? ⟨w.heap.size, 4, none⟩ = some (.int .i64 Kc.fl) ∧ w'.cell? ⟨w.heap.size, 5, none⟩ = some (.bool Kc.dn) ∧ w'.cell? ⟨Q, 1, none⟩ = some (.int .i64 (x + m)) ∧ w'.cell? ⟨fb, fo + i * 3, none⟩ = some (.string (segS (x + m))) ∧ w'.cell? ⟨fb, fo + i * 3 + 1, none⟩ = some (.string dt) ∧ w'.cell? ⟨fb, fo + i * 3 + 2, none⟩ = some (.int .i64 sy)) := fun w' h => by
                      obtain ⟨b0, b1, b2, b3, b4, b5⟩ := (HSO.out.later h).dk.six
                      exact ⟨b0, b1, b2, b3, b4, b5, (h.cell (show (⟨Q, 1, none⟩ : Addr).block < wr.heap.size from hQl)).trans o1, (h.cell hfb).trans q0, (h.cell hfb).trans q1, (h.cell hfb).trans q2⟩
                    have HFS := hid hso.fi
                    clear hso hvc hfc hfin HPH f1 f3 f4 f5 f6 f7 hascC hFA hfnd hdt hsy hnm
                    have hq1s := o1
                    obtain ⟨x0, x1, x2, x3, x4, x5, x6, x7, x8, x9⟩ := HK.out wr (Below.refl _ _)
                    generalize hSN : segS (x + m) = sn at *
                    have HSN2 := hid hSN
                    clear hSN
                    have HSEG : Hid (∀ W, Calls Tryz.prog 28 #[.int .i64 (x + m)] W fun e w' => e = .returned (.string sn) ∧ Below W.heap.size W w') := fun W => by
                      have := specSeg_any (x + m) W
                      rw [HSN2.out] at this
                      exact this
                    go_upto_region 41 with fail
                    go_cut [23] (fun sl wx => ∃ Q2, sl = .pointer (some ⟨Q2, 0, none⟩) ∧ wr.heap.size ≤ Q2 ∧ Blk wx Q2 #[.string sn, .string dt, .int .i64 sy] 59 ∧ Below wr.heap.size wr wx)
                    case first => as_aux_lemma =>
                      go_region_held3 (fun w' => w'.cell? ⟨w.heap.size, 0, none⟩ = some (.slice (some ⟨fb, fo, none⟩) Kc.fs.length cc) ∧ w'.cell? ⟨w.heap.size, 1, none⟩ = some (.int .i64 Kc.c) ∧ w'.cell? ⟨w.heap.size, 2, none⟩ = some (.int .i64 Kc.k) ∧ w'.cell? ⟨w.heap.size, 3, none⟩ = some (.int .i64 Kc.cr) ∧ w'.cell? ⟨w.heap.size, 4, none⟩ = some (.int .i64 Kc.fl) ∧ w'.cell? ⟨w.heap.size, 5, none⟩ = some (.bool Kc.dn) ∧ w'.cell? ⟨Q, 1, none⟩ = some (.int .i64 (x + m)) ∧ w'.cell? ⟨fb, fo + i * 3, none⟩ = some (.string sn) ∧ w'.cell? ⟨fb, fo + i * 3 + 1, none⟩ = some (.string dt) ∧ w'.cell? ⟨fb, fo + i * 3 + 2, none⟩ = some (.int .i64 sy))
                        (exact HK.out _ (by repeat (first | with_reducible refine Below.setCell ?_ (by first | exact Nat.le_refl _ | exact low (by repeat (first | with_reducible exact Below.refl _ _ | exact (Below.refl _ _).drew | with_reducible refine bto ?_ (bnew _ _) | with_reducible refine Below.drew ?_ | refine bto ?_ (by assumption)))) _ | with_reducible exact Below.refl _ _ | with_reducible refine bto ?_ (bnew _ _) | with_reducible refine Below.drew ?_ | exact (Below.refl _ _).drew | refine bto ?_ (by assumption))))
                        (first
                        | (go_at_call 28; refine (HSEG.out _).mono ?_; rintro e v2 ⟨rfl, hb2⟩; (first | (have hz := blk_of_drew hb2) | (have hz := hz.later hb2) | skip))
                        | (go_at_call 31; refine (HFND.out _ (HFS.out.later (by repeat (first | with_reducible refine Below.setCell ?_ (by first | exact Nat.le_refl _ | exact low (by repeat (first | with_reducible exact Below.refl _ _ | exact (Below.refl _ _).drew | with_reducible refine bto ?_ (bnew _ _) | with_reducible refine Below.drew ?_ | refine bto ?_ (by assumption)))) _ | with_reducible exact Below.refl _ _ | with_reducible refine bto ?_ (bnew _ _) | with_reducible refine Below.drew ?_ | exact (Below.refl _ _).drew | refine bto ?_ (by assumption))))).mono ?_; rintro e v3 ⟨rfl, hb3⟩; (first | (have hz := blk_of_drew hb3) | (have hz : Blk _ v2.heap.size _ _ := blk_of_alloc hb3) | (have hz := hz.later hb3) | skip); (try (obtain ⟨t0, t1, t2⟩ := hz.three; have g0 := hz.free 0; have g1 := hz.free 1; have g2 := hz.free 2))))
                      all_goals (go_wp2_with fail; go_meet)
                      · refine ⟨v3.heap.size, rfl, low (by repeat (first | with_reducible refine Below.setCell ?_ (by first | exact Nat.le_refl _ | exact low (by repeat (first | with_reducible exact Below.refl _ _ | exact (Below.refl _ _).drew | with_reducible refine bto ?_ (bnew _ _) | with_reducible refine Below.drew ?_ | refine bto ?_ (by assumption)))) _ | with_reducible exact Below.refl _ _ | with_reducible refine bto ?_ (bnew _ _) | with_reducible refine Below.drew ?_ | exact (Below.refl _ _).drew | refine bto ?_ (by assumption))), blk_new _ _ _, (by repeat (first | with_reducible refine Below.setCell ?_ (by first | exact Nat.le_refl _ | exact low (by repeat (first | with_reducible exact Below.refl _ _ | exact (Below.refl _ _).drew | with_reducible refine bto ?_ (bnew _ _) | with_reducible refine Below.drew ?_ | refine bto ?_ (by assumption)))) _ | with_reducible exact Below.refl _ _ | with_reducible refine bto ?_ (bnew _ _) | with_reducible refine Below.drew ?_ | exact (Below.refl _ _).drew | refine bto ?_ (by assumption)))⟩
                      · refine ⟨v2.heap.size, rfl, low (by repeat (first | with_reducible refine Below.setCell ?_ (by first | exact Nat.le_refl _ | exact low (by repeat (first | with_reducible exact Below.refl _ _ | exact (Below.refl _ _).drew | with_reducible refine bto ?_ (bnew _ _) | with_reducible refine Below.drew ?_ | refine bto ?_ (by assumption)))) _ | with_reducible exact Below.refl _ _ | with_reducible refine bto ?_ (bnew _ _) | with_reducible refine Below.drew ?_ | exact (Below.refl _ _).drew | refine bto ?_ (by assumption))), ?_, (by repeat (first | with_reducible refine Below.setCell ?_ (by first | exact Nat.le_refl _ | exact low (by repeat (first | with_reducible exact Below.refl _ _ | exact (Below.refl _ _).drew | with_reducible refine bto ?_ (bnew _ _) | with_reducible refine Below.drew ?_ | refine bto ?_ (by assumption)))) _ | with_reducible exact Below.refl _ _ | with_reducible refine bto ?_ (bnew _ _) | with_reducible refine Below.drew ?_ | exact (Below.refl _ _).drew | refine bto ?_ (by assumption)))⟩
                        have h := ((hz.set 0 (.string sn)).set 1 (.string dt)).set 2 (.int .i64 sy)
                        simpa using h
                      · refine ⟨wr.heap.size, rfl, Nat.le_refl _, ?_, (by repeat (first | with_reducible refine Below.setCell ?_ (by first | exact Nat.le_refl _ | exact low (by repeat (first | with_reducible exact Below.refl _ _ | exact (Below.refl _ _).drew | with_reducible refine bto ?_ (bnew _ _) | with_reducible refine Below.drew ?_ | refine bto ?_ (by assumption)))) _ | with_reducible exact Below.refl _ _ | with_reducible refine bto ?_ (bnew _ _) | with_reducible refine Below.drew ?_ | exact (Below.refl _ _).drew | refine bto ?_ (by assumption)))⟩
                        have h := ((hz.set 0 (.string sn)).set 1 (.string dt)).set 2 (.int .i64 sy)
                        simpa using h
                    obtain ⟨Q2, rfl, hQ2, hqb2, hb14⟩ := hcut
                    rename World => w14
                    have HSOE := hid (HSO.out.later hb14)
                    have HBQE := hid (HBQ.out.later hb14)
                    have HROWE := hid (row_later HROW.out hb14)
                    have HQ2 := hid hqb2
                    have hs14 := hb14.size
                    have hWQ : WB.heap.size ≤ wr.heap.size := by omega
                    clear HK x0 x1 x2 x3 x4 x5 x6 x7 x8 x9 HSO HBQ HROW hb14 HFS HFND HSEG o1 hq1s q0 q1 q2
                    obtain ⟨z0, z1, z2⟩ := hqb2.three
                    obtain ⟨p0, p1, p2⟩ := HBQE.out.three
                    clear hqb2
                    by_cases hy : sy < (dt.size : Int)
                    · obtain ⟨⟨KS, xs⟩, hst⟩ : ∃ R, stepD Kc (opSync (x + m)) = R := ⟨_, rfl⟩
                      have HE0 : Hid (RR = if xs ≠ 0 then (KS, noLog, [], xs) else (KS, ⟨x, x + m, sz⟩, zs, 0)) := by
                        show _ = _
                        rw [HFN.out]
                        unfold finD syncD
                        rw [HDS.out.1, HDS.out.2, if_pos hy, hst]
                      have HST : Hid (∀ a' cap' W, FilesIn W a' Kc.fs → Calls Tryz.prog 27 #[.agg #[.slice a' Kc.fs.length cap', .int .i64 Kc.c, .int .i64 Kc.k, .int .i64 Kc.cr, .int .i64 Kc.fl, .bool Kc.dn], .agg #[.int .i64 3, .string sn, .string ⟨#[]⟩, .string ⟨#[]⟩, .int .i64 0]] W fun e w' => ∃ aw cw, e = .returned (.tuple #[.agg #[.slice aw KS.fs.length cw, .int .i64 KS.c, .int .i64 KS.k, .int .i64 KS.cr, .int .i64 KS.fl, .bool KS.dn], .int .i64 (xs : Nat)]) ∧ FilesIn w' aw KS.fs ∧ Below W.heap.size W w') := fun a' cap' W h => by
                        have h2 := stepTo (D := Kc) (op := opSync (x + m)) HFC.out (by have := segS_size (x + m); unfold maxLen; show (segS (x + m)).size ≤ _; omega) (by show (0 : Nat) ≤ _; omega) (by show (0 : Nat) ≤ _; omega) a' cap' W h
                        rw [hst] at h2
                        unfold opSync at h2
                        rw [HSN2.out] at h2
                        exact h2
                      clear hst
                      have HK : Hid (∀ w', Below w14.heap.size w14 w' → w'.cell? ⟨w.heap.size, 0, none⟩ = some (.slice (some ⟨fb, fo, none⟩) Kc.fs.length cc) ∧ w'.cell? ⟨w.heap.size, 1, none⟩ = some (.int .i64 Kc.c) ∧ w'.cell? ⟨w.heap.size, 2, none⟩ = some (.int .i64 Kc.k) ∧ w'.cell? ⟨w.heap.size, 3, none⟩ = some (.int .i64 Kc.cr) ∧ w'.cell? ⟨w.heap.size, 4, none⟩ = some (.int .i64 Kc.fl) ∧ w'.cell? ⟨w.heap.size, 5, none⟩ = some (.bool Kc.dn) ∧ w'.cell? ⟨Q2, 0, none⟩ = some (.string sn)) := fun w' h => by
                        obtain ⟨a0, a1', a2, a3, a4, a5⟩ := (HSOE.out.later h).dk.six
                        exact ⟨a0, a1', a2, a3, a4, a5, (h.cell (show (⟨Q2, 0, none⟩ : Addr).block < w14.heap.size from lt_of_block HQ2.out)).trans z0⟩
                      obtain ⟨x0, x1, x2, x3, x4, x5, x6⟩ := HK.out w14 (Below.refl _ _)
                      go_upto_region 43 with fail
                      go_cut [24, 25] (fun sa sb wx => ∃ (P : Nat) (a2 : Option Addr) (cap2 : Nat), sa = .pointer (some ⟨P, 0, none⟩) ∧ sb = .int .i64 (xs : Nat) ∧ w14.heap.size ≤ P ∧ Blk wx P #[.slice a2 KS.fs.length cap2, .int .i64 KS.c, .int .i64 KS.k, .int .i64 KS.cr, .int .i64 KS.fl, .bool KS.dn] 28 ∧ FilesIn wx a2 KS.fs ∧ Below w14.heap.size w14 wx)
                      case first => as_aux_lemma =>
                        go_wp2_with (go_at_call 27; refine (HST.out _ _ _ (HSOE.out.fi.later (by repeat (first | with_reducible refine Below.setCell ?_ (by first | exact Nat.le_refl _ | exact low (by repeat (first | with_reducible exact Below.refl _ _ | exact (Below.refl _ _).drew | with_reducible refine bto ?_ (bnew _ _) | with_reducible refine Below.drew ?_ | refine bto ?_ (by assumption)))) _ | with_reducible exact Below.refl _ _ | with_reducible refine bto ?_ (bnew _ _) | with_reducible refine Below.drew ?_ | exact (Below.refl _ _).drew | refine bto ?_ (by assumption))))).mono ?_; rintro e v3 ⟨a2, cap2, rfl, how, hb3⟩)
                        go_meet
                        refine ⟨_, a2, cap2, rfl, rfl, ?_, ?_, ?_, ?_⟩
                        · exact low (by repeat (first | with_reducible refine Below.setCell ?_ (by first | exact Nat.le_refl _ | exact low (by repeat (first | with_reducible exact Below.refl _ _ | exact (Below.refl _ _).drew | with_reducible refine bto ?_ (bnew _ _) | with_reducible refine Below.drew ?_ | refine bto ?_ (by assumption)))) _ | with_reducible exact Below.refl _ _ | with_reducible refine bto ?_ (bnew _ _) | with_reducible refine Below.drew ?_ | exact (Below.refl _ _).drew | refine bto ?_ (by assumption)))
                        · exact blk_new _ _ _
                        · exact how.later (bnew _ _)
                        · exact (by repeat (first | with_reducible refine Below.setCell ?_ (by first | exact Nat.le_refl _ | exact low (by repeat (first | with_reducible exact Below.refl _ _ | exact (Below.refl _ _).drew | with_reducible refine bto ?_ (bnew _ _) | with_reducible refine Below.drew ?_ | refine bto ?_ (by assumption)))) _ | with_reducible exact Below.refl _ _ | with_reducible refine bto ?_ (bnew _ _) | with_reducible refine Below.drew ?_ | exact (Below.refl _ _).drew | refine bto ?_ (by assumption)))
                      obtain ⟨P, a2, cap2, rfl, rfl, hP, hPB, hf2, hb4⟩ := hcut
                      clear HK x0 x1 x2 x3 x4 x5 x6
                      rename World => w15
                      have H15 := hid (HSOE.out.later hb4)
                      have PB := hid hPB
                      have F15 := hid hf2
                      have HQ15 := hid (HBQE.out.later hb4)
                      have HR15 := hid (row_later HROWE.out hb4)
                      have hPn : w.heap.size < P := by have := lt_of_block HSOE.out.dk; omega
                      have hPn2 : ¬ P = w.heap.size := by omega
                      obtain ⟨x0, x1, x2, x3, x4, x5⟩ := hPB.six
                      obtain ⟨d0, d1, d2, d3, d4, d5⟩ := H15.out.dk.six
                      have y0 := H15.out.dk.free 0
                      have y1 := H15.out.dk.free 1
                      have y2 := H15.out.dk.free 2
                      have y3 := H15.out.dk.free 3
                      have y4 := H15.out.dk.free 4
                      have y5 := H15.out.dk.free 5
                      clear hPB hf2 hb4 p0 p1 p2 z0 z1 z2
                      go_upto_region 44 with fail
                      go_cut [] (fun wx => SO w.heap.size w wx KS a2 cap2 ∧ Blk wx Q #[.int .i64 x, .int .i64 (x + m), .int .i64 (sz : Nat)] 30 ∧ wx.ownsRow WB.heap.size 9 1 (.slice av zs.length cv) zs.length (zs.map Value.string))
                      case first => as_aux_lemma =>
                        go_wp2_with fail
                        go_meet
                        exact ⟨H15.out.take F15.out, blk_six HQ15.out (by omega), row_six HR15.out (by omega)⟩
                      obtain ⟨hso16, hbq16, hrow16⟩ := hcut
                      rename World => w16
                      have H16 := hid hso16
                      have HQ16 := hid hbq16
                      have HR16 := hid hrow16
                      clear hso16 hbq16 hrow16 x0 x1 x2 x3 x4 x5 d0 d1 d2 d3 d4 d5 y0 y1 y2 y3 y4 y5 H15 PB F15 HQ15 HR15
                      obtain ⟨p0, p1, p2⟩ := HQ16.out.three
                      have hQn1 : ¬ Q = w.heap.size + 1 := by omega
                      have hQn2 : ¬ Q = w.heap.size + 1 + 1 := by omega
                      by_cases hc : xs = 0
                      · have hcb : ((xs : Int) != 0) = false := by simp [hc]
                        have HE : Hid ((KR, LR, ys, code) = (KS, ⟨x, x + m, sz⟩, zs, 0)) := by show _ = _; rw [HRR.out, HE0.out, if_neg (by rw [hc]; simp)]
                        clear hc
                        obtain ⟨d0, d1, d2, d3, d4, d5⟩ := H16.out.dk.six
                        obtain ⟨r0, r1, r2, r3, r4, r5⟩ := H16.out.rd.six
                        obtain ⟨y0, y1, y2⟩ := H16.out.rl.three
                        have f0 := H16.out.rd.free 0
                        have f1 := H16.out.rd.free 1
                        have f2 := H16.out.rd.free 2
                        have f3 := H16.out.rd.free 3
                        have f4 := H16.out.rd.free 4
                        have f5 := H16.out.rd.free 5
                        have g0 := H16.out.rl.free 0
                        have g1 := H16.out.rl.free 1
                        have g2 := H16.out.rl.free 2
                        have HBL := hid (fillPQ_blks (v0 := .slice a2 KS.fs.length cap2) (v1 := .int .i64 KS.c) (v2 := .int .i64 KS.k) (v3 := .int .i64 KS.cr) (v4 := .int .i64 KS.fl) (v5 := .bool KS.dn) (x0 := .int .i64 x) (x1 := .int .i64 (x + m)) (x2 := .int .i64 (sz : Nat)) (show w.heap.size + 1 ≠ w.heap.size + 1 + 1 by omega) H16.out.rd H16.out.rl)
                        have HFB : Hid (Below w.heap.size w (fillPQ (w.heap.size + 1) (w.heap.size + 1 + 1) w16 (.slice a2 KS.fs.length cap2) (.int .i64 KS.c) (.int .i64 KS.k) (.int .i64 KS.cr) (.int .i64 KS.fl) (.bool KS.dn) (.int .i64 x) (.int .i64 (x + m)) (.int .i64 (sz : Nat)))) := fillPQ_below H16.out.be (by omega) (by omega)
                        have HBT : Hid (Below w.heap.size w w16) := H16.out.be
                        go_wp2_with fail
                        go_region
                        go_wp2
                        obtain ⟨s0, s1, s2, s3, s4, s5⟩ := HBL.out.1.six
                        obtain ⟨t0, t1, t2⟩ := HBL.out.2.three
                        change bodyPost _ _ _ _ _ (fillPQ (w.heap.size + 1) (w.heap.size + 1 + 1) w16 (.slice a2 KS.fs.length cap2) (.int .i64 KS.c) (.int .i64 KS.k) (.int .i64 KS.cr) (.int .i64 KS.fl) (.bool KS.dn) (.int .i64 x) (.int .i64 (x + m)) (.int .i64 (sz : Nat))).drew
                        refine bodyPost_ret (v := .tuple #[.agg #[.slice a2 KS.fs.length cap2, .int .i64 KS.c, .int .i64 KS.k, .int .i64 KS.cr, .int .i64 KS.fl, .bool KS.dn], .agg #[.int .i64 x, .int .i64 (x + m), .int .i64 (sz : Nat)], .slice av zs.length cv, .int .i64 0]) (by simp [results, Tryz.results6, go_sem, s0, s1, s2, s3, s4, s5, t0, t1, t2]) rfl ?_
                        rw [HE.out]
                        exact ⟨a2, cap2, av, cv, rfl, (H16.out.fill H16.out.fi).later (Below.refl _ _).drew, ((strs_of_row (fillPQ_row HR16.out (by omega) (by omega))).later (Below.refl _ _).drew).strs, HFB.out.drew⟩
                      · have hcb : ((xs : Int) != 0) = true := by simp [hc]
                        have HE : Hid ((KR, LR, ys, code) = (KS, noLog, [], xs)) := by show _ = _; rw [HRR.out, HE0.out, if_pos hc]
                        clear hc
                        obtain ⟨d0, d1, d2, d3, d4, d5⟩ := H16.out.dk.six
                        obtain ⟨r0, r1, r2, r3, r4, r5⟩ := H16.out.rd.six
                        obtain ⟨y0, y1, y2⟩ := H16.out.rl.three
                        have f0 := H16.out.rd.free 0
                        have f1 := H16.out.rd.free 1
                        have f2 := H16.out.rd.free 2
                        have f3 := H16.out.rd.free 3
                        have f4 := H16.out.rd.free 4
                        have f5 := H16.out.rd.free 5
                        have g0 := H16.out.rl.free 0
                        have g1 := H16.out.rl.free 1
                        have g2 := H16.out.rl.free 2
                        have HBL := hid (fillPQ_blks (v0 := .slice a2 KS.fs.length cap2) (v1 := .int .i64 KS.c) (v2 := .int .i64 KS.k) (v3 := .int .i64 KS.cr) (v4 := .int .i64 KS.fl) (v5 := .bool KS.dn) (x0 := .int .i64 0) (x1 := .int .i64 0) (x2 := .int .i64 0) (show w.heap.size + 1 ≠ w.heap.size + 1 + 1 by omega) H16.out.rd H16.out.rl)
                        have HFB : Hid (Below w.heap.size w (fillPQ (w.heap.size + 1) (w.heap.size + 1 + 1) w16 (.slice a2 KS.fs.length cap2) (.int .i64 KS.c) (.int .i64 KS.k) (.int .i64 KS.cr) (.int .i64 KS.fl) (.bool KS.dn) (.int .i64 0) (.int .i64 0) (.int .i64 0))) := fillPQ_below H16.out.be (by omega) (by omega)
                        have HBT : Hid (Below w.heap.size w w16) := H16.out.be
                        go_wp2
                        obtain ⟨s0, s1, s2, s3, s4, s5⟩ := HBL.out.1.six
                        obtain ⟨t0, t1, t2⟩ := HBL.out.2.three
                        change bodyPost _ _ _ _ _ (fillPQ (w.heap.size + 1) (w.heap.size + 1 + 1) w16 (.slice a2 KS.fs.length cap2) (.int .i64 KS.c) (.int .i64 KS.k) (.int .i64 KS.cr) (.int .i64 KS.fl) (.bool KS.dn) (.int .i64 0) (.int .i64 0) (.int .i64 0))
                        refine bodyPost_ret (v := .tuple #[.agg #[.slice a2 KS.fs.length cap2, .int .i64 KS.c, .int .i64 KS.k, .int .i64 KS.cr, .int .i64 KS.fl, .bool KS.dn], .agg #[.int .i64 0, .int .i64 0, .int .i64 0], .slice (some ⟨w.heap.size + 1 + 1 + 1, 0, none⟩) 0 0, .int .i64 (xs : Nat)]) (by simp [results, Tryz.results6, go_sem, s0, s1, s2, s3, s4, s5, t0, t1, t2]) rfl ?_
                        rw [HE.out]
                        exact ⟨a2, cap2, _, 0, rfl, H16.out.fill H16.out.fi, Or.inl rfl, HFB.out⟩
                    · have HE : Hid ((KR, LR, ys, code) = (Kc, ⟨x, x + m, sz⟩, zs, 0)) := by
                        show _ = _
                        rw [HRR.out, HFN.out]
                        unfold finD syncD
                        rw [HDS.out.1, HDS.out.2, if_neg hy]
                        rfl
                      have hQn1 : ¬ Q = w.heap.size + 1 := by omega
                      have hQn2 : ¬ Q = w.heap.size + 1 + 1 := by omega
                      go_wp2_with fail
                      (try go_region)
                      obtain ⟨d0, d1, d2, d3, d4, d5⟩ := HSOE.out.dk.six
                      obtain ⟨r0, r1, r2, r3, r4, r5⟩ := HSOE.out.rd.six
                      obtain ⟨y0, y1, y2⟩ := HSOE.out.rl.three
                      have f0 := HSOE.out.rd.free 0
                      have f1 := HSOE.out.rd.free 1
                      have f2 := HSOE.out.rd.free 2
                      have f3 := HSOE.out.rd.free 3
                      have f4 := HSOE.out.rd.free 4
                      have f5 := HSOE.out.rd.free 5
                      have g0 := HSOE.out.rl.free 0
                      have g1 := HSOE.out.rl.free 1
                      have g2 := HSOE.out.rl.free 2
                      have HBL := hid (fillPQ_blks (v0 := .slice (some ⟨fb, fo, none⟩) Kc.fs.length cc) (v1 := .int .i64 Kc.c) (v2 := .int .i64 Kc.k) (v3 := .int .i64 Kc.cr) (v4 := .int .i64 Kc.fl) (v5 := .bool Kc.dn) (x0 := .int .i64 x) (x1 := .int .i64 (x + m)) (x2 := .int .i64 (sz : Nat)) (show w.heap.size + 1 ≠ w.heap.size + 1 + 1 by omega) HSOE.out.rd HSOE.out.rl)
                      have HFB : Hid (Below w.heap.size w (fillPQ (w.heap.size + 1) (w.heap.size + 1 + 1) w14 (.slice (some ⟨fb, fo, none⟩) Kc.fs.length cc) (.int .i64 Kc.c) (.int .i64 Kc.k) (.int .i64 Kc.cr) (.int .i64 Kc.fl) (.bool Kc.dn) (.int .i64 x) (.int .i64 (x + m)) (.int .i64 (sz : Nat)))) := fillPQ_below HSOE.out.be (by omega) (by omega)
                      have HBT : Hid (Below w.heap.size w w14) := HSOE.out.be
                      go_wp2_with fail
                      go_region
                      go_wp2
                      obtain ⟨s0, s1, s2, s3, s4, s5⟩ := HBL.out.1.six
                      obtain ⟨t0, t1, t2⟩ := HBL.out.2.three
                      change bodyPost _ _ _ _ _ (fillPQ (w.heap.size + 1) (w.heap.size + 1 + 1) w14 (.slice (some ⟨fb, fo, none⟩) Kc.fs.length cc) (.int .i64 Kc.c) (.int .i64 Kc.k) (.int .i64 Kc.cr) (.int .i64 Kc.fl) (.bool Kc.dn) (.int .i64 x) (.int .i64 (x + m)) (.int .i64 (sz : Nat))).drew
                      refine bodyPost_ret (v := .tuple #[.agg #[.slice (some ⟨fb, fo, none⟩) Kc.fs.length cc, .int .i64 Kc.c, .int .i64 Kc.k, .int .i64 Kc.cr, .int .i64 Kc.fl, .bool Kc.dn], .agg #[.int .i64 x, .int .i64 (x + m), .int .i64 (sz : Nat)], .slice av zs.length cv, .int .i64 0]) (by simp [results, Tryz.results6, go_sem, s0, s1, s2, s3, s4, s5, t0, t1, t2]) rfl ?_
                      rw [HE.out]
                      exact ⟨_, cc, av, cv, rfl, (HSOE.out.fill HSOE.out.fi).later (Below.refl _ _).drew, ((strs_of_row (fillPQ_row HROWE.out (by omega) (by omega))).later (Below.refl _ _).drew).strs, HFB.out.drew⟩
end Go.Proofs.YtflfopienjjlbaaGreatDoor

