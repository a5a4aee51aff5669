import Derived.Test.YtflfopienjjlbaaGreatDoorProg
import Derived.Test.YtflfopienjjlbaaGreatDoorJ26SLgP
import Derived.Deep.RegionHeld3
import Derived.Deep.DeepCutAuto
namespace Go.Proofs.YtflfopienjjlbaaGreatDoor
open Go.RowKit

set_option maxRecDepth 100000 in
set_option maxHeartbeats 40000000 in
theorem specOpen_none (a : Option Addr) (cap : Nat) (K : DiskD) (w : World) (hf : FilesIn w a K.fs) (hfit : Fit K.fs) (HNO : Hid (diskB K.fs K.c K.k K.cr K.fl = true → K.dn = false → numsL K.fs = [])) :
    Calls Tryz.prog 6 #[.agg #[.slice a K.fs.length cap, .int .i64 K.c, .int .i64 K.k, .int .i64 K.cr, .int .i64 K.fl, .bool K.dn]] w fun e w' => OpenSpec w (openD K) e w' := by
  have HF : Hid (FilesIn w a K.fs) := hf
  have hlen := hfit.len
  have HS : Hid (Fit K.fs) := hfit
  have hlm : K.fs.length ≤ maxLen := by unfold maxLen; omega
  obtain ⟨⟨KR, LR, ys, code⟩, hR⟩ : ∃ R, openD K = R := ⟨_, rfl⟩
  have HR := hid hR
  rw [hR]
  clear hf hfit hR
  go_enter Tryz.func6, Tryz.ntmps6
  go_upto_region 2 with fail
  have hb3 := fourBoxes (w := w) (x := #[.slice a K.fs.length cap, .int .i64 K.c, .int .i64 K.k, .int .i64 K.cr, .int .i64 K.fl, .bool K.dn]) (tx := 28) (y := #[.slice none 0 0, .int .i64 0, .int .i64 0, .int .i64 0, .int .i64 0, .bool false]) (ty := 28) (z := #[.int .i64 0, .int .i64 0, .int .i64 0]) (tz := 30) (u := #[]) (tu := 9) (Below.refl _ _)
  generalize ((((w.alloc (.cells #[.slice a K.fs.length cap, .int .i64 K.c, .int .i64 K.k, .int .i64 K.cr, .int .i64 K.fl, .bool K.dn] 28)).alloc (.cells #[.slice none 0 0, .int .i64 0, .int .i64 0, .int .i64 0, .int .i64 0, .bool false] 28)).alloc (.cells #[.int .i64 0, .int .i64 0, .int .i64 0] 30)).alloc (.cells #[] 9)) = W3 at *
  have H3 : Hid (SO w.heap.size w W3 K a cap) := ⟨hb3.1, hb3.2.1, hb3.2.2.1, HF.out.later hb3.2.2.2.2, hb3.2.2.2.2⟩
  clear hb3
  obtain ⟨k0, k1, k2, k3, k4, k5⟩ := H3.out.dk.six
  cases hdv : diskB K.fs K.c K.k K.cr K.fl with
  | false =>
    have E : Hid ((KR, LR, ys, code) = (⟨[], 0, 0, 0, 0, false⟩, noLog, [], 6)) := by show _ = _; rw [← HR.out]; unfold openD; rw [if_pos hdv]
    have HV := hid (specValid_is (cap := cap) (dn := K.dn) hdv W3 H3.out.fi HS.out.short hlm HS.out.sum)
    clear hdv
    go_wp2_with fail
    refine HV.out.mono ?_
    rintro e w4 ⟨rfl, hb4⟩
    have H4 := hid (H3.out.later hb4)
    clear hb4 k0 k1 k2 k3 k4 k5
    obtain ⟨r0, r1, r2, r3, r4, r5⟩ := H4.out.rd.six
    obtain ⟨y0, y1, y2⟩ := H4.out.rl.three
    have f0 := H4.out.rd.free 0
    have f1 := H4.out.rd.free 1
    have f2 := H4.out.rd.free 2
    have f3 := H4.out.rd.free 3
    have f4 := H4.out.rd.free 4
    have f5 := H4.out.rd.free 5
    have g0 := H4.out.rl.free 0
    have g1 := H4.out.rl.free 1
    have g2 := H4.out.rl.free 2
    have HBL := hid (fillPQ_blks (v0 := .slice none 0 0) (v1 := .int .i64 0) (v2 := .int .i64 0) (v3 := .int .i64 0) (v4 := .int .i64 0) (v5 := .bool false) (x0 := .int .i64 0) (x1 := .int .i64 0) (x2 := .int .i64 0) (show w.heap.size + 1 ≠ w.heap.size + 1 + 1 by omega) H4.out.rd H4.out.rl)
    have HFB : Hid (Below w.heap.size w (fillPQ (w.heap.size + 1) (w.heap.size + 1 + 1) w4 (.slice none 0 0) (.int .i64 0) (.int .i64 0) (.int .i64 0) (.int .i64 0) (.bool false) (.int .i64 0) (.int .i64 0) (.int .i64 0))) := fillPQ_below H4.out.be (by omega) (by omega)
    have HBT : Hid (Below w.heap.size w w4) := H4.out.be
    go_wp2
    obtain ⟨s0, s1, s2, s3, s4, s5⟩ := HBL.out.1.six
    obtain ⟨t0, t1, t2⟩ := HBL.out.2.three
    change bodyPost _ _ _ _ _ (fillPQ (w.heap.size + 1) (w.heap.size + 1 + 1) w4 (.slice none 0 0) (.int .i64 0) (.int .i64 0) (.int .i64 0) (.int .i64 0) (.bool false) (.int .i64 0) (.int .i64 0) (.int .i64 0))
    refine bodyPost_ret (v := .tuple #[.agg #[.slice none 0 0, .int .i64 0, .int .i64 0, .int .i64 0, .int .i64 0, .bool false], .agg #[.int .i64 0, .int .i64 0, .int .i64 0], .slice (some ⟨w.heap.size + 1 + 1 + 1, 0, none⟩) 0 0, .int .i64 6]) (by simp [results, Tryz.results6, go_sem, s0, s1, s2, s3, s4, s5, t0, t1, t2]) rfl ?_
    rw [E.out]
    exact ⟨none, 0, _, 0, rfl, Or.inl rfl, Or.inl rfl, HFB.out⟩
  | true =>
    have HDV := hid hdv
    have HV := hid (specValid_is (cap := cap) (dn := K.dn) hdv W3 H3.out.fi HS.out.short hlm HS.out.sum)
    clear hdv
    go_wp2_with fail
    refine HV.out.mono ?_
    rintro e w4 ⟨rfl, hb4⟩
    have H4 := hid (H3.out.later hb4)
    clear hb4 k0 k1 k2 k3 k4 k5 HV
    obtain ⟨a1, cap1, W5, hrun, hfi, hb5, hap⟩ := copy_run w4 a cap K.fs H4.out.fi hlen
    have HRUN := hid hrun
    have H5 : Hid (SO w.heap.size w W5 K a cap ∧ FilesIn W5 a1 K.fs) := ⟨H4.out.later hb5, hfi⟩
    have x0 := H4.out.dk.cell 0
    simp only [List.getElem?_toArray, List.getElem?_cons_zero] at x0
    have d0 := H5.out.1.dk.cell 0
    simp only [List.getElem?_toArray, List.getElem?_cons_zero] at d0
    have y0 := H5.out.1.dk.free 0
    have hlt : w.heap.size < w4.heap.size := lt_of_block H4.out.dk
    have hn2 : ¬ w.heap.size = w4.heap.size := by omega
    clear hrun hfi hb5
    go_upto_region 4 with fail
    go_cut [36] (fun _ wx => ∃ a1 cap1, SO w.heap.size w wx K a1 cap1)
    case first =>
      go_wp2_with (at_builtin; refine Lib.wpList_append_run _ rfl _ _ _ _ rfl _ _ rfl rfl _ _ HRUN.out ?_)
      go_meet
      have hbut : But w.heap.size W5 (W5.setCell ⟨w.heap.size, 0, none⟩ (.slice a1 K.fs.length cap1)) := (But.refl _ _).setCell 0 _
      have h0 := H5.out.1.dk.set 0 (.slice a1 K.fs.length cap1)
      exact ⟨a1, cap1, by simpa using h0, H5.out.1.rd.but hbut (by omega), H5.out.1.rl.but hbut (by omega), H5.out.2.apart (apart_disk H5.out.2 H5.out.1.dk) hbut, H5.out.1.be.setCell (Nat.le_refl _) _⟩
    clear H5 HRUN x0 d0 y0 hlt hn2 H4 H3 hap
    clear a1 cap1
    obtain ⟨a1, cap1, h6⟩ := hcut
    rename World => W6
    have H6 := hid h6
    clear h6
    obtain ⟨d0, d1, d2, d3, d4, d5⟩ := H6.out.dk.six
    by_cases hdn : K.dn = true
    · have E : Hid ((KR, LR, ys, code) = (K, noLog, [], 1)) := by show _ = _; rw [← HR.out]; unfold openD; rw [if_neg (by rw [HDV.out]; decide), if_pos hdn]
      rw [hdn] at d5
      have H7 : Hid (SO w.heap.size w W6 K a1 cap1 ∧ K.dn = true) := ⟨H6.out, hdn⟩
      clear hdn
      obtain ⟨r0, r1, r2, r3, r4, r5⟩ := H6.out.rd.six
      obtain ⟨y0, y1, y2⟩ := H6.out.rl.three
      have f0 := H6.out.rd.free 0
      have f1 := H6.out.rd.free 1
      have f2 := H6.out.rd.free 2
      have f3 := H6.out.rd.free 3
      have f4 := H6.out.rd.free 4
      have f5 := H6.out.rd.free 5
      have g0 := H6.out.rl.free 0
      have g1 := H6.out.rl.free 1
      have g2 := H6.out.rl.free 2
      have HBL := hid (fillPQ_blks (v0 := .slice a1 K.fs.length cap1) (v1 := .int .i64 K.c) (v2 := .int .i64 K.k) (v3 := .int .i64 K.cr) (v4 := .int .i64 K.fl) (v5 := .bool true) (x0 := .int .i64 0) (x1 := .int .i64 0) (x2 := .int .i64 0) (show w.heap.size + 1 ≠ w.heap.size + 1 + 1 by omega) H6.out.rd H6.out.rl)
      have HFB : Hid (Below w.heap.size w (fillPQ (w.heap.size + 1) (w.heap.size + 1 + 1) W6 (.slice a1 K.fs.length cap1) (.int .i64 K.c) (.int .i64 K.k) (.int .i64 K.cr) (.int .i64 K.fl) (.bool true) (.int .i64 0) (.int .i64 0) (.int .i64 0))) := fillPQ_below H6.out.be (by omega) (by omega)
      have HBT : Hid (Below w.heap.size w W6) := H6.out.be
      go_wp2
      obtain ⟨s0, s1, s2, s3, s4, s5⟩ := HBL.out.1.six
      obtain ⟨t0, t1, t2⟩ := HBL.out.2.three
      change bodyPost _ _ _ _ _ (fillPQ (w.heap.size + 1) (w.heap.size + 1 + 1) W6 (.slice a1 K.fs.length cap1) (.int .i64 K.c) (.int .i64 K.k) (.int .i64 K.cr) (.int .i64 K.fl) (.bool true) (.int .i64 0) (.int .i64 0) (.int .i64 0))
      refine bodyPost_ret (v := .tuple #[.agg #[.slice a1 K.fs.length cap1, .int .i64 K.c, .int .i64 K.k, .int .i64 K.cr, .int .i64 K.fl, .bool true], .agg #[.int .i64 0, .int .i64 0, .int .i64 0], .slice (some ⟨w.heap.size + 1 + 1 + 1, 0, none⟩) 0 0, .int .i64 1]) (by simp [results, Tryz.results6, go_sem, s0, s1, s2, s3, s4, s5, t0, t1, t2]) rfl ?_
      rw [E.out]
      exact ⟨a1, cap1, _, 0, by rw [H7.out.2]; rfl, H6.out.fill H6.out.fi, Or.inl rfl, HFB.out⟩
    · have hdf : K.dn = false := by simpa using hdn
      have E : Hid ((KR, LR, ys, code) = openN K (numsL K.fs)) := by show _ = _; rw [← HR.out, openD_ok HDV.out hdf]
      rw [hdf] at d5
      have HDF := hid hdf
      clear hdn hdf
      have hlt : w.heap.size < W6.heap.size := lt_of_block H6.out.dk
      have hne : ¬ w.heap.size = W6.heap.size := by omega
      obtain ⟨ti, hti, hz0, hz1, hz2⟩ := info_num
      have HI : Hid (Tryz.prog.info? 3 = some ti) := hti
      have HNM : Hid (∀ i (h : i < K.fs.length), K.fs[i].name.size ≤ maxLen) := fun i h => (HS.out.short i h).1
      clear hti
      go_wp2_with fail
      go_loopw [7, 47] (fun nv iv wr => ∃ (k : Nat) (zs : List Int) (av : Option Addr) (cv : Nat), k ≤ K.fs.length ∧ zs.length ≤ k ∧ Hid (zs = numsL (K.fs.take k)) ∧ iv = .int .i64 k ∧ nv = .slice av zs.length cv ∧ Hid (wr.ownsRow W6.heap.size 3 1 (.slice av zs.length cv) zs.length (zs.map (Value.int .i64))) ∧ Below W6.heap.size W6 wr) (fun _ iv _ => K.fs.length - (intOf iv).toNat)
      case atStart =>
        exact ⟨0, [], _, _, Nat.zero_le _, Nat.zero_le _, rfl, rfl, rfl, World.ownsRow_made W6 #[] 0 (Nat.le_refl _) (by simp [maxLen]) (by simp), bnew _ _⟩
      case round =>
        obtain ⟨k, zs, av, cv, hk, hzl, HZ, rfl, rfl, hrow, hbel⟩ := hrel
        have hsz := hbel.size
        clear d0 d1 d2 d3 d4 d5
        by_cases hkl : k < K.fs.length
        · obtain ⟨b, o, rfl, hbb, q0, q1, q2⟩ := (H6.out.fi.later hbel).at hkl
          have hsn := HNM.out k hkl
          have HYy : Hid (0 < segOf K.fs[k].name → zs ++ [(segOf K.fs[k].name : Int)] = numsL (K.fs.take (k + 1))) := fun h => by rw [numsL_take_yes hkl h, HZ.out]
          have HYn : Hid (¬ 0 < segOf K.fs[k].name → zs = numsL (K.fs.take (k + 1))) := fun h => by rw [numsL_take_no hkl h, HZ.out]
          generalize K.fs[k].name = nm at *
          generalize K.fs[k].data = dt at *
          generalize K.fs[k].synced = sy at *
          have HSG : Hid (∀ W, Calls Tryz.prog 26 #[.string nm] W fun e w' => e = .returned (.int .i64 (segOf nm : Nat)) ∧ w' = W) := fun W => specSegOf_any nm W hsn
          obtain ⟨sg, hsg⟩ : ∃ n, segOf nm = n := ⟨_, rfl⟩
          rw [hsg] at HSG HYy HYn
          clear hsg
          by_cases hp : 0 < sg
          · have HP := hid (HYy.out hp)
            have hp1 : (0 : Int) < (sg : Int) := by omega
            have hs1 : w.heap.size ≤ wr.heap.size := by omega
            go_wp2_with fail
            refine (HSG.out _).mono ?_
            rintro e w7 ⟨rfl, hw7⟩
            replace hw7 := hw7.symm
            subst hw7
            go_wp2_with fail
            refine (HSG.out _).mono ?_
            rintro e w8 ⟨rfl, hw8⟩
            replace hw8 := hw8.symm
            subst hw8
            go_wp2_with (at_builtin; refine wpList_append_lies _ rfl _ _ _ rfl W6.heap.size 3 ti _ 1 8 Tryz.underlying54 HI.out hz0 hz1 hz2 rfl (by omega) (.slice av zs.length cv) zs.length (zs.map (Value.int .i64)) rfl (by exact row_later (row_later hrow.out (bnew _ _)) (bnew _ _)) ⟨wr.heap.size + 1, 0, none⟩ 1 1 [.int .i64 (sg : Int)] rfl rfl (by exact World.news_of_block (by simpa using heap_alloc_new (wr.alloc (.cells #[.string nm, .string dt, .int .i64 sy] 59)) (.cells #[.int .i64 (sg : Int)] 3))) (by simp [Value.oneCell']) (by omega) (by simp [maxLen]; omega) (by omega) (by simp; omega) (wr.heap.size + 2) (by simp) ?_; intro g5 cap5 w5 hown5 hgrow5 hat5 hlt5)
            have hB5 : Below W6.heap.size W6 w5 := (bto (bto hbel (bnew _ _)) (bnew _ _)).grown hgrow5 (by simp; omega) (fun q hq => by
              rcases hrow.out.2 with ⟨he, _⟩ | ⟨g, cap, cur, he, hB, _⟩
              · rw [he] at hq; simp [Value.ownBlock] at hq
              · rw [he] at hq; simp [Value.ownBlock] at hq; omega)
            have hxs : zs.map (Value.int .i64) ++ [Value.int .i64 (sg : Int)] = (zs ++ [(sg : Int)]).map (Value.int .i64) := by simp
            have hle : (zs ++ [(sg : Int)]).length = zs.length + 1 := by simp
            rw [hxs, ← hle] at hown5
            go_roundw
            case rel => exact ⟨k + 1, zs ++ [(sg : Int)], some ⟨g5, 0, none⟩, cap5, by omega, by rw [hle]; omega, HP.out, by go_num, by rw [hle], hown5, hB5⟩
            case measure => simp [intOf]; omega
          · obtain rfl : sg = 0 := by omega
            have HP := hid (HYn.out (by omega))
            go_wp2_with fail
            refine (HSG.out _).mono ?_
            rintro e w7 ⟨rfl, hw7⟩
            replace hw7 := hw7.symm
            subst hw7
            go_wp2
            go_roundw
            case rel => exact ⟨k + 1, zs, av, cv, by omega, by omega, HP.out, by go_num, rfl, row_later hrow.out (bnew _ _), bto hbel (bnew _ _)⟩
            case measure => simp [intOf]; omega
        · obtain rfl : k = K.fs.length := by omega
          have HZZ : Hid (zs = numsL K.fs) := by have := HZ.out; rw [List.take_length] at this; exact this
          have H7 := hid (H6.out.later hbel)
          have HNI := nums_of_row hrow.out
          have hzk := numsL_length K.fs
          rw [← HZZ.out] at E hzk
          clear HZ hrow H6 HNM
          cases zs with
          | nil =>
            obtain ⟨⟨K1, c1⟩, hst⟩ : ∃ R, stepD K (opCreate 1) = R := ⟨_, rfl⟩
            have E1 : Hid ((KR, LR, ys, code) = if c1 ≠ 0 then (K1, noLog, [], c1) else (K1, ⟨1, 1, 0⟩, [], 0)) := by
              show _ = _
              rw [E.out]
              unfold openN
              simp only [hst]
            have HST : Hid (∀ a' cap' W, FilesIn W a' K.fs → Calls Tryz.prog 27 #[.agg #[.slice a' K.fs.length cap', .int .i64 K.c, .int .i64 K.k, .int .i64 K.cr, .int .i64 K.fl, .bool K.dn], .agg #[.int .i64 1, .string (segS 1), .string ⟨#[]⟩, .string ⟨#[]⟩, .int .i64 0]] W fun e w' => ∃ aw cw, e = .returned (.tuple #[.agg #[.slice aw K1.fs.length cw, .int .i64 K1.c, .int .i64 K1.k, .int .i64 K1.cr, .int .i64 K1.fl, .bool K1.dn], .int .i64 (c1 : Nat)]) ∧ FilesIn w' aw K1.fs ∧ Below W.heap.size W w') := fun a' cap' W h => by
              have h2 := stepTo (D := K) (op := opCreate 1) HS.out (by have := segS_size 1; unfold maxLen; show (segS 1).size ≤ _; omega) (by show (0 : Nat) ≤ _; omega) (by show (0 : Nat) ≤ _; omega) a' cap' W h
              rw [hst] at h2
              exact h2
            clear hst hbel
            have HK : Hid (∀ w', Below wr.heap.size wr w' → w'.cell? ⟨w.heap.size, 0, none⟩ = some (.slice a1 K.fs.length cap1) ∧ w'.cell? ⟨w.heap.size, 1, none⟩ = some (.int .i64 K.c) ∧ w'.cell? ⟨w.heap.size, 2, none⟩ = some (.int .i64 K.k) ∧ w'.cell? ⟨w.heap.size, 3, none⟩ = some (.int .i64 K.cr) ∧ w'.cell? ⟨w.heap.size, 4, none⟩ = some (.int .i64 K.fl) ∧ w'.cell? ⟨w.heap.size, 5, none⟩ = some (.bool K.dn)) := fun w' h => by
              obtain ⟨a0, a1', a2, a3, a4, a5⟩ := (H7.out.later h).dk.six
              exact ⟨a0, a1', a2, a3, a4, a5⟩
            obtain ⟨x0, x1, x2, x3, x4, x5⟩ := HK.out wr (Below.refl _ _)
            go_upto_region 15 with fail
            go_cut [10, 11] (fun sa sb wx => ∃ (P : Nat) (a2 : Option Addr) (cap2 : Nat), sa = .pointer (some ⟨P, 0, none⟩) ∧ sb = .int .i64 (c1 : Nat) ∧ wr.heap.size ≤ P ∧ Blk wx P #[.slice a2 K1.fs.length cap2, .int .i64 K1.c, .int .i64 K1.k, .int .i64 K1.cr, .int .i64 K1.fl, .bool K1.dn] 28 ∧ FilesIn wx a2 K1.fs ∧ Below wr.heap.size wr wx)
            case first =>
              go_region_held3 (fun w' => w'.cell? ⟨w.heap.size, 0, none⟩ = some (.slice a1 K.fs.length cap1) ∧ w'.cell? ⟨w.heap.size, 1, none⟩ = some (.int .i64 K.c) ∧ w'.cell? ⟨w.heap.size, 2, none⟩ = some (.int .i64 K.k) ∧ w'.cell? ⟨w.heap.size, 3, none⟩ = some (.int .i64 K.cr) ∧ w'.cell? ⟨w.heap.size, 4, none⟩ = some (.int .i64 K.fl) ∧ w'.cell? ⟨w.heap.size, 5, none⟩ = some (.bool K.dn))
                (exact HK.out _ (by repeat (first | with_reducible refine Below.setCell ?_ (by first | exact Nat.le_refl _ | exact low (by repeat (first | with_reducible exact Below.refl _ _ | exact (Below.refl _ _).drew | with_reducible refine bto ?_ (bnew _ _) | with_reducible refine Below.drew ?_ | refine bto ?_ (by assumption)))) _ | with_reducible exact Below.refl _ _ | with_reducible refine bto ?_ (bnew _ _) | with_reducible refine Below.drew ?_ | exact (Below.refl _ _).drew | refine bto ?_ (by assumption))))
                (first
                | (go_at_call 28; refine (specSeg_any _ _).mono ?_; rintro e v2 ⟨rfl, hb2⟩; (first | (have hz := blk_of_drew hb2) | (have hz := hz.later hb2) | skip))
                | (go_at_call 27; refine (HST.out _ _ _ (H7.out.fi.later (by repeat (first | with_reducible refine Below.setCell ?_ (by first | exact Nat.le_refl _ | exact low (by repeat (first | with_reducible exact Below.refl _ _ | exact (Below.refl _ _).drew | with_reducible refine bto ?_ (bnew _ _) | with_reducible refine Below.drew ?_ | refine bto ?_ (by assumption)))) _ | with_reducible exact Below.refl _ _ | with_reducible refine bto ?_ (bnew _ _) | with_reducible refine Below.drew ?_ | exact (Below.refl _ _).drew | refine bto ?_ (by assumption))))).mono ?_; rintro e v3 ⟨a2, cap2, rfl, how, hb3⟩; (first | (have hz := blk_of_drew hb3) | (have hz : Blk _ v2.heap.size _ _ := blk_of_alloc hb3) | (have hz := hz.later hb3) | skip); (try (obtain ⟨q0, q1, q2, q3, q4, q5⟩ := hz.six; have f0 := hz.free 0; have f1 := hz.free 1; have f2 := hz.free 2; have f3 := hz.free 3; have f4 := hz.free 4; have f5 := hz.free 5))))
              all_goals (go_wp2_with fail; go_meet)
              · refine ⟨v3.heap.size, a2, cap2, rfl, rfl, ?_, ?_, ?_, ?_⟩
                · exact low (by repeat (first | with_reducible refine Below.setCell ?_ (by first | exact Nat.le_refl _ | exact low (by repeat (first | with_reducible exact Below.refl _ _ | exact (Below.refl _ _).drew | with_reducible refine bto ?_ (bnew _ _) | with_reducible refine Below.drew ?_ | refine bto ?_ (by assumption)))) _ | with_reducible exact Below.refl _ _ | with_reducible refine bto ?_ (bnew _ _) | with_reducible refine Below.drew ?_ | exact (Below.refl _ _).drew | refine bto ?_ (by assumption)))
                · exact blk_new _ _ _
                · exact how.later (bnew _ _)
                · exact (by repeat (first | with_reducible refine Below.setCell ?_ (by first | exact Nat.le_refl _ | exact low (by repeat (first | with_reducible exact Below.refl _ _ | exact (Below.refl _ _).drew | with_reducible refine bto ?_ (bnew _ _) | with_reducible refine Below.drew ?_ | refine bto ?_ (by assumption)))) _ | with_reducible exact Below.refl _ _ | with_reducible refine bto ?_ (bnew _ _) | with_reducible refine Below.drew ?_ | exact (Below.refl _ _).drew | refine bto ?_ (by assumption)))
              · refine ⟨v2.heap.size, a2, cap2, rfl, rfl, ?_, ?_, ?_, ?_⟩
                · exact low (by repeat (first | with_reducible refine Below.setCell ?_ (by first | exact Nat.le_refl _ | exact low (by repeat (first | with_reducible exact Below.refl _ _ | exact (Below.refl _ _).drew | with_reducible refine bto ?_ (bnew _ _) | with_reducible refine Below.drew ?_ | refine bto ?_ (by assumption)))) _ | with_reducible exact Below.refl _ _ | with_reducible refine bto ?_ (bnew _ _) | with_reducible refine Below.drew ?_ | exact (Below.refl _ _).drew | refine bto ?_ (by assumption)))
                · exact blk_fill hz
                · exact how.apart (apart_zero how hz) (but_fill _ _ _ _ _ _)
                · exact (by repeat (first | with_reducible refine Below.setCell ?_ (by first | exact Nat.le_refl _ | exact low (by repeat (first | with_reducible exact Below.refl _ _ | exact (Below.refl _ _).drew | with_reducible refine bto ?_ (bnew _ _) | with_reducible refine Below.drew ?_ | refine bto ?_ (by assumption)))) _ | with_reducible exact Below.refl _ _ | with_reducible refine bto ?_ (bnew _ _) | with_reducible refine Below.drew ?_ | exact (Below.refl _ _).drew | refine bto ?_ (by assumption)))
              · refine ⟨wr.heap.size, a2, cap2, rfl, rfl, ?_, ?_, ?_, ?_⟩
                · exact low (by repeat (first | with_reducible refine Below.setCell ?_ (by first | exact Nat.le_refl _ | exact low (by repeat (first | with_reducible exact Below.refl _ _ | exact (Below.refl _ _).drew | with_reducible refine bto ?_ (bnew _ _) | with_reducible refine Below.drew ?_ | refine bto ?_ (by assumption)))) _ | with_reducible exact Below.refl _ _ | with_reducible refine bto ?_ (bnew _ _) | with_reducible refine Below.drew ?_ | exact (Below.refl _ _).drew | refine bto ?_ (by assumption)))
                · exact blk_fill hz
                · exact how.apart (apart_zero how hz) (but_fill _ _ _ _ _ _)
                · exact (by repeat (first | with_reducible refine Below.setCell ?_ (by first | exact Nat.le_refl _ | exact low (by repeat (first | with_reducible exact Below.refl _ _ | exact (Below.refl _ _).drew | with_reducible refine bto ?_ (bnew _ _) | with_reducible refine Below.drew ?_ | refine bto ?_ (by assumption)))) _ | with_reducible exact Below.refl _ _ | with_reducible refine bto ?_ (bnew _ _) | with_reducible refine Below.drew ?_ | exact (Below.refl _ _).drew | refine bto ?_ (by assumption)))
            obtain ⟨P, a2, cap2, rfl, rfl, hP, hPB, hf2, hb4⟩ := hcut
            clear HK x0 x1 x2 x3 x4 x5
            rename World => w9
            have H9 := hid (H7.out.later hb4)
            have PB := hid hPB
            have F9 := hid hf2
            have hPn : w.heap.size + 1 + 1 < P := by have := lt_of_block H7.out.rl; omega
            have hP1 : ¬ P = w.heap.size + 1 := by omega
            have hP2 : ¬ P = w.heap.size + 1 + 1 := by omega
            clear hPB hf2 hb4 H7 HST
            by_cases hc : c1 = 0
            · have E2 : Hid ((KR, LR, ys, code) = (K1, ⟨1, 1, 0⟩, [], 0)) := by show _ = _; rw [E1.out, if_neg (by rw [hc]; simp)]
              have hcb : ((c1 : Int) != 0) = false := by simp [hc]
              clear hc
              obtain ⟨d0, d1, d2, d3, d4, d5⟩ := PB.out.six
              obtain ⟨r0, r1, r2, r3, r4, r5⟩ := H9.out.rd.six
              obtain ⟨y0, y1, y2⟩ := H9.out.rl.three
              have f0 := H9.out.rd.free 0
              have f1 := H9.out.rd.free 1
              have f2 := H9.out.rd.free 2
              have f3 := H9.out.rd.free 3
              have f4 := H9.out.rd.free 4
              have f5 := H9.out.rd.free 5
              have g0 := H9.out.rl.free 0
              have g1 := H9.out.rl.free 1
              have g2 := H9.out.rl.free 2
              have HBL := hid (fillPQ_blks (v0 := .slice a2 K1.fs.length cap2) (v1 := .int .i64 K1.c) (v2 := .int .i64 K1.k) (v3 := .int .i64 K1.cr) (v4 := .int .i64 K1.fl) (v5 := .bool K1.dn) (x0 := .int .i64 1) (x1 := .int .i64 1) (x2 := .int .i64 0) (show w.heap.size + 1 ≠ w.heap.size + 1 + 1 by omega) H9.out.rd H9.out.rl)
              have HFB : Hid (Below w.heap.size w (fillPQ (w.heap.size + 1) (w.heap.size + 1 + 1) w9 (.slice a2 K1.fs.length cap2) (.int .i64 K1.c) (.int .i64 K1.k) (.int .i64 K1.cr) (.int .i64 K1.fl) (.bool K1.dn) (.int .i64 1) (.int .i64 1) (.int .i64 0))) := fillPQ_below H9.out.be (by omega) (by omega)
              have HBT : Hid (Below w.heap.size w w9) := H9.out.be
              go_wp2
              obtain ⟨s0, s1, s2, s3, s4, s5⟩ := HBL.out.1.six
              obtain ⟨t0, t1, t2⟩ := HBL.out.2.three
              change bodyPost _ _ _ _ _ (fillPQ (w.heap.size + 1) (w.heap.size + 1 + 1) w9 (.slice a2 K1.fs.length cap2) (.int .i64 K1.c) (.int .i64 K1.k) (.int .i64 K1.cr) (.int .i64 K1.fl) (.bool K1.dn) (.int .i64 1) (.int .i64 1) (.int .i64 0))
              refine bodyPost_ret (v := .tuple #[.agg #[.slice a2 K1.fs.length cap2, .int .i64 K1.c, .int .i64 K1.k, .int .i64 K1.cr, .int .i64 K1.fl, .bool K1.dn], .agg #[.int .i64 1, .int .i64 1, .int .i64 0], .slice (some ⟨w.heap.size + 1 + 1 + 1, 0, none⟩) 0 0, .int .i64 0]) (by simp [results, Tryz.results6, go_sem, s0, s1, s2, s3, s4, s5, t0, t1, t2]) rfl ?_
              rw [E2.out]
              exact ⟨a2, cap2, _, 0, rfl, H9.out.fill F9.out, Or.inl rfl, HFB.out⟩
            · have E2 : Hid ((KR, LR, ys, code) = (K1, noLog, [], c1)) := by show _ = _; rw [E1.out, if_pos hc]
              have hcb : ((c1 : Int) != 0) = true := by simp [hc]
              clear hc
              obtain ⟨d0, d1, d2, d3, d4, d5⟩ := PB.out.six
              obtain ⟨r0, r1, r2, r3, r4, r5⟩ := H9.out.rd.six
              obtain ⟨y0, y1, y2⟩ := H9.out.rl.three
              have f0 := H9.out.rd.free 0
              have f1 := H9.out.rd.free 1
              have f2 := H9.out.rd.free 2
              have f3 := H9.out.rd.free 3
              have f4 := H9.out.rd.free 4
              have f5 := H9.out.rd.free 5
              have g0 := H9.out.rl.free 0
              have g1 := H9.out.rl.free 1
              have g2 := H9.out.rl.free 2
              have HBL := hid (fillPQ_blks (v0 := .slice a2 K1.fs.length cap2) (v1 := .int .i64 K1.c) (v2 := .int .i64 K1.k) (v3 := .int .i64 K1.cr) (v4 := .int .i64 K1.fl) (v5 := .bool K1.dn) (x0 := .int .i64 0) (x1 := .int .i64 0) (x2 := .int .i64 0) (show w.heap.size + 1 ≠ w.heap.size + 1 + 1 by omega) H9.out.rd H9.out.rl)
              have HFB : Hid (Below w.heap.size w (fillPQ (w.heap.size + 1) (w.heap.size + 1 + 1) w9 (.slice a2 K1.fs.length cap2) (.int .i64 K1.c) (.int .i64 K1.k) (.int .i64 K1.cr) (.int .i64 K1.fl) (.bool K1.dn) (.int .i64 0) (.int .i64 0) (.int .i64 0))) := fillPQ_below H9.out.be (by omega) (by omega)
              have HBT : Hid (Below w.heap.size w w9) := H9.out.be
              go_wp2
              obtain ⟨s0, s1, s2, s3, s4, s5⟩ := HBL.out.1.six
              obtain ⟨t0, t1, t2⟩ := HBL.out.2.three
              change bodyPost _ _ _ _ _ (fillPQ (w.heap.size + 1) (w.heap.size + 1 + 1) w9 (.slice a2 K1.fs.length cap2) (.int .i64 K1.c) (.int .i64 K1.k) (.int .i64 K1.cr) (.int .i64 K1.fl) (.bool K1.dn) (.int .i64 0) (.int .i64 0) (.int .i64 0))
              refine bodyPost_ret (v := .tuple #[.agg #[.slice a2 K1.fs.length cap2, .int .i64 K1.c, .int .i64 K1.k, .int .i64 K1.cr, .int .i64 K1.fl, .bool K1.dn], .agg #[.int .i64 0, .int .i64 0, .int .i64 0], .slice (some ⟨w.heap.size + 1 + 1 + 1, 0, none⟩) 0 0, .int .i64 (c1 : Nat)]) (by simp [results, Tryz.results6, go_sem, s0, s1, s2, s3, s4, s5, t0, t1, t2]) rfl ?_
              rw [E2.out]
              exact ⟨a2, cap2, _, 0, rfl, H9.out.fill F9.out, Or.inl rfl, HFB.out⟩
          | cons x l =>
            exact absurd (HZZ.out.trans (HNO.out HDV.out HDF.out)) (by simp)
end Go.Proofs.YtflfopienjjlbaaGreatDoor

