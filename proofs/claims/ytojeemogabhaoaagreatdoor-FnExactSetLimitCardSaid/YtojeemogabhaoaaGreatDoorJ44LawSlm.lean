import Derived.Test.YtojeemogabhaoaaGreatDoorProg
import Derived.Test.YtojeemogabhaoaaGreatDoorJ40StrL
import Derived.Test.YtojeemogabhaoaaGreatDoorJ41SSlm
import Derived.Test.YtojeemogabhaoaaGreatDoorJ43LawBx
import Derived.Test.YtojeemogabhaoaaGreatDoorJ24CfgT
import Derived.Deep.RegionHeld3
import Derived.Deep.DeepCutAuto
namespace Go.Proofs.YtojeemogabhaoaaGreatDoor
open Go.RowKit
set_option maxRecDepth 100000 in
set_option maxHeartbeats 16000000 in
theorem lawSetLimit (c : CfgD) (now : Int) (a : Option Addr) (cap : Nat) (ts : List TenD) (tenant metric : ByteArray) (limit : Int) (w : World) (hf : TensIn w a ts) (hs : ShortT ts) (hlen : ts.length ≤ maxLen) (hU : UTab w) :
    Calls Tryz.prog 5 #[cfgV c, .agg #[.int .i64 now, .slice a ts.length cap], .string tenant, .string metric, .int .i64 limit] w fun e w' => e = .returned (.bool true) ∧ Below w.heap.size w w' := by
  by_cases hlt : (1048576 : Int) < tenant.size
  · clear hf hs hU
    unfold cfgV at *
    unfold maxLen at hlen
    go_enter Tryz.func5, Tryz.ntmps5
    go_wp2
    go_ret
    exact ⟨rfl, bto (bnew _ _) (bnew _ _)⟩
  by_cases hlm : (1048576 : Int) < metric.size
  · clear hf hs hU
    unfold cfgV at *
    unfold maxLen at hlen
    go_enter Tryz.func5, Tryz.ntmps5
    go_wp2
    go_ret
    exact ⟨rfl, bto (bnew _ _) (bnew _ _)⟩
  have ht : tenant.size ≤ 1048576 := by omega
  have hm : metric.size ≤ 1048576 := by omega
  have HSZ : Hid (∀ W, Below w.heap.size w W → Calls Tryz.prog 7 #[.agg #[.int .i64 now, .slice a ts.length cap], .int .i64 1048576] W fun e w' => e = .returned (.int .i64 (szTens 1048576 ts)) ∧ Below W.heap.size W w') := fun W hW => szState_any a cap ts now 1048576 W (by omega) (by omega) (hf.later hW) hs hlen
  by_cases hbig : (ts.length + tensBulk ts : Int) ≤ 1048576
  · have e : szTens 1048576 ts = 1048576 - ts.length - tensBulk ts := by unfold szTens; rw [if_pos hbig]
    rw [e] at HSZ
    have h0 : ¬ ((1048576 : Int) - ts.length - tensBulk ts < 0) := by omega
    have hbk : ts.length + tensBulk ts ≤ 1048576 := by omega
    obtain ⟨f1, f2, f3, f4⟩ := fit_of hbk
    obtain ⟨y1, y2, y3⟩ := setLimV_small (c := c) (now := now) (limit := limit) hbk ht hm
    have hl : ts.length ≤ 1048576 := by omega
    have htl := tensLen_small hbk
    have HTC : Hid (∀ W, Calls Tryz.prog 9 #[cfgV c] W fun e w' => e = .returned (cfgV c) ∧ Below W.heap.size W w') := fun W => toConfig_any _ _ _ _ _ _ W
    have HTS : Hid (∀ W, Below w.heap.size w W → Calls Tryz.prog 10 #[.agg #[.int .i64 now, .slice a ts.length cap]] W fun e w' => ∃ g, e = .returned (.agg #[.int .i64 now, .slice (some ⟨g, 0, none⟩) ts.length ts.length]) ∧ W.heap.size ≤ g ∧ g < w'.heap.size ∧ TensOwn w' W.heap.size (some ⟨g, 0, none⟩) ts ∧ Below W.heap.size W w') := fun W hW => toState_any now a cap ts W (hf.later hW) hl f3
    have HSP : Hid (∀ W g, TensIn W (some ⟨g, 0, none⟩) ts → Calls Tryz.prog 15 #[cfgV c, .agg #[.int .i64 now, .slice (some ⟨g, 0, none⟩) ts.length ts.length], .string tenant, .string metric, .int .i64 limit] W fun e w' => StOut (setLimV c now ts tenant metric limit) W e w') := fun W g h => specSetLimit_any c now _ _ ts tenant metric limit W h hbk ht hm
    have HIM : Hid (∀ W g, TensIn W (some ⟨g, 0, none⟩) ts → UTab W → Calls Tryz.prog 16 #[cfgV c, .agg #[.int .i64 now, .slice (some ⟨g, 0, none⟩) ts.length ts.length], .string tenant, .string metric, .int .i64 limit] W fun e w' => StOut (setLimV c now ts tenant metric limit) W e w') := fun W g h hu => implSetLimit_any c now _ _ ts tenant metric limit W h hbk hu ht hm
    unfold StOut at HSP HIM
    have HEQ : Hid (∀ W g g', TensIn W (some ⟨g, 0, none⟩) ts → TensIn W (some ⟨g', 0, none⟩) ts → Calls Tryz.prog 12 #[.agg #[.int .i64 now, .slice (some ⟨g, 0, none⟩) ts.length ts.length], .agg #[.int .i64 now, .slice (some ⟨g', 0, none⟩) ts.length ts.length]] W fun e w' => e = .returned (.bool true) ∧ Below W.heap.size W w') := fun W g g' h h' => eqState_same now _ _ _ _ ts W h h' (by unfold maxLen; omega) f4
    have HEV : Hid (∀ W b b' d d', TensIn W b (setLimV c now ts tenant metric limit).2.1 → TensIn W b' (setLimV c now ts tenant metric limit).2.1 → Calls Tryz.prog 12 #[.agg #[.int .i64 (setLimV c now ts tenant metric limit).1, .slice b (setLimV c now ts tenant metric limit).2.1.length d], .agg #[.int .i64 (setLimV c now ts tenant metric limit).1, .slice b' (setLimV c now ts tenant metric limit).2.1.length d']] W fun e w' => e = .returned (.bool true) ∧ Below W.heap.size W w') := fun W b b' d d' h h' => eqState_same _ b b' d d' _ W h h' (by unfold maxLen; omega) y3
    have HMK : Hid (∀ W0 W B g, TensOwn W0 B (some ⟨g, 0, none⟩) ts → Below W0.heap.size W0 W → Calls Tryz.prog 17 #[.agg #[.int .i64 now, .slice (some ⟨g, 0, none⟩) ts.length ts.length], .int .i64 1] W fun e w' => e = .returned (.int .i64 ((1 + tensLen ts : Nat) : Int)) ∧ Turn (fun g => B ≤ g ∧ g < W0.heap.size) W w' ∧ TensOwn w' B (some ⟨g, 0, none⟩) (markTens 1 ts)) := fun W0 W B g h hb => markState_any _ _ _ _ 1 B W0 W (by omega) (by omega) h hb
    have HMV : Hid (∀ W B X b d, TensX W B X b (setLimV c now ts tenant metric limit).2.1 → Calls Tryz.prog 17 #[.agg #[.int .i64 (setLimV c now ts tenant metric limit).1, .slice b (setLimV c now ts tenant metric limit).2.1.length d], .int .i64 1] W fun e w' => e = .returned (.int .i64 ((1 + tensLen (setLimV c now ts tenant metric limit).2.1 : Nat) : Int)) ∧ Turn (fun g => B ≤ g ∧ g ≠ X) W w' ∧ TensIn w' b (markTens 1 (setLimV c now ts tenant metric limit).2.1)) := fun W B X b d h => markStateX _ b d _ 1 B X W (by omega) (by omega) h
    have HHV : Hid (∀ W b d, TensIn W b (markTens 1 (setLimV c now ts tenant metric limit).2.1) → Calls Tryz.prog 18 #[.agg #[.int .i64 (setLimV c now ts tenant metric limit).1, .slice b (setLimV c now ts tenant metric limit).2.1.length d], .int .i64 1] W fun e w' => e = .returned (.int .i64 ((1 + tensLen (setLimV c now ts tenant metric limit).2.1 : Nat) : Int)) ∧ Below W.heap.size W w') := fun W b d h => heldState_any _ b d _ 1 W (by omega) (by omega) h
    have HU : Hid (UTab w) := hU
    have hm0 : ¬ (((1 + tensLen ts : Nat) : Int) < 0) := by omega
    have hq0 : ¬ (((1 + tensLen (setLimV c now ts tenant metric limit).2.1 : Nat) : Int) < 0) := by omega
    have hqq : (((1 + tensLen (setLimV c now ts tenant metric limit).2.1 : Nat) : Int) != ((1 + tensLen (setLimV c now ts tenant metric limit).2.1 : Nat) : Int)) = false := by simp
    generalize ((1 + tensLen ts : Nat) : Int) = KM at *
    generalize ((1 + tensLen (setLimV c now ts tenant metric limit).2.1 : Nat) : Int) = QM at *
    clear y1 y2 y3 htl hbk
    generalize hRL : (setLimV c now ts tenant metric limit).2.1.length = NV at *
    clear hRL
    generalize (setLimV c now ts tenant metric limit).2.2 = VB at *
    generalize (setLimV c now ts tenant metric limit).2.1 = VL at *
    generalize (setLimV c now ts tenant metric limit).1 = VN at *
    have hvb : (VB != VB) = false := by simp
    generalize markTens 1 VL = MV at *
    generalize markTens 1 ts = MT at *
    generalize (1048576 : Int) - ts.length - tensBulk ts = left at *
    generalize ts.length = n at *
    unfold cfgV at *
    clear hf hs hlen hU e hbig f1 f2 f3 f4 hl
    go_enter Tryz.func5, Tryz.ntmps5
    go_wp2_with fail
    refine (HSZ.out _ (bto (bnew _ _) (bnew _ _))).mono ?_
    rintro e w1 ⟨rfl, hb1⟩
    have B1w : Hid (Below w.heap.size w w1) := bto (bto (bnew _ _) (bnew _ _)) hb1
    have A1 : Hid (Blk w1 w.heap.size #[.int .i64 c.w, .int .i64 c.tl, .int .i64 c.ml, .int .i64 c.sh, .int .i64 c.ha, .int .i64 c.sg] 23) := hid (((Blk.new _ _ _).alloc _).later hb1)
    have S1 : Hid (Blk w1 (w.heap.size + 1) #[.int .i64 now, .slice a n cap] 26) := hid (by have := (Blk.new (w.alloc (.cells #[.int .i64 c.w, .int .i64 c.tl, .int .i64 c.ml, .int .i64 c.sh, .int .i64 c.ha, .int .i64 c.sg] 23)) #[.int .i64 now, .slice a n cap] 26).later hb1; simpa using this)
    have HK1 : Hid (∀ w', Below w1.heap.size w1 w' → w'.cell? ⟨w.heap.size, 0, none⟩ = some (.int .i64 c.w) ∧ w'.cell? ⟨w.heap.size, 1, none⟩ = some (.int .i64 c.tl) ∧ w'.cell? ⟨w.heap.size, 2, none⟩ = some (.int .i64 c.ml) ∧ w'.cell? ⟨w.heap.size, 3, none⟩ = some (.int .i64 c.sh) ∧ w'.cell? ⟨w.heap.size, 4, none⟩ = some (.int .i64 c.ha) ∧ w'.cell? ⟨w.heap.size, 5, none⟩ = some (.int .i64 c.sg) ∧ w'.cell? ⟨w.heap.size + 1, 0, none⟩ = some (.int .i64 now) ∧ w'.cell? ⟨w.heap.size + 1, 1, none⟩ = some (.slice a n cap)) := fun w' h => by
      have q := A1.out.later h
      have p := S1.out.later h
      exact ⟨q.cell 0, q.cell 1, q.cell 2, q.cell 3, q.cell 4, q.cell 5, p.cell 0, p.cell 1⟩
    obtain ⟨x0, x1, x2, x3, x4, x5, y0, y1⟩ := HK1.out w1 (Below.refl _ _)
    clear hb1 HSZ
    go_upto_region 9 with fail
    go_cut [12, 13] (fun p ok wx => ∃ X, p = .pointer (some ⟨X, 0, none⟩) ∧ ok = .bool VB ∧ StX w1 X VN VL NV wx)
    case first =>
      go_region_held3 (fun w' => w'.cell? ⟨w.heap.size, 0, none⟩ = some (.int .i64 c.w) ∧ w'.cell? ⟨w.heap.size, 1, none⟩ = some (.int .i64 c.tl) ∧ w'.cell? ⟨w.heap.size, 2, none⟩ = some (.int .i64 c.ml) ∧ w'.cell? ⟨w.heap.size, 3, none⟩ = some (.int .i64 c.sh) ∧ w'.cell? ⟨w.heap.size, 4, none⟩ = some (.int .i64 c.ha) ∧ w'.cell? ⟨w.heap.size, 5, none⟩ = some (.int .i64 c.sg) ∧ w'.cell? ⟨w.heap.size + 1, 0, none⟩ = some (.int .i64 now) ∧ w'.cell? ⟨w.heap.size + 1, 1, none⟩ = some (.slice a n cap))
        (first | go_keep | with_reducible exact HK1.out _ kf | with_reducible exact HK1.out _ kcc | with_reducible exact HK1.out _ ks | with_reducible exact HK1.out _ (set2 kf hxf) | with_reducible exact HK1.out _ (set2 kf kz) | with_reducible exact HK1.out _ (bto kcc (bnew _ _)) | with_reducible exact HK1.out _ (bto ks (bnew _ _)) | with_reducible exact HK1.out _ (bto kf (bnew _ _)) | with_reducible exact HK1.out _ ((bnew _ _).drew))
        (first
        | (go_at_call 9; refine (HTC.out _).mono ?_; rintro e wc ⟨rfl, hbc⟩; have kcc : Below w1.heap.size w1 wc := (by with_reducible exact bto (Below.refl _ _).drew hbc); have cc1 := HK1.out _ kcc)
        | (go_at_call 9; refine (HTC.out _).mono ?_; rintro e wc ⟨rfl, hbc⟩; have kcc : Below w1.heap.size w1 wc := (by with_reducible exact bto ((bnew _ _).drew) hbc); have cc1 := HK1.out _ kcc; have hzc : Blk wc w1.heap.size #[.int .i64 0, .slice none 0 0] 33 := blk_drewB hbc; have hxc : w1.heap.size ≤ w1.heap.size := Nat.le_refl _)
        | (have q := ks; clear q; go_at_call 9; refine (HTC.out _).mono ?_; rintro e wc ⟨rfl, hbc⟩; have kcc : Below w1.heap.size w1 wc := (by with_reducible exact bto ks hbc); have cc1 := HK1.out _ kcc; have oc := os.later hbc; try (have hzc := hzs.later hbc; have hxc := hxs))
        | (have q := ks; clear q; go_at_call 9; refine (HTC.out _).mono ?_; rintro e wc ⟨rfl, hbc⟩; have kcc : Below w1.heap.size w1 wc := (by with_reducible exact bto (bto ks (bnew _ _)) hbc); have cc1 := HK1.out _ kcc; have oc := os.later (bto (bnew _ _) hbc); have hzc := blk_allocB hbc; have hxc := ks.size)
        | (go_at_call 10; refine (HTS.out _ (by with_reducible exact B1w.out.drew)).mono ?_; rintro e ws ⟨g, rfl, hg1, hg2, ho, hbs⟩; have ks : Below w1.heap.size w1 ws := (by with_reducible exact bto (Below.refl _ _).drew hbs); have cs1 := HK1.out _ ks; have os := ho.tens)
        | (go_at_call 10; refine (HTS.out _ (by with_reducible exact (bto B1w.out (bnew _ _)).drew)).mono ?_; rintro e ws ⟨g, rfl, hg1, hg2, ho, hbs⟩; have ks : Below w1.heap.size w1 ws := (by with_reducible exact bto ((bnew _ _).drew) hbs); have cs1 := HK1.out _ ks; have os := ho.tens; have hzs : Blk ws w1.heap.size #[.int .i64 0, .slice none 0 0] 33 := blk_drewB hbs; have hxs : w1.heap.size ≤ w1.heap.size := Nat.le_refl _)
        | (have q := kcc; clear q; go_at_call 10; refine (HTS.out _ (by with_reducible exact bto B1w.out kcc)).mono ?_; rintro e ws ⟨g, rfl, hg1, hg2, ho, hbs⟩; have ks : Below w1.heap.size w1 ws := (by with_reducible exact bto kcc hbs); have cs1 := HK1.out _ ks; have os := ho.tens; try (have hzs := hzc.later hbs; have hxs := hxc))
        | (have q := kcc; clear q; go_at_call 10; refine (HTS.out _ (by with_reducible exact bto (bto B1w.out kcc) (bnew _ _))).mono ?_; rintro e ws ⟨g, rfl, hg1, hg2, ho, hbs⟩; have ks : Below w1.heap.size w1 ws := (by with_reducible exact bto (bto kcc (bnew _ _)) hbs); have cs1 := HK1.out _ ks; have os := ho.tens; have hzs := blk_allocB hbs; have hxs := kcc.size)
        | (have q := oc; clear q; have q := hzc; clear q; go_at_call 15; refine (HSP.out _ g (by with_reducible exact oc)).mono ?_; rintro e wf ⟨b, d, rfl, hoF, hbf⟩; have kf : Below w1.heap.size w1 wf := (by with_reducible exact bto kcc hbf); have cf1 := HK1.out _ kf; have hzf := hzc.later hbf; have hxf := hxc; have hxl := lt_of_block hzc; have s0 := hzf.cell 0; have s1 := hzf.cell 1; have f0 := hzf.free 0; have f1 := hzf.free 1)
        | (have q := oc; clear q; (fail_if_success (have q := hzc)); go_at_call 15; refine (HSP.out _ g (by with_reducible exact oc)).mono ?_; rintro e wf ⟨b, d, rfl, hoF, hbf⟩; have kf : Below w1.heap.size w1 wf := (by with_reducible exact bto kcc hbf); have cf1 := HK1.out _ kf; have kz := kcc.size)
        | (have q := oc; clear q; go_at_call 15; refine (HSP.out _ g (by with_reducible exact oc.later (bnew _ _))).mono ?_; rintro e wf ⟨b, d, rfl, hoF, hbf⟩; have kf : Below w1.heap.size w1 wf := (by with_reducible exact bto (bto kcc (bnew _ _)) hbf); have cf1 := HK1.out _ kf; have hzn := blk_allocB hbf; have kz := kcc.size; have s0 := hzn.cell 0; have s1 := hzn.cell 1; have f0 := hzn.free 0; have f1 := hzn.free 1)
        | ((fail_if_success (have q := oc)); have q := hzs; clear q; go_at_call 15; refine (HSP.out _ g (by with_reducible exact os)).mono ?_; rintro e wf ⟨b, d, rfl, hoF, hbf⟩; have kf : Below w1.heap.size w1 wf := (by with_reducible exact bto ks hbf); have cf1 := HK1.out _ kf; have hzf := hzs.later hbf; have hxf := hxs; have hxl := lt_of_block hzs; have s0 := hzf.cell 0; have s1 := hzf.cell 1; have f0 := hzf.free 0; have f1 := hzf.free 1)
        | ((fail_if_success (have q := oc)); (fail_if_success (have q := hzs)); go_at_call 15; refine (HSP.out _ g (by with_reducible exact os)).mono ?_; rintro e wf ⟨b, d, rfl, hoF, hbf⟩; have kf : Below w1.heap.size w1 wf := (by with_reducible exact bto ks hbf); have cf1 := HK1.out _ kf; have kz := ks.size)
        | ((fail_if_success (have q := oc)); go_at_call 15; refine (HSP.out _ g (by with_reducible exact os.later (bnew _ _))).mono ?_; rintro e wf ⟨b, d, rfl, hoF, hbf⟩; have kf : Below w1.heap.size w1 wf := (by with_reducible exact bto (bto ks (bnew _ _)) hbf); have cf1 := HK1.out _ kf; have hzn := blk_allocB hbf; have kz := ks.size; have s0 := hzn.cell 0; have s1 := hzn.cell 1; have f0 := hzn.free 0; have f1 := hzn.free 1))
      all_goals (go_wp2_with fail; go_meet)
      all_goals first
        | with_reducible exact ⟨_, rfl, rfl, stX_new hoF kz kf⟩
        | exact ⟨_, rfl, rfl, stX_old hoF hxl hxf hzf kf⟩
        | exact ⟨_, rfl, rfl, stX_old hoF (by simp) kz hzn kf⟩
    obtain ⟨X0, rfl, rfl, b0, d0, BB0, hbx0, htx0, hB0, hX0, hb4⟩ := hcut
    rename World => w4
    have XB0 := hid hbx0
    have TI0 : Hid (TensIn w4 b0 VL) := htx0.tens
    have B4w : Hid (Below w.heap.size w w4) := bto B1w.out hb4
    have A4 : Hid (Blk w4 w.heap.size #[.int .i64 c.w, .int .i64 c.tl, .int .i64 c.ml, .int .i64 c.sh, .int .i64 c.ha, .int .i64 c.sg] 23) := A1.out.later hb4
    have S4 : Hid (Blk w4 (w.heap.size + 1) #[.int .i64 now, .slice a n cap] 26) := S1.out.later hb4
    have z0 : w4.cell? ⟨w.heap.size + 1, 0, none⟩ = some (.int .i64 now) := S4.out.cell 0
    have z1 : w4.cell? ⟨w.heap.size + 1, 1, none⟩ = some (.slice a n cap) := S4.out.cell 1
    have hs4 : w.heap.size + 1 < w4.heap.size := lt_of_block S4.out
    have hX04 : X0 < w4.heap.size := lt_of_block hbx0
    have h1w : w.heap.size + 1 < w1.heap.size := lt_of_block S1.out
    clear hbx0 htx0 hB0 hb4 HK1 x0 x1 x2 x3 x4 x5 y0 y1 A1 S1 HSP
    go_wp2_with fail
    refine (HTS.out _ B4w.out).mono ?_
    rintro e w5 ⟨g1, rfl, hg1, hg2, ho5, hb5⟩
    have B45 : Hid (Below w4.heap.size w4 w5) := hb5
    have O5 : Hid (TensOwn w5 w4.heap.size (some ⟨g1, 0, none⟩) ts) := ho5
    have h45 : w4.heap.size ≤ w5.heap.size := hb5.size
    clear ho5 hb5 z0 z1
    go_upto_region 11 with fail
    have X6 : Hid (Blk (w5.alloc (.cells #[.int .i64 now, .slice (some ⟨g1, 0, none⟩) n n] 33)) w5.heap.size #[.int .i64 now, .slice (some ⟨g1, 0, none⟩) n n] 33) := Blk.new _ _ _
    have B56 : Hid (Below w5.heap.size w5 (w5.alloc (.cells #[.int .i64 now, .slice (some ⟨g1, 0, none⟩) n n] 33))) := bnew _ _
    have h56 : w5.heap.size < (w5.alloc (.cells #[.int .i64 now, .slice (some ⟨g1, 0, none⟩) n n] 33)).heap.size := by simp
    generalize w5.alloc (.cells #[.int .i64 now, .slice (some ⟨g1, 0, none⟩) n n] 33) = w6 at *
    have A6 : Hid (Blk w6 w.heap.size #[.int .i64 c.w, .int .i64 c.tl, .int .i64 c.ml, .int .i64 c.sh, .int .i64 c.ha, .int .i64 c.sg] 23) := (A4.out.later B45.out).later B56.out
    have S6 : Hid (Blk w6 (w.heap.size + 1) #[.int .i64 now, .slice a n cap] 26) := (S4.out.later B45.out).later B56.out
    have B6w : Hid (Below w.heap.size w w6) := bto (bto B4w.out B45.out) B56.out
    have O6 : Hid (TensIn w6 (some ⟨g1, 0, none⟩) ts) := O5.out.tens.later B56.out
    have HXS : Hid (∃ X, X = w5.heap.size) := ⟨_, rfl⟩
    obtain ⟨X, hX⟩ := HXS.out
    rw [← hX] at X6 h56 h45 ⊢
    have HX := hid hX
    clear hX HXS
    have HK6 : Hid (∀ w', Below w6.heap.size w6 w' → w'.cell? ⟨w.heap.size, 0, none⟩ = some (.int .i64 c.w) ∧ w'.cell? ⟨w.heap.size, 1, none⟩ = some (.int .i64 c.tl) ∧ w'.cell? ⟨w.heap.size, 2, none⟩ = some (.int .i64 c.ml) ∧ w'.cell? ⟨w.heap.size, 3, none⟩ = some (.int .i64 c.sh) ∧ w'.cell? ⟨w.heap.size, 4, none⟩ = some (.int .i64 c.ha) ∧ w'.cell? ⟨w.heap.size, 5, none⟩ = some (.int .i64 c.sg) ∧ w'.cell? ⟨w.heap.size + 1, 0, none⟩ = some (.int .i64 now) ∧ w'.cell? ⟨w.heap.size + 1, 1, none⟩ = some (.slice a n cap) ∧ w'.cell? ⟨X, 0, none⟩ = some (.int .i64 now) ∧ w'.cell? ⟨X, 1, none⟩ = some (.slice (some ⟨g1, 0, none⟩) n n)) := fun w' h => by
      have q := A6.out.later h
      have p := S6.out.later h
      have r := X6.out.later h
      exact ⟨q.cell 0, q.cell 1, q.cell 2, q.cell 3, q.cell 4, q.cell 5, p.cell 0, p.cell 1, r.cell 0, r.cell 1⟩
    have HKC : Hid (∀ w', Below w6.heap.size w6 w' → w'.cell? ⟨w.heap.size, 0, none⟩ = some (.int .i64 c.w) ∧ w'.cell? ⟨w.heap.size, 1, none⟩ = some (.int .i64 c.tl) ∧ w'.cell? ⟨w.heap.size, 2, none⟩ = some (.int .i64 c.ml) ∧ w'.cell? ⟨w.heap.size, 3, none⟩ = some (.int .i64 c.sh) ∧ w'.cell? ⟨w.heap.size, 4, none⟩ = some (.int .i64 c.ha) ∧ w'.cell? ⟨w.heap.size, 5, none⟩ = some (.int .i64 c.sg) ∧ w'.cell? ⟨X, 0, none⟩ = some (.int .i64 now) ∧ w'.cell? ⟨X, 1, none⟩ = some (.slice (some ⟨g1, 0, none⟩) n n)) := fun w' h => by
      obtain ⟨b0, b1, b2, b3, b4, b5, _, _, b6, b7⟩ := HK6.out w' h
      exact ⟨b0, b1, b2, b3, b4, b5, b6, b7⟩
    obtain ⟨x0, x1, x2, x3, x4, x5, y0, y1, u0, u1⟩ := HK6.out w6 (Below.refl _ _)
    go_cut [15, 16] (fun p ok wx => ∃ X, p = .pointer (some ⟨X, 0, none⟩) ∧ ok = .bool VB ∧ StX w6 X VN VL NV wx)
    case first =>
      go_region_held3 (fun w' => w'.cell? ⟨w.heap.size, 0, none⟩ = some (.int .i64 c.w) ∧ w'.cell? ⟨w.heap.size, 1, none⟩ = some (.int .i64 c.tl) ∧ w'.cell? ⟨w.heap.size, 2, none⟩ = some (.int .i64 c.ml) ∧ w'.cell? ⟨w.heap.size, 3, none⟩ = some (.int .i64 c.sh) ∧ w'.cell? ⟨w.heap.size, 4, none⟩ = some (.int .i64 c.ha) ∧ w'.cell? ⟨w.heap.size, 5, none⟩ = some (.int .i64 c.sg) ∧ w'.cell? ⟨X, 0, none⟩ = some (.int .i64 now) ∧ w'.cell? ⟨X, 1, none⟩ = some (.slice (some ⟨g1, 0, none⟩) n n))
        (first | go_keep | with_reducible exact HKC.out _ kf | with_reducible exact HKC.out _ kcc | with_reducible exact HKC.out _ ks | with_reducible exact HKC.out _ (set2 kf hxf) | with_reducible exact HKC.out _ (set2 kf kz) | with_reducible exact HKC.out _ (bto kcc (bnew _ _)) | with_reducible exact HKC.out _ (bto ks (bnew _ _)) | with_reducible exact HKC.out _ (bto kf (bnew _ _)) | with_reducible exact HKC.out _ ((bnew _ _).drew))
        (first
        | (go_at_call 9; refine (HTC.out _).mono ?_; rintro e wc ⟨rfl, hbc⟩; have kcc : Below w6.heap.size w6 wc := (by with_reducible exact bto (Below.refl _ _).drew hbc); have cc1 := HKC.out _ kcc)
        | (go_at_call 9; refine (HTC.out _).mono ?_; rintro e wc ⟨rfl, hbc⟩; have kcc : Below w6.heap.size w6 wc := (by with_reducible exact bto ((bnew _ _).drew) hbc); have cc1 := HKC.out _ kcc; have hzc : Blk wc w6.heap.size #[.int .i64 0, .slice none 0 0] 33 := blk_drewB hbc; have hxc : w6.heap.size ≤ w6.heap.size := Nat.le_refl _)
        | (have q := hzc; clear q; go_at_call 16; refine (HIM.out _ g1 (by with_reducible exact O6.out.later kcc) (HU.out.later (by with_reducible exact bto B6w.out kcc))).mono ?_; rintro e wf ⟨b, d, rfl, hoF, hbf⟩; have kf : Below w6.heap.size w6 wf := (by with_reducible exact bto kcc hbf); have cf1 := HKC.out _ kf; have hzf := hzc.later hbf; have hxf := hxc; have hxl := lt_of_block hzc; have s0 := hzf.cell 0; have s1 := hzf.cell 1; have f0 := hzf.free 0; have f1 := hzf.free 1)
        | ((fail_if_success (have q := hzc)); go_at_call 16; refine (HIM.out _ g1 (by with_reducible exact O6.out.later kcc) (HU.out.later (by with_reducible exact bto B6w.out kcc))).mono ?_; rintro e wf ⟨b, d, rfl, hoF, hbf⟩; have kf : Below w6.heap.size w6 wf := (by with_reducible exact bto kcc hbf); have cf1 := HKC.out _ kf; have kz := kcc.size)
        | (go_at_call 16; refine (HIM.out _ g1 (by with_reducible exact O6.out.later (bto kcc (bnew _ _))) (HU.out.later (by with_reducible exact bto (bto B6w.out kcc) (bnew _ _)))).mono ?_; rintro e wf ⟨b, d, rfl, hoF, hbf⟩; have kf : Below w6.heap.size w6 wf := (by with_reducible exact bto (bto kcc (bnew _ _)) hbf); have cf1 := HKC.out _ kf; have hzn := blk_allocB hbf; have kz := kcc.size; have s0 := hzn.cell 0; have s1 := hzn.cell 1; have f0 := hzn.free 0; have f1 := hzn.free 1))
      all_goals (go_wp2_with fail; go_meet)
      all_goals first
        | with_reducible exact ⟨_, rfl, rfl, stX_new hoF kz kf⟩
        | exact ⟨_, rfl, rfl, stX_old hoF hxl hxf hzf kf⟩
        | exact ⟨_, rfl, rfl, stX_old hoF (by simp) kz hzn kf⟩
    obtain ⟨XG, rfl, rfl, b1, d1, BB1, hbx1, htx1, hB1, hX1, hb7⟩ := hcut
    rename World => w7
    have XB1 := hid hbx1
    have TX7 := hid htx1
    have B67 : Hid (Below w6.heap.size w6 w7) := hb7
    have B47 : Hid (Below w4.heap.size w4 w7) := bto (bto B45.out B56.out) hb7
    have XB07 : Hid (Blk w7 X0 #[.int .i64 VN, .slice b0 NV d0] 33) := XB0.out.later B47.out
    have c0 : w7.cell? ⟨XG, 0, none⟩ = some (.int .i64 VN) := XB1.out.cell 0
    have c1 : w7.cell? ⟨XG, 1, none⟩ = some (.slice b1 NV d1) := XB1.out.cell 1
    have e0 : w7.cell? ⟨X0, 0, none⟩ = some (.int .i64 VN) := XB07.out.cell 0
    have e1 : w7.cell? ⟨X0, 1, none⟩ = some (.slice b0 NV d0) := XB07.out.cell 1
    clear hbx1 htx1 hb7 HKC x0 x1 x2 x3 x4 x5 y0 y1 u0 u1
    go_wp2_with fail
    refine (HEV.out _ _ _ _ _ TX7.out.tens (TI0.out.later B47.out)).mono ?_
    rintro e w8 ⟨rfl, hb8⟩
    have B68 : Hid (Below w6.heap.size w6 w8) := bto B67.out hb8
    have B48 : Hid (Below w4.heap.size w4 w8) := bto B47.out hb8
    have TX8 : Hid (TensX w8 BB1 XG b1 VL) := TX7.out.later hb8
    have XB18 : Hid (Blk w8 XG #[.int .i64 VN, .slice b1 NV d1] 33) := XB1.out.later hb8
    have HK8 : Hid (∀ w', Below w8.heap.size w8 w' → w'.cell? ⟨w.heap.size + 1, 0, none⟩ = some (.int .i64 now) ∧ w'.cell? ⟨w.heap.size + 1, 1, none⟩ = some (.slice a n cap) ∧ w'.cell? ⟨X, 0, none⟩ = some (.int .i64 now) ∧ w'.cell? ⟨X, 1, none⟩ = some (.slice (some ⟨g1, 0, none⟩) n n)) := fun w' h => by
      obtain ⟨_, _, _, _, _, _, b6, b7, b8, b9⟩ := HK6.out w' (bto B68.out h)
      exact ⟨b6, b7, b8, b9⟩
    obtain ⟨y2, y3, u2, u3⟩ := HK8.out w8 (Below.refl _ _)
    clear hb8 TX7 B67 B47 XB07 XB1 c0 c1 e0 e1
    go_upto_region 14 with fail
    go_cut [69] (fun s wx => s = .bool false ∧ Below w8.heap.size w8 wx)
    case first =>
      go_region_held3 (fun w' => w'.cell? ⟨w.heap.size + 1, 0, none⟩ = some (.int .i64 now) ∧ w'.cell? ⟨w.heap.size + 1, 1, none⟩ = some (.slice a n cap) ∧ w'.cell? ⟨X, 0, none⟩ = some (.int .i64 now) ∧ w'.cell? ⟨X, 1, none⟩ = some (.slice (some ⟨g1, 0, none⟩) n n))
        (first | go_keep | exact HK8.out _ k4 | exact HK8.out _ k3)
        (first
          | (go_at_call 10; refine (HTS.out _ ((bto B6w.out B68.out).drew)).mono ?_; rintro e w3 ⟨g, rfl, hg3, hg4, ho3, hb3⟩; have k3 : Below w8.heap.size w8 w3 := (by exact bto (Below.refl _ _).drew hb3))
          | (go_at_call 12; refine (HEQ.out _ g1 g (O6.out.later (bto B68.out k3)) ho3.tens).mono ?_; rintro e w4 ⟨rfl, hb4⟩; have k4 : Below w8.heap.size w8 w4 := (by exact bto k3 hb4)))
      all_goals (go_wp2_with fail; go_meet)
      all_goals exact ⟨rfl, k4⟩
    obtain ⟨rfl, hb9⟩ := hcut
    rename World => w9
    have B69 : Hid (Below w6.heap.size w6 w9) := bto B68.out hb9
    have B49 : Hid (Below w4.heap.size w4 w9) := bto B48.out hb9
    have TX9 : Hid (TensX w9 BB1 XG b1 VL) := TX8.out.later hb9
    have XB19 : Hid (Blk w9 XG #[.int .i64 VN, .slice b1 NV d1] 33) := XB18.out.later hb9
    have h69 : w6.heap.size ≤ w9.heap.size := B69.out.size
    clear hb9 y2 y3 u2 u3 B68 B48 TX8 XB18 HK8 HEQ
    obtain ⟨_, _, _, _, _, _, _, _, u0, u1⟩ := HK6.out w9 B69.out
    go_wp2_with fail
    refine (HMK.out w5 _ w4.heap.size g1 O5.out (bto B56.out B69.out)).mono ?_
    rintro e w10 ⟨rfl, ht10, _⟩
    have B410 : Hid (Below w4.heap.size w4 w10) := B49.out.trans (ht10.below (by omega) fun i hi e => by omega)
    have TX10 : Hid (TensX w10 BB1 XG b1 VL) := TX9.out.turned ht10 (fun g h1 h2 _ h3 => by have := HX.out; omega)
    have XB110 : Hid (Blk w10 XG #[.int .i64 VN, .slice b1 NV d1] 33) := ht10.blk XB19.out (by have := HX.out; omega)
    have XB010 : Hid (Blk w10 X0 #[.int .i64 VN, .slice b0 NV d0] 33) := XB0.out.later B410.out
    have A10 : Hid (Blk w10 w.heap.size #[.int .i64 c.w, .int .i64 c.tl, .int .i64 c.ml, .int .i64 c.sh, .int .i64 c.ha, .int .i64 c.sg] 23) := A4.out.later B410.out
    have S10 : Hid (Blk w10 (w.heap.size + 1) #[.int .i64 now, .slice a n cap] 26) := S4.out.later B410.out
    have h10 : w6.heap.size ≤ w10.heap.size := by have := ht10.size; omega
    have c0 : w10.cell? ⟨XG, 0, none⟩ = some (.int .i64 VN) := XB110.out.cell 0
    have c1 : w10.cell? ⟨XG, 1, none⟩ = some (.slice b1 NV d1) := XB110.out.cell 1
    have e0 : w10.cell? ⟨X0, 0, none⟩ = some (.int .i64 VN) := XB010.out.cell 0
    have e1 : w10.cell? ⟨X0, 1, none⟩ = some (.slice b0 NV d0) := XB010.out.cell 1
    clear ht10 u0 u1 B69 B49 TX9 XB19 HK6 A6 S6 X6 O5 O6 HMK
    go_wp2_with fail
    refine (HEV.out _ _ _ _ _ TX10.out.tens (TI0.out.later B410.out)).mono ?_
    rintro e w11 ⟨rfl, hb11⟩
    have B411 : Hid (Below w4.heap.size w4 w11) := bto B410.out hb11
    have TX11 : Hid (TensX w11 BB1 XG b1 VL) := TX10.out.later hb11
    have XB111 : Hid (Blk w11 XG #[.int .i64 VN, .slice b1 NV d1] 33) := XB110.out.later hb11
    have h11 : w6.heap.size ≤ w11.heap.size := by have := hb11.size; omega
    clear hb11 B410 TX10 XB110 XB010 A10 S10 c0 c1 e0 e1
    have c0 : w11.cell? ⟨XG, 0, none⟩ = some (.int .i64 VN) := XB111.out.cell 0
    have c1 : w11.cell? ⟨XG, 1, none⟩ = some (.slice b1 NV d1) := XB111.out.cell 1
    go_wp2_with fail
    refine (HMV.out _ _ _ _ _ TX11.out).mono ?_
    rintro e w12 ⟨rfl, ht12, hsi12⟩
    have SI12 := hid hsi12
    have B412 : Hid (Below w4.heap.size w4 w12) := B411.out.trans (ht12.below (by omega) fun i hi e => by omega)
    have XB112 : Hid (Blk w12 XG #[.int .i64 VN, .slice b1 NV d1] 33) := ht12.blk XB111.out (fun e => e.2 rfl)
    clear ht12 hsi12 B411 TX11 XB111 HMV c0 c1
    have c0 : w12.cell? ⟨XG, 0, none⟩ = some (.int .i64 VN) := XB112.out.cell 0
    have c1 : w12.cell? ⟨XG, 1, none⟩ = some (.slice b1 NV d1) := XB112.out.cell 1
    go_wp2_with fail
    refine (HHV.out _ _ _ SI12.out).mono ?_
    rintro e w13 ⟨rfl, hb13⟩
    have B413 : Hid (Below w4.heap.size w4 w13) := bto B412.out hb13
    have A13 : Hid (Blk w13 w.heap.size #[.int .i64 c.w, .int .i64 c.tl, .int .i64 c.ml, .int .i64 c.sh, .int .i64 c.ha, .int .i64 c.sg] 23) := A4.out.later B413.out
    have S13 : Hid (Blk w13 (w.heap.size + 1) #[.int .i64 now, .slice a n cap] 26) := S4.out.later B413.out
    have B13w : Hid (Below w.heap.size w w13) := bto B4w.out B413.out
    have XB013 : Hid (Blk w13 X0 #[.int .i64 VN, .slice b0 NV d0] 33) := XB0.out.later B413.out
    have TI13 : Hid (TensIn w13 b0 VL) := TI0.out.later B413.out
    clear hb13 B412 B413 XB112 SI12 HHV TI0 XB0 A4 S4 B4w c0 c1
    have HK13 : Hid (∀ w', Below w13.heap.size w13 w' → w'.cell? ⟨w.heap.size, 0, none⟩ = some (.int .i64 c.w) ∧ w'.cell? ⟨w.heap.size, 1, none⟩ = some (.int .i64 c.tl) ∧ w'.cell? ⟨w.heap.size, 2, none⟩ = some (.int .i64 c.ml) ∧ w'.cell? ⟨w.heap.size, 3, none⟩ = some (.int .i64 c.sh) ∧ w'.cell? ⟨w.heap.size, 4, none⟩ = some (.int .i64 c.ha) ∧ w'.cell? ⟨w.heap.size, 5, none⟩ = some (.int .i64 c.sg) ∧ w'.cell? ⟨w.heap.size + 1, 0, none⟩ = some (.int .i64 now) ∧ w'.cell? ⟨w.heap.size + 1, 1, none⟩ = some (.slice a n cap)) := fun w' h => by
      have q := A13.out.later h
      have p := S13.out.later h
      exact ⟨q.cell 0, q.cell 1, q.cell 2, q.cell 3, q.cell 4, q.cell 5, p.cell 0, p.cell 1⟩
    obtain ⟨x0, x1, x2, x3, x4, x5, y0, y1⟩ := HK13.out w13 (Below.refl _ _)
    go_upto_region 28 with fail
    go_cut [20, 21] (fun p ok wx => ∃ X, p = .pointer (some ⟨X, 0, none⟩) ∧ ok = .bool VB ∧ StX w13 X VN VL NV wx)
    case first =>
      go_region_held3 (fun w' => w'.cell? ⟨w.heap.size, 0, none⟩ = some (.int .i64 c.w) ∧ w'.cell? ⟨w.heap.size, 1, none⟩ = some (.int .i64 c.tl) ∧ w'.cell? ⟨w.heap.size, 2, none⟩ = some (.int .i64 c.ml) ∧ w'.cell? ⟨w.heap.size, 3, none⟩ = some (.int .i64 c.sh) ∧ w'.cell? ⟨w.heap.size, 4, none⟩ = some (.int .i64 c.ha) ∧ w'.cell? ⟨w.heap.size, 5, none⟩ = some (.int .i64 c.sg) ∧ w'.cell? ⟨w.heap.size + 1, 0, none⟩ = some (.int .i64 now) ∧ w'.cell? ⟨w.heap.size + 1, 1, none⟩ = some (.slice a n cap))
        (first | go_keep | with_reducible exact HK13.out _ kf | with_reducible exact HK13.out _ kcc | with_reducible exact HK13.out _ ks | with_reducible exact HK13.out _ (set2 kf hxf) | with_reducible exact HK13.out _ (set2 kf kz) | with_reducible exact HK13.out _ (bto kcc (bnew _ _)) | with_reducible exact HK13.out _ (bto ks (bnew _ _)) | with_reducible exact HK13.out _ (bto kf (bnew _ _)) | with_reducible exact HK13.out _ ((bnew _ _).drew))
        (first
        | (go_at_call 9; refine (HTC.out _).mono ?_; rintro e wc ⟨rfl, hbc⟩; have kcc : Below w13.heap.size w13 wc := (by with_reducible exact bto (Below.refl _ _).drew hbc); have cc1 := HK13.out _ kcc)
        | (go_at_call 9; refine (HTC.out _).mono ?_; rintro e wc ⟨rfl, hbc⟩; have kcc : Below w13.heap.size w13 wc := (by with_reducible exact bto ((bnew _ _).drew) hbc); have cc1 := HK13.out _ kcc; have hzc : Blk wc w13.heap.size #[.int .i64 0, .slice none 0 0] 33 := blk_drewB hbc; have hxc : w13.heap.size ≤ w13.heap.size := Nat.le_refl _)
        | (have q := ks; clear q; go_at_call 9; refine (HTC.out _).mono ?_; rintro e wc ⟨rfl, hbc⟩; have kcc : Below w13.heap.size w13 wc := (by with_reducible exact bto ks hbc); have cc1 := HK13.out _ kcc; have oc := os.later hbc; try (have hzc := hzs.later hbc; have hxc := hxs))
        | (have q := ks; clear q; go_at_call 9; refine (HTC.out _).mono ?_; rintro e wc ⟨rfl, hbc⟩; have kcc : Below w13.heap.size w13 wc := (by with_reducible exact bto (bto ks (bnew _ _)) hbc); have cc1 := HK13.out _ kcc; have oc := os.later (bto (bnew _ _) hbc); have hzc := blk_allocB hbc; have hxc := ks.size)
        | (go_at_call 10; refine (HTS.out _ (by with_reducible exact B13w.out.drew)).mono ?_; rintro e ws ⟨g, rfl, hg1, hg2, ho, hbs⟩; have ks : Below w13.heap.size w13 ws := (by with_reducible exact bto (Below.refl _ _).drew hbs); have cs1 := HK13.out _ ks; have os := ho.tens)
        | (go_at_call 10; refine (HTS.out _ (by with_reducible exact (bto B13w.out (bnew _ _)).drew)).mono ?_; rintro e ws ⟨g, rfl, hg1, hg2, ho, hbs⟩; have ks : Below w13.heap.size w13 ws := (by with_reducible exact bto ((bnew _ _).drew) hbs); have cs1 := HK13.out _ ks; have os := ho.tens; have hzs : Blk ws w13.heap.size #[.int .i64 0, .slice none 0 0] 33 := blk_drewB hbs; have hxs : w13.heap.size ≤ w13.heap.size := Nat.le_refl _)
        | (have q := kcc; clear q; go_at_call 10; refine (HTS.out _ (by with_reducible exact bto B13w.out kcc)).mono ?_; rintro e ws ⟨g, rfl, hg1, hg2, ho, hbs⟩; have ks : Below w13.heap.size w13 ws := (by with_reducible exact bto kcc hbs); have cs1 := HK13.out _ ks; have os := ho.tens; try (have hzs := hzc.later hbs; have hxs := hxc))
        | (have q := kcc; clear q; go_at_call 10; refine (HTS.out _ (by with_reducible exact bto (bto B13w.out kcc) (bnew _ _))).mono ?_; rintro e ws ⟨g, rfl, hg1, hg2, ho, hbs⟩; have ks : Below w13.heap.size w13 ws := (by with_reducible exact bto (bto kcc (bnew _ _)) hbs); have cs1 := HK13.out _ ks; have os := ho.tens; have hzs := blk_allocB hbs; have hxs := kcc.size)
        | (have q := oc; clear q; have q := hzc; clear q; go_at_call 16; refine (HIM.out _ g (by with_reducible exact oc) (HU.out.later (by with_reducible exact bto B13w.out kcc))).mono ?_; rintro e wf ⟨b, d, rfl, hoF, hbf⟩; have kf : Below w13.heap.size w13 wf := (by with_reducible exact bto kcc hbf); have cf1 := HK13.out _ kf; have hzf := hzc.later hbf; have hxf := hxc; have hxl := lt_of_block hzc; have s0 := hzf.cell 0; have s1 := hzf.cell 1; have f0 := hzf.free 0; have f1 := hzf.free 1)
        | (have q := oc; clear q; (fail_if_success (have q := hzc)); go_at_call 16; refine (HIM.out _ g (by with_reducible exact oc) (HU.out.later (by with_reducible exact bto B13w.out kcc))).mono ?_; rintro e wf ⟨b, d, rfl, hoF, hbf⟩; have kf : Below w13.heap.size w13 wf := (by with_reducible exact bto kcc hbf); have cf1 := HK13.out _ kf; have kz := kcc.size)
        | (have q := oc; clear q; go_at_call 16; refine (HIM.out _ g (by with_reducible exact oc.later (bnew _ _)) (HU.out.later (by with_reducible exact bto (bto B13w.out kcc) (bnew _ _)))).mono ?_; rintro e wf ⟨b, d, rfl, hoF, hbf⟩; have kf : Below w13.heap.size w13 wf := (by with_reducible exact bto (bto kcc (bnew _ _)) hbf); have cf1 := HK13.out _ kf; have hzn := blk_allocB hbf; have kz := kcc.size; have s0 := hzn.cell 0; have s1 := hzn.cell 1; have f0 := hzn.free 0; have f1 := hzn.free 1)
        | ((fail_if_success (have q := oc)); have q := hzs; clear q; go_at_call 16; refine (HIM.out _ g (by with_reducible exact os) (HU.out.later (by with_reducible exact bto B13w.out ks))).mono ?_; rintro e wf ⟨b, d, rfl, hoF, hbf⟩; have kf : Below w13.heap.size w13 wf := (by with_reducible exact bto ks hbf); have cf1 := HK13.out _ kf; have hzf := hzs.later hbf; have hxf := hxs; have hxl := lt_of_block hzs; have s0 := hzf.cell 0; have s1 := hzf.cell 1; have f0 := hzf.free 0; have f1 := hzf.free 1)
        | ((fail_if_success (have q := oc)); (fail_if_success (have q := hzs)); go_at_call 16; refine (HIM.out _ g (by with_reducible exact os) (HU.out.later (by with_reducible exact bto B13w.out ks))).mono ?_; rintro e wf ⟨b, d, rfl, hoF, hbf⟩; have kf : Below w13.heap.size w13 wf := (by with_reducible exact bto ks hbf); have cf1 := HK13.out _ kf; have kz := ks.size)
        | ((fail_if_success (have q := oc)); go_at_call 16; refine (HIM.out _ g (by with_reducible exact os.later (bnew _ _)) (HU.out.later (by with_reducible exact bto (bto B13w.out ks) (bnew _ _)))).mono ?_; rintro e wf ⟨b, d, rfl, hoF, hbf⟩; have kf : Below w13.heap.size w13 wf := (by with_reducible exact bto (bto ks (bnew _ _)) hbf); have cf1 := HK13.out _ kf; have hzn := blk_allocB hbf; have kz := ks.size; have s0 := hzn.cell 0; have s1 := hzn.cell 1; have f0 := hzn.free 0; have f1 := hzn.free 1))
      all_goals (go_wp2_with fail; go_meet)
      all_goals first
        | with_reducible exact ⟨_, rfl, rfl, stX_new hoF kz kf⟩
        | exact ⟨_, rfl, rfl, stX_old hoF hxl hxf hzf kf⟩
        | exact ⟨_, rfl, rfl, stX_old hoF (by simp) kz hzn kf⟩
    obtain ⟨XH, rfl, rfl, b2, d2, BB2, hbx2, htx2, hB2, hX2, hb14⟩ := hcut
    rename World => w14
    have TI14 : Hid (TensIn w14 b2 VL) := htx2.tens
    have B14 : Hid (Below w13.heap.size w13 w14) := hb14
    have XB014 : Hid (Blk w14 X0 #[.int .i64 VN, .slice b0 NV d0] 33) := XB013.out.later hb14
    have c0 : w14.cell? ⟨XH, 0, none⟩ = some (.int .i64 VN) := hbx2.cell 0
    have c1 : w14.cell? ⟨XH, 1, none⟩ = some (.slice b2 NV d2) := hbx2.cell 1
    have e0 : w14.cell? ⟨X0, 0, none⟩ = some (.int .i64 VN) := XB014.out.cell 0
    have e1 : w14.cell? ⟨X0, 1, none⟩ = some (.slice b0 NV d0) := XB014.out.cell 1
    clear hbx2 htx2 hb14 HK13 x0 x1 x2 x3 x4 x5 y0 y1
    go_wp2_with fail
    refine (HEV.out _ _ _ _ _ TI14.out (TI13.out.later B14.out)).mono ?_
    rintro e w15 ⟨rfl, hb15⟩
    have B15 : Hid (Below w.heap.size w w15) := bto (bto B13w.out B14.out) hb15
    clear hb15
    go_wp2
    go_ret
    exact ⟨rfl, B15.out⟩
  · have e : szTens 1048576 ts = -1 := by unfold szTens; rw [if_neg hbig]
    rw [e] at HSZ
    clear hf hs hlen hU hbig e
    unfold cfgV at *
    go_enter Tryz.func5, Tryz.ntmps5
    go_wp2_with fail
    refine (HSZ.out _ (bto (bnew _ _) (bnew _ _))).mono ?_
    rintro e w1 ⟨rfl, hb1⟩
    have B1 : Hid (Below w.heap.size w w1) := bto (bto (bnew _ _) (bnew _ _)) hb1
    clear hb1
    go_wp2
    go_ret
    exact ⟨rfl, B1.out⟩
end Go.Proofs.YtojeemogabhaoaaGreatDoor
