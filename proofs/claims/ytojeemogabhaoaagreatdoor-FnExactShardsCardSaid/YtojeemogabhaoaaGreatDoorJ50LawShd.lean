import Derived.Test.YtojeemogabhaoaaGreatDoorProg
import Derived.Test.YtojeemogabhaoaaGreatDoorJ48Uns
import Derived.Test.YtojeemogabhaoaaGreatDoorJ49SShS
import Derived.Test.YtojeemogabhaoaaGreatDoorJ24CfgT
import Derived.Test.YtojeemogabhaoaaGreatDoorJ42MkS
import Derived.Deep.RegionHeld3
import Derived.Deep.DeepCutAuto
namespace Go.Proofs.YtojeemogabhaoaaGreatDoor
open Go.RowKit
theorem ten_fit {ts : List TenD} (h : ts.length + tensBulk ts ≤ 1048576) (k : ByteArray) : (tenOf ts k).sers.length ≤ 1048576 ∧ ∀ i (h : i < (tenOf ts k).sers.length), (tenOf ts k).sers[i].s.size ≤ maxLen := by
  unfold tenOf
  cases hg : getBy (·.name) k ts with
  | none => exact ⟨by simp, fun i h => absurd h (by simp)⟩
  | some t =>
    obtain ⟨i, hi, e⟩ := List.getElem_of_mem (getBy_mem hg).1
    obtain ⟨f1, f2, f3, f4⟩ := fit_of h
    have h1 := (f3 i hi).2
    have h2 := (f2 i hi).2.2.1
    rw [e] at h1 h2
    exact ⟨h1, fun j hj => Nat.le_trans (h2 j hj) (by unfold maxLen; omega)⟩
theorem tensLen_bulk (ts : List TenD) : tensLen ts ≤ 2 * tensBulk ts + 2 * ts.length := by
  induction ts with
  | nil => exact Nat.zero_le _
  | cons t r ih => simp only [List.length_cons, tensLen, tenLen, tensBulk, tenBulk]; omega
set_option maxRecDepth 100000 in
set_option maxHeartbeats 8000000 in
theorem lawShards (c : CfgD) (now : Int) (a : Option Addr) (cap : Nat) (ts : List TenD) (tenant : ByteArray) (w : World) (hf : TensIn w a ts) (hs : ShortT ts) (hlen : ts.length ≤ maxLen) (hU : UTab w) :
    Calls Tryz.prog 6 #[cfgV c, .agg #[.int .i64 now, .slice a ts.length cap], .string tenant] w fun e w' => e = .returned (.bool true) ∧ Below w.heap.size w w' := by
  by_cases hlt : (1048576 : Int) < tenant.size
  · clear hf hs hU
    unfold cfgV at *
    unfold maxLen at hlen
    go_enter Tryz.func6, Tryz.ntmps6
    go_wp2
    go_ret
    exact ⟨rfl, bto (bnew _ _) (bnew _ _)⟩
  have ht : tenant.size ≤ 1048576 := by omega
  have HSZ : Hid (∀ W, Below w.heap.size w W → Calls Tryz.prog 7 #[.agg #[.int .i64 now, .slice a ts.length cap], .int .i64 1048576] W fun e w' => e = .returned (.int .i64 (szTens 1048576 ts)) ∧ Below W.heap.size W w') := fun W hW => szState_any a cap ts now 1048576 W (by omega) (by omega) (hf.later hW) hs hlen
  by_cases hbig : (ts.length + tensBulk ts : Int) ≤ 1048576
  · have e : szTens 1048576 ts = 1048576 - ts.length - tensBulk ts := by unfold szTens; rw [if_pos hbig]
    rw [e] at HSZ
    have h0 : ¬ ((1048576 : Int) - ts.length - tensBulk ts < 0) := by omega
    obtain ⟨f1, f2, f3, f4⟩ := fit_of (ts := ts) (by omega)
    obtain ⟨z1, z2⟩ := ten_fit (ts := ts) (by omega) tenant
    obtain ⟨y1, y2, y3⟩ := shardsV_small c now ts tenant 1048576 z1
    have hl : ts.length ≤ 1048576 := by omega
    have htl := tensLen_bulk ts
    have HTC : Hid (∀ W, Calls Tryz.prog 9 #[cfgV c] W fun e w' => e = .returned (cfgV c) ∧ Below W.heap.size W w') := fun W => toConfig_any _ _ _ _ _ _ W
    have HTS : Hid (∀ W, Below w.heap.size w W → Calls Tryz.prog 10 #[.agg #[.int .i64 now, .slice a ts.length cap]] W fun e w' => ∃ g, e = .returned (.agg #[.int .i64 now, .slice (some ⟨g, 0, none⟩) ts.length ts.length]) ∧ W.heap.size ≤ g ∧ g < w'.heap.size ∧ TensOwn w' W.heap.size (some ⟨g, 0, none⟩) ts ∧ Below W.heap.size W w') := fun W hW => toState_any now a cap ts W (hf.later hW) hl f3
    have HSP : Hid (∀ W g, TensIn W (some ⟨g, 0, none⟩) ts → Calls Tryz.prog 19 #[cfgV c, .agg #[.int .i64 now, .slice (some ⟨g, 0, none⟩) ts.length ts.length], .string tenant] W fun e w' => ∃ a' cap', e = .returned (.slice a' (shardsV c now ts tenant).length cap') ∧ SSIn w' a' (shardsV c now ts tenant) ∧ Below W.heap.size W w') := fun W g h => specShards_any c now _ _ ts tenant W h f2 (by omega) ht z1 z2
    have HIM : Hid (∀ W g, TensIn W (some ⟨g, 0, none⟩) ts → UTab W → Calls Tryz.prog 20 #[cfgV c, .agg #[.int .i64 now, .slice (some ⟨g, 0, none⟩) ts.length ts.length], .string tenant] W fun e w' => ShOut c now ts tenant W e w') := fun W g h hu => implShards_any c now _ _ ts tenant _ W h f1 (by omega) hu ht z1 z2
    unfold ShOut at HIM
    have HEQ : Hid (∀ W g g', TensIn W (some ⟨g, 0, none⟩) ts → TensIn W (some ⟨g', 0, none⟩) ts → Calls Tryz.prog 12 #[.agg #[.int .i64 now, .slice (some ⟨g, 0, none⟩) ts.length ts.length], .agg #[.int .i64 now, .slice (some ⟨g', 0, none⟩) ts.length ts.length]] W fun e w' => e = .returned (.bool true) ∧ Below W.heap.size W w') := fun W g g' h h' => eqState_same now _ _ _ _ ts W h h' (by unfold maxLen; omega) f4
    have HES : Hid (∀ W b b' d d', SSIn W b (shardsV c now ts tenant) → SSIn W b' (shardsV c now ts tenant) → Calls Tryz.prog 21 #[.slice b (shardsV c now ts tenant).length d, .slice b' (shardsV c now ts tenant).length d'] W fun e w' => e = .returned (.bool true) ∧ Below W.heap.size W w') := fun W b b' d d' h h' => eqStringSS_same b b' d d' _ W h h' (by unfold maxLen; omega) (fun i hi => by have := y3 i hi; unfold maxLen; omega)
    have HMK : Hid (∀ W0 W B g, TensOwn W0 B (some ⟨g, 0, none⟩) ts → Below W0.heap.size W0 W → Calls Tryz.prog 17 #[.agg #[.int .i64 now, .slice (some ⟨g, 0, none⟩) ts.length ts.length], .int .i64 1] W fun e w' => e = .returned (.int .i64 ((1 + tensLen ts : Nat) : Int)) ∧ Turn (fun g => B ≤ g ∧ g < W0.heap.size) W w' ∧ TensOwn w' B (some ⟨g, 0, none⟩) (markTens 1 ts)) := fun W0 W B g h hb => markState_any _ _ _ _ 1 B W0 W (by omega) (by omega) h hb
    have HMS : Hid (∀ W B b d, SSOwn W B b (shardsV c now ts tenant) → Calls Tryz.prog 22 #[.slice b (shardsV c now ts tenant).length d, .int .i64 1] W fun e w' => e = .returned (.int .i64 ((1 + ssLen (shardsV c now ts tenant) : Nat) : Int)) ∧ Turn (fun g => B ≤ g) W w' ∧ SSIn w' b (markSS 1 (shardsV c now ts tenant))) := fun W B b d h => markStringSS_any b d _ 1 B W (by omega) (by unfold maxLen; omega) (by omega) h
    have HHS : Hid (∀ W b d, SSIn W b (markSS 1 (shardsV c now ts tenant)) → Calls Tryz.prog 23 #[.slice b (shardsV c now ts tenant).length d, .int .i64 1] W fun e w' => e = .returned (.int .i64 ((1 + ssLen (shardsV c now ts tenant) : Nat) : Int)) ∧ Below W.heap.size W w') := fun W b d h => heldStringSS_any b d _ 1 W (by omega) (by unfold maxLen; omega) (by omega) h
    have HU : Hid (UTab w) := hU
    have hm0 : ¬ (((1 + tensLen ts : Nat) : Int) < 0) := by omega
    have hq0 : ¬ (((1 + ssLen (shardsV c now ts tenant) : Nat) : Int) < 0) := by omega
    have hqq : (((1 + ssLen (shardsV c now ts tenant) : Nat) : Int) != ((1 + ssLen (shardsV c now ts tenant) : Nat) : Int)) = false := by simp
    generalize ((1 + tensLen ts : Nat) : Int) = KM at *
    generalize ((1 + ssLen (shardsV c now ts tenant) : Nat) : Int) = QM at *
    clear y1 y2 y3 z1 z2 htl
    generalize hRL : (shardsV c now ts tenant).length = NR at *
    clear hRL
    generalize shardsV c now ts tenant = RES at *
    generalize markSS 1 RES = MR at *
    generalize markTens 1 ts = MT at *
    generalize (1048576 : Int) - ts.length - tensBulk ts = left at *
    generalize ts.length = n at *
    unfold cfgV at *
    clear hf hs hlen hU e hbig f1 f2 f3 f4 hl
    go_enter Tryz.func6, Tryz.ntmps6
    go_wp2_with fail
    refine (HSZ.out _ (bto (bnew _ _) (bnew _ _))).mono ?_
    rintro e w1 ⟨rfl, hb1⟩
    have B1 : Hid (Below w.heap.size w w1) := bto (bto (bnew _ _) (bnew _ _)) hb1
    have A1 : Hid (Blk w1 w.heap.size #[.int .i64 c.w, .int .i64 c.tl, .int .i64 c.ml, .int .i64 c.sh, .int .i64 c.ha, .int .i64 c.sg] 23) := hid (((Blk.new _ _ _).alloc _).later hb1)
    have S1 : Hid (Blk w1 (w.heap.size + 1) #[.int .i64 now, .slice a n cap] 26) := hid (by have := (Blk.new (w.alloc (.cells #[.int .i64 c.w, .int .i64 c.tl, .int .i64 c.ml, .int .i64 c.sh, .int .i64 c.ha, .int .i64 c.sg] 23)) #[.int .i64 now, .slice a n cap] 26).later hb1; simpa using this)
    have HK : Hid (∀ w', Below w1.heap.size w1 w' → w'.cell? ⟨w.heap.size, 0, none⟩ = some (.int .i64 c.w) ∧ w'.cell? ⟨w.heap.size, 1, none⟩ = some (.int .i64 c.tl) ∧ w'.cell? ⟨w.heap.size, 2, none⟩ = some (.int .i64 c.ml) ∧ w'.cell? ⟨w.heap.size, 3, none⟩ = some (.int .i64 c.sh) ∧ w'.cell? ⟨w.heap.size, 4, none⟩ = some (.int .i64 c.ha) ∧ w'.cell? ⟨w.heap.size, 5, none⟩ = some (.int .i64 c.sg) ∧ w'.cell? ⟨w.heap.size + 1, 0, none⟩ = some (.int .i64 now) ∧ w'.cell? ⟨w.heap.size + 1, 1, none⟩ = some (.slice a n cap)) := fun w' h => by
      have q := A1.out.later h
      have p := S1.out.later h
      exact ⟨q.cell 0, q.cell 1, q.cell 2, q.cell 3, q.cell 4, q.cell 5, p.cell 0, p.cell 1⟩
    obtain ⟨x0, x1, x2, x3, x4, x5, y0, y1⟩ := HK.out w1 (Below.refl _ _)
    clear hb1 HSZ
    go_upto_region 7 with fail
    go_cut [8] (fun s1 wx => ∃ b0 d0, s1 = .slice b0 NR d0 ∧ SSIn wx b0 RES ∧ Below w1.heap.size w1 wx)
    case first =>
      go_region_held3 (fun w' => w'.cell? ⟨w.heap.size, 0, none⟩ = some (.int .i64 c.w) ∧ w'.cell? ⟨w.heap.size, 1, none⟩ = some (.int .i64 c.tl) ∧ w'.cell? ⟨w.heap.size, 2, none⟩ = some (.int .i64 c.ml) ∧ w'.cell? ⟨w.heap.size, 3, none⟩ = some (.int .i64 c.sh) ∧ w'.cell? ⟨w.heap.size, 4, none⟩ = some (.int .i64 c.ha) ∧ w'.cell? ⟨w.heap.size, 5, none⟩ = some (.int .i64 c.sg) ∧ w'.cell? ⟨w.heap.size + 1, 0, none⟩ = some (.int .i64 now) ∧ w'.cell? ⟨w.heap.size + 1, 1, none⟩ = some (.slice a n cap))
        (first | go_keep | exact HK.out _ k4 | exact HK.out _ k3 | exact HK.out _ k2)
        (first
          | (go_at_call 10; refine (HTS.out _ (by first | exact bto B1.out k3 | exact B1.out.drew)).mono ?_; rintro e w2 ⟨g, rfl, hg1, hg2, ho, hb2⟩; have k2 : Below w1.heap.size w1 w2 := (by first | exact bto k3 hb2 | exact bto (Below.refl _ _).drew hb2))
          | (go_at_call 9; refine (HTC.out _).mono ?_; rintro e w3 ⟨rfl, hb3⟩; have k3 : Below w1.heap.size w1 w3 := (by first | exact bto k2 hb3 | exact bto (Below.refl _ _).drew hb3))
          | (go_at_call 19; refine (HSP.out _ g (by first | exact ho.tens | exact ho.tens.later hb3)).mono ?_; rintro e w4 ⟨b0, d0, rfl, hss, hb4⟩; have k4 : Below w1.heap.size w1 w4 := (by first | exact bto k2 hb4 | exact bto k3 hb4)))
      all_goals (go_wp2_with fail; go_meet)
      all_goals exact ⟨_, _, rfl, hss, k4⟩
    obtain ⟨b0, d0, rfl, hss4, hb4⟩ := hcut
    rename World => w4
    have SS4 := hid hss4
    have B4 : Hid (Below w.heap.size w w4) := bto B1.out hb4
    have A4 : Hid (Blk w4 w.heap.size #[.int .i64 c.w, .int .i64 c.tl, .int .i64 c.ml, .int .i64 c.sh, .int .i64 c.ha, .int .i64 c.sg] 23) := A1.out.later hb4
    have S4 : Hid (Blk w4 (w.heap.size + 1) #[.int .i64 now, .slice a n cap] 26) := S1.out.later hb4
    have z0 : w4.cell? ⟨w.heap.size + 1, 0, none⟩ = some (.int .i64 now) := S4.out.cell 0
    have z1 : w4.cell? ⟨w.heap.size + 1, 1, none⟩ = some (.slice a n cap) := S4.out.cell 1
    have hs4 : w.heap.size + 1 < w4.heap.size := lt_of_block S4.out
    clear hss4 hb4 HK x0 x1 x2 x3 x4 x5 y0 y1 A1 S1 B1 HSP
    go_wp2_with fail
    refine (HTS.out _ B4.out).mono ?_
    rintro e w5 ⟨g1, rfl, hg1, hg2, ho5, hb5⟩
    have B45 : Hid (Below w4.heap.size w4 w5) := hb5
    have O5 : Hid (TensOwn w5 w4.heap.size (some ⟨g1, 0, none⟩) ts) := ho5
    have h45 : w4.heap.size ≤ w5.heap.size := hb5.size
    clear ho5 hb5 z0 z1
    go_upto_region 9 with fail
    have X6 : Hid (Blk (w5.alloc (.cells #[.int .i64 now, .slice (some ⟨g1, 0, none⟩) n n] 33)) w5.heap.size #[.int .i64 now, .slice (some ⟨g1, 0, none⟩) n n] 33) := Blk.new _ _ _
    have B56 : Hid (Below w5.heap.size w5 (w5.alloc (.cells #[.int .i64 now, .slice (some ⟨g1, 0, none⟩) n n] 33))) := bnew _ _
    have h56 : w5.heap.size < (w5.alloc (.cells #[.int .i64 now, .slice (some ⟨g1, 0, none⟩) n n] 33)).heap.size := by simp
    generalize w5.alloc (.cells #[.int .i64 now, .slice (some ⟨g1, 0, none⟩) n n] 33) = w6 at *
    have A6 : Hid (Blk w6 w.heap.size #[.int .i64 c.w, .int .i64 c.tl, .int .i64 c.ml, .int .i64 c.sh, .int .i64 c.ha, .int .i64 c.sg] 23) := (A4.out.later B45.out).later B56.out
    have S6 : Hid (Blk w6 (w.heap.size + 1) #[.int .i64 now, .slice a n cap] 26) := (S4.out.later B45.out).later B56.out
    have Bw6 : Hid (Below w.heap.size w w6) := bto (bto B4.out B45.out) B56.out
    have O6 : Hid (TensIn w6 (some ⟨g1, 0, none⟩) ts) := O5.out.tens.later B56.out
    have HXS : Hid (∃ X, X = w5.heap.size) := ⟨_, rfl⟩
    obtain ⟨X, hX⟩ := HXS.out
    rw [← hX] at X6 h56 h45 ⊢
    have HX := hid hX
    clear hX HXS
    have HK : Hid (∀ w', Below w6.heap.size w6 w' → w'.cell? ⟨w.heap.size, 0, none⟩ = some (.int .i64 c.w) ∧ w'.cell? ⟨w.heap.size, 1, none⟩ = some (.int .i64 c.tl) ∧ w'.cell? ⟨w.heap.size, 2, none⟩ = some (.int .i64 c.ml) ∧ w'.cell? ⟨w.heap.size, 3, none⟩ = some (.int .i64 c.sh) ∧ w'.cell? ⟨w.heap.size, 4, none⟩ = some (.int .i64 c.ha) ∧ w'.cell? ⟨w.heap.size, 5, none⟩ = some (.int .i64 c.sg) ∧ w'.cell? ⟨w.heap.size + 1, 0, none⟩ = some (.int .i64 now) ∧ w'.cell? ⟨w.heap.size + 1, 1, none⟩ = some (.slice a n cap) ∧ w'.cell? ⟨X, 0, none⟩ = some (.int .i64 now) ∧ w'.cell? ⟨X, 1, none⟩ = some (.slice (some ⟨g1, 0, none⟩) n n)) := fun w' h => by
      have q := A6.out.later h
      have p := S6.out.later h
      have r := X6.out.later h
      exact ⟨q.cell 0, q.cell 1, q.cell 2, q.cell 3, q.cell 4, q.cell 5, p.cell 0, p.cell 1, r.cell 0, r.cell 1⟩
    have HKC : Hid (∀ w', Below w6.heap.size w6 w' → w'.cell? ⟨w.heap.size, 0, none⟩ = some (.int .i64 c.w) ∧ w'.cell? ⟨w.heap.size, 1, none⟩ = some (.int .i64 c.tl) ∧ w'.cell? ⟨w.heap.size, 2, none⟩ = some (.int .i64 c.ml) ∧ w'.cell? ⟨w.heap.size, 3, none⟩ = some (.int .i64 c.sh) ∧ w'.cell? ⟨w.heap.size, 4, none⟩ = some (.int .i64 c.ha) ∧ w'.cell? ⟨w.heap.size, 5, none⟩ = some (.int .i64 c.sg) ∧ w'.cell? ⟨X, 0, none⟩ = some (.int .i64 now) ∧ w'.cell? ⟨X, 1, none⟩ = some (.slice (some ⟨g1, 0, none⟩) n n)) := fun w' h => by
      obtain ⟨b0, b1, b2, b3, b4, b5, _, _, b6, b7⟩ := HK.out w' h
      exact ⟨b0, b1, b2, b3, b4, b5, b6, b7⟩
    obtain ⟨x0, x1, x2, x3, x4, x5, y0, y1, u0, u1⟩ := HK.out w6 (Below.refl _ _)
    go_cut [10] (fun s1 wx => ∃ b1 d1, s1 = .slice b1 NR d1 ∧ SSOwn wx w6.heap.size b1 RES ∧ Below w6.heap.size w6 wx)
    case first =>
      go_region_held3 (fun w' => w'.cell? ⟨w.heap.size, 0, none⟩ = some (.int .i64 c.w) ∧ w'.cell? ⟨w.heap.size, 1, none⟩ = some (.int .i64 c.tl) ∧ w'.cell? ⟨w.heap.size, 2, none⟩ = some (.int .i64 c.ml) ∧ w'.cell? ⟨w.heap.size, 3, none⟩ = some (.int .i64 c.sh) ∧ w'.cell? ⟨w.heap.size, 4, none⟩ = some (.int .i64 c.ha) ∧ w'.cell? ⟨w.heap.size, 5, none⟩ = some (.int .i64 c.sg) ∧ w'.cell? ⟨X, 0, none⟩ = some (.int .i64 now) ∧ w'.cell? ⟨X, 1, none⟩ = some (.slice (some ⟨g1, 0, none⟩) n n))
        (first | go_keep | exact HKC.out _ k4 | exact HKC.out _ k3)
        (first
          | (go_at_call 9; refine (HTC.out _).mono ?_; rintro e w3 ⟨rfl, hb3⟩; have k3 : Below w6.heap.size w6 w3 := (by exact bto (Below.refl _ _).drew hb3))
          | (go_at_call 20; refine (HIM.out _ g1 (O6.out.later k3) (HU.out.later (bto Bw6.out k3))).mono ?_; rintro e w4 ⟨b1, d1, rfl, hso, hb4⟩; have k4 : Below w6.heap.size w6 w4 := (by exact bto k3 hb4); have hso2 := hso.mono k3.size))
      all_goals (go_wp2_with fail; go_meet)
      all_goals exact ⟨_, _, rfl, hso2, k4⟩
    obtain ⟨b1, d1, rfl, hso7, hb7⟩ := hcut
    rename World => w7
    have SO7 := hid hso7
    have B67 : Hid (Below w6.heap.size w6 w7) := hb7
    have B47 : Hid (Below w4.heap.size w4 w7) := bto (bto B45.out B56.out) hb7
    have h67 : w6.heap.size ≤ w7.heap.size := hb7.size
    clear hso7 hb7 HKC x0 x1 x2 x3 x4 x5 y0 y1 u0 u1
    go_wp2_with fail
    refine (HES.out _ _ _ _ _ SO7.out.ss (SS4.out.later B47.out)).mono ?_
    rintro e w8 ⟨rfl, hb8⟩
    have B68 : Hid (Below w6.heap.size w6 w8) := bto B67.out hb8
    have B48 : Hid (Below w4.heap.size w4 w8) := bto B47.out hb8
    have SO8 : Hid (SSOwn w8 w6.heap.size b1 RES) := SO7.out.later hb8
    have HK8 : Hid (∀ w', Below w8.heap.size w8 w' → w'.cell? ⟨w.heap.size + 1, 0, none⟩ = some (.int .i64 now) ∧ w'.cell? ⟨w.heap.size + 1, 1, none⟩ = some (.slice a n cap) ∧ w'.cell? ⟨X, 0, none⟩ = some (.int .i64 now) ∧ w'.cell? ⟨X, 1, none⟩ = some (.slice (some ⟨g1, 0, none⟩) n n)) := fun w' h => by
      obtain ⟨_, _, _, _, _, _, b6, b7, b8, b9⟩ := HK.out w' (bto B68.out h)
      exact ⟨b6, b7, b8, b9⟩
    obtain ⟨y2, y3, u2, u3⟩ := HK8.out w8 (Below.refl _ _)
    clear hb8 SO7 B67 B47
    go_upto_region 12 with fail
    go_cut [44] (fun s wx => s = .bool false ∧ Below w8.heap.size w8 wx)
    case first =>
      go_region_held3 (fun w' => w'.cell? ⟨w.heap.size + 1, 0, none⟩ = some (.int .i64 now) ∧ w'.cell? ⟨w.heap.size + 1, 1, none⟩ = some (.slice a n cap) ∧ w'.cell? ⟨X, 0, none⟩ = some (.int .i64 now) ∧ w'.cell? ⟨X, 1, none⟩ = some (.slice (some ⟨g1, 0, none⟩) n n))
        (first | go_keep | exact HK8.out _ k4 | exact HK8.out _ k3)
        (first
          | (go_at_call 10; refine (HTS.out _ ((bto Bw6.out B68.out).drew)).mono ?_; rintro e w3 ⟨g, rfl, hg3, hg4, ho3, hb3⟩; have k3 : Below w8.heap.size w8 w3 := (by exact bto (Below.refl _ _).drew hb3))
          | (go_at_call 12; refine (HEQ.out _ g1 g (O6.out.later (bto B68.out k3)) ho3.tens).mono ?_; rintro e w4 ⟨rfl, hb4⟩; have k4 : Below w8.heap.size w8 w4 := (by exact bto k3 hb4)))
      all_goals (go_wp2_with fail; go_meet)
      all_goals exact ⟨rfl, k4⟩
    obtain ⟨rfl, hb9⟩ := hcut
    rename World => w9
    have B69 : Hid (Below w6.heap.size w6 w9) := bto B68.out hb9
    have B49 : Hid (Below w4.heap.size w4 w9) := bto B48.out hb9
    have SO9 : Hid (SSOwn w9 w6.heap.size b1 RES) := SO8.out.later hb9
    have h69 : w6.heap.size ≤ w9.heap.size := B69.out.size
    clear hb9 y2 y3 u2 u3 B68 B48 SO8 HK8 HEQ
    obtain ⟨_, _, _, _, _, _, _, _, u0, u1⟩ := HK.out w9 B69.out
    go_wp2_with fail
    refine (HMK.out w5 _ w4.heap.size g1 O5.out (bto B56.out B69.out)).mono ?_
    rintro e w10 ⟨rfl, ht10, _⟩
    have B410 : Hid (Below w4.heap.size w4 w10) := B49.out.trans (ht10.below (by omega) fun i hi e => by omega)
    have SO10 : Hid (SSOwn w10 w6.heap.size b1 RES) := SO9.out.turn ht10 (fun g h1 h2 h3 => by have := HX.out; omega)
    have A10 : Hid (Blk w10 w.heap.size #[.int .i64 c.w, .int .i64 c.tl, .int .i64 c.ml, .int .i64 c.sh, .int .i64 c.ha, .int .i64 c.sg] 23) := ht10.blk (A6.out.later B69.out) (by omega)
    have S10 : Hid (Blk w10 (w.heap.size + 1) #[.int .i64 now, .slice a n cap] 26) := ht10.blk (S6.out.later B69.out) (by omega)
    have h10 : w6.heap.size ≤ w10.heap.size := by have := ht10.size; omega
    clear ht10 u0 u1 B69 B49 SO9 HK A6 S6 X6 O5 O6 HMK
    go_wp2_with fail
    refine (HES.out _ _ _ _ _ SO10.out.ss (SS4.out.later B410.out)).mono ?_
    rintro e w11 ⟨rfl, hb11⟩
    have B411 : Hid (Below w4.heap.size w4 w11) := bto B410.out hb11
    have SO11 : Hid (SSOwn w11 w6.heap.size b1 RES) := SO10.out.later hb11
    have A11 : Hid (Blk w11 w.heap.size #[.int .i64 c.w, .int .i64 c.tl, .int .i64 c.ml, .int .i64 c.sh, .int .i64 c.ha, .int .i64 c.sg] 23) := A10.out.later hb11
    have S11 : Hid (Blk w11 (w.heap.size + 1) #[.int .i64 now, .slice a n cap] 26) := S10.out.later hb11
    have h11 : w6.heap.size ≤ w11.heap.size := by have := hb11.size; omega
    clear hb11 B410 SO10 A10 S10
    go_wp2_with fail
    refine (HMS.out _ _ _ _ SO11.out).mono ?_
    rintro e w12 ⟨rfl, ht12, hsi12⟩
    have SI12 := hid hsi12
    have B412 : Hid (Below w4.heap.size w4 w12) := B411.out.trans (ht12.below (by omega) fun i hi e => by omega)
    have A12 : Hid (Blk w12 w.heap.size #[.int .i64 c.w, .int .i64 c.tl, .int .i64 c.ml, .int .i64 c.sh, .int .i64 c.ha, .int .i64 c.sg] 23) := ht12.blk A11.out (by omega)
    have S12 : Hid (Blk w12 (w.heap.size + 1) #[.int .i64 now, .slice a n cap] 26) := ht12.blk S11.out (by omega)
    clear ht12 hsi12 B411 SO11 A11 S11 HMS
    go_wp2_with fail
    refine (HHS.out _ _ _ SI12.out).mono ?_
    rintro e w13 ⟨rfl, hb13⟩
    have B413 : Hid (Below w4.heap.size w4 w13) := bto B412.out hb13
    have A13 : Hid (Blk w13 w.heap.size #[.int .i64 c.w, .int .i64 c.tl, .int .i64 c.ml, .int .i64 c.sh, .int .i64 c.ha, .int .i64 c.sg] 23) := A12.out.later hb13
    have S13 : Hid (Blk w13 (w.heap.size + 1) #[.int .i64 now, .slice a n cap] 26) := S12.out.later hb13
    have Bw13 : Hid (Below w.heap.size w w13) := bto B4.out B413.out
    have SS13 : Hid (SSIn w13 b0 RES) := SS4.out.later B413.out
    clear hb13 B412 B413 A12 S12 SI12 HHS SS4 A4 S4 B4
    have HK : Hid (∀ w', Below w13.heap.size w13 w' → w'.cell? ⟨w.heap.size, 0, none⟩ = some (.int .i64 c.w) ∧ w'.cell? ⟨w.heap.size, 1, none⟩ = some (.int .i64 c.tl) ∧ w'.cell? ⟨w.heap.size, 2, none⟩ = some (.int .i64 c.ml) ∧ w'.cell? ⟨w.heap.size, 3, none⟩ = some (.int .i64 c.sh) ∧ w'.cell? ⟨w.heap.size, 4, none⟩ = some (.int .i64 c.ha) ∧ w'.cell? ⟨w.heap.size, 5, none⟩ = some (.int .i64 c.sg) ∧ w'.cell? ⟨w.heap.size + 1, 0, none⟩ = some (.int .i64 now) ∧ w'.cell? ⟨w.heap.size + 1, 1, none⟩ = some (.slice a n cap)) := fun w' h => by
      have q := A13.out.later h
      have p := S13.out.later h
      exact ⟨q.cell 0, q.cell 1, q.cell 2, q.cell 3, q.cell 4, q.cell 5, p.cell 0, p.cell 1⟩
    obtain ⟨x0, x1, x2, x3, x4, x5, y0, y1⟩ := HK.out w13 (Below.refl _ _)
    go_upto_region 26 with fail
    go_cut [14] (fun s1 wx => ∃ b2 d2, s1 = .slice b2 NR d2 ∧ SSIn wx b2 RES ∧ Below w13.heap.size w13 wx)
    case first =>
      go_region_held3 (fun w' => w'.cell? ⟨w.heap.size, 0, none⟩ = some (.int .i64 c.w) ∧ w'.cell? ⟨w.heap.size, 1, none⟩ = some (.int .i64 c.tl) ∧ w'.cell? ⟨w.heap.size, 2, none⟩ = some (.int .i64 c.ml) ∧ w'.cell? ⟨w.heap.size, 3, none⟩ = some (.int .i64 c.sh) ∧ w'.cell? ⟨w.heap.size, 4, none⟩ = some (.int .i64 c.ha) ∧ w'.cell? ⟨w.heap.size, 5, none⟩ = some (.int .i64 c.sg) ∧ w'.cell? ⟨w.heap.size + 1, 0, none⟩ = some (.int .i64 now) ∧ w'.cell? ⟨w.heap.size + 1, 1, none⟩ = some (.slice a n cap))
        (first | go_keep | exact HK.out _ k4 | exact HK.out _ k3 | exact HK.out _ k2)
        (first
          | (go_at_call 10; refine (HTS.out _ (by first | exact bto Bw13.out k3 | exact Bw13.out.drew)).mono ?_; rintro e w2 ⟨g, rfl, hg1, hg2, ho, hb2⟩; have k2 : Below w13.heap.size w13 w2 := (by first | exact bto k3 hb2 | exact bto (Below.refl _ _).drew hb2))
          | (go_at_call 9; refine (HTC.out _).mono ?_; rintro e w3 ⟨rfl, hb3⟩; have k3 : Below w13.heap.size w13 w3 := (by first | exact bto k2 hb3 | exact bto (Below.refl _ _).drew hb3))
          | (go_at_call 20; refine (HIM.out _ g (by first | exact ho.tens | exact ho.tens.later hb3) (HU.out.later (by first | exact bto Bw13.out k2 | exact bto Bw13.out k3))).mono ?_; rintro e w4 ⟨b2, d2, rfl, hss, hb4⟩; have k4 : Below w13.heap.size w13 w4 := (by first | exact bto k2 hb4 | exact bto k3 hb4)))
      all_goals (go_wp2_with fail; go_meet)
      all_goals exact ⟨_, _, rfl, hss.ss, k4⟩
    obtain ⟨b2, d2, rfl, hss14, hb14⟩ := hcut
    rename World => w14
    have SS14 := hid hss14
    have B14 : Hid (Below w13.heap.size w13 w14) := hb14
    clear hss14 hb14 HK x0 x1 x2 x3 x4 x5 y0 y1
    go_wp2_with fail
    refine (HES.out _ _ _ _ _ SS14.out (SS13.out.later B14.out)).mono ?_
    rintro e w15 ⟨rfl, hb15⟩
    have B15 : Hid (Below w.heap.size w w15) := bto (bto Bw13.out B14.out) hb15
    clear hb15
    go_wp2
    go_ret
    exact ⟨rfl, B15.out⟩
  · have e : szTens 1048576 ts = -1 := by unfold szTens; rw [if_neg hbig]
    rw [e] at HSZ
    clear hf hs hlen hU hbig e
    unfold cfgV at *
    go_enter Tryz.func6, Tryz.ntmps6
    go_wp2_with fail
    refine (HSZ.out _ (bto (bnew _ _) (bnew _ _))).mono ?_
    rintro e w1 ⟨rfl, hb1⟩
    have B1 : Hid (Below w.heap.size w w1) := bto (bto (bnew _ _) (bnew _ _)) hb1
    clear hb1
    go_wp2
    go_ret
    exact ⟨rfl, B1.out⟩
end Go.Proofs.YtojeemogabhaoaaGreatDoor
