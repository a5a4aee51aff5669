import Derived.Test.YtojeemogabhaoaaGreatDoorProg
import Derived.Test.YtojeemogabhaoaaGreatDoorJ29SCnt
import Derived.Test.YtojeemogabhaoaaGreatDoorJ19ILim
import Derived.Deep.RegionHeld3
import Derived.Test.YtojeemogabhaoaaGreatDoorJ25LawSta
namespace Go.Proofs.YtojeemogabhaoaaGreatDoor
open Go.RowKit
theorem big_of {ts : List TenD} (h : BigT ts) (k : ByteArray) : BigP (tenOf ts k).sers ∧ (tenOf ts k).mets.length ≤ 1000000000 ∧ (tenOf ts k).sers.length ≤ 1000000000 := by
  unfold tenOf
  cases hg : getBy (·.name) k ts with
  | none => exact ⟨fun i h => absurd h (by simp), by simp, by simp⟩
  | some t =>
    obtain ⟨i, hi, e⟩ := List.getElem_of_mem (getBy_mem hg).1
    have := h i hi
    rw [e] at this
    exact ⟨this.2.2.1, this.2.2.2.1, this.2.2.2.2⟩
set_option maxRecDepth 100000 in
set_option maxHeartbeats 4000000 in
theorem specCountOf_any (c : CfgD) (now : Int) (a : Option Addr) (cap : Nat) (ts : List TenD) (tenant met : ByteArray) (w : World) (hf : TensIn w a ts) (hbig : BigT ts) (hlen : ts.length ≤ 1000000000) (hn : tenant.size ≤ 1048576) (hm : met.size ≤ 1048576) :
    Calls Tryz.prog 13 #[cfgV c, .agg #[.int .i64 now, .slice a ts.length cap], .string tenant, .string met] w fun e w' => e = .returned (.tuple #[.int .i64 (countOfV c now ts tenant met).1, .int .i64 (countOfV c now ts tenant met).2]) ∧ Below w.heap.size w w' := by
  have HO : Hid (∀ W, Below w.heap.size w W → Calls Tryz.prog 8 #[cfgV c, .agg #[.int .i64 now, .slice a ts.length cap]] W fun e w' => e = .returned (.bool (stateB c now ts)) ∧ Below W.heap.size W w') := fun W hW => specState_any c now a cap ts W (hf.later hW) hbig hlen
  have HT : Hid (∀ W, Calls Tryz.prog 27 #[.string tenant] W fun e w' => e = .returned (.bool (tnameB tenant)) ∧ w' = W) := fun W => l4TenantName_any tenant W (by unfold maxLen; omega)
  have HM : Hid (∀ W, Calls Tryz.prog 29 #[.string met] W fun e w' => e = .returned (.bool (mnameB met)) ∧ Below W.heap.size W w') := fun W => l4MetricName_any met W (by omega)
  have HTE : Hid (∀ W, Below w.heap.size w W → Calls Tryz.prog 35 #[.agg #[.int .i64 now, .slice a ts.length cap], .string tenant] W fun e w' => TenV w' e (tenOf ts tenant) ∧ Below W.heap.size W w') := fun W hW => l4Tenant_any now a cap ts tenant W (hf.later hW) hlen
  obtain ⟨q1, q2, q3⟩ := big_of hbig tenant
  have HC : Hid (∀ W a1 a2 c1 c2, PairsIn W a1 (tenOf ts tenant).mets → PairsIn W a2 (tenOf ts tenant).sers → Calls Tryz.prog 34 #[cfgV c, .agg #[.string (tenOf ts tenant).name, .int .i64 (tenOf ts tenant).limit, .slice a1 (tenOf ts tenant).mets.length c1, .slice a2 (tenOf ts tenant).sers.length c2], .string met] W fun e w' => e = .returned (.tuple #[.int .i64 (countV c (tenOf ts tenant) met).1, .int .i64 (countV c (tenOf ts tenant) met).2]) ∧ Below W.heap.size W w') := fun W a1 a2 c1 c2 p1 p2 => l4Count_any c _ a1 a2 c1 c2 met W p1 p2 q1 q2 q3
  have HV : Hid (countOfV c now ts tenant met = if (stateB c now ts && tnameB tenant && (met.toList.isEmpty || mnameB met)) = true then countV c (tenOf ts tenant) met else (-1, -1)) := rfl
  clear hf hbig q1 q2 q3
  unfold TenV at HTE
  unfold cfgV at *
  generalize tnameB tenant = b1 at *
  generalize mnameB met = b2 at *
  generalize stateB c now ts = b0 at *
  generalize tenOf ts tenant = t at *
  generalize countOfV c now ts tenant met = RES at *
  generalize countV c t met = RV at *
  go_enter Tryz.func13, Tryz.ntmps13
  go_wp2_with fail
  refine (HO.out _ (bto (bnew _ _) (bnew _ _))).mono ?_
  rintro e w1 ⟨rfl, hb1⟩
  have B1 : Hid (Below w.heap.size w w1) := bto (bto (bnew _ _) (bnew _ _)) hb1
  have A1 : Hid (Blk w1 w.heap.size #[.int .i64 c.w, .int .i64 c.tl, .int .i64 c.ml, .int .i64 c.sh, .int .i64 c.ha, .int .i64 c.sg] 29) := hid (((Blk.new _ _ _).alloc _).later hb1)
  have S1 : Hid (Blk w1 (w.heap.size + 1) #[.int .i64 now, .slice a ts.length cap] 33) := hid (by have := (Blk.new (w.alloc (.cells #[.int .i64 c.w, .int .i64 c.tl, .int .i64 c.ml, .int .i64 c.sh, .int .i64 c.ha, .int .i64 c.sg] 29)) #[.int .i64 now, .slice a ts.length cap] 33).later hb1; simpa using this)
  clear hb1 HO
  by_cases h0 : b0 = false
  · have HV2 : Hid (RES = (-1, -1)) := by show _ = _; rw [HV.out, h0]; rfl
    subst h0
    clear HV
    go_wp2
    go_ret2
    exact ⟨ret_two (by rw [HV2.out]) (by rw [HV2.out]), B1.out⟩
  have h0' : b0 = true := by simpa using h0
  subst h0'
  clear h0
  by_cases h1 : b1 = false
  · have HV2 : Hid (RES = (-1, -1)) := by show _ = _; rw [HV.out, h1]; simp
    subst h1
    clear HV
    go_wp2_with fail
    refine (HT.out _).mono ?_
    rintro e w2 ⟨rfl, hw⟩
    replace hw := hw.symm
    subst hw
    go_wp2
    go_ret2
    exact ⟨ret_two (by rw [HV2.out]) (by rw [HV2.out]), B1.out⟩
  have h1' : b1 = true := by simpa using h1
  subst h1'
  clear h1
  by_cases he : met.toList.isEmpty = true
  · have HV2 : Hid (RES = RV) := by show _ = _; rw [HV.out, he]; rfl
    clear HV
    go_wp2_with fail
    refine (HT.out _).mono ?_
    rintro e w2 ⟨rfl, hw⟩
    replace hw := hw.symm
    subst hw
    clear HT HM
    have HK : Hid (∀ w', Below w1.heap.size w1 w' → w'.cell? ⟨w.heap.size, 0, none⟩ = some (.int .i64 c.w) ∧ w'.cell? ⟨w.heap.size, 1, none⟩ = some (.int .i64 c.tl) ∧ w'.cell? ⟨w.heap.size, 2, none⟩ = some (.int .i64 c.ml) ∧ w'.cell? ⟨w.heap.size, 3, none⟩ = some (.int .i64 c.sh) ∧ w'.cell? ⟨w.heap.size, 4, none⟩ = some (.int .i64 c.ha) ∧ w'.cell? ⟨w.heap.size, 5, none⟩ = some (.int .i64 c.sg) ∧ w'.cell? ⟨w.heap.size + 1, 0, none⟩ = some (.int .i64 now) ∧ w'.cell? ⟨w.heap.size + 1, 1, none⟩ = some (.slice a ts.length cap)) := fun w' h => by
      have q := A1.out.later h
      have p := S1.out.later h
      exact ⟨q.cell 0, q.cell 1, q.cell 2, q.cell 3, q.cell 4, q.cell 5, p.cell 0, p.cell 1⟩
    obtain ⟨x0, x1, x2, x3, x4, x5, y0, y1⟩ := HK.out w1 (Below.refl _ _)
    go_upto_region 3 with fail
    go_region_held3 (fun w' => w'.cell? ⟨w.heap.size, 0, none⟩ = some (.int .i64 c.w) ∧ w'.cell? ⟨w.heap.size, 1, none⟩ = some (.int .i64 c.tl) ∧ w'.cell? ⟨w.heap.size, 2, none⟩ = some (.int .i64 c.ml) ∧ w'.cell? ⟨w.heap.size, 3, none⟩ = some (.int .i64 c.sh) ∧ w'.cell? ⟨w.heap.size, 4, none⟩ = some (.int .i64 c.ha) ∧ w'.cell? ⟨w.heap.size, 5, none⟩ = some (.int .i64 c.sg) ∧ w'.cell? ⟨w.heap.size + 1, 0, none⟩ = some (.int .i64 now) ∧ w'.cell? ⟨w.heap.size + 1, 1, none⟩ = some (.slice a ts.length cap))
      (first | go_keep | exact HK.out _ k4 | exact HK.out _ k3)
      (first
        | (go_at_call 35; refine (HTE.out _ (B1.out.drew)).mono ?_; rintro e w3 ⟨⟨a1, c1, a2, c2, rfl, p1, p2⟩, hb3⟩; have k3 : Below w1.heap.size w1 w3 := (by exact bto (Below.refl _ _).drew hb3))
        | (go_at_call 34; refine (HC.out _ a1 a2 c1 c2 p1 p2).mono ?_; rintro e w4 ⟨rfl, hb4⟩; have k4 : Below w1.heap.size w1 w4 := (by exact bto k3 hb4)))
    all_goals (go_wp2; go_ret2)
    all_goals exact ⟨ret_two (by rw [HV2.out]) (by rw [HV2.out]), bto B1.out k4⟩
  have he' : met.toList.isEmpty = false := by simpa using he
  clear he
  rw [he'] at HV
  by_cases h2 : b2 = false
  · have HV2 : Hid (RES = (-1, -1)) := by show _ = _; rw [HV.out, h2]; simp
    subst h2
    clear HV
    go_wp2_with fail
    refine (HT.out _).mono ?_
    rintro e w2 ⟨rfl, hw⟩
    replace hw := hw.symm
    subst hw
    go_wp2_with fail
    refine (HM.out _).mono ?_
    rintro e w3 ⟨rfl, hb3⟩
    have B3 : Hid (Below w.heap.size w w3) := bto B1.out hb3
    clear hb3
    go_wp2
    go_ret2
    exact ⟨ret_two (by rw [HV2.out]) (by rw [HV2.out]), B3.out⟩
  have h2' : b2 = true := by simpa using h2
  have HV2 : Hid (RES = RV) := by show _ = _; rw [HV.out, h2']; rfl
  subst h2'
  clear HV h2
  go_wp2_with fail
  refine (HT.out _).mono ?_
  rintro e w2 ⟨rfl, hw⟩
  replace hw := hw.symm
  subst hw
  go_wp2_with fail
  refine (HM.out _).mono ?_
  rintro e w2 ⟨rfl, hb2⟩
  have B2 : Hid (Below w.heap.size w w2) := bto B1.out hb2
  have HK : Hid (∀ w', Below w2.heap.size w2 w' → w'.cell? ⟨w.heap.size, 0, none⟩ = some (.int .i64 c.w) ∧ w'.cell? ⟨w.heap.size, 1, none⟩ = some (.int .i64 c.tl) ∧ w'.cell? ⟨w.heap.size, 2, none⟩ = some (.int .i64 c.ml) ∧ w'.cell? ⟨w.heap.size, 3, none⟩ = some (.int .i64 c.sh) ∧ w'.cell? ⟨w.heap.size, 4, none⟩ = some (.int .i64 c.ha) ∧ w'.cell? ⟨w.heap.size, 5, none⟩ = some (.int .i64 c.sg) ∧ w'.cell? ⟨w.heap.size + 1, 0, none⟩ = some (.int .i64 now) ∧ w'.cell? ⟨w.heap.size + 1, 1, none⟩ = some (.slice a ts.length cap)) := fun w' h => by
    have q := (A1.out.later hb2).later h
    have p := (S1.out.later hb2).later h
    exact ⟨q.cell 0, q.cell 1, q.cell 2, q.cell 3, q.cell 4, q.cell 5, p.cell 0, p.cell 1⟩
  clear HT HM A1 S1 B1 hb2
  obtain ⟨x0, x1, x2, x3, x4, x5, y0, y1⟩ := HK.out w2 (Below.refl _ _)
  go_upto_region 3 with fail
  go_region_held3 (fun w' => w'.cell? ⟨w.heap.size, 0, none⟩ = some (.int .i64 c.w) ∧ w'.cell? ⟨w.heap.size, 1, none⟩ = some (.int .i64 c.tl) ∧ w'.cell? ⟨w.heap.size, 2, none⟩ = some (.int .i64 c.ml) ∧ w'.cell? ⟨w.heap.size, 3, none⟩ = some (.int .i64 c.sh) ∧ w'.cell? ⟨w.heap.size, 4, none⟩ = some (.int .i64 c.ha) ∧ w'.cell? ⟨w.heap.size, 5, none⟩ = some (.int .i64 c.sg) ∧ w'.cell? ⟨w.heap.size + 1, 0, none⟩ = some (.int .i64 now) ∧ w'.cell? ⟨w.heap.size + 1, 1, none⟩ = some (.slice a ts.length cap))
    (first | go_keep | exact HK.out _ k4 | exact HK.out _ k3)
    (first
      | (go_at_call 35; refine (HTE.out _ (B2.out.drew)).mono ?_; rintro e w3 ⟨⟨a1, c1, a2, c2, rfl, p1, p2⟩, hb3⟩; have k3 : Below w2.heap.size w2 w3 := (by exact bto (Below.refl _ _).drew hb3))
      | (go_at_call 34; refine (HC.out _ a1 a2 c1 c2 p1 p2).mono ?_; rintro e w4 ⟨rfl, hb4⟩; have k4 : Below w2.heap.size w2 w4 := (by exact bto k3 hb4)))
  all_goals (go_wp2; go_ret2)
  all_goals exact ⟨ret_two (by rw [HV2.out]) (by rw [HV2.out]), bto B2.out k4⟩
end Go.Proofs.YtojeemogabhaoaaGreatDoor
namespace Go.Proofs.YtojeemogabhaoaaGreatDoor
open Go.RowKit
set_option maxRecDepth 100000 in
set_option maxHeartbeats 4000000 in
theorem lawCountOf (c : CfgD) (now : Int) (a : Option Addr) (cap : Nat) (ts : List TenD) (tenant met : ByteArray) (w : World) (hf : TensIn w a ts) (hs : ShortT ts) (hlen : ts.length ≤ maxLen) (hU : UTab w) :
    Calls Tryz.prog 4 #[cfgV c, .agg #[.int .i64 now, .slice a ts.length cap], .string tenant, .string met] w fun e w' => e = .returned (.bool true) ∧ Below w.heap.size w w' := by
  by_cases hlt : (1048576 : Int) < tenant.size
  · clear hf hs hU
    unfold cfgV at *
    unfold maxLen at hlen
    go_enter Tryz.func4, Tryz.ntmps4
    go_wp2
    go_ret
    exact ⟨rfl, bto (bnew _ _) (bnew _ _)⟩
  by_cases hlm : (1048576 : Int) < met.size
  · clear hf hs hU
    unfold cfgV at *
    unfold maxLen at hlen
    go_enter Tryz.func4, Tryz.ntmps4
    go_wp2
    go_ret
    exact ⟨rfl, bto (bnew _ _) (bnew _ _)⟩
  have ht : tenant.size ≤ 1048576 := by omega
  have hm : met.size ≤ 1048576 := by omega
  have HSZ : Hid (∀ W, Below w.heap.size w W → Calls Tryz.prog 7 #[.agg #[.int .i64 now, .slice a ts.length cap], .int .i64 1048576] W fun e w' => e = .returned (.int .i64 (szTens 1048576 ts)) ∧ Below W.heap.size W w') := fun W hW => szState_any a cap ts now 1048576 W (by omega) (by omega) (hf.later hW) hs hlen
  by_cases hbig : (ts.length + tensBulk ts : Int) ≤ 1048576
  · have e : szTens 1048576 ts = 1048576 - ts.length - tensBulk ts := by unfold szTens; rw [if_pos hbig]
    rw [e] at HSZ
    have h0 : ¬ ((1048576 : Int) - ts.length - tensBulk ts < 0) := by omega
    obtain ⟨f1, f2, f3, f4⟩ := fit_of (ts := ts) (by omega)
    have hl : ts.length ≤ 1048576 := by omega
    have HTC : Hid (∀ W, Calls Tryz.prog 9 #[cfgV c] W fun e w' => e = .returned (cfgV c) ∧ Below W.heap.size W w') := fun W => toConfig_any _ _ _ _ _ _ W
    have HTS : Hid (∀ W, Below w.heap.size w W → Calls Tryz.prog 10 #[.agg #[.int .i64 now, .slice a ts.length cap]] W fun e w' => ∃ g, e = .returned (.agg #[.int .i64 now, .slice (some ⟨g, 0, none⟩) ts.length ts.length]) ∧ W.heap.size ≤ g ∧ g < w'.heap.size ∧ TensOwn w' W.heap.size (some ⟨g, 0, none⟩) ts ∧ Below W.heap.size W w') := fun W hW => toState_any now a cap ts W (hf.later hW) hl f3
    have HSP : Hid (∀ W g, TensIn W (some ⟨g, 0, none⟩) ts → Calls Tryz.prog 13 #[cfgV c, .agg #[.int .i64 now, .slice (some ⟨g, 0, none⟩) ts.length ts.length], .string tenant, .string met] W fun e w' => e = .returned (.tuple #[.int .i64 (countOfV c now ts tenant met).1, .int .i64 (countOfV c now ts tenant met).2]) ∧ Below W.heap.size W w') := fun W g h => specCountOf_any c now _ _ ts tenant met W h f2 (by omega) ht hm
    have HIM : Hid (∀ W g, TensIn W (some ⟨g, 0, none⟩) ts → UTab W → Calls Tryz.prog 14 #[cfgV c, .agg #[.int .i64 now, .slice (some ⟨g, 0, none⟩) ts.length ts.length], .string tenant, .string met] W fun e w' => e = .returned (.tuple #[.int .i64 (countOfV c now ts tenant met).1, .int .i64 (countOfV c now ts tenant met).2]) ∧ Below W.heap.size W w') := fun W g h hu => implCountOf_any c now _ _ ts tenant met _ W h f1 (by omega) hu ht hm
    have HEQ : Hid (∀ W g g', TensIn W (some ⟨g, 0, none⟩) ts → TensIn W (some ⟨g', 0, none⟩) ts → Calls Tryz.prog 12 #[.agg #[.int .i64 now, .slice (some ⟨g, 0, none⟩) ts.length ts.length], .agg #[.int .i64 now, .slice (some ⟨g', 0, none⟩) ts.length ts.length]] W fun e w' => e = .returned (.bool true) ∧ Below W.heap.size W w') := fun W g g' h h' => eqState_same now _ _ _ _ ts W h h' (by unfold maxLen; omega) f4
    have HU : Hid (UTab w) := hU
    generalize (countOfV c now ts tenant met).1 = R1 at *
    generalize (countOfV c now ts tenant met).2 = R2 at *
    generalize (1048576 : Int) - ts.length - tensBulk ts = left at *
    generalize ts.length = n at *
    unfold cfgV at *
    clear hf hs hlen hU e hbig f1 f2 f3 f4 hl
    go_enter Tryz.func4, Tryz.ntmps4
    go_wp2_with fail
    refine (HSZ.out _ (bto (bnew _ _) (bnew _ _))).mono ?_
    rintro e w1 ⟨rfl, hb1⟩
    have B1 : Hid (Below w.heap.size w w1) := bto (bto (bnew _ _) (bnew _ _)) hb1
    have A1 : Hid (Blk w1 w.heap.size #[.int .i64 c.w, .int .i64 c.tl, .int .i64 c.ml, .int .i64 c.sh, .int .i64 c.ha, .int .i64 c.sg] 23) := hid (((Blk.new _ _ _).alloc _).later hb1)
    have S1 : Hid (Blk w1 (w.heap.size + 1) #[.int .i64 now, .slice a n cap] 26) := hid (by have := (Blk.new (w.alloc (.cells #[.int .i64 c.w, .int .i64 c.tl, .int .i64 c.ml, .int .i64 c.sh, .int .i64 c.ha, .int .i64 c.sg] 23)) #[.int .i64 now, .slice a n cap] 26).later hb1; simpa using this)
    have HK : Hid (∀ w', Below w1.heap.size w1 w' → w'.cell? ⟨w.heap.size, 0, none⟩ = some (.int .i64 c.w) ∧ w'.cell? ⟨w.heap.size, 1, none⟩ = some (.int .i64 c.tl) ∧ w'.cell? ⟨w.heap.size, 2, none⟩ = some (.int .i64 c.ml) ∧ w'.cell? ⟨w.heap.size, 3, none⟩ = some (.int .i64 c.sh) ∧ w'.cell? ⟨w.heap.size, 4, none⟩ = some (.int .i64 c.ha) ∧ w'.cell? ⟨w.heap.size, 5, none⟩ = some (.int .i64 c.sg) ∧ w'.cell? ⟨w.heap.size + 1, 0, none⟩ = some (.int .i64 now) ∧ w'.cell? ⟨w.heap.size + 1, 1, none⟩ = some (.slice a n cap)) := fun w' h => by
      have q := A1.out.later h
      have p := S1.out.later h
      exact ⟨q.cell 0, q.cell 1, q.cell 2, q.cell 3, q.cell 4, q.cell 5, p.cell 0, p.cell 1⟩
    obtain ⟨x0, x1, x2, x3, x4, x5, y0, y1⟩ := HK.out w1 (Below.refl _ _)
    clear hb1 HSZ
    go_upto_region 9 with fail
    go_cut [10, 11] (fun s1 s2 wx => s1 = .int .i64 R1 ∧ s2 = .int .i64 R2 ∧ Below w1.heap.size w1 wx)
    case first =>
      go_region_held3 (fun w' => w'.cell? ⟨w.heap.size, 0, none⟩ = some (.int .i64 c.w) ∧ w'.cell? ⟨w.heap.size, 1, none⟩ = some (.int .i64 c.tl) ∧ w'.cell? ⟨w.heap.size, 2, none⟩ = some (.int .i64 c.ml) ∧ w'.cell? ⟨w.heap.size, 3, none⟩ = some (.int .i64 c.sh) ∧ w'.cell? ⟨w.heap.size, 4, none⟩ = some (.int .i64 c.ha) ∧ w'.cell? ⟨w.heap.size, 5, none⟩ = some (.int .i64 c.sg) ∧ w'.cell? ⟨w.heap.size + 1, 0, none⟩ = some (.int .i64 now) ∧ w'.cell? ⟨w.heap.size + 1, 1, none⟩ = some (.slice a n cap))
        (first | go_keep | exact HK.out _ k4 | exact HK.out _ k3 | exact HK.out _ k2)
        (first
          | (go_at_call 10; refine (HTS.out _ (by first | exact bto B1.out k3 | exact B1.out.drew)).mono ?_; rintro e w2 ⟨g, rfl, hg1, hg2, ho, hb2⟩; have k2 : Below w1.heap.size w1 w2 := (by first | exact bto k3 hb2 | exact bto (Below.refl _ _).drew hb2))
          | (go_at_call 9; refine (HTC.out _).mono ?_; rintro e w3 ⟨rfl, hb3⟩; have k3 : Below w1.heap.size w1 w3 := (by first | exact bto k2 hb3 | exact bto (Below.refl _ _).drew hb3))
          | (go_at_call 13; refine (HSP.out _ g (by first | exact ho.tens | exact ho.tens.later hb3)).mono ?_; rintro e w4 ⟨rfl, hb4⟩; have k4 : Below w1.heap.size w1 w4 := (by first | exact bto k2 hb4 | exact bto k3 hb4)))
      all_goals (go_wp2_with fail; go_meet)
      all_goals exact ⟨rfl, rfl, k4⟩
    obtain ⟨rfl, rfl, hb4⟩ := hcut
    rename World => w4
    have B4 : Hid (Below w.heap.size w w4) := bto B1.out hb4
    have A4 : Hid (Blk w4 w.heap.size #[.int .i64 c.w, .int .i64 c.tl, .int .i64 c.ml, .int .i64 c.sh, .int .i64 c.ha, .int .i64 c.sg] 23) := A1.out.later hb4
    have S4 : Hid (Blk w4 (w.heap.size + 1) #[.int .i64 now, .slice a n cap] 26) := S1.out.later hb4
    have z0 : w4.cell? ⟨w.heap.size + 1, 0, none⟩ = some (.int .i64 now) := S4.out.cell 0
    have z1 : w4.cell? ⟨w.heap.size + 1, 1, none⟩ = some (.slice a n cap) := S4.out.cell 1
    clear hb4 HK x0 x1 x2 x3 x4 x5 y0 y1 A1 S1 B1 HSP
    go_wp2_with fail
    refine (HTS.out _ B4.out).mono ?_
    rintro e w5 ⟨g1, rfl, hg1, hg2, ho5, hb5⟩
    have B5 : Hid (Below w.heap.size w w5) := bto B4.out hb5
    have A5 : Hid (Blk w5 w.heap.size #[.int .i64 c.w, .int .i64 c.tl, .int .i64 c.ml, .int .i64 c.sh, .int .i64 c.ha, .int .i64 c.sg] 23) := A4.out.later hb5
    have S5 : Hid (Blk w5 (w.heap.size + 1) #[.int .i64 now, .slice a n cap] 26) := S4.out.later hb5
    have O5 : Hid (TensIn w5 (some ⟨g1, 0, none⟩) ts) := ho5.tens
    clear ho5 hb5 A4 S4 B4 z0 z1
    go_upto_region 11 with fail
    have X6 : Hid (Blk (w5.alloc (.cells #[.int .i64 now, .slice (some ⟨g1, 0, none⟩) n n] 33)) w5.heap.size #[.int .i64 now, .slice (some ⟨g1, 0, none⟩) n n] 33) := Blk.new _ _ _
    have B6 : Hid (Below w5.heap.size w5 (w5.alloc (.cells #[.int .i64 now, .slice (some ⟨g1, 0, none⟩) n n] 33))) := bnew _ _
    have Bw6 : Hid (Below w.heap.size w (w5.alloc (.cells #[.int .i64 now, .slice (some ⟨g1, 0, none⟩) n n] 33))) := bto B5.out (bnew _ _)
    have A6 : Hid (Blk (w5.alloc (.cells #[.int .i64 now, .slice (some ⟨g1, 0, none⟩) n n] 33)) w.heap.size #[.int .i64 c.w, .int .i64 c.tl, .int .i64 c.ml, .int .i64 c.sh, .int .i64 c.ha, .int .i64 c.sg] 23) := A5.out.alloc _
    have S6 : Hid (Blk (w5.alloc (.cells #[.int .i64 now, .slice (some ⟨g1, 0, none⟩) n n] 33)) (w.heap.size + 1) #[.int .i64 now, .slice a n cap] 26) := S5.out.alloc _
    have O6 : Hid (TensIn (w5.alloc (.cells #[.int .i64 now, .slice (some ⟨g1, 0, none⟩) n n] 33)) (some ⟨g1, 0, none⟩) ts) := O5.out.later (bnew _ _)
    clear B6 B5 A5 S5 O5
    generalize w5.alloc (.cells #[.int .i64 now, .slice (some ⟨g1, 0, none⟩) n n] 33) = w6 at *
    generalize w5.heap.size = X at *
    have HK : Hid (∀ w', Below w6.heap.size w6 w' → w'.cell? ⟨w.heap.size, 0, none⟩ = some (.int .i64 c.w) ∧ w'.cell? ⟨w.heap.size, 1, none⟩ = some (.int .i64 c.tl) ∧ w'.cell? ⟨w.heap.size, 2, none⟩ = some (.int .i64 c.ml) ∧ w'.cell? ⟨w.heap.size, 3, none⟩ = some (.int .i64 c.sh) ∧ w'.cell? ⟨w.heap.size, 4, none⟩ = some (.int .i64 c.ha) ∧ w'.cell? ⟨w.heap.size, 5, none⟩ = some (.int .i64 c.sg) ∧ w'.cell? ⟨w.heap.size + 1, 0, none⟩ = some (.int .i64 now) ∧ w'.cell? ⟨w.heap.size + 1, 1, none⟩ = some (.slice a n cap) ∧ w'.cell? ⟨X, 0, none⟩ = some (.int .i64 now) ∧ w'.cell? ⟨X, 1, none⟩ = some (.slice (some ⟨g1, 0, none⟩) n n)) := fun w' h => by
      have q := A6.out.later h
      have p := S6.out.later h
      have r := X6.out.later h
      exact ⟨q.cell 0, q.cell 1, q.cell 2, q.cell 3, q.cell 4, q.cell 5, p.cell 0, p.cell 1, r.cell 0, r.cell 1⟩
    have HKC : Hid (∀ w', Below w6.heap.size w6 w' → w'.cell? ⟨w.heap.size, 0, none⟩ = some (.int .i64 c.w) ∧ w'.cell? ⟨w.heap.size, 1, none⟩ = some (.int .i64 c.tl) ∧ w'.cell? ⟨w.heap.size, 2, none⟩ = some (.int .i64 c.ml) ∧ w'.cell? ⟨w.heap.size, 3, none⟩ = some (.int .i64 c.sh) ∧ w'.cell? ⟨w.heap.size, 4, none⟩ = some (.int .i64 c.ha) ∧ w'.cell? ⟨w.heap.size, 5, none⟩ = some (.int .i64 c.sg) ∧ w'.cell? ⟨X, 0, none⟩ = some (.int .i64 now) ∧ w'.cell? ⟨X, 1, none⟩ = some (.slice (some ⟨g1, 0, none⟩) n n)) := fun w' h => by
      obtain ⟨b0, b1, b2, b3, b4, b5, _, _, b6, b7⟩ := HK.out w' h
      exact ⟨b0, b1, b2, b3, b4, b5, b6, b7⟩
    obtain ⟨x0, x1, x2, x3, x4, x5, y0, y1, u0, u1⟩ := HK.out w6 (Below.refl _ _)
    go_cut [13, 14] (fun s1 s2 wx => s1 = .int .i64 R1 ∧ s2 = .int .i64 R2 ∧ Below w6.heap.size w6 wx)
    case first =>
      go_region_held3 (fun w' => w'.cell? ⟨w.heap.size, 0, none⟩ = some (.int .i64 c.w) ∧ w'.cell? ⟨w.heap.size, 1, none⟩ = some (.int .i64 c.tl) ∧ w'.cell? ⟨w.heap.size, 2, none⟩ = some (.int .i64 c.ml) ∧ w'.cell? ⟨w.heap.size, 3, none⟩ = some (.int .i64 c.sh) ∧ w'.cell? ⟨w.heap.size, 4, none⟩ = some (.int .i64 c.ha) ∧ w'.cell? ⟨w.heap.size, 5, none⟩ = some (.int .i64 c.sg) ∧ w'.cell? ⟨X, 0, none⟩ = some (.int .i64 now) ∧ w'.cell? ⟨X, 1, none⟩ = some (.slice (some ⟨g1, 0, none⟩) n n))
        (first | go_keep | exact HKC.out _ k4 | exact HKC.out _ k3)
        (first
          | (go_at_call 9; refine (HTC.out _).mono ?_; rintro e w3 ⟨rfl, hb3⟩; have k3 : Below w6.heap.size w6 w3 := (by exact bto (Below.refl _ _).drew hb3))
          | (go_at_call 14; refine (HIM.out _ g1 (O6.out.later k3) (HU.out.later (bto Bw6.out k3))).mono ?_; rintro e w4 ⟨rfl, hb4⟩; have k4 : Below w6.heap.size w6 w4 := (by exact bto k3 hb4)))
      all_goals (go_wp2_with fail; go_meet)
      all_goals exact ⟨rfl, rfl, k4⟩
    obtain ⟨rfl, rfl, hb7⟩ := hcut
    rename World => w7
    have Bw7 : Hid (Below w.heap.size w w7) := bto Bw6.out hb7
    have O7 : Hid (TensIn w7 (some ⟨g1, 0, none⟩) ts) := O6.out.later hb7
    have HK7 : Hid (∀ w', Below w7.heap.size w7 w' → w'.cell? ⟨w.heap.size + 1, 0, none⟩ = some (.int .i64 now) ∧ w'.cell? ⟨w.heap.size + 1, 1, none⟩ = some (.slice a n cap) ∧ w'.cell? ⟨X, 0, none⟩ = some (.int .i64 now) ∧ w'.cell? ⟨X, 1, none⟩ = some (.slice (some ⟨g1, 0, none⟩) n n)) := fun w' h => by
      obtain ⟨_, _, _, _, _, _, b6, b7, b8, b9⟩ := HK.out w' (bto hb7 h)
      exact ⟨b6, b7, b8, b9⟩
    obtain ⟨y2, y3, u2, u3⟩ := HK7.out w7 (Below.refl _ _)
    clear hb7 HK HKC x0 x1 x2 x3 x4 x5 y0 y1 u0 u1 Bw6 A6 S6 X6 O6 HIM HTC
    have hR1 : (R1 != R1) = false := by simp
    have hR2 : (R2 != R2) = false := by simp
    go_upto_region 14 with fail
    go_cut [59] (fun s wx => s = .bool false ∧ Below w7.heap.size w7 wx)
    case first =>
      go_region_held3 (fun w' => w'.cell? ⟨w.heap.size + 1, 0, none⟩ = some (.int .i64 now) ∧ w'.cell? ⟨w.heap.size + 1, 1, none⟩ = some (.slice a n cap) ∧ w'.cell? ⟨X, 0, none⟩ = some (.int .i64 now) ∧ w'.cell? ⟨X, 1, none⟩ = some (.slice (some ⟨g1, 0, none⟩) n n))
        (first | go_keep | exact HK7.out _ k4 | exact HK7.out _ k3)
        (first
          | (go_at_call 10; refine (HTS.out _ (Bw7.out.drew)).mono ?_; rintro e w3 ⟨g, rfl, hg3, hg4, ho3, hb3⟩; have k3 : Below w7.heap.size w7 w3 := (by exact bto (Below.refl _ _).drew hb3))
          | (go_at_call 12; refine (HEQ.out _ g1 g (O7.out.later k3) ho3.tens).mono ?_; rintro e w4 ⟨rfl, hb4⟩; have k4 : Below w7.heap.size w7 w4 := (by exact bto k3 hb4)))
      all_goals (go_wp2_with fail; go_meet)
      all_goals exact ⟨rfl, k4⟩
    obtain ⟨rfl, hb8⟩ := hcut
    rename World => w8
    have Bw8 : Hid (Below w.heap.size w w8) := bto Bw7.out hb8
    clear hb8
    go_wp2
    go_ret
    exact ⟨rfl, Bw8.out⟩
  · have e : szTens 1048576 ts = -1 := by unfold szTens; rw [if_neg hbig]
    rw [e] at HSZ
    clear hf hs hlen hU hbig e
    unfold cfgV at *
    go_enter Tryz.func4, Tryz.ntmps4
    go_wp2_with fail
    refine (HSZ.out _ (bto (bnew _ _) (bnew _ _))).mono ?_
    rintro e w1 ⟨rfl, hb1⟩
    have B1 : Hid (Below w.heap.size w w1) := bto (bto (bnew _ _) (bnew _ _)) hb1
    clear hb1
    go_wp2
    go_ret
    exact ⟨rfl, B1.out⟩
end Go.Proofs.YtojeemogabhaoaaGreatDoor
