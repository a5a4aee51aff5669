import Derived.Test.YtojeemogabhaoaaGreatDoorProg
import Derived.Test.YtojeemogabhaoaaGreatDoorJ40StrL
import Derived.Test.YtojeemogabhaoaaGreatDoorJ22SSta
import Derived.Deep.RegionHeld3
import Derived.Deep.DeepCutAuto
namespace Go.Proofs.YtojeemogabhaoaaGreatDoor
open Go.RowKit
theorem blk_drewS {w w' : World} {cs : Array Value} {t : TypeId} (h : Below (w.alloc (.cells cs t)).drew.heap.size (w.alloc (.cells cs t)).drew w') : Blk w' w.heap.size cs t := (Blk.new w cs t).later ⟨h.os, h.tape, h.output, h.size, h.block⟩
theorem tname_some {s : ByteArray} (h : tnameB s = true) : s.toList.isEmpty = false := by
  refine str_some.2 fun e => ?_
  simp only [tnameB, Bool.and_eq_true, decide_eq_true_eq] at h
  rw [e, ByteArray.size_empty] at h
  omega
theorem pAll_le (t : PairD) (b : Bool) (ps : List PairD) (hr : RiseBy (·.s) ps) : (pAll t b ps).length ≤ ps.length + 1 := by
  cases b with
  | true =>
    rw [pAll_placed]
    have : (delBy (·.s) t.s ps).length ≤ ps.length := List.length_filter_le _ _
    omega
  | false => rw [pAll_ins hr]; exact insBy_len_le _
set_option maxRecDepth 100000 in
set_option maxHeartbeats 32000000 in
theorem specSetLimit_any (c : CfgD) (now : Int) (a : Option Addr) (cap : Nat) (ts : List TenD) (tenant metric : ByteArray) (limit : Int) (w : World) (hf : TensIn w a ts) (hbk : ts.length + tensBulk ts ≤ 1048576) (hn : tenant.size ≤ 1048576) (hm : metric.size ≤ 1048576) :
    Calls Tryz.prog 15 #[cfgV c, .agg #[.int .i64 now, .slice a ts.length cap], .string tenant, .string metric, .int .i64 limit] w fun e w' => StOut (setLimV c now ts tenant metric limit) w e w' := by
  obtain ⟨f1, f2, f3, f4⟩ := fit_of hbk
  have HO : Hid (∀ W, Below w.heap.size w W → Calls Tryz.prog 8 #[cfgV c, .agg #[.int .i64 now, .slice a ts.length cap]] W fun e w' => e = .returned (.bool (stateB c now ts)) ∧ Below W.heap.size W w') := fun W hW => specState_any c now a cap ts W (hf.later hW) f2 (by omega)
  have HTN : Hid (∀ W, Calls Tryz.prog 27 #[.string tenant] W fun e w' => e = .returned (.bool (tnameB tenant)) ∧ w' = W) := fun W => l4TenantName_any tenant W (by unfold maxLen; omega)
  have HMN : Hid (∀ W, Calls Tryz.prog 29 #[.string metric] W fun e w' => e = .returned (.bool (mnameB metric)) ∧ Below W.heap.size W w') := fun W => l4MetricName_any metric W (by omega)
  have HLB : Hid (∀ W, Calls Tryz.prog 26 #[.int .i64 limit, .int .i64 (-1), .int .i64 1000000] W fun e w' => e = .returned (.bool (btwB limit (-1) 1000000)) ∧ w' = W) := fun W => between_any limit (-1) 1000000 W
  have HV : Hid (setLimV c now ts tenant metric limit = if stateB c now ts = false then (0, [], false) else if (tnameB tenant && (metric.toList.isEmpty || mnameB metric) && btwB limit (-1) 1000000) = false then (now, ts, false) else if 10000 < (keptTs c.w now (insBy (·.name) (limT (tenOf ts tenant) metric limit) ts)).length then (now, ts, false) else (now, keptTs c.w now (insBy (·.name) (limT (tenOf ts tenant) metric limit) ts), true)) := rfl
  have HTE : Hid (∀ W, Below w.heap.size w W → Calls Tryz.prog 35 #[.agg #[.int .i64 now, .slice a ts.length cap], .string tenant] W fun e w' => TenV w' e (tenOf ts tenant) ∧ Below W.heap.size W w') := fun W hW => l4Tenant_any now a cap ts tenant W (hf.later hW) (by omega)
  unfold TenV at HTE
  unfold StOut
  by_cases h0 : stateB c now ts = false
  · have HV2 : Hid (setLimV c now ts tenant metric limit = (0, [], false)) := by show _ = _; rw [HV.out, if_pos h0]
    rw [h0] at HO
    clear hf HTE HV h0 f1 f2 f3 f4
    generalize setLimV c now ts tenant metric limit = V at *
    unfold cfgV at *
    go_enter Tryz.func15, Tryz.ntmps15
    have B0 : Hid (Below w.heap.size w (((w.alloc (.cells #[.int .i64 c.w, .int .i64 c.tl, .int .i64 c.ml, .int .i64 c.sh, .int .i64 c.ha, .int .i64 c.sg] 29)).alloc (.cells #[.int .i64 now, .slice a ts.length cap] 33)).alloc (.cells #[.int .i64 0, .slice none 0 0] 33))) := bto (bto (bnew _ _) (bnew _ _)) (bnew _ _)
    have R0 : Hid (Blk (((w.alloc (.cells #[.int .i64 c.w, .int .i64 c.tl, .int .i64 c.ml, .int .i64 c.sh, .int .i64 c.ha, .int .i64 c.sg] 29)).alloc (.cells #[.int .i64 now, .slice a ts.length cap] 33)).alloc (.cells #[.int .i64 0, .slice none 0 0] 33)) (w.heap.size + 1 + 1) #[.int .i64 0, .slice none 0 0] 33) := hid (by have := Blk.new ((w.alloc (.cells #[.int .i64 c.w, .int .i64 c.tl, .int .i64 c.ml, .int .i64 c.sh, .int .i64 c.ha, .int .i64 c.sg] 29)).alloc (.cells #[.int .i64 now, .slice a ts.length cap] 33)) #[.int .i64 0, .slice none 0 0] 33; simpa using this)
    go_wp2_with fail
    refine (HO.out _ B0.out).mono ?_
    rintro e w1 ⟨rfl, hb⟩
    have HB : Hid (Below w.heap.size w w1) := bto B0.out hb
    have RB : Hid (Blk w1 (w.heap.size + 1 + 1) #[.int .i64 0, .slice none 0 0] 33) := R0.out.later hb
    have y0 : w1.cell? ⟨w.heap.size + 1 + 1, 0, none⟩ = some (.int .i64 0) := RB.out.cell 0
    have y1 : w1.cell? ⟨w.heap.size + 1 + 1, 1, none⟩ = some (.slice none 0 0) := RB.out.cell 1
    have f0 := RB.out.free 0
    have f1 := RB.out.free 1
    have hwl : w.heap.size + 1 + 1 < w1.heap.size := lt_of_block RB.out
    clear hb
    go_wp2
    refine bodyPost_ret (v := .tuple #[.agg #[.int .i64 0, .slice none 0 0], .bool false]) (by simp [results, Tryz.results15, go_sem, y0, y1]) rfl ?_
    rw [HV2.out]
    refine ⟨none, 0, rfl, Or.inl rfl, ?_⟩
    first
      | exact (HB.out.setCell (by show w.heap.size ≤ w.heap.size + 1 + 1; omega) _).setCell (by show w.heap.size ≤ w.heap.size + 1 + 1; omega) _
      | exact HB.out
  have h0' : stateB c now ts = true := by simpa using h0
  obtain ⟨hcf, hn0, hn1, hlen, htens⟩ := tens_of h0'
  have hfs := fitS_of hbk
  have HSM : Hid (∀ W, Below w.heap.size w W → Calls Tryz.prog 39 #[cfgV c, .agg #[.int .i64 now, .slice a ts.length cap]] W fun e w' => ∃ a' cap', e = .returned (.agg #[.int .i64 now, .slice a' ts.length cap']) ∧ TensOwn w' W.heap.size a' ts ∧ Below W.heap.size W w') := fun W hW => l4Same_any c now a cap ts W (hf.later hW) h0' hbk
  obtain ⟨_, _, _, hf4, hf5⟩ := tenOf_fit hfs hn
  have hlv : ∀ x ∈ (tenOf ts tenant).sers, now - x.n < c.w := tenOf_live htens
  have hfw : FitW (tenOf ts tenant) := by
    rcases tenOf_in (ts := ts) (name := tenant) with ⟨hmm, _⟩ | ⟨e, _⟩
    · exact fitW_of h0' hbk _ hmm
    · rw [e]; exact ⟨Nat.zero_le _, Nat.zero_le _, fun i h => absurd h (by simp)⟩
  have hrm : RiseBy (·.s) (tenOf ts tenant).mets := by
    rcases tenOf_in (ts := ts) (name := tenant) with ⟨hmm, _⟩ | ⟨e, _⟩
    · have h1 := (ten_parts (tens_at htens _ hmm)).2.1
      have := mets_rise (n := (tenOf ts tenant).mets.length) h1 (Nat.le_refl _)
      rwa [List.take_length] at this
    · rw [e]; exact List.Pairwise.nil
  have HKP : Hid (∀ W a1 a2 c1 c2, PairsIn W a1 (tenOf ts tenant).mets → PairsIn W a2 (tenOf ts tenant).sers → Calls Tryz.prog 40 #[.agg #[.string (tenOf ts tenant).name, .int .i64 (tenOf ts tenant).limit, .slice a1 (tenOf ts tenant).mets.length c1, .slice a2 (tenOf ts tenant).sers.length c2], .int .i64 now, .int .i64 c.w] W fun e w' => TelOut W (tenOf ts tenant).name (tenOf ts tenant) e w') := fun W a1 a2 c1 c2 p1 p2 => by
    have := l4Kept_any (tenOf ts tenant) a1 a2 c1 c2 now c.w W p1 p2 (by omega) (by omega) hn0 (by omega) hfw.2.2
    rw [kept_same hlv] at this
    exact this
  unfold TelOut at HKP
  have HWI : Hid (∀ W nm L ms ss q1 q2 e1 e2, Below w.heap.size w W → PairsIn W q1 ms → PairsIn W q2 ss → (FitW ⟨nm, L, ms, ss⟩ ∧ nm = tenant ∧ tenant.toList.isEmpty = false) → Calls Tryz.prog 41 #[cfgV c, .agg #[.int .i64 now, .slice a ts.length cap], .int .i64 now, .agg #[.string nm, .int .i64 L, .slice q1 ms.length e1, .slice q2 ss.length e2]] W fun e w' => ∃ a' cap', e = .returned (.agg #[.int .i64 now, .slice a' (keptTs c.w now (insBy (·.name) ⟨nm, L, ms, ss⟩ ts)).length cap']) ∧ TensOwn w' W.heap.size a' (keptTs c.w now (insBy (·.name) ⟨nm, L, ms, ss⟩ ts)) ∧ Below W.heap.size W w') := fun W nm L ms ss q1 q2 e1 e2 hW p1 p2 hft => by
    have := l4With_any c now now a cap ts ⟨nm, L, ms, ss⟩ q1 q2 e1 e2 W (hf.later hW) p1 p2 (by omega) (fun x hx => by
      rcases hx with rfl | hx
      · exact hft.1
      · exact fitW_of h0' hbk x hx) hn0 (by omega)
    have e : (⟨nm, L, ms, ss⟩ : TenD).name.toList.isEmpty = false := by show nm.toList.isEmpty = false; rw [hft.2.1]; exact hft.2.2
    rw [e, wAll_ins (tens_up htens)] at this
    exact this
  have HNM : Hid ((tenOf ts tenant).name = tenant) := tenOf_name
  have HFT := hid hfw
  have HRM := hid hrm
  have HFM : Hid ((tenOf ts tenant).mets.length ≤ 1048576) := hf4
  have HLE0 : Hid (∀ b, (pAll ⟨metric, limit⟩ b (tenOf ts tenant).mets).length ≤ 1048577) := fun b => by have := pAll_le ⟨metric, limit⟩ b _ hrm; omega
  have HV1 : Hid (setLimV c now ts tenant metric limit = if (tnameB tenant && (metric.toList.isEmpty || mnameB metric) && btwB limit (-1) 1000000) = false then (now, ts, false) else if 10000 < (keptTs c.w now (insBy (·.name) (limT (tenOf ts tenant) metric limit) ts)).length then (now, ts, false) else (now, keptTs c.w now (insBy (·.name) (limT (tenOf ts tenant) metric limit) ts), true)) := by show _ = _; rw [HV.out, if_neg h0]
  have HLE : Hid (∀ (b : Bool) (ys : List PairD) (PU : Bool) (LU : List PairD), pAll ⟨metric, limit⟩ b (tenOf ts tenant).mets = LU ++ (if PU = true then [] else [(⟨metric, limit⟩ : PairD)]) → ys = LU → ys.length ≤ 1048577) := fun b ys PU LU h1 h2 => by
    have h3 := HLE0.out b
    rw [h1, List.length_append, ← h2] at h3
    omega
  rw [h0'] at HO
  clear hf HV h0 h0' f1 f2 f3 f4 hcf hlen htens hfs hf4 hf5 hlv hfw hrm HLE0
  generalize setLimV c now ts tenant metric limit = V at *
  generalize tenOf ts tenant = tn at *
  obtain ⟨ti, hti, hz0, hz1, hz2⟩ := info_parts info_mlK
  have HI : Hid (Tryz.prog.info? 59 = some ti) := hti
  clear hti
  unfold cfgV at *
  go_enter Tryz.func15, Tryz.ntmps15
  have B0 : Hid (Below w.heap.size w (((w.alloc (.cells #[.int .i64 c.w, .int .i64 c.tl, .int .i64 c.ml, .int .i64 c.sh, .int .i64 c.ha, .int .i64 c.sg] 29)).alloc (.cells #[.int .i64 now, .slice a ts.length cap] 33)).alloc (.cells #[.int .i64 0, .slice none 0 0] 33))) := bto (bto (bnew _ _) (bnew _ _)) (bnew _ _)
  have C0 : Hid (Blk (((w.alloc (.cells #[.int .i64 c.w, .int .i64 c.tl, .int .i64 c.ml, .int .i64 c.sh, .int .i64 c.ha, .int .i64 c.sg] 29)).alloc (.cells #[.int .i64 now, .slice a ts.length cap] 33)).alloc (.cells #[.int .i64 0, .slice none 0 0] 33)) w.heap.size #[.int .i64 c.w, .int .i64 c.tl, .int .i64 c.ml, .int .i64 c.sh, .int .i64 c.ha, .int .i64 c.sg] 29) := (((Blk.new _ _ _).alloc _).alloc _)
  have S0 : Hid (Blk (((w.alloc (.cells #[.int .i64 c.w, .int .i64 c.tl, .int .i64 c.ml, .int .i64 c.sh, .int .i64 c.ha, .int .i64 c.sg] 29)).alloc (.cells #[.int .i64 now, .slice a ts.length cap] 33)).alloc (.cells #[.int .i64 0, .slice none 0 0] 33)) (w.heap.size + 1) #[.int .i64 now, .slice a ts.length cap] 33) := hid (by have := (Blk.new (w.alloc (.cells #[.int .i64 c.w, .int .i64 c.tl, .int .i64 c.ml, .int .i64 c.sh, .int .i64 c.ha, .int .i64 c.sg] 29)) #[.int .i64 now, .slice a ts.length cap] 33).alloc (.cells #[.int .i64 0, .slice none 0 0] 33); simpa using this)
  have R0 : Hid (Blk (((w.alloc (.cells #[.int .i64 c.w, .int .i64 c.tl, .int .i64 c.ml, .int .i64 c.sh, .int .i64 c.ha, .int .i64 c.sg] 29)).alloc (.cells #[.int .i64 now, .slice a ts.length cap] 33)).alloc (.cells #[.int .i64 0, .slice none 0 0] 33)) (w.heap.size + 1 + 1) #[.int .i64 0, .slice none 0 0] 33) := hid (by have := Blk.new ((w.alloc (.cells #[.int .i64 c.w, .int .i64 c.tl, .int .i64 c.ml, .int .i64 c.sh, .int .i64 c.ha, .int .i64 c.sg] 29)).alloc (.cells #[.int .i64 now, .slice a ts.length cap] 33)) #[.int .i64 0, .slice none 0 0] 33; simpa using this)
  go_wp2_with fail
  refine (HO.out _ B0.out).mono ?_
  rintro e wv ⟨rfl, hb1⟩
  have Cv : Hid (Blk wv w.heap.size #[.int .i64 c.w, .int .i64 c.tl, .int .i64 c.ml, .int .i64 c.sh, .int .i64 c.ha, .int .i64 c.sg] 29) := C0.out.later hb1
  have Sv : Hid (Blk wv (w.heap.size + 1) #[.int .i64 now, .slice a ts.length cap] 33) := S0.out.later hb1
  have Rv : Hid (Blk wv (w.heap.size + 1 + 1) #[.int .i64 0, .slice none 0 0] 33) := R0.out.later hb1
  have Bv : Hid (Below w.heap.size w wv) := bto B0.out hb1
  clear hb1 HO B0 C0 S0 R0
  by_cases h1 : tnameB tenant = false
  · have HVE : Hid (V = (now, ts, false)) := by show _ = _; rw [HV1.out, if_pos (by rw [h1]; rfl)]
    rw [h1] at HTN
    go_wp2_with fail
    refine (HTN.out _).mono ?_
    rintro e w2 ⟨rfl, hw⟩
    replace hw := hw.symm
    subst hw
    have bvx0 : wv.cell? ⟨w.heap.size, 0, none⟩ = some (.int .i64 c.w) := Cv.out.cell 0
    have bvx1 : wv.cell? ⟨w.heap.size, 1, none⟩ = some (.int .i64 c.tl) := Cv.out.cell 1
    have bvx2 : wv.cell? ⟨w.heap.size, 2, none⟩ = some (.int .i64 c.ml) := Cv.out.cell 2
    have bvx3 : wv.cell? ⟨w.heap.size, 3, none⟩ = some (.int .i64 c.sh) := Cv.out.cell 3
    have bvx4 : wv.cell? ⟨w.heap.size, 4, none⟩ = some (.int .i64 c.ha) := Cv.out.cell 4
    have bvx5 : wv.cell? ⟨w.heap.size, 5, none⟩ = some (.int .i64 c.sg) := Cv.out.cell 5
    have bvy0 : wv.cell? ⟨w.heap.size + 1, 0, none⟩ = some (.int .i64 now) := Sv.out.cell 0
    have bvy1 : wv.cell? ⟨w.heap.size + 1, 1, none⟩ = some (.slice a ts.length cap) := Sv.out.cell 1
    go_wp2_with fail
    refine (HSM.out _ Bv.out).mono ?_
    rintro e w9 ⟨ra, rc, rfl, ho9, hb9⟩
    have HO9 : Hid (TensOwn w9 wv.heap.size ra ts) := ho9
    have R9 : Hid (Blk w9 (w.heap.size + 1 + 1) #[.int .i64 0, .slice none 0 0] 33) := Rv.out.later hb9
    have B9 : Hid (Below w.heap.size w w9) := bto Bv.out hb9
    have hwv : w.heap.size + 1 + 1 < wv.heap.size := lt_of_block Rv.out
    clear ho9 hb9
    have z0 : w9.cell? ⟨w.heap.size + 1 + 1, 0, none⟩ = some (.int .i64 0) := R9.out.cell 0
    have z1 : w9.cell? ⟨w.heap.size + 1 + 1, 1, none⟩ = some (.slice none 0 0) := R9.out.cell 1
    have f0 := R9.out.free 0
    have f1 := R9.out.free 1
    have hwl : w.heap.size + 1 + 1 < w9.heap.size := lt_of_block R9.out
    go_wp2
    have HTE9 : Turn (· = w.heap.size + 1 + 1) w9 ((w9.setCell ⟨w.heap.size + 1 + 1, 0, none⟩ (.int .i64 now)).setCell ⟨w.heap.size + 1 + 1, 1, none⟩ (.slice ra ts.length rc)) := ((Turn.refl (· = w.heap.size + 1 + 1) w9).setCell (Or.inl rfl) 0 _).setCell (Or.inl rfl) 1 _
    refine bodyPost_ret (v := .tuple #[.agg #[.int .i64 now, .slice ra ts.length rc], .bool false]) (by simp [results, Tryz.results15, go_sem, z0, z1]) rfl ?_
    rw [HVE.out]
    have ho : TensOwn ((w9.setCell ⟨w.heap.size + 1 + 1, 0, none⟩ (.int .i64 now)).setCell ⟨w.heap.size + 1 + 1, 1, none⟩ (.slice ra ts.length rc)) w.heap.size ra ts := (TensOwn.turned HO9.out HTE9 (fun g h1 h2 e => by omega)).mono (by omega)
    have hbe : Below w.heap.size w ((w9.setCell ⟨w.heap.size + 1 + 1, 0, none⟩ (.int .i64 now)).setCell ⟨w.heap.size + 1 + 1, 1, none⟩ (.slice ra ts.length rc)) := ((Turn.of (S := fun i => w.heap.size ≤ i) B9.out).trans' (HTE9.mono fun i _ e => by omega)).below (Nat.le_refl _) fun i hi h => by omega
    first
      | exact ⟨ra, ⟨rc, rfl⟩, ho, hbe⟩
      | exact ⟨ra, rc, rfl, ho, hbe⟩
  have h1' : tnameB tenant = true := by simpa using h1
  have HNE : Hid (tenant.toList.isEmpty = false) := tname_some h1'
  rw [h1'] at HTN HV1
  clear h1 h1'
  by_cases hme : metric.toList.isEmpty = true
  · rw [hme] at HV1
    by_cases h3 : btwB limit (-1) 1000000 = false
    · have HVE : Hid (V = (now, ts, false)) := by show _ = _; rw [HV1.out, if_pos (by rw [h3]; rfl)]
      rw [h3] at HLB
      go_wp2_with fail
      refine (HTN.out _).mono ?_
      rintro e w2 ⟨rfl, hw⟩
      replace hw := hw.symm
      subst hw
      go_wp2_with fail
      refine (HLB.out _).mono ?_
      rintro e w2 ⟨rfl, hw⟩
      replace hw := hw.symm
      subst hw
      have bvx0 : wv.cell? ⟨w.heap.size, 0, none⟩ = some (.int .i64 c.w) := Cv.out.cell 0
      have bvx1 : wv.cell? ⟨w.heap.size, 1, none⟩ = some (.int .i64 c.tl) := Cv.out.cell 1
      have bvx2 : wv.cell? ⟨w.heap.size, 2, none⟩ = some (.int .i64 c.ml) := Cv.out.cell 2
      have bvx3 : wv.cell? ⟨w.heap.size, 3, none⟩ = some (.int .i64 c.sh) := Cv.out.cell 3
      have bvx4 : wv.cell? ⟨w.heap.size, 4, none⟩ = some (.int .i64 c.ha) := Cv.out.cell 4
      have bvx5 : wv.cell? ⟨w.heap.size, 5, none⟩ = some (.int .i64 c.sg) := Cv.out.cell 5
      have bvy0 : wv.cell? ⟨w.heap.size + 1, 0, none⟩ = some (.int .i64 now) := Sv.out.cell 0
      have bvy1 : wv.cell? ⟨w.heap.size + 1, 1, none⟩ = some (.slice a ts.length cap) := Sv.out.cell 1
      go_wp2_with fail
      refine (HSM.out _ Bv.out).mono ?_
      rintro e w9 ⟨ra, rc, rfl, ho9, hb9⟩
      have HO9 : Hid (TensOwn w9 wv.heap.size ra ts) := ho9
      have R9 : Hid (Blk w9 (w.heap.size + 1 + 1) #[.int .i64 0, .slice none 0 0] 33) := Rv.out.later hb9
      have B9 : Hid (Below w.heap.size w w9) := bto Bv.out hb9
      have hwv : w.heap.size + 1 + 1 < wv.heap.size := lt_of_block Rv.out
      clear ho9 hb9
      have z0 : w9.cell? ⟨w.heap.size + 1 + 1, 0, none⟩ = some (.int .i64 0) := R9.out.cell 0
      have z1 : w9.cell? ⟨w.heap.size + 1 + 1, 1, none⟩ = some (.slice none 0 0) := R9.out.cell 1
      have f0 := R9.out.free 0
      have f1 := R9.out.free 1
      have hwl : w.heap.size + 1 + 1 < w9.heap.size := lt_of_block R9.out
      go_wp2
      have HTE9 : Turn (· = w.heap.size + 1 + 1) w9 ((w9.setCell ⟨w.heap.size + 1 + 1, 0, none⟩ (.int .i64 now)).setCell ⟨w.heap.size + 1 + 1, 1, none⟩ (.slice ra ts.length rc)) := ((Turn.refl (· = w.heap.size + 1 + 1) w9).setCell (Or.inl rfl) 0 _).setCell (Or.inl rfl) 1 _
      refine bodyPost_ret (v := .tuple #[.agg #[.int .i64 now, .slice ra ts.length rc], .bool false]) (by simp [results, Tryz.results15, go_sem, z0, z1]) rfl ?_
      rw [HVE.out]
      have ho : TensOwn ((w9.setCell ⟨w.heap.size + 1 + 1, 0, none⟩ (.int .i64 now)).setCell ⟨w.heap.size + 1 + 1, 1, none⟩ (.slice ra ts.length rc)) w.heap.size ra ts := (TensOwn.turned HO9.out HTE9 (fun g h1 h2 e => by omega)).mono (by omega)
      have hbe : Below w.heap.size w ((w9.setCell ⟨w.heap.size + 1 + 1, 0, none⟩ (.int .i64 now)).setCell ⟨w.heap.size + 1 + 1, 1, none⟩ (.slice ra ts.length rc)) := ((Turn.of (S := fun i => w.heap.size ≤ i) B9.out).trans' (HTE9.mono fun i _ e => by omega)).below (Nat.le_refl _) fun i hi h => by omega
      first
        | exact ⟨ra, ⟨rc, rfl⟩, ho, hbe⟩
        | exact ⟨ra, rc, rfl, ho, hbe⟩
    have h3' : btwB limit (-1) 1000000 = true := by simpa using h3
    have HV : Hid (V = if 10000 < (keptTs c.w now (insBy (·.name) (limT tn metric limit) ts)).length then (now, ts, false) else (now, keptTs c.w now (insBy (·.name) (limT tn metric limit) ts), true)) := by show _ = _; rw [HV1.out, if_neg (by rw [h3']; simp)]
    rw [h3'] at HLB
    clear h3 h3' HV1
    go_wp2_with fail
    refine (HTN.out _).mono ?_
    rintro e w2 ⟨rfl, hw⟩
    replace hw := hw.symm
    subst hw
    go_wp2_with fail
    refine (HLB.out _).mono ?_
    rintro e w2 ⟨rfl, hw⟩
    replace hw := hw.symm
    subst hw
    have HK : Hid (∀ w', Below wv.heap.size wv w' → w'.cell? ⟨w.heap.size + 1, 0, none⟩ = some (.int .i64 now) ∧ w'.cell? ⟨w.heap.size + 1, 1, none⟩ = some (.slice a ts.length cap) ∧ w'.cell? ⟨w.heap.size, 0, none⟩ = some (.int .i64 c.w)) := fun w' h => by
      have q := Cv.out.later h
      have p := Sv.out.later h
      exact ⟨p.cell 0, p.cell 1, q.cell 0⟩
    obtain ⟨vy0, vy1, vx0⟩ := HK.out wv (Below.refl _ _)
    have hsv : w.heap.size + 1 + 1 < wv.heap.size := lt_of_block Rv.out
    go_upto_region 5 with fail
    go_cut [12] (fun p wx => ∃ X, p = .pointer (some ⟨X, 0, none⟩) ∧ KX wv X tn wx)
    case first =>
      go_region_held3 (fun w' => w'.cell? ⟨w.heap.size + 1, 0, none⟩ = some (.int .i64 now) ∧ w'.cell? ⟨w.heap.size + 1, 1, none⟩ = some (.slice a ts.length cap) ∧ w'.cell? ⟨w.heap.size, 0, none⟩ = some (.int .i64 c.w))
        (first | go_keep | with_reducible exact HK.out _ (set4 k4 (Nat.le_refl _)) | with_reducible exact HK.out _ (set4 k4 k3.size) | with_reducible exact HK.out _ k4 | with_reducible exact HK.out _ k3 | with_reducible exact HK.out _ (bto k3 (bnew _ _)) | with_reducible exact HK.out _ ((bnew _ _).drew) | with_reducible exact HK.out _ (bto k4 (bnew _ _)))
        (first
          | (go_at_call 35; refine (HTE.out _ (by with_reducible exact Bv.out.drew)).mono ?_; rintro e w3 ⟨⟨a1, c1, a2, c2, rfl, p1, p2⟩, hb3⟩; have k3 : Below wv.heap.size wv w3 := (by with_reducible exact bto (Below.refl _ _).drew hb3); have c3 := HK.out _ k3)
          | (go_at_call 35; refine (HTE.out _ (by with_reducible exact (bto Bv.out (bnew _ _)).drew)).mono ?_; rintro e w3 ⟨⟨a1, c1, a2, c2, rfl, p1, p2⟩, hb3⟩; have k3 : Below wv.heap.size wv w3 := (by with_reducible exact bto ((bnew _ _).drew) hb3); have c3 := HK.out _ k3; have hX3 : Blk w3 wv.heap.size #[.string ⟨#[]⟩, .int .i64 0, .slice none 0 0, .slice none 0 0] 55 := blk_drewS hb3)
          | (have q := hX3; clear q; go_at_call 40; refine (HKP.out _ a1 a2 c1 c2 (by with_reducible exact p1) (by with_reducible exact p2)).mono ?_; rintro e w4 ⟨M, q1, e1, q2, e2, rfl, hM, h1, h1M, h2, hM4, hb4⟩; have k4 : Below wv.heap.size wv w4 := (by with_reducible exact bto k3 hb4); have c4 := HK.out _ k4; have BX4 : Hid (Blk w4 wv.heap.size #[.string ⟨#[]⟩, .int .i64 0, .slice none 0 0, .slice none 0 0] 55) := hid (hX3.later hb4); have s0 := BX4.out.cell 0; have s1 := BX4.out.cell 1; have s2 := BX4.out.cell 2; have s3 := BX4.out.cell 3; have f0 := BX4.out.free 0; have f1 := BX4.out.free 1; have f2 := BX4.out.free 2; have f3 := BX4.out.free 3)
          | ((fail_if_success (have q := hX3)); go_at_call 40; refine (HKP.out _ a1 a2 c1 c2 (by with_reducible exact p1) (by with_reducible exact p2)).mono ?_; rintro e w4 ⟨M, q1, e1, q2, e2, rfl, hM, h1, h1M, h2, hM4, hb4⟩; have k4 : Below wv.heap.size wv w4 := (by with_reducible exact bto k3 hb4); have c4 := HK.out _ k4)
          | (go_at_call 40; refine (HKP.out _ a1 a2 c1 c2 (by with_reducible exact p1.later (bnew _ _)) (by with_reducible exact p2.later (bnew _ _))).mono ?_; rintro e w4 ⟨M, q1, e1, q2, e2, rfl, hM, h1, h1M, h2, hM4, hb4⟩; have k4 : Below wv.heap.size wv w4 := (by with_reducible exact bto (bto k3 (bnew _ _)) hb4); have c4 := HK.out _ k4; have BX4 : Hid (Blk w4 w3.heap.size #[.string ⟨#[]⟩, .int .i64 0, .slice none 0 0, .slice none 0 0] 55) := hid ((Blk.new w3 _ _).later hb4); have s0 := BX4.out.cell 0; have s1 := BX4.out.cell 1; have s2 := BX4.out.cell 2; have s3 := BX4.out.cell 3; have f0 := BX4.out.free 0; have f1 := BX4.out.free 1; have f2 := BX4.out.free 2; have f3 := BX4.out.free 3))
      all_goals (go_wp2_with fail; go_meet)
      all_goals first
        | with_reducible exact ⟨_, rfl, kx_new h1 h2 k4⟩
        | exact ⟨_, rfl, kx_old h1 h2 (by have := lt_of_block hX3; omega) hM (Nat.le_refl _) BX4.out k4⟩
        | exact ⟨_, rfl, kx_old h1 h2 (by simp) hM k3.size BX4.out k4⟩
    obtain ⟨X, rfl, q1, e1, q2, e2, hXb, hPI, hXw, hb3⟩ := hcut
    rename World => w3
    have HXB := hid hXb
    have HPI := hid hPI
    have C3 : Hid (Blk w3 w.heap.size #[.int .i64 c.w, .int .i64 c.tl, .int .i64 c.ml, .int .i64 c.sh, .int .i64 c.ha, .int .i64 c.sg] 29) := Cv.out.later hb3
    have S3 : Hid (Blk w3 (w.heap.size + 1) #[.int .i64 now, .slice a ts.length cap] 33) := Sv.out.later hb3
    have R3 : Hid (Blk w3 (w.heap.size + 1 + 1) #[.int .i64 0, .slice none 0 0] 33) := Rv.out.later hb3
    have B3 : Hid (Below w.heap.size w w3) := bto Bv.out hb3
    have hX3 : X < w3.heap.size := lt_of_block hXb
    clear HK vy0 vy1 vx0 hXb hPI hb3 HTE HKP
    have g1 : w3.cell? ⟨X, 1, none⟩ = some (.int .i64 tn.limit) := HXB.out.cell 1
    have f1x := HXB.out.free 1
    have HTX : Hid (Turn (· = X) w3 (w3.setCell ⟨X, 1, none⟩ (.int .i64 limit))) := (Turn.refl (· = X) w3).setCell (Or.inl rfl) 1 _
    have X7 : Hid (Blk (w3.setCell ⟨X, 1, none⟩ (.int .i64 limit)) X #[.string tn.name, .int .i64 limit, .slice q1 tn.mets.length e1, .slice q2 tn.sers.length e2] 55) := hid (by have := HXB.out.set 1 (.int .i64 limit); simpa using this)
    have P17 : Hid (PairsIn (w3.setCell ⟨X, 1, none⟩ (.int .i64 limit)) q1 tn.mets) := (HPI.out _ HTX.out).1
    have P27 : Hid (PairsIn (w3.setCell ⟨X, 1, none⟩ (.int .i64 limit)) q2 tn.sers) := (HPI.out _ HTX.out).2
    have C7 : Hid (Blk (w3.setCell ⟨X, 1, none⟩ (.int .i64 limit)) w.heap.size #[.int .i64 c.w, .int .i64 c.tl, .int .i64 c.ml, .int .i64 c.sh, .int .i64 c.ha, .int .i64 c.sg] 29) := HTX.out.blk C3.out (by omega)
    have S7 : Hid (Blk (w3.setCell ⟨X, 1, none⟩ (.int .i64 limit)) (w.heap.size + 1) #[.int .i64 now, .slice a ts.length cap] 33) := HTX.out.blk S3.out (by omega)
    have R7 : Hid (Blk (w3.setCell ⟨X, 1, none⟩ (.int .i64 limit)) (w.heap.size + 1 + 1) #[.int .i64 0, .slice none 0 0] 33) := HTX.out.blk R3.out (by omega)
    have B7 : Hid (Below w.heap.size w (w3.setCell ⟨X, 1, none⟩ (.int .i64 limit))) := B3.out.trans (HTX.out.below (by have := B3.out.size; omega) fun i hi e => by omega)
    have HT7 : Hid (limT tn metric limit = ⟨tn.name, limit, tn.mets, tn.sers⟩) := by show _ = _; unfold limT; rw [if_pos hme]
    have HF7 : Hid (FitW ⟨tn.name, limit, tn.mets, tn.sers⟩ ∧ tn.name = tenant ∧ tenant.toList.isEmpty = false) := ⟨HFT.out, HNM.out, HNE.out⟩
    go_upto_region 22 with fail
    clear g1 f1x HTX C3 S3 R3 B3 HXB HPI hsv
    generalize (w3.setCell ⟨X, 1, none⟩ (.int .i64 limit)) = w7 at *
    have m0 : w7.cell? ⟨X, 0, none⟩ = some (.string tn.name) := X7.out.cell 0
    have m1 : w7.cell? ⟨X, 1, none⟩ = some (.int .i64 limit) := X7.out.cell 1
    have m2 : w7.cell? ⟨X, 2, none⟩ = some (.slice q1 tn.mets.length e1) := X7.out.cell 2
    have m3 : w7.cell? ⟨X, 3, none⟩ = some (.slice q2 tn.sers.length e2) := X7.out.cell 3
    have b7x0 : w7.cell? ⟨w.heap.size, 0, none⟩ = some (.int .i64 c.w) := C7.out.cell 0
    have b7x1 : w7.cell? ⟨w.heap.size, 1, none⟩ = some (.int .i64 c.tl) := C7.out.cell 1
    have b7x2 : w7.cell? ⟨w.heap.size, 2, none⟩ = some (.int .i64 c.ml) := C7.out.cell 2
    have b7x3 : w7.cell? ⟨w.heap.size, 3, none⟩ = some (.int .i64 c.sh) := C7.out.cell 3
    have b7x4 : w7.cell? ⟨w.heap.size, 4, none⟩ = some (.int .i64 c.ha) := C7.out.cell 4
    have b7x5 : w7.cell? ⟨w.heap.size, 5, none⟩ = some (.int .i64 c.sg) := C7.out.cell 5
    have b7y0 : w7.cell? ⟨w.heap.size + 1, 0, none⟩ = some (.int .i64 now) := S7.out.cell 0
    have b7y1 : w7.cell? ⟨w.heap.size + 1, 1, none⟩ = some (.slice a ts.length cap) := S7.out.cell 1
    have HV7 : Hid (V = if 10000 < (keptTs c.w now (insBy (·.name) ⟨tn.name, limit, tn.mets, tn.sers⟩ ts)).length then (now, ts, false) else (now, keptTs c.w now (insBy (·.name) ⟨tn.name, limit, tn.mets, tn.sers⟩ ts), true)) := by show _ = _; rw [HV.out, HT7.out]
    go_wp2_with fail
    refine (HWI.out _ tn.name limit tn.mets tn.sers q1 q2 e1 e2 B7.out P17.out P27.out HF7.out).mono ?_
    rintro e w8 ⟨ra, rc, rfl, ho8, hb8⟩
    have HO8 := hid ho8
    have C8 : Hid (Blk w8 w.heap.size #[.int .i64 c.w, .int .i64 c.tl, .int .i64 c.ml, .int .i64 c.sh, .int .i64 c.ha, .int .i64 c.sg] 29) := C7.out.later hb8
    have S8 : Hid (Blk w8 (w.heap.size + 1) #[.int .i64 now, .slice a ts.length cap] 33) := S7.out.later hb8
    have R8 : Hid (Blk w8 (w.heap.size + 1 + 1) #[.int .i64 0, .slice none 0 0] 33) := R7.out.later hb8
    have B8 : Hid (Below w.heap.size w w8) := bto B7.out hb8
    have hs78 := hb8.size
    have hr7 : w.heap.size + 1 + 1 < w7.heap.size := lt_of_block R7.out
    clear ho8 hb8 HV
    generalize keptTs c.w now (insBy (·.name) ⟨tn.name, limit, tn.mets, tn.sers⟩ ts) = RL at *
    have CA : Hid (Blk (w8.alloc (.cells #[.int .i64 now, .slice ra RL.length rc] 33)) w.heap.size #[.int .i64 c.w, .int .i64 c.tl, .int .i64 c.ml, .int .i64 c.sh, .int .i64 c.ha, .int .i64 c.sg] 29) := C8.out.later (bnew _ _)
    have SA : Hid (Blk (w8.alloc (.cells #[.int .i64 now, .slice ra RL.length rc] 33)) (w.heap.size + 1) #[.int .i64 now, .slice a ts.length cap] 33) := S8.out.later (bnew _ _)
    have RA : Hid (Blk (w8.alloc (.cells #[.int .i64 now, .slice ra RL.length rc] 33)) (w.heap.size + 1 + 1) #[.int .i64 0, .slice none 0 0] 33) := R8.out.later (bnew _ _)
    have BA : Hid (Below w.heap.size w (w8.alloc (.cells #[.int .i64 now, .slice ra RL.length rc] 33))) := bto B8.out (bnew _ _)
    by_cases hgt : 10000 < RL.length
    · have HVE : Hid (V = (now, ts, false)) := by show _ = _; rw [HV7.out, if_pos hgt]
      have hgi : (10000 : Int) < RL.length := by omega
      clear HO8
      go_upto_region 24 with fail
      generalize (w8.alloc (.cells #[.int .i64 now, .slice ra RL.length rc] 33)) = wA at *
      have bAx0 : wA.cell? ⟨w.heap.size, 0, none⟩ = some (.int .i64 c.w) := CA.out.cell 0
      have bAx1 : wA.cell? ⟨w.heap.size, 1, none⟩ = some (.int .i64 c.tl) := CA.out.cell 1
      have bAx2 : wA.cell? ⟨w.heap.size, 2, none⟩ = some (.int .i64 c.ml) := CA.out.cell 2
      have bAx3 : wA.cell? ⟨w.heap.size, 3, none⟩ = some (.int .i64 c.sh) := CA.out.cell 3
      have bAx4 : wA.cell? ⟨w.heap.size, 4, none⟩ = some (.int .i64 c.ha) := CA.out.cell 4
      have bAx5 : wA.cell? ⟨w.heap.size, 5, none⟩ = some (.int .i64 c.sg) := CA.out.cell 5
      have bAy0 : wA.cell? ⟨w.heap.size + 1, 0, none⟩ = some (.int .i64 now) := SA.out.cell 0
      have bAy1 : wA.cell? ⟨w.heap.size + 1, 1, none⟩ = some (.slice a ts.length cap) := SA.out.cell 1
      go_wp2_with fail
      refine (HSM.out _ BA.out).mono ?_
      rintro e w9 ⟨ra, rc, rfl, ho9, hb9⟩
      have HO9 : Hid (TensOwn w9 wA.heap.size ra ts) := ho9
      have R9 : Hid (Blk w9 (w.heap.size + 1 + 1) #[.int .i64 0, .slice none 0 0] 33) := RA.out.later hb9
      have B9 : Hid (Below w.heap.size w w9) := bto BA.out hb9
      have hwv : w.heap.size + 1 + 1 < wA.heap.size := lt_of_block RA.out
      clear ho9 hb9
      have z0 : w9.cell? ⟨w.heap.size + 1 + 1, 0, none⟩ = some (.int .i64 0) := R9.out.cell 0
      have z1 : w9.cell? ⟨w.heap.size + 1 + 1, 1, none⟩ = some (.slice none 0 0) := R9.out.cell 1
      have f0 := R9.out.free 0
      have f1 := R9.out.free 1
      have hwl : w.heap.size + 1 + 1 < w9.heap.size := lt_of_block R9.out
      go_wp2
      have HTE9 : Turn (· = w.heap.size + 1 + 1) w9 ((w9.setCell ⟨w.heap.size + 1 + 1, 0, none⟩ (.int .i64 now)).setCell ⟨w.heap.size + 1 + 1, 1, none⟩ (.slice ra ts.length rc)) := ((Turn.refl (· = w.heap.size + 1 + 1) w9).setCell (Or.inl rfl) 0 _).setCell (Or.inl rfl) 1 _
      refine bodyPost_ret (v := .tuple #[.agg #[.int .i64 now, .slice ra ts.length rc], .bool false]) (by simp [results, Tryz.results15, go_sem, z0, z1]) rfl ?_
      rw [HVE.out]
      have ho : TensOwn ((w9.setCell ⟨w.heap.size + 1 + 1, 0, none⟩ (.int .i64 now)).setCell ⟨w.heap.size + 1 + 1, 1, none⟩ (.slice ra ts.length rc)) w.heap.size ra ts := (TensOwn.turned HO9.out HTE9 (fun g h1 h2 e => by omega)).mono (by omega)
      have hbe : Below w.heap.size w ((w9.setCell ⟨w.heap.size + 1 + 1, 0, none⟩ (.int .i64 now)).setCell ⟨w.heap.size + 1 + 1, 1, none⟩ (.slice ra ts.length rc)) := ((Turn.of (S := fun i => w.heap.size ≤ i) B9.out).trans' (HTE9.mono fun i _ e => by omega)).below (Nat.le_refl _) fun i hi h => by omega
      first
        | exact ⟨ra, ⟨rc, rfl⟩, ho, hbe⟩
        | exact ⟨ra, rc, rfl, ho, hbe⟩
    · have HVE : Hid (V = (now, RL, true)) := by show _ = _; rw [HV7.out, if_neg hgt]
      have hgi : ¬ ((10000 : Int) < RL.length) := by omega
      have HO9 : Hid (TensOwn (w8.alloc (.cells #[.int .i64 now, .slice ra RL.length rc] 33)) w7.heap.size ra RL) := HO8.out.later (bnew _ _)
      have n0 : (w8.alloc (.cells #[.int .i64 now, .slice ra RL.length rc] 33)).cell? ⟨w8.heap.size, 0, none⟩ = some (.int .i64 now) := (Blk.new _ _ _).cell 0
      have n1 : (w8.alloc (.cells #[.int .i64 now, .slice ra RL.length rc] 33)).cell? ⟨w8.heap.size, 1, none⟩ = some (.slice ra RL.length rc) := (Blk.new _ _ _).cell 1
      clear HO8
      go_upto_region 25 with fail
      have hs8a : w8.heap.size < (w8.alloc (.cells #[.int .i64 now, .slice ra RL.length rc] 33)).heap.size := by simp
      have R9 := RA
      have B9 := BA
      generalize (w8.alloc (.cells #[.int .i64 now, .slice ra RL.length rc] 33)) = wA at *
      have z0 : wA.cell? ⟨w.heap.size + 1 + 1, 0, none⟩ = some (.int .i64 0) := R9.out.cell 0
      have z1 : wA.cell? ⟨w.heap.size + 1 + 1, 1, none⟩ = some (.slice none 0 0) := R9.out.cell 1
      have f0 := R9.out.free 0
      have f1 := R9.out.free 1
      have hwl : w.heap.size + 1 + 1 < wA.heap.size := lt_of_block R9.out
      go_wp2
      have HTE9 : Turn (· = w.heap.size + 1 + 1) wA ((wA.setCell ⟨w.heap.size + 1 + 1, 0, none⟩ (.int .i64 now)).setCell ⟨w.heap.size + 1 + 1, 1, none⟩ (.slice ra RL.length rc)) := ((Turn.refl (· = w.heap.size + 1 + 1) wA).setCell (Or.inl rfl) 0 _).setCell (Or.inl rfl) 1 _
      refine bodyPost_ret (v := .tuple #[.agg #[.int .i64 now, .slice ra RL.length rc], .bool true]) (by simp [results, Tryz.results15, go_sem, z0, z1]) rfl ?_
      rw [HVE.out]
      have ho : TensOwn ((wA.setCell ⟨w.heap.size + 1 + 1, 0, none⟩ (.int .i64 now)).setCell ⟨w.heap.size + 1 + 1, 1, none⟩ (.slice ra RL.length rc)) w.heap.size ra RL := (TensOwn.turned HO9.out HTE9 (fun g h1 h2 e => by omega)).mono (by omega)
      have hbe : Below w.heap.size w ((wA.setCell ⟨w.heap.size + 1 + 1, 0, none⟩ (.int .i64 now)).setCell ⟨w.heap.size + 1 + 1, 1, none⟩ (.slice ra RL.length rc)) := ((Turn.of (S := fun i => w.heap.size ≤ i) B9.out).trans' (HTE9.mono fun i _ e => by omega)).below (Nat.le_refl _) fun i hi h => by omega
      first
        | exact ⟨ra, ⟨rc, rfl⟩, ho, hbe⟩
        | exact ⟨ra, rc, rfl, ho, hbe⟩
  have hme' : metric.toList.isEmpty = false := by simpa using hme
  rw [hme'] at HV1
  by_cases h2 : mnameB metric = false
  · have HVE : Hid (V = (now, ts, false)) := by show _ = _; rw [HV1.out, if_pos (by rw [h2]; rfl)]
    rw [h2] at HMN
    go_wp2_with fail
    refine (HTN.out _).mono ?_
    rintro e w2 ⟨rfl, hw⟩
    replace hw := hw.symm
    subst hw
    go_wp2_with fail
    refine (HMN.out _).mono ?_
    rintro e w5 ⟨rfl, hb5⟩
    have C5 : Hid (Blk w5 w.heap.size #[.int .i64 c.w, .int .i64 c.tl, .int .i64 c.ml, .int .i64 c.sh, .int .i64 c.ha, .int .i64 c.sg] 29) := Cv.out.later hb5
    have S5 : Hid (Blk w5 (w.heap.size + 1) #[.int .i64 now, .slice a ts.length cap] 33) := Sv.out.later hb5
    have R5 : Hid (Blk w5 (w.heap.size + 1 + 1) #[.int .i64 0, .slice none 0 0] 33) := Rv.out.later hb5
    have B5 : Hid (Below w.heap.size w w5) := bto Bv.out hb5
    clear hb5
    have b5x0 : w5.cell? ⟨w.heap.size, 0, none⟩ = some (.int .i64 c.w) := C5.out.cell 0
    have b5x1 : w5.cell? ⟨w.heap.size, 1, none⟩ = some (.int .i64 c.tl) := C5.out.cell 1
    have b5x2 : w5.cell? ⟨w.heap.size, 2, none⟩ = some (.int .i64 c.ml) := C5.out.cell 2
    have b5x3 : w5.cell? ⟨w.heap.size, 3, none⟩ = some (.int .i64 c.sh) := C5.out.cell 3
    have b5x4 : w5.cell? ⟨w.heap.size, 4, none⟩ = some (.int .i64 c.ha) := C5.out.cell 4
    have b5x5 : w5.cell? ⟨w.heap.size, 5, none⟩ = some (.int .i64 c.sg) := C5.out.cell 5
    have b5y0 : w5.cell? ⟨w.heap.size + 1, 0, none⟩ = some (.int .i64 now) := S5.out.cell 0
    have b5y1 : w5.cell? ⟨w.heap.size + 1, 1, none⟩ = some (.slice a ts.length cap) := S5.out.cell 1
    go_wp2_with fail
    refine (HSM.out _ B5.out).mono ?_
    rintro e w9 ⟨ra, rc, rfl, ho9, hb9⟩
    have HO9 : Hid (TensOwn w9 w5.heap.size ra ts) := ho9
    have R9 : Hid (Blk w9 (w.heap.size + 1 + 1) #[.int .i64 0, .slice none 0 0] 33) := R5.out.later hb9
    have B9 : Hid (Below w.heap.size w w9) := bto B5.out hb9
    have hwv : w.heap.size + 1 + 1 < w5.heap.size := lt_of_block R5.out
    clear ho9 hb9
    have z0 : w9.cell? ⟨w.heap.size + 1 + 1, 0, none⟩ = some (.int .i64 0) := R9.out.cell 0
    have z1 : w9.cell? ⟨w.heap.size + 1 + 1, 1, none⟩ = some (.slice none 0 0) := R9.out.cell 1
    have f0 := R9.out.free 0
    have f1 := R9.out.free 1
    have hwl : w.heap.size + 1 + 1 < w9.heap.size := lt_of_block R9.out
    go_wp2
    have HTE9 : Turn (· = w.heap.size + 1 + 1) w9 ((w9.setCell ⟨w.heap.size + 1 + 1, 0, none⟩ (.int .i64 now)).setCell ⟨w.heap.size + 1 + 1, 1, none⟩ (.slice ra ts.length rc)) := ((Turn.refl (· = w.heap.size + 1 + 1) w9).setCell (Or.inl rfl) 0 _).setCell (Or.inl rfl) 1 _
    refine bodyPost_ret (v := .tuple #[.agg #[.int .i64 now, .slice ra ts.length rc], .bool false]) (by simp [results, Tryz.results15, go_sem, z0, z1]) rfl ?_
    rw [HVE.out]
    have ho : TensOwn ((w9.setCell ⟨w.heap.size + 1 + 1, 0, none⟩ (.int .i64 now)).setCell ⟨w.heap.size + 1 + 1, 1, none⟩ (.slice ra ts.length rc)) w.heap.size ra ts := (TensOwn.turned HO9.out HTE9 (fun g h1 h2 e => by omega)).mono (by omega)
    have hbe : Below w.heap.size w ((w9.setCell ⟨w.heap.size + 1 + 1, 0, none⟩ (.int .i64 now)).setCell ⟨w.heap.size + 1 + 1, 1, none⟩ (.slice ra ts.length rc)) := ((Turn.of (S := fun i => w.heap.size ≤ i) B9.out).trans' (HTE9.mono fun i _ e => by omega)).below (Nat.le_refl _) fun i hi h => by omega
    first
      | exact ⟨ra, ⟨rc, rfl⟩, ho, hbe⟩
      | exact ⟨ra, rc, rfl, ho, hbe⟩
  have h2' : mnameB metric = true := by simpa using h2
  rw [h2'] at HMN HV1
  clear h2
  have Cu := Cv
  have Su := Sv
  have Ru := Rv
  have Bu := Bv
  clear Cv Sv Rv Bv
  generalize hwu : wv = wu at *
  clear hwu
  by_cases h3 : btwB limit (-1) 1000000 = false
  · have HVE : Hid (V = (now, ts, false)) := by show _ = _; rw [HV1.out, if_pos (by rw [h3]; rfl)]
    rw [h3] at HLB
    go_wp2_with fail
    refine (HTN.out _).mono ?_
    rintro e w2 ⟨rfl, hw⟩
    replace hw := hw.symm
    subst hw
    go_wp2_with fail
    refine (HMN.out _).mono ?_
    rintro e w5 ⟨rfl, hb5⟩
    have C5 : Hid (Blk w5 w.heap.size #[.int .i64 c.w, .int .i64 c.tl, .int .i64 c.ml, .int .i64 c.sh, .int .i64 c.ha, .int .i64 c.sg] 29) := Cu.out.later hb5
    have S5 : Hid (Blk w5 (w.heap.size + 1) #[.int .i64 now, .slice a ts.length cap] 33) := Su.out.later hb5
    have R5 : Hid (Blk w5 (w.heap.size + 1 + 1) #[.int .i64 0, .slice none 0 0] 33) := Ru.out.later hb5
    have B5 : Hid (Below w.heap.size w w5) := bto Bu.out hb5
    clear hb5
    go_wp2_with fail
    refine (HLB.out _).mono ?_
    rintro e w2 ⟨rfl, hw⟩
    replace hw := hw.symm
    subst hw
    have b5x0 : w5.cell? ⟨w.heap.size, 0, none⟩ = some (.int .i64 c.w) := C5.out.cell 0
    have b5x1 : w5.cell? ⟨w.heap.size, 1, none⟩ = some (.int .i64 c.tl) := C5.out.cell 1
    have b5x2 : w5.cell? ⟨w.heap.size, 2, none⟩ = some (.int .i64 c.ml) := C5.out.cell 2
    have b5x3 : w5.cell? ⟨w.heap.size, 3, none⟩ = some (.int .i64 c.sh) := C5.out.cell 3
    have b5x4 : w5.cell? ⟨w.heap.size, 4, none⟩ = some (.int .i64 c.ha) := C5.out.cell 4
    have b5x5 : w5.cell? ⟨w.heap.size, 5, none⟩ = some (.int .i64 c.sg) := C5.out.cell 5
    have b5y0 : w5.cell? ⟨w.heap.size + 1, 0, none⟩ = some (.int .i64 now) := S5.out.cell 0
    have b5y1 : w5.cell? ⟨w.heap.size + 1, 1, none⟩ = some (.slice a ts.length cap) := S5.out.cell 1
    go_wp2_with fail
    refine (HSM.out _ B5.out).mono ?_
    rintro e w9 ⟨ra, rc, rfl, ho9, hb9⟩
    have HO9 : Hid (TensOwn w9 w5.heap.size ra ts) := ho9
    have R9 : Hid (Blk w9 (w.heap.size + 1 + 1) #[.int .i64 0, .slice none 0 0] 33) := R5.out.later hb9
    have B9 : Hid (Below w.heap.size w w9) := bto B5.out hb9
    have hwv : w.heap.size + 1 + 1 < w5.heap.size := lt_of_block R5.out
    clear ho9 hb9
    have z0 : w9.cell? ⟨w.heap.size + 1 + 1, 0, none⟩ = some (.int .i64 0) := R9.out.cell 0
    have z1 : w9.cell? ⟨w.heap.size + 1 + 1, 1, none⟩ = some (.slice none 0 0) := R9.out.cell 1
    have f0 := R9.out.free 0
    have f1 := R9.out.free 1
    have hwl : w.heap.size + 1 + 1 < w9.heap.size := lt_of_block R9.out
    go_wp2
    have HTE9 : Turn (· = w.heap.size + 1 + 1) w9 ((w9.setCell ⟨w.heap.size + 1 + 1, 0, none⟩ (.int .i64 now)).setCell ⟨w.heap.size + 1 + 1, 1, none⟩ (.slice ra ts.length rc)) := ((Turn.refl (· = w.heap.size + 1 + 1) w9).setCell (Or.inl rfl) 0 _).setCell (Or.inl rfl) 1 _
    refine bodyPost_ret (v := .tuple #[.agg #[.int .i64 now, .slice ra ts.length rc], .bool false]) (by simp [results, Tryz.results15, go_sem, z0, z1]) rfl ?_
    rw [HVE.out]
    have ho : TensOwn ((w9.setCell ⟨w.heap.size + 1 + 1, 0, none⟩ (.int .i64 now)).setCell ⟨w.heap.size + 1 + 1, 1, none⟩ (.slice ra ts.length rc)) w.heap.size ra ts := (TensOwn.turned HO9.out HTE9 (fun g h1 h2 e => by omega)).mono (by omega)
    have hbe : Below w.heap.size w ((w9.setCell ⟨w.heap.size + 1 + 1, 0, none⟩ (.int .i64 now)).setCell ⟨w.heap.size + 1 + 1, 1, none⟩ (.slice ra ts.length rc)) := ((Turn.of (S := fun i => w.heap.size ≤ i) B9.out).trans' (HTE9.mono fun i _ e => by omega)).below (Nat.le_refl _) fun i hi h => by omega
    first
      | exact ⟨ra, ⟨rc, rfl⟩, ho, hbe⟩
      | exact ⟨ra, rc, rfl, ho, hbe⟩
  have h3' : btwB limit (-1) 1000000 = true := by simpa using h3
  have HV : Hid (V = if 10000 < (keptTs c.w now (insBy (·.name) (limT tn metric limit) ts)).length then (now, ts, false) else (now, keptTs c.w now (insBy (·.name) (limT tn metric limit) ts), true)) := by show _ = _; rw [HV1.out, if_neg (by rw [h3']; simp)]
  rw [h3'] at HLB
  clear h3 h3' HV1
  go_wp2_with fail
  refine (HTN.out _).mono ?_
  rintro e w2 ⟨rfl, hw⟩
  replace hw := hw.symm
  subst hw
  go_wp2_with fail
  refine (HMN.out _).mono ?_
  rintro e wv ⟨rfl, hb5⟩
  have Cv : Hid (Blk wv w.heap.size #[.int .i64 c.w, .int .i64 c.tl, .int .i64 c.ml, .int .i64 c.sh, .int .i64 c.ha, .int .i64 c.sg] 29) := Cu.out.later hb5
  have Sv : Hid (Blk wv (w.heap.size + 1) #[.int .i64 now, .slice a ts.length cap] 33) := Su.out.later hb5
  have Rv : Hid (Blk wv (w.heap.size + 1 + 1) #[.int .i64 0, .slice none 0 0] 33) := Ru.out.later hb5
  have Bv : Hid (Below w.heap.size w wv) := bto Bu.out hb5
  clear hb5 Cu Su Ru Bu
  go_wp2_with fail
  refine (HLB.out _).mono ?_
  rintro e w2 ⟨rfl, hw⟩
  replace hw := hw.symm
  subst hw
  have HK : Hid (∀ w', Below wv.heap.size wv w' → w'.cell? ⟨w.heap.size + 1, 0, none⟩ = some (.int .i64 now) ∧ w'.cell? ⟨w.heap.size + 1, 1, none⟩ = some (.slice a ts.length cap) ∧ w'.cell? ⟨w.heap.size, 0, none⟩ = some (.int .i64 c.w)) := fun w' h => by
    have q := Cv.out.later h
    have p := Sv.out.later h
    exact ⟨p.cell 0, p.cell 1, q.cell 0⟩
  obtain ⟨vy0, vy1, vx0⟩ := HK.out wv (Below.refl _ _)
  have hsv : w.heap.size + 1 + 1 < wv.heap.size := lt_of_block Rv.out
  go_upto_region 5 with fail
  go_cut [12] (fun p wx => ∃ X, p = .pointer (some ⟨X, 0, none⟩) ∧ KX wv X tn wx)
  case first =>
    go_region_held3 (fun w' => w'.cell? ⟨w.heap.size + 1, 0, none⟩ = some (.int .i64 now) ∧ w'.cell? ⟨w.heap.size + 1, 1, none⟩ = some (.slice a ts.length cap) ∧ w'.cell? ⟨w.heap.size, 0, none⟩ = some (.int .i64 c.w))
      (first | go_keep | with_reducible exact HK.out _ (set4 k4 (Nat.le_refl _)) | with_reducible exact HK.out _ (set4 k4 k3.size) | with_reducible exact HK.out _ k4 | with_reducible exact HK.out _ k3 | with_reducible exact HK.out _ (bto k3 (bnew _ _)) | with_reducible exact HK.out _ ((bnew _ _).drew) | with_reducible exact HK.out _ (bto k4 (bnew _ _)))
      (first
        | (go_at_call 35; refine (HTE.out _ (by with_reducible exact Bv.out.drew)).mono ?_; rintro e w3 ⟨⟨a1, c1, a2, c2, rfl, p1, p2⟩, hb3⟩; have k3 : Below wv.heap.size wv w3 := (by with_reducible exact bto (Below.refl _ _).drew hb3); have c3 := HK.out _ k3)
        | (go_at_call 35; refine (HTE.out _ (by with_reducible exact (bto Bv.out (bnew _ _)).drew)).mono ?_; rintro e w3 ⟨⟨a1, c1, a2, c2, rfl, p1, p2⟩, hb3⟩; have k3 : Below wv.heap.size wv w3 := (by with_reducible exact bto ((bnew _ _).drew) hb3); have c3 := HK.out _ k3; have hX3 : Blk w3 wv.heap.size #[.string ⟨#[]⟩, .int .i64 0, .slice none 0 0, .slice none 0 0] 55 := blk_drewS hb3)
        | (have q := hX3; clear q; go_at_call 40; refine (HKP.out _ a1 a2 c1 c2 (by with_reducible exact p1) (by with_reducible exact p2)).mono ?_; rintro e w4 ⟨M, q1, e1, q2, e2, rfl, hM, h1, h1M, h2, hM4, hb4⟩; have k4 : Below wv.heap.size wv w4 := (by with_reducible exact bto k3 hb4); have c4 := HK.out _ k4; have BX4 : Hid (Blk w4 wv.heap.size #[.string ⟨#[]⟩, .int .i64 0, .slice none 0 0, .slice none 0 0] 55) := hid (hX3.later hb4); have s0 := BX4.out.cell 0; have s1 := BX4.out.cell 1; have s2 := BX4.out.cell 2; have s3 := BX4.out.cell 3; have f0 := BX4.out.free 0; have f1 := BX4.out.free 1; have f2 := BX4.out.free 2; have f3 := BX4.out.free 3)
        | ((fail_if_success (have q := hX3)); go_at_call 40; refine (HKP.out _ a1 a2 c1 c2 (by with_reducible exact p1) (by with_reducible exact p2)).mono ?_; rintro e w4 ⟨M, q1, e1, q2, e2, rfl, hM, h1, h1M, h2, hM4, hb4⟩; have k4 : Below wv.heap.size wv w4 := (by with_reducible exact bto k3 hb4); have c4 := HK.out _ k4)
        | (go_at_call 40; refine (HKP.out _ a1 a2 c1 c2 (by with_reducible exact p1.later (bnew _ _)) (by with_reducible exact p2.later (bnew _ _))).mono ?_; rintro e w4 ⟨M, q1, e1, q2, e2, rfl, hM, h1, h1M, h2, hM4, hb4⟩; have k4 : Below wv.heap.size wv w4 := (by with_reducible exact bto (bto k3 (bnew _ _)) hb4); have c4 := HK.out _ k4; have BX4 : Hid (Blk w4 w3.heap.size #[.string ⟨#[]⟩, .int .i64 0, .slice none 0 0, .slice none 0 0] 55) := hid ((Blk.new w3 _ _).later hb4); have s0 := BX4.out.cell 0; have s1 := BX4.out.cell 1; have s2 := BX4.out.cell 2; have s3 := BX4.out.cell 3; have f0 := BX4.out.free 0; have f1 := BX4.out.free 1; have f2 := BX4.out.free 2; have f3 := BX4.out.free 3))
    all_goals (go_wp2_with fail; go_meet)
    all_goals first
      | with_reducible exact ⟨_, rfl, kx_new h1 h2 k4⟩
      | exact ⟨_, rfl, kx_old h1 h2 (by have := lt_of_block hX3; omega) hM (Nat.le_refl _) BX4.out k4⟩
      | exact ⟨_, rfl, kx_old h1 h2 (by simp) hM k3.size BX4.out k4⟩
  obtain ⟨X, rfl, q1, e1, q2, e2, hXb, hPI, hXw, hb3⟩ := hcut
  rename World => w3
  have HXB := hid hXb
  have HPI := hid hPI
  have C3 : Hid (Blk w3 w.heap.size #[.int .i64 c.w, .int .i64 c.tl, .int .i64 c.ml, .int .i64 c.sh, .int .i64 c.ha, .int .i64 c.sg] 29) := Cv.out.later hb3
  have S3 : Hid (Blk w3 (w.heap.size + 1) #[.int .i64 now, .slice a ts.length cap] 33) := Sv.out.later hb3
  have R3 : Hid (Blk w3 (w.heap.size + 1 + 1) #[.int .i64 0, .slice none 0 0] 33) := Rv.out.later hb3
  have B3 : Hid (Below w.heap.size w w3) := bto Bv.out hb3
  have hX3 : X < w3.heap.size := lt_of_block hXb
  clear HK vy0 vy1 vx0 hXb hPI hb3 HTE HKP
  have L4 : Hid ((w3.alloc (.cells #[] 59)).ownsRow w3.heap.size 59 2 (.slice (some ⟨w3.heap.size, 0, none⟩) 0 0) 0 []) := hid (World.ownsRow_made w3 #[] 0 (Nat.le_refl _) (by simp [maxLen]) (by simp))
  have B4 : Hid (Below w3.heap.size w3 (w3.alloc (.cells #[] 59))) := bnew _ _
  have g2 : (w3.alloc (.cells #[] 59)).cell? ⟨X, 2, none⟩ = some (.slice q1 tn.mets.length e1) := (HXB.out.alloc _).cell 2
  have HLA : Hid (limT tn metric limit = ⟨tn.name, tn.limit, pAll ⟨metric, limit⟩ (decide (limit < 0)) tn.mets, tn.sers⟩) := limT_all HRM.out hme'
  have HP1 : Hid (PairsIn w3 q1 tn.mets) := (HPI.out _ (Turn.refl _ _)).1
  have hML : tn.mets.length ≤ 1048576 := HFM.out
  go_upto_region 10 with fail
  generalize (w3.alloc (.cells #[] 59)) = w4 at *
  generalize decide (limit < 0) = b0 at *
  go_wp2
  clear g2
  go_loopw [13, 14, 16, 61] (fun al pl _ i wr => ∃ (k : Nat) (va : Option Addr) (vc : Nat) (ys : List PairD), k ≤ tn.mets.length ∧ i = .int .i64 k ∧ al = .slice va ys.length vc ∧ pl = .bool (pUpto ⟨metric, limit⟩ b0 (tn.mets.take k)).2 ∧ ys.length ≤ 2 * k ∧ Hid (ys = (pUpto ⟨metric, limit⟩ b0 (tn.mets.take k)).1) ∧ Hid (wr.ownsRow w3.heap.size 59 2 (.slice va ys.length vc) ys.length (flatK ys)) ∧ Hid (Below w3.heap.size w3 wr)) (fun _ _ _ i _ => tn.mets.length - (intOf i).toNat)
  case atStart => exact ⟨0, _, _, [], Nat.zero_le _, rfl, rfl, rfl, Nat.zero_le _, rfl, L4.out, B4.out⟩
  case round =>
    obtain ⟨k, va, vc, ys, hk, rfl, rfl, rfl, hyl, HYM, HR, HBL⟩ := hrel
    have hsr : w3.heap.size ≤ wr.heap.size := HBL.out.size
    by_cases hlt : k < tn.mets.length
    · obtain ⟨pb, po, rfl, hpl, v0, v1⟩ := (HP1.out.later HBL.out).at hlt
      have HU : Hid (pUpto ⟨metric, limit⟩ b0 (tn.mets.take (k + 1)) = pStep ⟨metric, limit⟩ (pUpto ⟨metric, limit⟩ b0 (tn.mets.take k)) tn.mets[k]) := pUpto_take _ _ _ _ hlt
      generalize (pUpto ⟨metric, limit⟩ b0 (tn.mets.take k)) = U at *
      generalize tn.mets[k] = P at *
      obtain ⟨LU, PU⟩ := U
      have r0' : (wr.alloc (.cells #[.string P.s, .int .i64 P.n] 59)).cell? ⟨wr.heap.size, 0, none⟩ = some (.string P.s) := (Blk.new _ _ _).cell 0
      have HRL0 : Hid (∀ q, (Value.slice va ys.length vc).ownBlock = some q → q < wr.heap.size) := fun q hq => (HR.out.lt q hq).2
      cases PU with
      | true =>
        have HU2 : Hid (pUpto ⟨metric, limit⟩ b0 (tn.mets.take (k + 1)) = (LU ++ (if (P.s.toList == metric.toList) = true then [] else [P]), true)) := by show _ = _; rw [HU.out]; simp [pStep]
        go_upto_region 16 with fail
        have B6 : Hid (Below w3.heap.size w3 (wr.alloc (.cells #[.string P.s, .int .i64 P.n] 59))) := HBL.out.trans ((bnew _ _).mono (by omega))
        have X6 : Hid (Blk (wr.alloc (.cells #[.string P.s, .int .i64 P.n] 59)) wr.heap.size #[.string P.s, .int .i64 P.n] 59) := Blk.new _ _ _
        have HR6 : Hid ((wr.alloc (.cells #[.string P.s, .int .i64 P.n] 59)).ownsRow w3.heap.size 59 2 (.slice va ys.length vc) ys.length (flatK ys)) := row_later HR.out (bnew _ _)
        have HYM6 : Hid (ys = LU) := HYM.out
        clear HYM HR HU v0 v1 r0' HBL
        generalize wr.alloc (.cells #[.string P.s, .int .i64 P.n] 59) = w6 at *
        have hs6 : w3.heap.size ≤ w6.heap.size := B6.out.size
        have r0 : w6.cell? ⟨wr.heap.size, 0, none⟩ = some (.string P.s) := X6.out.cell 0
        have r1 : w6.cell? ⟨wr.heap.size, 1, none⟩ = some (.int .i64 P.n) := X6.out.cell 1
        by_cases hsm : (P.s.toList == metric.toList) = true
        · go_wp2
          refine ⟨⟨k + 1, va, vc, ys, by omega, by go_num, rfl, by rw [HU2.out], by omega, ?_, HR6.out, B6.out⟩, by simp [intOf]; omega⟩
          refine hid ?_
          rw [HU2.out]
          show _ = _ ++ _
          rw [if_pos hsm, List.append_nil]
          exact HYM6.out
        · have hsm' : (P.s.toList == metric.toList) = false := by simpa using hsm
          clear hsm
          go_wp2_with (at_builtin; refine wpList_append_lies _ rfl _ _ _ rfl w3.heap.size 59 ti _ 2 24 Tryz.underlying52 HI.out hz0 hz1 hz2 rfl (by omega) (.slice va ys.length vc) ys.length (flatK ys) rfl (by exact row_later HR6.out (bnew _ _)) ⟨w6.heap.size, 0, none⟩ 1 1 [.string P.s, .int .i64 P.n] rfl rfl (by exact World.news_of_block (cs := #[.string P.s, .int .i64 P.n]) (heap_alloc_new _ _)) (by simp [Value.oneCell']) (by omega) (by simp [maxLen]; omega) (by omega) (by simp; omega) (w6.heap.size + 1) (by simp) ?_; intro gg7 cap7 w7 hown6 hgrow6 hat6 hlt6)
          have HB7 : Hid (Below w3.heap.size w3 w7) := B6.out.trans (((bnew w6 (.cells #[.string P.s, .int .i64 P.n] 59)).mono (by omega)).trans ((Turn.grown hgrow6).below (by simp; omega) fun i hi e => by have := (HR6.out.lt i e).1; omega))
          refine ⟨⟨k + 1, some ⟨gg7, 0, none⟩, cap7, ys ++ [P], by omega, by go_num, by simp, by rw [HU2.out], by simp; omega, ?_, ?_, HB7.out⟩, by simp [intOf]; omega⟩
          · refine hid ?_
            rw [HU2.out]
            show _ = _ ++ _
            rw [hsm', HYM6.out]
            rfl
          · refine hid ?_
            rw [flatK_append, List.length_append]
            exact hown6
      | false =>
        by_cases hbl : blt P.s metric = true
        · have HU2 : Hid (pUpto ⟨metric, limit⟩ b0 (tn.mets.take (k + 1)) = (LU ++ (if (P.s.toList == metric.toList) = true then [] else [P]), false)) := by show _ = _; rw [HU.out]; simp [pStep, hbl]
          have hsm' : (P.s.toList == metric.toList) = false := same_not (blt_ne hbl)
          have hq1 : (metric.toList == P.s.toList) = false := same_not (blt_ne hbl).symm
          have hq2 : Op.bytesLess metric.toList P.s.toList = false := blt_asymm hbl
          clear hbl
          go_upto_region 16 with fail
          have B6 : Hid (Below w3.heap.size w3 (wr.alloc (.cells #[.string P.s, .int .i64 P.n] 59))) := HBL.out.trans ((bnew _ _).mono (by omega))
          have X6 : Hid (Blk (wr.alloc (.cells #[.string P.s, .int .i64 P.n] 59)) wr.heap.size #[.string P.s, .int .i64 P.n] 59) := Blk.new _ _ _
          have HR6 : Hid ((wr.alloc (.cells #[.string P.s, .int .i64 P.n] 59)).ownsRow w3.heap.size 59 2 (.slice va ys.length vc) ys.length (flatK ys)) := row_later HR.out (bnew _ _)
          have HYM6 : Hid (ys = LU) := HYM.out
          clear HYM HR HU v0 v1 r0' HBL
          generalize wr.alloc (.cells #[.string P.s, .int .i64 P.n] 59) = w6 at *
          have hs6 : w3.heap.size ≤ w6.heap.size := B6.out.size
          have r0 : w6.cell? ⟨wr.heap.size, 0, none⟩ = some (.string P.s) := X6.out.cell 0
          have r1 : w6.cell? ⟨wr.heap.size, 1, none⟩ = some (.int .i64 P.n) := X6.out.cell 1
          go_wp2_with (at_builtin; refine wpList_append_lies _ rfl _ _ _ rfl w3.heap.size 59 ti _ 2 24 Tryz.underlying52 HI.out hz0 hz1 hz2 rfl (by omega) (.slice va ys.length vc) ys.length (flatK ys) rfl (by exact row_later HR6.out (bnew _ _)) ⟨w6.heap.size, 0, none⟩ 1 1 [.string P.s, .int .i64 P.n] rfl rfl (by exact World.news_of_block (cs := #[.string P.s, .int .i64 P.n]) (heap_alloc_new _ _)) (by simp [Value.oneCell']) (by omega) (by simp [maxLen]; omega) (by omega) (by simp; omega) (w6.heap.size + 1) (by simp) ?_; intro gg7 cap7 w7 hown6 hgrow6 hat6 hlt6)
          have HB7 : Hid (Below w3.heap.size w3 w7) := B6.out.trans (((bnew w6 (.cells #[.string P.s, .int .i64 P.n] 59)).mono (by omega)).trans ((Turn.grown hgrow6).below (by simp; omega) fun i hi e => by have := (HR6.out.lt i e).1; omega))
          refine ⟨⟨k + 1, some ⟨gg7, 0, none⟩, cap7, ys ++ [P], by omega, by go_num, by simp, by rw [HU2.out], by simp; omega, ?_, ?_, HB7.out⟩, by simp [intOf]; omega⟩
          · refine hid ?_
            rw [HU2.out]
            show _ = _ ++ _
            rw [hsm', HYM6.out]
            rfl
          · refine hid ?_
            rw [flatK_append, List.length_append]
            exact hown6
        · have hbl' : blt P.s metric = false := by simpa using hbl
          have HU2 : Hid (pUpto ⟨metric, limit⟩ b0 (tn.mets.take (k + 1)) = ((LU ++ [(⟨metric, limit⟩ : PairD)]) ++ (if (P.s.toList == metric.toList) = true then [] else [P]), true)) := by show _ = _; rw [HU.out]; simp [pStep, hbl']
          by_cases hbt : blt metric P.s = true
          · have hsm' : (P.s.toList == metric.toList) = false := same_not (blt_ne hbt).symm
            have hq2 : Op.bytesLess metric.toList P.s.toList = true := hbt
            clear hbl hbl' hbt
            go_upto_region 14 with fail
            have B6 : Hid (Below w3.heap.size w3 (wr.alloc (.cells #[.string P.s, .int .i64 P.n] 59))) := HBL.out.trans ((bnew _ _).mono (by omega))
            have X6 : Hid (Blk (wr.alloc (.cells #[.string P.s, .int .i64 P.n] 59)) wr.heap.size #[.string P.s, .int .i64 P.n] 59) := Blk.new _ _ _
            have HR6 : Hid ((wr.alloc (.cells #[.string P.s, .int .i64 P.n] 59)).ownsRow w3.heap.size 59 2 (.slice va ys.length vc) ys.length (flatK ys)) := row_later HR.out (bnew _ _)
            clear v0 v1 r0' HBL HR
            generalize wr.alloc (.cells #[.string P.s, .int .i64 P.n] 59) = w5 at *
            have hs55 : w3.heap.size ≤ w5.heap.size := B6.out.size
            have hX55 : wr.heap.size < w5.heap.size := lt_of_block X6.out
            go_upto_region 16 with (at_builtin; refine wpList_append_lies _ rfl _ _ _ rfl w3.heap.size 59 ti _ 2 24 Tryz.underlying52 HI.out hz0 hz1 hz2 rfl (by omega) (.slice va ys.length vc) ys.length (flatK ys) rfl (by exact row_later HR6.out (bnew _ _)) ⟨w5.heap.size, 0, none⟩ 1 1 [.string metric, .int .i64 limit] rfl rfl (by exact World.news_of_block (cs := #[.string metric, .int .i64 limit]) (heap_alloc_new _ _)) (by simp [Value.oneCell']) (by omega) (by simp [maxLen]; omega) (by omega) (by simp; omega) (w5.heap.size + 1) (by simp) ?_; intro gg5 cap5 w6 hown6 hgrow6 hat6 hlt6)
            have HT5 : Hid (Turn (fun i => w3.heap.size ≤ i ∧ (Value.slice va ys.length vc).ownBlock = some i) w5 w6) := (Turn.of (bnew w5 (.cells #[.string metric, .int .i64 limit] 59))).trans' ((Turn.grown hgrow6).mono fun i _ e => ⟨(HR6.out.lt i e).1, e⟩)
            have HNX : Hid ((Value.slice va ys.length vc).ownBlock ≠ some wr.heap.size) := fun e => by have := (HRL0.out wr.heap.size e); omega
            have HR6' : Hid (w6.ownsRow w3.heap.size 59 2 (.slice (some ⟨gg5, 0, none⟩) (ys ++ [(⟨metric, limit⟩ : PairD)]).length cap5) (ys ++ [(⟨metric, limit⟩ : PairD)]).length (flatK (ys ++ [(⟨metric, limit⟩ : PairD)]))) := by
              refine hid ?_
              rw [flatK_append, List.length_append]
              exact hown6
            have HYM6 : Hid (ys ++ [(⟨metric, limit⟩ : PairD)] = LU ++ [(⟨metric, limit⟩ : PairD)]) := by show _ = _; rw [HYM.out]
            have B6' : Hid (Below w3.heap.size w3 w6) := B6.out.trans (HT5.out.below (by omega) fun i hi e => by omega)
            have X6' : Hid (Blk w6 wr.heap.size #[.string P.s, .int .i64 P.n] 59) := HT5.out.blk X6.out (fun e => HNX.out e.2)
            have ey : ys.length + 1 = (ys ++ [(⟨metric, limit⟩ : PairD)]).length := by simp
            have hy6 : (ys ++ [(⟨metric, limit⟩ : PairD)]).length ≤ 2 * k + 1 := by rw [← ey]; omega
            rw [ey]
            clear hown6 hgrow6 hat6 hlt6 HR6 B6 X6 HYM HU ey HT5 HNX hyl
            have HR6 := HR6'
            have B6 := B6'
            have X6 := X6'
            clear HR6' B6' X6'
            generalize ys ++ [(⟨metric, limit⟩ : PairD)] = ys6 at *
            have hs6 : w3.heap.size ≤ w6.heap.size := B6.out.size
            have r0 : w6.cell? ⟨wr.heap.size, 0, none⟩ = some (.string P.s) := X6.out.cell 0
            have r1 : w6.cell? ⟨wr.heap.size, 1, none⟩ = some (.int .i64 P.n) := X6.out.cell 1
            go_wp2_with (at_builtin; refine wpList_append_lies _ rfl _ _ _ rfl w3.heap.size 59 ti _ 2 24 Tryz.underlying52 HI.out hz0 hz1 hz2 rfl (by omega) (.slice (some ⟨gg5, 0, none⟩) ys6.length cap5) ys6.length (flatK ys6) rfl (by exact row_later HR6.out (bnew _ _)) ⟨w6.heap.size, 0, none⟩ 1 1 [.string P.s, .int .i64 P.n] rfl rfl (by exact World.news_of_block (cs := #[.string P.s, .int .i64 P.n]) (heap_alloc_new _ _)) (by simp [Value.oneCell']) (by omega) (by simp [maxLen]; omega) (by omega) (by simp; omega) (w6.heap.size + 1) (by simp) ?_; intro gg7 cap7 w7 hown6 hgrow6 hat6 hlt6)
            have HB7 : Hid (Below w3.heap.size w3 w7) := B6.out.trans (((bnew w6 (.cells #[.string P.s, .int .i64 P.n] 59)).mono (by omega)).trans ((Turn.grown hgrow6).below (by simp; omega) fun i hi e => by have := (HR6.out.lt i e).1; omega))
            refine ⟨⟨k + 1, some ⟨gg7, 0, none⟩, cap7, ys6 ++ [P], by omega, by go_num, by simp, by rw [HU2.out], by simp; omega, ?_, ?_, HB7.out⟩, by simp [intOf]; omega⟩
            · refine hid ?_
              rw [HU2.out]
              show _ = _ ++ _
              rw [hsm', HYM6.out]
              rfl
            · refine hid ?_
              rw [flatK_append, List.length_append]
              exact hown6
          · have he : P.s = metric := Decidable.byContradiction fun hne => hbt (blt_total hbl' hne)
            have hsm : (P.s.toList == metric.toList) = true := (same_iff _ _).2 he
            have hq1 : (metric.toList == P.s.toList) = true := (same_iff _ _).2 he.symm
            have hq2 : Op.bytesLess metric.toList P.s.toList = false := by simpa [blt] using hbt
            clear hbl hbl' hbt he
            go_upto_region 14 with fail
            have B6 : Hid (Below w3.heap.size w3 (wr.alloc (.cells #[.string P.s, .int .i64 P.n] 59))) := HBL.out.trans ((bnew _ _).mono (by omega))
            have X6 : Hid (Blk (wr.alloc (.cells #[.string P.s, .int .i64 P.n] 59)) wr.heap.size #[.string P.s, .int .i64 P.n] 59) := Blk.new _ _ _
            have HR6 : Hid ((wr.alloc (.cells #[.string P.s, .int .i64 P.n] 59)).ownsRow w3.heap.size 59 2 (.slice va ys.length vc) ys.length (flatK ys)) := row_later HR.out (bnew _ _)
            clear v0 v1 r0' HBL HR
            generalize wr.alloc (.cells #[.string P.s, .int .i64 P.n] 59) = w5 at *
            have hs55 : w3.heap.size ≤ w5.heap.size := B6.out.size
            have hX55 : wr.heap.size < w5.heap.size := lt_of_block X6.out
            go_upto_region 16 with (at_builtin; refine wpList_append_lies _ rfl _ _ _ rfl w3.heap.size 59 ti _ 2 24 Tryz.underlying52 HI.out hz0 hz1 hz2 rfl (by omega) (.slice va ys.length vc) ys.length (flatK ys) rfl (by exact row_later HR6.out (bnew _ _)) ⟨w5.heap.size, 0, none⟩ 1 1 [.string metric, .int .i64 limit] rfl rfl (by exact World.news_of_block (cs := #[.string metric, .int .i64 limit]) (heap_alloc_new _ _)) (by simp [Value.oneCell']) (by omega) (by simp [maxLen]; omega) (by omega) (by simp; omega) (w5.heap.size + 1) (by simp) ?_; intro gg5 cap5 w6 hown6 hgrow6 hat6 hlt6)
            have HT5 : Hid (Turn (fun i => w3.heap.size ≤ i ∧ (Value.slice va ys.length vc).ownBlock = some i) w5 w6) := (Turn.of (bnew w5 (.cells #[.string metric, .int .i64 limit] 59))).trans' ((Turn.grown hgrow6).mono fun i _ e => ⟨(HR6.out.lt i e).1, e⟩)
            have HNX : Hid ((Value.slice va ys.length vc).ownBlock ≠ some wr.heap.size) := fun e => by have := (HRL0.out wr.heap.size e); omega
            have HR6' : Hid (w6.ownsRow w3.heap.size 59 2 (.slice (some ⟨gg5, 0, none⟩) (ys ++ [(⟨metric, limit⟩ : PairD)]).length cap5) (ys ++ [(⟨metric, limit⟩ : PairD)]).length (flatK (ys ++ [(⟨metric, limit⟩ : PairD)]))) := by
              refine hid ?_
              rw [flatK_append, List.length_append]
              exact hown6
            have HYM6 : Hid (ys ++ [(⟨metric, limit⟩ : PairD)] = LU ++ [(⟨metric, limit⟩ : PairD)]) := by show _ = _; rw [HYM.out]
            have B6' : Hid (Below w3.heap.size w3 w6) := B6.out.trans (HT5.out.below (by omega) fun i hi e => by omega)
            have X6' : Hid (Blk w6 wr.heap.size #[.string P.s, .int .i64 P.n] 59) := HT5.out.blk X6.out (fun e => HNX.out e.2)
            have ey : ys.length + 1 = (ys ++ [(⟨metric, limit⟩ : PairD)]).length := by simp
            have hy6 : (ys ++ [(⟨metric, limit⟩ : PairD)]).length ≤ 2 * k + 1 := by rw [← ey]; omega
            rw [ey]
            clear hown6 hgrow6 hat6 hlt6 HR6 B6 X6 HYM HU ey HT5 HNX hyl
            have HR6 := HR6'
            have B6 := B6'
            have X6 := X6'
            clear HR6' B6' X6'
            generalize ys ++ [(⟨metric, limit⟩ : PairD)] = ys6 at *
            have hs6 : w3.heap.size ≤ w6.heap.size := B6.out.size
            have r0 : w6.cell? ⟨wr.heap.size, 0, none⟩ = some (.string P.s) := X6.out.cell 0
            have r1 : w6.cell? ⟨wr.heap.size, 1, none⟩ = some (.int .i64 P.n) := X6.out.cell 1
            go_wp2
            refine ⟨⟨k + 1, (some ⟨gg5, 0, none⟩), cap5, ys6, by omega, by go_num, rfl, by rw [HU2.out], by omega, ?_, HR6.out, B6.out⟩, by simp [intOf]; omega⟩
            refine hid ?_
            rw [HU2.out]
            show _ = _ ++ _
            rw [if_pos hsm, List.append_nil]
            exact HYM6.out
    · have ek : tn.mets.take k = tn.mets := List.take_of_length_le (by omega)
      rw [ek] at HYM ⊢
      have HWA : Hid (pAll ⟨metric, limit⟩ b0 tn.mets = (pUpto ⟨metric, limit⟩ b0 tn.mets).1 ++ if (pUpto ⟨metric, limit⟩ b0 tn.mets).2 = true then [] else [(⟨metric, limit⟩ : PairD)]) := rfl
      generalize (pUpto ⟨metric, limit⟩ b0 tn.mets) = U at *
      obtain ⟨LU, PU⟩ := U
      have HYL : Hid (ys.length ≤ 1048577) := HLE.out b0 ys PU LU HWA.out HYM.out
      have hyl2 := HYL.out
      clear ek hyl
      cases PU with
      | true =>
        have HYM8 : Hid (pAll ⟨metric, limit⟩ b0 tn.mets = ys) := by show _ = _; rw [HWA.out, HYM.out]; simp
        have HR8 := HR
        have B8 := HBL
        clear HYM HWA HR HBL
        generalize hwo : wr = w8 at *
        clear hwo
        have hs8 : w3.heap.size ≤ w8.heap.size := B8.out.size
        have C8 : Hid (Blk w8 w.heap.size #[.int .i64 c.w, .int .i64 c.tl, .int .i64 c.ml, .int .i64 c.sh, .int .i64 c.ha, .int .i64 c.sg] 29) := C3.out.later B8.out
        have S8 : Hid (Blk w8 (w.heap.size + 1) #[.int .i64 now, .slice a ts.length cap] 33) := S3.out.later B8.out
        have R8 : Hid (Blk w8 (w.heap.size + 1 + 1) #[.int .i64 0, .slice none 0 0] 33) := R3.out.later B8.out
        have BW8 : Hid (Below w.heap.size w w8) := bto B3.out B8.out
        have X8 : Hid (Blk w8 X #[.string tn.name, .int .i64 tn.limit, .slice q1 tn.mets.length e1, .slice q2 tn.sers.length e2] 55) := HXB.out.later B8.out
        have g2 : w8.cell? ⟨X, 2, none⟩ = some (.slice q1 tn.mets.length e1) := X8.out.cell 2
        have f2 := X8.out.free 2
        have HTX : Hid (Turn (· = X) w8 (w8.setCell ⟨X, 2, none⟩ (.slice va ys.length vc))) := (Turn.refl (· = X) w8).setCell (Or.inl rfl) 2 _
        have X7 : Hid (Blk (w8.setCell ⟨X, 2, none⟩ (.slice va ys.length vc)) X #[.string tn.name, .int .i64 tn.limit, .slice va ys.length vc, .slice q2 tn.sers.length e2] 55) := hid (by have := X8.out.set 2 (.slice va ys.length vc); simpa using this)
        have P17 : Hid (PairsIn (w8.setCell ⟨X, 2, none⟩ (.slice va ys.length vc)) va ys) := (pairs_of_row (HTX.out.row HR8.out (fun q hq e => by have := (HR8.out.lt q hq).1; omega))).pairs
        have P27 : Hid (PairsIn (w8.setCell ⟨X, 2, none⟩ (.slice va ys.length vc)) q2 tn.sers) := (HPI.out _ ((Turn.of B8.out).trans' HTX.out)).2
        have C7 : Hid (Blk (w8.setCell ⟨X, 2, none⟩ (.slice va ys.length vc)) w.heap.size #[.int .i64 c.w, .int .i64 c.tl, .int .i64 c.ml, .int .i64 c.sh, .int .i64 c.ha, .int .i64 c.sg] 29) := HTX.out.blk C8.out (by omega)
        have S7 : Hid (Blk (w8.setCell ⟨X, 2, none⟩ (.slice va ys.length vc)) (w.heap.size + 1) #[.int .i64 now, .slice a ts.length cap] 33) := HTX.out.blk S8.out (by omega)
        have R7 : Hid (Blk (w8.setCell ⟨X, 2, none⟩ (.slice va ys.length vc)) (w.heap.size + 1 + 1) #[.int .i64 0, .slice none 0 0] 33) := HTX.out.blk R8.out (by omega)
        have B7 : Hid (Below w.heap.size w (w8.setCell ⟨X, 2, none⟩ (.slice va ys.length vc))) := BW8.out.trans (HTX.out.below (by have := BW8.out.size; omega) fun i hi e => by omega)
        have HT7 : Hid (limT tn metric limit = ⟨tn.name, tn.limit, ys, tn.sers⟩) := by show _ = _; rw [HLA.out, HYM8.out]
        have HF7 : Hid (FitW ⟨tn.name, tn.limit, ys, tn.sers⟩ ∧ tn.name = tenant ∧ tenant.toList.isEmpty = false) := ⟨⟨by show ys.length ≤ _; omega, HFT.out.2.1, HFT.out.2.2⟩, HNM.out, HNE.out⟩
        go_upto_region 22 with fail
        clear g2 f2 HTX X8 C8 S8 R8 BW8 B8 HR8 HYM8 hs8 hsv HXB HPI HLA
        generalize (w8.setCell ⟨X, 2, none⟩ (.slice va ys.length vc)) = w7 at *
        have m0 : w7.cell? ⟨X, 0, none⟩ = some (.string tn.name) := X7.out.cell 0
        have m1 : w7.cell? ⟨X, 1, none⟩ = some (.int .i64 tn.limit) := X7.out.cell 1
        have m2 : w7.cell? ⟨X, 2, none⟩ = some (.slice va ys.length vc) := X7.out.cell 2
        have m3 : w7.cell? ⟨X, 3, none⟩ = some (.slice q2 tn.sers.length e2) := X7.out.cell 3
        have b7x0 : w7.cell? ⟨w.heap.size, 0, none⟩ = some (.int .i64 c.w) := C7.out.cell 0
        have b7x1 : w7.cell? ⟨w.heap.size, 1, none⟩ = some (.int .i64 c.tl) := C7.out.cell 1
        have b7x2 : w7.cell? ⟨w.heap.size, 2, none⟩ = some (.int .i64 c.ml) := C7.out.cell 2
        have b7x3 : w7.cell? ⟨w.heap.size, 3, none⟩ = some (.int .i64 c.sh) := C7.out.cell 3
        have b7x4 : w7.cell? ⟨w.heap.size, 4, none⟩ = some (.int .i64 c.ha) := C7.out.cell 4
        have b7x5 : w7.cell? ⟨w.heap.size, 5, none⟩ = some (.int .i64 c.sg) := C7.out.cell 5
        have b7y0 : w7.cell? ⟨w.heap.size + 1, 0, none⟩ = some (.int .i64 now) := S7.out.cell 0
        have b7y1 : w7.cell? ⟨w.heap.size + 1, 1, none⟩ = some (.slice a ts.length cap) := S7.out.cell 1
        have HV7 : Hid (V = if 10000 < (keptTs c.w now (insBy (·.name) ⟨tn.name, tn.limit, ys, tn.sers⟩ ts)).length then (now, ts, false) else (now, keptTs c.w now (insBy (·.name) ⟨tn.name, tn.limit, ys, tn.sers⟩ ts), true)) := by show _ = _; rw [HV.out, HT7.out]
        go_wp2_with fail
        refine (HWI.out _ tn.name tn.limit ys tn.sers va q2 vc e2 B7.out P17.out P27.out HF7.out).mono ?_
        rintro e w8 ⟨ra, rc, rfl, ho8, hb8⟩
        have HO8 := hid ho8
        have C8 : Hid (Blk w8 w.heap.size #[.int .i64 c.w, .int .i64 c.tl, .int .i64 c.ml, .int .i64 c.sh, .int .i64 c.ha, .int .i64 c.sg] 29) := C7.out.later hb8
        have S8 : Hid (Blk w8 (w.heap.size + 1) #[.int .i64 now, .slice a ts.length cap] 33) := S7.out.later hb8
        have R8 : Hid (Blk w8 (w.heap.size + 1 + 1) #[.int .i64 0, .slice none 0 0] 33) := R7.out.later hb8
        have B8 : Hid (Below w.heap.size w w8) := bto B7.out hb8
        have hs78 := hb8.size
        have hr7 : w.heap.size + 1 + 1 < w7.heap.size := lt_of_block R7.out
        clear ho8 hb8 HV
        generalize keptTs c.w now (insBy (·.name) ⟨tn.name, tn.limit, ys, tn.sers⟩ ts) = RL at *
        have CA : Hid (Blk (w8.alloc (.cells #[.int .i64 now, .slice ra RL.length rc] 33)) w.heap.size #[.int .i64 c.w, .int .i64 c.tl, .int .i64 c.ml, .int .i64 c.sh, .int .i64 c.ha, .int .i64 c.sg] 29) := C8.out.later (bnew _ _)
        have SA : Hid (Blk (w8.alloc (.cells #[.int .i64 now, .slice ra RL.length rc] 33)) (w.heap.size + 1) #[.int .i64 now, .slice a ts.length cap] 33) := S8.out.later (bnew _ _)
        have RA : Hid (Blk (w8.alloc (.cells #[.int .i64 now, .slice ra RL.length rc] 33)) (w.heap.size + 1 + 1) #[.int .i64 0, .slice none 0 0] 33) := R8.out.later (bnew _ _)
        have BA : Hid (Below w.heap.size w (w8.alloc (.cells #[.int .i64 now, .slice ra RL.length rc] 33))) := bto B8.out (bnew _ _)
        by_cases hgt : 10000 < RL.length
        · have HVE : Hid (V = (now, ts, false)) := by show _ = _; rw [HV7.out, if_pos hgt]
          have hgi : (10000 : Int) < RL.length := by omega
          clear HO8
          go_upto_region 24 with fail
          generalize (w8.alloc (.cells #[.int .i64 now, .slice ra RL.length rc] 33)) = wA at *
          have bAx0 : wA.cell? ⟨w.heap.size, 0, none⟩ = some (.int .i64 c.w) := CA.out.cell 0
          have bAx1 : wA.cell? ⟨w.heap.size, 1, none⟩ = some (.int .i64 c.tl) := CA.out.cell 1
          have bAx2 : wA.cell? ⟨w.heap.size, 2, none⟩ = some (.int .i64 c.ml) := CA.out.cell 2
          have bAx3 : wA.cell? ⟨w.heap.size, 3, none⟩ = some (.int .i64 c.sh) := CA.out.cell 3
          have bAx4 : wA.cell? ⟨w.heap.size, 4, none⟩ = some (.int .i64 c.ha) := CA.out.cell 4
          have bAx5 : wA.cell? ⟨w.heap.size, 5, none⟩ = some (.int .i64 c.sg) := CA.out.cell 5
          have bAy0 : wA.cell? ⟨w.heap.size + 1, 0, none⟩ = some (.int .i64 now) := SA.out.cell 0
          have bAy1 : wA.cell? ⟨w.heap.size + 1, 1, none⟩ = some (.slice a ts.length cap) := SA.out.cell 1
          go_wp2_with fail
          refine (HSM.out _ BA.out).mono ?_
          rintro e w9 ⟨ra, rc, rfl, ho9, hb9⟩
          have HO9 : Hid (TensOwn w9 wA.heap.size ra ts) := ho9
          have R9 : Hid (Blk w9 (w.heap.size + 1 + 1) #[.int .i64 0, .slice none 0 0] 33) := RA.out.later hb9
          have B9 : Hid (Below w.heap.size w w9) := bto BA.out hb9
          have hwv : w.heap.size + 1 + 1 < wA.heap.size := lt_of_block RA.out
          clear ho9 hb9
          have z0 : w9.cell? ⟨w.heap.size + 1 + 1, 0, none⟩ = some (.int .i64 0) := R9.out.cell 0
          have z1 : w9.cell? ⟨w.heap.size + 1 + 1, 1, none⟩ = some (.slice none 0 0) := R9.out.cell 1
          have f0 := R9.out.free 0
          have f1 := R9.out.free 1
          have hwl : w.heap.size + 1 + 1 < w9.heap.size := lt_of_block R9.out
          go_wp2
          have HTE9 : Turn (· = w.heap.size + 1 + 1) w9 ((w9.setCell ⟨w.heap.size + 1 + 1, 0, none⟩ (.int .i64 now)).setCell ⟨w.heap.size + 1 + 1, 1, none⟩ (.slice ra ts.length rc)) := ((Turn.refl (· = w.heap.size + 1 + 1) w9).setCell (Or.inl rfl) 0 _).setCell (Or.inl rfl) 1 _
          refine bodyPost_ret (v := .tuple #[.agg #[.int .i64 now, .slice ra ts.length rc], .bool false]) (by simp [results, Tryz.results15, go_sem, z0, z1]) rfl ?_
          rw [HVE.out]
          have ho : TensOwn ((w9.setCell ⟨w.heap.size + 1 + 1, 0, none⟩ (.int .i64 now)).setCell ⟨w.heap.size + 1 + 1, 1, none⟩ (.slice ra ts.length rc)) w.heap.size ra ts := (TensOwn.turned HO9.out HTE9 (fun g h1 h2 e => by omega)).mono (by omega)
          have hbe : Below w.heap.size w ((w9.setCell ⟨w.heap.size + 1 + 1, 0, none⟩ (.int .i64 now)).setCell ⟨w.heap.size + 1 + 1, 1, none⟩ (.slice ra ts.length rc)) := ((Turn.of (S := fun i => w.heap.size ≤ i) B9.out).trans' (HTE9.mono fun i _ e => by omega)).below (Nat.le_refl _) fun i hi h => by omega
          first
            | exact ⟨ra, ⟨rc, rfl⟩, ho, hbe⟩
            | exact ⟨ra, rc, rfl, ho, hbe⟩
        · have HVE : Hid (V = (now, RL, true)) := by show _ = _; rw [HV7.out, if_neg hgt]
          have hgi : ¬ ((10000 : Int) < RL.length) := by omega
          have HO9 : Hid (TensOwn (w8.alloc (.cells #[.int .i64 now, .slice ra RL.length rc] 33)) w7.heap.size ra RL) := HO8.out.later (bnew _ _)
          have n0 : (w8.alloc (.cells #[.int .i64 now, .slice ra RL.length rc] 33)).cell? ⟨w8.heap.size, 0, none⟩ = some (.int .i64 now) := (Blk.new _ _ _).cell 0
          have n1 : (w8.alloc (.cells #[.int .i64 now, .slice ra RL.length rc] 33)).cell? ⟨w8.heap.size, 1, none⟩ = some (.slice ra RL.length rc) := (Blk.new _ _ _).cell 1
          clear HO8
          go_upto_region 25 with fail
          have hs8a : w8.heap.size < (w8.alloc (.cells #[.int .i64 now, .slice ra RL.length rc] 33)).heap.size := by simp
          have R9 := RA
          have B9 := BA
          generalize (w8.alloc (.cells #[.int .i64 now, .slice ra RL.length rc] 33)) = wA at *
          have z0 : wA.cell? ⟨w.heap.size + 1 + 1, 0, none⟩ = some (.int .i64 0) := R9.out.cell 0
          have z1 : wA.cell? ⟨w.heap.size + 1 + 1, 1, none⟩ = some (.slice none 0 0) := R9.out.cell 1
          have f0 := R9.out.free 0
          have f1 := R9.out.free 1
          have hwl : w.heap.size + 1 + 1 < wA.heap.size := lt_of_block R9.out
          go_wp2
          have HTE9 : Turn (· = w.heap.size + 1 + 1) wA ((wA.setCell ⟨w.heap.size + 1 + 1, 0, none⟩ (.int .i64 now)).setCell ⟨w.heap.size + 1 + 1, 1, none⟩ (.slice ra RL.length rc)) := ((Turn.refl (· = w.heap.size + 1 + 1) wA).setCell (Or.inl rfl) 0 _).setCell (Or.inl rfl) 1 _
          refine bodyPost_ret (v := .tuple #[.agg #[.int .i64 now, .slice ra RL.length rc], .bool true]) (by simp [results, Tryz.results15, go_sem, z0, z1]) rfl ?_
          rw [HVE.out]
          have ho : TensOwn ((wA.setCell ⟨w.heap.size + 1 + 1, 0, none⟩ (.int .i64 now)).setCell ⟨w.heap.size + 1 + 1, 1, none⟩ (.slice ra RL.length rc)) w.heap.size ra RL := (TensOwn.turned HO9.out HTE9 (fun g h1 h2 e => by omega)).mono (by omega)
          have hbe : Below w.heap.size w ((wA.setCell ⟨w.heap.size + 1 + 1, 0, none⟩ (.int .i64 now)).setCell ⟨w.heap.size + 1 + 1, 1, none⟩ (.slice ra RL.length rc)) := ((Turn.of (S := fun i => w.heap.size ≤ i) B9.out).trans' (HTE9.mono fun i _ e => by omega)).below (Nat.le_refl _) fun i hi h => by omega
          first
            | exact ⟨ra, ⟨rc, rfl⟩, ho, hbe⟩
            | exact ⟨ra, rc, rfl, ho, hbe⟩
      | false =>
        go_upto_region 21 with (at_builtin; refine wpList_append_lies _ rfl _ _ _ rfl w3.heap.size 59 ti _ 2 24 Tryz.underlying52 HI.out hz0 hz1 hz2 rfl (by omega) (.slice va ys.length vc) ys.length (flatK ys) rfl (by exact row_later HR.out (bnew _ _)) ⟨wr.heap.size, 0, none⟩ 1 1 [.string metric, .int .i64 limit] rfl rfl (by exact World.news_of_block (cs := #[.string metric, .int .i64 limit]) (heap_alloc_new _ _)) (by simp [Value.oneCell']) (by omega) (by simp [maxLen]; omega) (by omega) (by simp; omega) (wr.heap.size + 1) (by simp) ?_; intro gg5 cap5 w8 hown6 hgrow6 hat6 hlt6)
        have HT5 : Hid (Turn (fun i => w3.heap.size ≤ i) wr w8) := (Turn.of (bnew wr (.cells #[.string metric, .int .i64 limit] 59))).trans' ((Turn.grown hgrow6).mono fun i _ e => (HR.out.lt i e).1)
        have HR8 : Hid (w8.ownsRow w3.heap.size 59 2 (.slice (some ⟨gg5, 0, none⟩) (ys ++ [(⟨metric, limit⟩ : PairD)]).length cap5) (ys ++ [(⟨metric, limit⟩ : PairD)]).length (flatK (ys ++ [(⟨metric, limit⟩ : PairD)]))) := by
          refine hid ?_
          rw [flatK_append, List.length_append]
          exact hown6
        have HYM8 : Hid (pAll ⟨metric, limit⟩ b0 tn.mets = ys ++ [(⟨metric, limit⟩ : PairD)]) := by show _ = _; rw [HWA.out, HYM.out]; simp
        have B8 : Hid (Below w3.heap.size w3 w8) := HBL.out.trans (HT5.out.below (by omega) fun i hi e => by omega)
        have ey : ys.length + 1 = (ys ++ [(⟨metric, limit⟩ : PairD)]).length := by simp
        have hyl3 : (ys ++ [(⟨metric, limit⟩ : PairD)]).length ≤ 1048578 := by rw [← ey]; omega
        rw [ey]
        clear hown6 hgrow6 hat6 hlt6 HR HYM HBL HWA ey HT5 hyl2 HYL
        generalize ys ++ [(⟨metric, limit⟩ : PairD)] = ys8 at *
        clear hsr
        have hs8 : w3.heap.size ≤ w8.heap.size := B8.out.size
        have C8 : Hid (Blk w8 w.heap.size #[.int .i64 c.w, .int .i64 c.tl, .int .i64 c.ml, .int .i64 c.sh, .int .i64 c.ha, .int .i64 c.sg] 29) := C3.out.later B8.out
        have S8 : Hid (Blk w8 (w.heap.size + 1) #[.int .i64 now, .slice a ts.length cap] 33) := S3.out.later B8.out
        have R8 : Hid (Blk w8 (w.heap.size + 1 + 1) #[.int .i64 0, .slice none 0 0] 33) := R3.out.later B8.out
        have BW8 : Hid (Below w.heap.size w w8) := bto B3.out B8.out
        have X8 : Hid (Blk w8 X #[.string tn.name, .int .i64 tn.limit, .slice q1 tn.mets.length e1, .slice q2 tn.sers.length e2] 55) := HXB.out.later B8.out
        have g2 : w8.cell? ⟨X, 2, none⟩ = some (.slice q1 tn.mets.length e1) := X8.out.cell 2
        have f2 := X8.out.free 2
        have HTX : Hid (Turn (· = X) w8 (w8.setCell ⟨X, 2, none⟩ (.slice (some ⟨gg5, 0, none⟩) ys8.length cap5))) := (Turn.refl (· = X) w8).setCell (Or.inl rfl) 2 _
        have X7 : Hid (Blk (w8.setCell ⟨X, 2, none⟩ (.slice (some ⟨gg5, 0, none⟩) ys8.length cap5)) X #[.string tn.name, .int .i64 tn.limit, .slice (some ⟨gg5, 0, none⟩) ys8.length cap5, .slice q2 tn.sers.length e2] 55) := hid (by have := X8.out.set 2 (.slice (some ⟨gg5, 0, none⟩) ys8.length cap5); simpa using this)
        have P17 : Hid (PairsIn (w8.setCell ⟨X, 2, none⟩ (.slice (some ⟨gg5, 0, none⟩) ys8.length cap5)) (some ⟨gg5, 0, none⟩) ys8) := (pairs_of_row (HTX.out.row HR8.out (fun q hq e => by have := (HR8.out.lt q hq).1; omega))).pairs
        have P27 : Hid (PairsIn (w8.setCell ⟨X, 2, none⟩ (.slice (some ⟨gg5, 0, none⟩) ys8.length cap5)) q2 tn.sers) := (HPI.out _ ((Turn.of B8.out).trans' HTX.out)).2
        have C7 : Hid (Blk (w8.setCell ⟨X, 2, none⟩ (.slice (some ⟨gg5, 0, none⟩) ys8.length cap5)) w.heap.size #[.int .i64 c.w, .int .i64 c.tl, .int .i64 c.ml, .int .i64 c.sh, .int .i64 c.ha, .int .i64 c.sg] 29) := HTX.out.blk C8.out (by omega)
        have S7 : Hid (Blk (w8.setCell ⟨X, 2, none⟩ (.slice (some ⟨gg5, 0, none⟩) ys8.length cap5)) (w.heap.size + 1) #[.int .i64 now, .slice a ts.length cap] 33) := HTX.out.blk S8.out (by omega)
        have R7 : Hid (Blk (w8.setCell ⟨X, 2, none⟩ (.slice (some ⟨gg5, 0, none⟩) ys8.length cap5)) (w.heap.size + 1 + 1) #[.int .i64 0, .slice none 0 0] 33) := HTX.out.blk R8.out (by omega)
        have B7 : Hid (Below w.heap.size w (w8.setCell ⟨X, 2, none⟩ (.slice (some ⟨gg5, 0, none⟩) ys8.length cap5))) := BW8.out.trans (HTX.out.below (by have := BW8.out.size; omega) fun i hi e => by omega)
        have HT7 : Hid (limT tn metric limit = ⟨tn.name, tn.limit, ys8, tn.sers⟩) := by show _ = _; rw [HLA.out, HYM8.out]
        have HF7 : Hid (FitW ⟨tn.name, tn.limit, ys8, tn.sers⟩ ∧ tn.name = tenant ∧ tenant.toList.isEmpty = false) := ⟨⟨by show ys8.length ≤ _; omega, HFT.out.2.1, HFT.out.2.2⟩, HNM.out, HNE.out⟩
        go_upto_region 22 with fail
        clear g2 f2 HTX X8 C8 S8 R8 BW8 B8 HR8 HYM8 hs8 hsv HXB HPI HLA
        generalize (w8.setCell ⟨X, 2, none⟩ (.slice (some ⟨gg5, 0, none⟩) ys8.length cap5)) = w7 at *
        have m0 : w7.cell? ⟨X, 0, none⟩ = some (.string tn.name) := X7.out.cell 0
        have m1 : w7.cell? ⟨X, 1, none⟩ = some (.int .i64 tn.limit) := X7.out.cell 1
        have m2 : w7.cell? ⟨X, 2, none⟩ = some (.slice (some ⟨gg5, 0, none⟩) ys8.length cap5) := X7.out.cell 2
        have m3 : w7.cell? ⟨X, 3, none⟩ = some (.slice q2 tn.sers.length e2) := X7.out.cell 3
        have b7x0 : w7.cell? ⟨w.heap.size, 0, none⟩ = some (.int .i64 c.w) := C7.out.cell 0
        have b7x1 : w7.cell? ⟨w.heap.size, 1, none⟩ = some (.int .i64 c.tl) := C7.out.cell 1
        have b7x2 : w7.cell? ⟨w.heap.size, 2, none⟩ = some (.int .i64 c.ml) := C7.out.cell 2
        have b7x3 : w7.cell? ⟨w.heap.size, 3, none⟩ = some (.int .i64 c.sh) := C7.out.cell 3
        have b7x4 : w7.cell? ⟨w.heap.size, 4, none⟩ = some (.int .i64 c.ha) := C7.out.cell 4
        have b7x5 : w7.cell? ⟨w.heap.size, 5, none⟩ = some (.int .i64 c.sg) := C7.out.cell 5
        have b7y0 : w7.cell? ⟨w.heap.size + 1, 0, none⟩ = some (.int .i64 now) := S7.out.cell 0
        have b7y1 : w7.cell? ⟨w.heap.size + 1, 1, none⟩ = some (.slice a ts.length cap) := S7.out.cell 1
        have HV7 : Hid (V = if 10000 < (keptTs c.w now (insBy (·.name) ⟨tn.name, tn.limit, ys8, tn.sers⟩ ts)).length then (now, ts, false) else (now, keptTs c.w now (insBy (·.name) ⟨tn.name, tn.limit, ys8, tn.sers⟩ ts), true)) := by show _ = _; rw [HV.out, HT7.out]
        go_wp2_with fail
        refine (HWI.out _ tn.name tn.limit ys8 tn.sers (some ⟨gg5, 0, none⟩) q2 cap5 e2 B7.out P17.out P27.out HF7.out).mono ?_
        rintro e w8 ⟨ra, rc, rfl, ho8, hb8⟩
        have HO8 := hid ho8
        have C8 : Hid (Blk w8 w.heap.size #[.int .i64 c.w, .int .i64 c.tl, .int .i64 c.ml, .int .i64 c.sh, .int .i64 c.ha, .int .i64 c.sg] 29) := C7.out.later hb8
        have S8 : Hid (Blk w8 (w.heap.size + 1) #[.int .i64 now, .slice a ts.length cap] 33) := S7.out.later hb8
        have R8 : Hid (Blk w8 (w.heap.size + 1 + 1) #[.int .i64 0, .slice none 0 0] 33) := R7.out.later hb8
        have B8 : Hid (Below w.heap.size w w8) := bto B7.out hb8
        have hs78 := hb8.size
        have hr7 : w.heap.size + 1 + 1 < w7.heap.size := lt_of_block R7.out
        clear ho8 hb8 HV
        generalize keptTs c.w now (insBy (·.name) ⟨tn.name, tn.limit, ys8, tn.sers⟩ ts) = RL at *
        have CA : Hid (Blk (w8.alloc (.cells #[.int .i64 now, .slice ra RL.length rc] 33)) w.heap.size #[.int .i64 c.w, .int .i64 c.tl, .int .i64 c.ml, .int .i64 c.sh, .int .i64 c.ha, .int .i64 c.sg] 29) := C8.out.later (bnew _ _)
        have SA : Hid (Blk (w8.alloc (.cells #[.int .i64 now, .slice ra RL.length rc] 33)) (w.heap.size + 1) #[.int .i64 now, .slice a ts.length cap] 33) := S8.out.later (bnew _ _)
        have RA : Hid (Blk (w8.alloc (.cells #[.int .i64 now, .slice ra RL.length rc] 33)) (w.heap.size + 1 + 1) #[.int .i64 0, .slice none 0 0] 33) := R8.out.later (bnew _ _)
        have BA : Hid (Below w.heap.size w (w8.alloc (.cells #[.int .i64 now, .slice ra RL.length rc] 33))) := bto B8.out (bnew _ _)
        by_cases hgt : 10000 < RL.length
        · have HVE : Hid (V = (now, ts, false)) := by show _ = _; rw [HV7.out, if_pos hgt]
          have hgi : (10000 : Int) < RL.length := by omega
          clear HO8
          go_upto_region 24 with fail
          generalize (w8.alloc (.cells #[.int .i64 now, .slice ra RL.length rc] 33)) = wA at *
          have bAx0 : wA.cell? ⟨w.heap.size, 0, none⟩ = some (.int .i64 c.w) := CA.out.cell 0
          have bAx1 : wA.cell? ⟨w.heap.size, 1, none⟩ = some (.int .i64 c.tl) := CA.out.cell 1
          have bAx2 : wA.cell? ⟨w.heap.size, 2, none⟩ = some (.int .i64 c.ml) := CA.out.cell 2
          have bAx3 : wA.cell? ⟨w.heap.size, 3, none⟩ = some (.int .i64 c.sh) := CA.out.cell 3
          have bAx4 : wA.cell? ⟨w.heap.size, 4, none⟩ = some (.int .i64 c.ha) := CA.out.cell 4
          have bAx5 : wA.cell? ⟨w.heap.size, 5, none⟩ = some (.int .i64 c.sg) := CA.out.cell 5
          have bAy0 : wA.cell? ⟨w.heap.size + 1, 0, none⟩ = some (.int .i64 now) := SA.out.cell 0
          have bAy1 : wA.cell? ⟨w.heap.size + 1, 1, none⟩ = some (.slice a ts.length cap) := SA.out.cell 1
          go_wp2_with fail
          refine (HSM.out _ BA.out).mono ?_
          rintro e w9 ⟨ra, rc, rfl, ho9, hb9⟩
          have HO9 : Hid (TensOwn w9 wA.heap.size ra ts) := ho9
          have R9 : Hid (Blk w9 (w.heap.size + 1 + 1) #[.int .i64 0, .slice none 0 0] 33) := RA.out.later hb9
          have B9 : Hid (Below w.heap.size w w9) := bto BA.out hb9
          have hwv : w.heap.size + 1 + 1 < wA.heap.size := lt_of_block RA.out
          clear ho9 hb9
          have z0 : w9.cell? ⟨w.heap.size + 1 + 1, 0, none⟩ = some (.int .i64 0) := R9.out.cell 0
          have z1 : w9.cell? ⟨w.heap.size + 1 + 1, 1, none⟩ = some (.slice none 0 0) := R9.out.cell 1
          have f0 := R9.out.free 0
          have f1 := R9.out.free 1
          have hwl : w.heap.size + 1 + 1 < w9.heap.size := lt_of_block R9.out
          go_wp2
          have HTE9 : Turn (· = w.heap.size + 1 + 1) w9 ((w9.setCell ⟨w.heap.size + 1 + 1, 0, none⟩ (.int .i64 now)).setCell ⟨w.heap.size + 1 + 1, 1, none⟩ (.slice ra ts.length rc)) := ((Turn.refl (· = w.heap.size + 1 + 1) w9).setCell (Or.inl rfl) 0 _).setCell (Or.inl rfl) 1 _
          refine bodyPost_ret (v := .tuple #[.agg #[.int .i64 now, .slice ra ts.length rc], .bool false]) (by simp [results, Tryz.results15, go_sem, z0, z1]) rfl ?_
          rw [HVE.out]
          have ho : TensOwn ((w9.setCell ⟨w.heap.size + 1 + 1, 0, none⟩ (.int .i64 now)).setCell ⟨w.heap.size + 1 + 1, 1, none⟩ (.slice ra ts.length rc)) w.heap.size ra ts := (TensOwn.turned HO9.out HTE9 (fun g h1 h2 e => by omega)).mono (by omega)
          have hbe : Below w.heap.size w ((w9.setCell ⟨w.heap.size + 1 + 1, 0, none⟩ (.int .i64 now)).setCell ⟨w.heap.size + 1 + 1, 1, none⟩ (.slice ra ts.length rc)) := ((Turn.of (S := fun i => w.heap.size ≤ i) B9.out).trans' (HTE9.mono fun i _ e => by omega)).below (Nat.le_refl _) fun i hi h => by omega
          first
            | exact ⟨ra, ⟨rc, rfl⟩, ho, hbe⟩
            | exact ⟨ra, rc, rfl, ho, hbe⟩
        · have HVE : Hid (V = (now, RL, true)) := by show _ = _; rw [HV7.out, if_neg hgt]
          have hgi : ¬ ((10000 : Int) < RL.length) := by omega
          have HO9 : Hid (TensOwn (w8.alloc (.cells #[.int .i64 now, .slice ra RL.length rc] 33)) w7.heap.size ra RL) := HO8.out.later (bnew _ _)
          have n0 : (w8.alloc (.cells #[.int .i64 now, .slice ra RL.length rc] 33)).cell? ⟨w8.heap.size, 0, none⟩ = some (.int .i64 now) := (Blk.new _ _ _).cell 0
          have n1 : (w8.alloc (.cells #[.int .i64 now, .slice ra RL.length rc] 33)).cell? ⟨w8.heap.size, 1, none⟩ = some (.slice ra RL.length rc) := (Blk.new _ _ _).cell 1
          clear HO8
          go_upto_region 25 with fail
          have hs8a : w8.heap.size < (w8.alloc (.cells #[.int .i64 now, .slice ra RL.length rc] 33)).heap.size := by simp
          have R9 := RA
          have B9 := BA
          generalize (w8.alloc (.cells #[.int .i64 now, .slice ra RL.length rc] 33)) = wA at *
          have z0 : wA.cell? ⟨w.heap.size + 1 + 1, 0, none⟩ = some (.int .i64 0) := R9.out.cell 0
          have z1 : wA.cell? ⟨w.heap.size + 1 + 1, 1, none⟩ = some (.slice none 0 0) := R9.out.cell 1
          have f0 := R9.out.free 0
          have f1 := R9.out.free 1
          have hwl : w.heap.size + 1 + 1 < wA.heap.size := lt_of_block R9.out
          go_wp2
          have HTE9 : Turn (· = w.heap.size + 1 + 1) wA ((wA.setCell ⟨w.heap.size + 1 + 1, 0, none⟩ (.int .i64 now)).setCell ⟨w.heap.size + 1 + 1, 1, none⟩ (.slice ra RL.length rc)) := ((Turn.refl (· = w.heap.size + 1 + 1) wA).setCell (Or.inl rfl) 0 _).setCell (Or.inl rfl) 1 _
          refine bodyPost_ret (v := .tuple #[.agg #[.int .i64 now, .slice ra RL.length rc], .bool true]) (by simp [results, Tryz.results15, go_sem, z0, z1]) rfl ?_
          rw [HVE.out]
          have ho : TensOwn ((wA.setCell ⟨w.heap.size + 1 + 1, 0, none⟩ (.int .i64 now)).setCell ⟨w.heap.size + 1 + 1, 1, none⟩ (.slice ra RL.length rc)) w.heap.size ra RL := (TensOwn.turned HO9.out HTE9 (fun g h1 h2 e => by omega)).mono (by omega)
          have hbe : Below w.heap.size w ((wA.setCell ⟨w.heap.size + 1 + 1, 0, none⟩ (.int .i64 now)).setCell ⟨w.heap.size + 1 + 1, 1, none⟩ (.slice ra RL.length rc)) := ((Turn.of (S := fun i => w.heap.size ≤ i) B9.out).trans' (HTE9.mono fun i _ e => by omega)).below (Nat.le_refl _) fun i hi h => by omega
          first
            | exact ⟨ra, ⟨rc, rfl⟩, ho, hbe⟩
            | exact ⟨ra, rc, rfl, ho, hbe⟩
end Go.Proofs.YtojeemogabhaoaaGreatDoor
