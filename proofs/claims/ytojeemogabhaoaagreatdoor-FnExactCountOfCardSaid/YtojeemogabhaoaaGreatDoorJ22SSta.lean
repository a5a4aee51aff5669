import Derived.Test.YtojeemogabhaoaaGreatDoorProg
import Derived.Test.YtojeemogabhaoaaGreatDoorJ19ILim
import Derived.Test.YtojeemogabhaoaaGreatDoorJ02Ord
import Derived.Deep.DeepCutAuto
namespace Go.Proofs.YtojeemogabhaoaaGreatDoor
open Go.RowKit
theorem between_is {x lo hi : Int} {b : Bool} (h : btwB x lo hi = b) (w : World) : Calls Tryz.prog 26 #[.int .i64 x, .int .i64 lo, .int .i64 hi] w fun e w' => e = .returned (.bool b) ∧ w' = w := h ▸ between_any x lo hi w
def BigP (ps : List PairD) : Prop := ∀ i (h : i < ps.length), ps[i].s.size ≤ 1000000000
def BigT (ts : List TenD) : Prop := ∀ i (h : i < ts.length), ts[i].name.size ≤ maxLen ∧ BigP ts[i].mets ∧ BigP ts[i].sers ∧ ts[i].mets.length ≤ 1000000000 ∧ ts[i].sers.length ≤ 1000000000
set_option maxRecDepth 100000 in
set_option maxHeartbeats 8000000 in
theorem specState_any (c : CfgD) (now : Int) (a : Option Addr) (cap : Nat) (ts : List TenD) (w : World) (hf : TensIn w a ts) (hb : BigT ts) (hlen : ts.length ≤ 1000000000) :
    Calls Tryz.prog 8 #[cfgV c, .agg #[.int .i64 now, .slice a ts.length cap]] w fun e w' => e = .returned (.bool (stateB c now ts)) ∧ Below w.heap.size w w' := by
  have HC : Hid (∀ W, Calls Tryz.prog 25 #[cfgV c] W fun e w' => e = .returned (.bool (cfgB c)) ∧ Below W.heap.size W w') := fun W => specCfg_any c W
  have HSB : Hid (stateB c now ts = (cfgB c && btwB now 0 1000000000000 && decide (ts.length ≤ 10000) && tensB c.w now ts)) := rfl
  have HF : Hid (TensIn w a ts) := hf
  have HB : Hid (BigT ts) := hb
  clear hf hb
  unfold cfgV at *
  by_cases g0 : cfgB c = false
  · rw [g0] at HC HSB
    go_enter Tryz.func8, Tryz.ntmps8
    go_wp2_with fail
    refine (HC.out _).mono ?_
    rintro e w1 ⟨rfl, hb1⟩
    go_wp2
    go_ret
    exact ⟨ret_bool (by rw [HSB.out]; simp), bto (bto (bnew _ _) (bnew _ _)) hb1⟩
  have g0' : cfgB c = true := by simpa using g0
  rw [g0'] at HC HSB
  clear g0 g0'
  by_cases g1 : btwB now 0 1000000000000 = false
  · have HG : Hid (btwB now 0 1000000000000 = false) := g1
    rw [g1] at HSB
    clear g1
    go_enter Tryz.func8, Tryz.ntmps8
    go_wp2_with fail
    refine (HC.out _).mono ?_
    rintro e w1 ⟨rfl, hb1⟩
    have B1 : Hid (Below w.heap.size w w1) := bto (bto (bnew _ _) (bnew _ _)) hb1
    have S1 : Hid (Blk w1 (w.heap.size + 1) #[.int .i64 now, .slice a ts.length cap] 33) := hid (by have := (Blk.new (w.alloc (.cells #[.int .i64 c.w, .int .i64 c.tl, .int .i64 c.ml, .int .i64 c.sh, .int .i64 c.ha, .int .i64 c.sg] 29)) #[.int .i64 now, .slice a ts.length cap] 33).later hb1; simpa using this)
    have s0 : w1.cell? ⟨w.heap.size + 1, 0, none⟩ = some (.int .i64 now) := S1.out.cell 0
    clear hb1
    go_wp2_with (go_at_call 26; refine (between_is HG.out _).mono ?_; rintro e w' ⟨rfl, rfl⟩)
    go_ret
    exact ⟨ret_bool (by rw [HSB.out]; simp), B1.out⟩
  have g1' : btwB now 0 1000000000000 = true := by simpa using g1
  have HG : Hid (btwB now 0 1000000000000 = true) := g1'
  obtain ⟨hn0, hn1⟩ := btw_in g1'
  rw [g1'] at HSB
  clear g1 g1'
  by_cases g2 : (10000 : Int) < ts.length
  · have e2 : decide (ts.length ≤ 10000) = false := by simp; omega
    rw [e2] at HSB
    go_enter Tryz.func8, Tryz.ntmps8
    go_wp2_with fail
    refine (HC.out _).mono ?_
    rintro e w1 ⟨rfl, hb1⟩
    have B1 : Hid (Below w.heap.size w w1) := bto (bto (bnew _ _) (bnew _ _)) hb1
    have S1 : Hid (Blk w1 (w.heap.size + 1) #[.int .i64 now, .slice a ts.length cap] 33) := hid (by have := (Blk.new (w.alloc (.cells #[.int .i64 c.w, .int .i64 c.tl, .int .i64 c.ml, .int .i64 c.sh, .int .i64 c.ha, .int .i64 c.sg] 29)) #[.int .i64 now, .slice a ts.length cap] 33).later hb1; simpa using this)
    have s0 : w1.cell? ⟨w.heap.size + 1, 0, none⟩ = some (.int .i64 now) := S1.out.cell 0
    have s1 : w1.cell? ⟨w.heap.size + 1, 1, none⟩ = some (.slice a ts.length cap) := S1.out.cell 1
    clear hb1
    go_wp2_with (go_at_call 26; refine (between_is HG.out _).mono ?_; rintro e w' ⟨rfl, rfl⟩)
    go_ret
    exact ⟨ret_bool (by rw [HSB.out]; simp), B1.out⟩
  have e2 : decide (ts.length ≤ 10000) = true := by simp; omega
  rw [e2] at HSB
  clear e2
  go_enter Tryz.func8, Tryz.ntmps8
  go_wp2_with fail
  refine (HC.out _).mono ?_
  rintro e w1 ⟨rfl, hb1⟩
  have B1 : Hid (Below w.heap.size w w1) := bto (bto (bnew _ _) (bnew _ _)) hb1
  have C1 : Hid (Blk w1 w.heap.size #[.int .i64 c.w, .int .i64 c.tl, .int .i64 c.ml, .int .i64 c.sh, .int .i64 c.ha, .int .i64 c.sg] 29) := hid (((Blk.new _ _ _).alloc _).later hb1)
  have S1 : Hid (Blk w1 (w.heap.size + 1) #[.int .i64 now, .slice a ts.length cap] 33) := hid (by have := (Blk.new (w.alloc (.cells #[.int .i64 c.w, .int .i64 c.tl, .int .i64 c.ml, .int .i64 c.sh, .int .i64 c.ha, .int .i64 c.sg] 29)) #[.int .i64 now, .slice a ts.length cap] 33).later hb1; simpa using this)
  have s0 : w1.cell? ⟨w.heap.size + 1, 0, none⟩ = some (.int .i64 now) := S1.out.cell 0
  have s1 : w1.cell? ⟨w.heap.size + 1, 1, none⟩ = some (.slice a ts.length cap) := S1.out.cell 1
  clear hb1 HC
  have HSB2 : Hid (stateB c now ts = tensB c.w now ts) := by show _ = _; rw [HSB.out]; simp
  clear HSB
  go_wp2_with (go_at_call 26; refine (between_is HG.out _).mono ?_; rintro e w' ⟨rfl, rfl⟩)
  clear s0 s1
  go_loopw [5, 6, 7, 8, 9, 10, 29] (fun _ _ _ _ _ _ i wr => ∃ k : Nat, k ≤ ts.length ∧ i = .int .i64 k ∧ allTo (tenAt c.w now ts) k = true ∧ Below w'.heap.size w' wr) (fun _ _ _ _ _ _ i _ => ts.length - (intOf i).toNat)
  case atStart => exact ⟨0, Nat.zero_le _, rfl, rfl, Below.refl _ _⟩
  case round =>
    obtain ⟨k, hk, rfl, hok, hbel⟩ := hrel
    have HOK : Hid (allTo (tenAt c.w now ts) k = true) := hok
    have HBEL : Hid (Below w'.heap.size w' wr) := hbel
    have Bw : Hid (Below w.heap.size w wr) := bto B1.out hbel
    have Cw : Hid (Blk wr w.heap.size #[.int .i64 c.w, .int .i64 c.tl, .int .i64 c.ml, .int .i64 c.sh, .int .i64 c.ha, .int .i64 c.sg] 29) := C1.out.later hbel
    have Sw : Hid (Blk wr (w.heap.size + 1) #[.int .i64 now, .slice a ts.length cap] 33) := S1.out.later hbel
    clear hok hbel B1 C1 S1
    by_cases hlt : k < ts.length
    · obtain ⟨b, o, a1, q1, a2, q2, rfl, hbl, t0, t1, t2, t3, p1, p2⟩ := (HF.out.later Bw.out).at hlt
      obtain ⟨n1, n2, n3, n4, n5⟩ := HB.out k hlt
      have HFAIL : Hid (tenAt c.w now ts k = false → stateB c now ts = false) := fun h => by rw [HSB2.out]; exact allTo_not h hlt
      have HAT : Hid (tenAt c.w now ts k = (prevT ts k && tenB c.w now ts[k])) := tenAt_eq hlt
      have HPRE : Hid (0 < k → prevT ts k = blt (ts[k - 1]'(by omega)).name ts[k].name ∧ wr.cell? ⟨b, o + (k - 1) * 4, none⟩ = some (.string (ts[k - 1]'(by omega)).name)) := fun h0 => by
        refine ⟨prevT_at h0 hlt, ?_⟩
        obtain ⟨b', o', _, _, _, _, e, _, u0, _⟩ := (HF.out.later Bw.out).at (i := k - 1) (by omega)
        simp only [Option.some.injEq, Addr.mk.injEq, and_true] at e
        rw [e.1, e.2]; exact u0
      have HPZ : Hid (k = 0 → prevT ts k = true) := fun h0 => by subst h0; rfl
      generalize ts[k] = T at *
      have HTN : Hid (∀ W, Calls Tryz.prog 27 #[.string T.name] W fun e w' => e = .returned (.bool (tnameB T.name)) ∧ w' = W) := fun W => l4TenantName_any T.name W n1
      have HID : Hid (∀ W, Calls Tryz.prog 28 #[.agg #[.string T.name, .int .i64 T.limit, .slice a1 T.mets.length q1, .slice a2 T.sers.length q2]] W fun e w' => e = .returned (.bool (idleB T)) ∧ Below W.heap.size W w') := fun W => l4Idle_any T a1 a2 q1 q2 W
      have HTB : Hid (tenB c.w now T = (tnameB T.name && btwB T.limit (-1) 1000000 && metsB T.mets && sersB c.w now T.sers && !idleB T)) := rfl
      by_cases e1 : tnameB T.name = false
      · rw [e1] at HTN HTB
        go_wp2_with fail
        refine (HTN.out _).mono ?_
        rintro e w2 ⟨rfl, hw⟩
        replace hw := hw.symm
        subst hw
        go_wp2
        go_ret
        exact ⟨ret_bool (HFAIL.out (by rw [HAT.out, HTB.out]; simp)).symm, bto Bw.out (bnew _ _)⟩
      have e1' : tnameB T.name = true := by simpa using e1
      rw [e1'] at HTN HTB
      clear e1 e1'
      by_cases e2 : btwB T.limit (-1) 1000000 = false
      · rw [e2] at HTB
        have HL : Hid (btwB T.limit (-1) 1000000 = false) := e2
        clear e2
        go_wp2_with fail
        refine (HTN.out _).mono ?_
        rintro e w2 ⟨rfl, hw⟩
        replace hw := hw.symm
        subst hw
        go_wp2_with fail
        refine (between_is HL.out _).mono ?_
        rintro e w2 ⟨rfl, hw⟩
        replace hw := hw.symm
        subst hw
        go_wp2
        go_ret
        exact ⟨ret_bool (HFAIL.out (by rw [HAT.out, HTB.out]; simp)).symm, bto Bw.out (bnew _ _)⟩
      have e2' : btwB T.limit (-1) 1000000 = true := by simpa using e2
      rw [e2'] at HTB
      have HL : Hid (btwB T.limit (-1) 1000000 = true) := e2'
      clear e2 e2'
      by_cases e3 : idleB T = true
      · rw [e3] at HTB HID
        clear e3
        go_wp2_with fail
        refine (HTN.out _).mono ?_
        rintro e w2 ⟨rfl, hw⟩
        replace hw := hw.symm
        subst hw
        go_wp2_with fail
        refine (between_is HL.out _).mono ?_
        rintro e w2 ⟨rfl, hw⟩
        replace hw := hw.symm
        subst hw
        go_wp2_with fail
        refine (HID.out _).mono ?_
        rintro e w3 ⟨rfl, hb3⟩
        go_wp2
        go_ret
        exact ⟨ret_bool (HFAIL.out (by rw [HAT.out, HTB.out]; simp)).symm, bto Bw.out (bto (bnew _ _) hb3)⟩
      have e3' : idleB T = false := by simpa using e3
      rw [e3'] at HTB HID
      clear e3 e3'
      go_wp2_with fail
      refine (HTN.out _).mono ?_
      rintro e w2 ⟨rfl, hw⟩
      replace hw := hw.symm
      subst hw
      go_wp2_with fail
      refine (between_is HL.out _).mono ?_
      rintro e w2 ⟨rfl, hw⟩
      replace hw := hw.symm
      subst hw
      go_wp2_with fail
      refine (HID.out _).mono ?_
      rintro e w3 ⟨rfl, hb3⟩
      have T3 : Hid (Blk w3 wr.heap.size #[.string T.name, .int .i64 T.limit, .slice a1 T.mets.length q1, .slice a2 T.sers.length q2] 55) := hid ((Blk.new _ _ _).later hb3)
      have S3 : Hid (Blk w3 (w.heap.size + 1) #[.int .i64 now, .slice (some ⟨b, o, none⟩) ts.length cap] 33) := hid (Sw.out.later (bto (bnew _ _) hb3))
      have C3 : Hid (Blk w3 w.heap.size #[.int .i64 c.w, .int .i64 c.tl, .int .i64 c.ml, .int .i64 c.sh, .int .i64 c.ha, .int .i64 c.sg] 29) := hid (Cw.out.later (bto (bnew _ _) hb3))
      have B3 : Hid (Below w'.heap.size w' w3) := hid (bto HBEL.out (bto (bnew _ _) hb3))
      have Bw3 : Hid (Below w.heap.size w w3) := hid (bto Bw.out (bto (bnew _ _) hb3))
      have P1 : Hid (PairsIn w3 a1 T.mets) := hid (p1.later (bto (bnew _ _) hb3))
      have P2 : Hid (PairsIn w3 a2 T.sers) := hid (p2.later (bto (bnew _ _) hb3))
      have HPRE3 : Hid (0 < k → ∃ pn : ByteArray, prevT ts k = blt pn T.name ∧ w3.cell? ⟨b, o + (k - 1) * 4, none⟩ = some (.string pn)) := fun h0 => ⟨_, (HPRE.out h0).1, ((bto (bnew _ _) hb3).cell hbl).trans (HPRE.out h0).2⟩
      clear hb3 HPRE p1 p2 t0 t1 t2 t3 Sw Cw Bw HBEL HID HTN HL
      generalize wr.heap.size = tb at *
      clear wr
      go_upto_region 8 with fail
      go_cut [61] (fun s wx => s = .bool (!(prevT ts k)) ∧ Below w3.heap.size w3 wx)
      case first =>
        have x0 : w3.cell? ⟨w.heap.size + 1, 1, none⟩ = some (.slice (some ⟨b, o, none⟩) ts.length cap) := S3.out.cell 1
        have x1 : w3.cell? ⟨tb, 0, none⟩ = some (.string T.name) := T3.out.cell 0
        by_cases h0 : (0 : Int) < k
        · have h0' : 0 < k := by omega
          obtain ⟨pn, hp, cp⟩ := HPRE3.out h0'
          have HP : Hid (prevT ts k = blt pn T.name) := hp
          clear hp
          go_quiet (fail)
          go_wp2_with fail
          go_meet
          exact ⟨by rw [HP.out]; rfl, below_drewN (Below.refl _ _) _⟩
        · have hd : decide ((0 : Int) < k) = false := by simpa using h0
          have hd' : decide (0 < k) = false := by simp; omega
          have HP : Hid (prevT ts k = true) := HPZ.out (by omega)
          go_quiet (fail)
          go_wp2_with fail
          go_meet
          exact ⟨by rw [HP.out]; rfl, below_drewN (Below.refl _ _) _⟩
      obtain ⟨rfl, hb4⟩ := hcut
      rename World => w4
      have T4 : Hid (Blk w4 tb #[.string T.name, .int .i64 T.limit, .slice a1 T.mets.length q1, .slice a2 T.sers.length q2] 55) := T3.out.later hb4
      have S4 : Hid (Blk w4 (w.heap.size + 1) #[.int .i64 now, .slice (some ⟨b, o, none⟩) ts.length cap] 33) := S3.out.later hb4
      have C4 : Hid (Blk w4 w.heap.size #[.int .i64 c.w, .int .i64 c.tl, .int .i64 c.ml, .int .i64 c.sh, .int .i64 c.ha, .int .i64 c.sg] 29) := C3.out.later hb4
      have B4 : Hid (Below w'.heap.size w' w4) := bto B3.out hb4
      have Bw4 : Hid (Below w.heap.size w w4) := bto Bw3.out hb4
      have P14 : Hid (PairsIn w4 a1 T.mets) := P1.out.later hb4
      have P24 : Hid (PairsIn w4 a2 T.sers) := P2.out.later hb4
      clear hb4 T3 S3 C3 B3 Bw3 P1 P2 HPRE3 HPZ w3
      by_cases e4 : prevT ts k = false
      · rw [e4] at HAT ⊢
        go_wp2
        go_ret
        exact ⟨ret_bool (HFAIL.out (by rw [HAT.out]; simp)).symm, Bw4.out⟩
      have e4' : prevT ts k = true := by simpa using e4
      rw [e4'] at HAT ⊢
      clear e4 e4'
      have y2 : w4.cell? ⟨tb, 2, none⟩ = some (.slice a1 T.mets.length q1) := T4.out.cell 2
      go_wp2
      clear y2
      go_loopw [7, 8, 65] (fun _ _ j wr => ∃ i : Nat, i ≤ T.mets.length ∧ j = .int .i64 i ∧ allTo (metAt T.mets) i = true ∧ Below w4.heap.size w4 wr) (fun _ _ j _ => T.mets.length - (intOf j).toNat)
      case atStart => exact ⟨0, Nat.zero_le _, rfl, rfl, Below.refl _ _⟩
      case round =>
        obtain ⟨i, hi, rfl, hmo, hb5⟩ := hrel
        have HMO : Hid (allTo (metAt T.mets) i = true) := hmo
        have HB5 : Hid (Below w4.heap.size w4 wr) := hb5
        clear hmo hb5
        by_cases hil : i < T.mets.length
        · obtain ⟨pb, po, rfl, hpl, c0, c1⟩ := (P14.out.later HB5.out).at hil
          have HMF : Hid (metAt T.mets i = false → stateB c now ts = false) := fun h => HFAIL.out (by rw [HAT.out, HTB.out]; have : metsB T.mets = false := allTo_not h hil; rw [this]; simp)
          have HMA : Hid (metAt T.mets i = (prevB T.mets i && mnameB T.mets[i].s && btwB T.mets[i].n 0 1000000)) := metAt_eq hil
          have hsz := n2 i hil
          have HPRE : Hid (0 < i → ∃ pn : ByteArray, prevB T.mets i = blt pn T.mets[i].s ∧ wr.cell? ⟨pb, po + (i - 1) * 2, none⟩ = some (.string pn)) := fun h0 => by
            refine ⟨_, prevB_at h0 hil, ?_⟩
            obtain ⟨b', o', e, _, u0, _⟩ := (P14.out.later HB5.out).at (i := i - 1) (by omega)
            simp only [Option.some.injEq, Addr.mk.injEq, and_true] at e
            rw [e.1, e.2]; exact u0
          have HPZ : Hid (i = 0 → prevB T.mets i = true) := fun h0 => by subst h0; rfl
          have TBX : Hid (Blk wr tb #[.string T.name, .int .i64 T.limit, .slice (some ⟨pb, po, none⟩) T.mets.length q1, .slice a2 T.sers.length q2] 55) := T4.out.later HB5.out
          generalize T.mets[i] = P at *
          have HMN : Hid (∀ W, Calls Tryz.prog 29 #[.string P.s] W fun e w' => e = .returned (.bool (mnameB P.s)) ∧ Below W.heap.size W w') := fun W => l4MetricName_any P.s W hsz
          go_upto_region 13 with fail
          have MBX : Hid (Blk (wr.alloc (.cells #[.string P.s, .int .i64 P.n] 59)) wr.heap.size #[.string P.s, .int .i64 P.n] 59) := Blk.new _ _ _
          have TBY : Hid (Blk (wr.alloc (.cells #[.string P.s, .int .i64 P.n] 59)) tb #[.string T.name, .int .i64 T.limit, .slice (some ⟨pb, po, none⟩) T.mets.length q1, .slice a2 T.sers.length q2] 55) := TBX.out.alloc _
          have HB6 : Hid (Below w4.heap.size w4 (wr.alloc (.cells #[.string P.s, .int .i64 P.n] 59))) := bto HB5.out (bnew _ _)
          have HPR6 : Hid (0 < i → ∃ pn : ByteArray, prevB T.mets i = blt pn P.s ∧ (wr.alloc (.cells #[.string P.s, .int .i64 P.n] 59)).cell? ⟨pb, po + (i - 1) * 2, none⟩ = some (.string pn)) := fun h0 => by
            obtain ⟨pn, e1, e2⟩ := HPRE.out h0
            exact ⟨pn, e1, ((bnew _ _).cell hpl).trans e2⟩
          generalize wr.alloc (.cells #[.string P.s, .int .i64 P.n] 59) = W at *
          generalize wr.heap.size = mb at *
          clear c0 c1 HPRE TBX hpl HB5 wr
          go_cut [95] (fun s wx => s = .bool (!(metAt T.mets i)) ∧ Below W.heap.size W wx)
          case first =>
            have d0 := Later.cells (show W.cell? ⟨mb, 0, none⟩ = some (.string P.s) from MBX.out.cell 0)
            have d1 := Later.cells (show W.cell? ⟨mb, 1, none⟩ = some (.int .i64 P.n) from MBX.out.cell 1)
            have d2 := Later.cells (show W.cell? ⟨tb, 2, none⟩ = some (.slice (some ⟨pb, po, none⟩) T.mets.length q1) from TBY.out.cell 2)
            have hnel := Later.there W
            by_cases f1 : mnameB P.s = false
            · have HV : Hid (metAt T.mets i = false) := by show _ = _; rw [HMA.out, f1]; simp
              rw [f1] at HMN
              clear f1
              refine wp_region_later (by kernel_rfl) (by kernel_rfl) ?_
              repeat (go_big_quiet_step (first | (go_at_call 29; exact calls_later (HMN.out _))))
              refine wpQuiet_nil ?_
              rintro _ ⟨x, rfl⟩
              go_wp2_with fail
              go_meet
              exact ⟨by rw [HV.out]; rfl, x.h⟩
            have f1' : mnameB P.s = true := by simpa using f1
            rw [f1'] at HMN HMA
            clear f1 f1'
            by_cases f2 : btwB P.n 0 1000000 = false
            · have HV : Hid (metAt T.mets i = false) := by show _ = _; rw [HMA.out, f2]; simp
              have HL2 : Hid (btwB P.n 0 1000000 = false) := f2
              clear f2
              refine wp_region_later (by kernel_rfl) (by kernel_rfl) ?_
              repeat (go_big_quiet_step (first | (go_at_call 29; exact calls_later (HMN.out _)) | (go_at_call 26; exact calls_later_same (between_is HL2.out _))))
              refine wpQuiet_nil ?_
              rintro _ ⟨x, rfl⟩
              go_wp2_with fail
              go_meet
              exact ⟨by rw [HV.out]; rfl, x.h⟩
            have f2' : btwB P.n 0 1000000 = true := by simpa using f2
            rw [f2'] at HMA
            have HL2 : Hid (btwB P.n 0 1000000 = true) := f2'
            clear f2 f2'
            by_cases h0 : (0 : Int) < i
            · have h0' : 0 < i := by omega
              obtain ⟨pn, hp, cp⟩ := HPR6.out h0'
              have d3 := Later.cells cp
              have HV : Hid (metAt T.mets i = blt pn P.s) := by show _ = _; rw [HMA.out, hp]; simp
              clear cp hp
              refine wp_region_later (by kernel_rfl) (by kernel_rfl) ?_
              repeat (go_big_quiet_step (first | (go_at_call 29; exact calls_later (HMN.out _)) | (go_at_call 26; exact calls_later_same (between_is HL2.out _))))
              refine wpQuiet_nil ?_
              rintro _ ⟨x, rfl⟩
              go_wp2_with fail
              go_meet
              exact ⟨by rw [HV.out]; rfl, x.h⟩
            · have hd : decide ((0 : Int) < i) = false := by simpa using h0
              have hd' : decide (0 < i) = false := by simp; omega
              have HV : Hid (metAt T.mets i = true) := by show _ = _; rw [HMA.out, HPZ.out (by omega)]; rfl
              refine wp_region_later (by kernel_rfl) (by kernel_rfl) ?_
              repeat (go_big_quiet_step (first | (go_at_call 29; exact calls_later (HMN.out _)) | (go_at_call 26; exact calls_later_same (between_is HL2.out _))))
              refine wpQuiet_nil ?_
              rintro _ ⟨x, rfl⟩
              go_wp2_with fail
              go_meet
              exact ⟨by rw [HV.out]; rfl, x.h⟩
          obtain ⟨rfl, hb7⟩ := hcut
          rename World => w7
          have HB7 : Hid (Below w4.heap.size w4 w7) := bto HB6.out hb7
          clear hb7 HB6 MBX TBY HPR6 HMN
          by_cases f4 : metAt T.mets i = false
          · have HF4 : Hid (metAt T.mets i = false) := f4
            rw [f4]
            clear f4
            go_wp2
            go_ret
            exact ⟨ret_bool (HMF.out HF4.out).symm, bto Bw4.out HB7.out⟩
          · have f4' : metAt T.mets i = true := by simpa using f4
            have HF4 : Hid (allTo (metAt T.mets) (i + 1) = true) := by show _ = _; rw [allTo_succ, HMO.out, f4']; rfl
            rw [f4']
            clear f4 f4'
            go_wp2
            exact ⟨⟨i + 1, by omega, by go_num, HF4.out, HB7.out⟩, by simp [intOf]; omega⟩
        · have ei : i = T.mets.length := by omega
          have HMB : Hid (metsB T.mets = true) := by have := HMO.out; rw [ei] at this; exact this
          clear ei
          have T5 : Hid (Blk wr tb #[.string T.name, .int .i64 T.limit, .slice a1 T.mets.length q1, .slice a2 T.sers.length q2] 55) := T4.out.later HB5.out
          have S5 : Hid (Blk wr (w.heap.size + 1) #[.int .i64 now, .slice (some ⟨b, o, none⟩) ts.length cap] 33) := S4.out.later HB5.out
          have C5 : Hid (Blk wr w.heap.size #[.int .i64 c.w, .int .i64 c.tl, .int .i64 c.ml, .int .i64 c.sh, .int .i64 c.ha, .int .i64 c.sg] 29) := C4.out.later HB5.out
          have B5 : Hid (Below w'.heap.size w' wr) := bto B4.out HB5.out
          have Bw5 : Hid (Below w.heap.size w wr) := bto Bw4.out HB5.out
          have P25 : Hid (PairsIn wr a2 T.sers) := P24.out.later HB5.out
          have y3 : wr.cell? ⟨tb, 3, none⟩ = some (.slice a2 T.sers.length q2) := T5.out.cell 3
          clear T4 S4 C4 B4 Bw4 P14 P24 HB5 HMO
          go_wp2
          clear y3
          have w5 : True := trivial
          generalize hwo : wr = wo at *
          clear hwo
          go_loopw [9, 10, 100] (fun _ _ j wr => ∃ i : Nat, i ≤ T.sers.length ∧ j = .int .i64 i ∧ allTo (serAt c.w now T.sers) i = true ∧ Below wo.heap.size wo wr) (fun _ _ j _ => T.sers.length - (intOf j).toNat)
          case atStart => exact ⟨0, Nat.zero_le _, rfl, rfl, Below.refl _ _⟩
          case round =>
            obtain ⟨i, hi, rfl, hmo, hb5⟩ := hrel
            have HMO : Hid (allTo (serAt c.w now T.sers) i = true) := hmo
            have HB5 : Hid (Below wo.heap.size wo wr) := hb5
            clear hmo hb5
            by_cases hil : i < T.sers.length
            · obtain ⟨pb, po, rfl, hpl, c0, c1⟩ := (P25.out.later HB5.out).at hil
              have HMF : Hid (serAt c.w now T.sers i = false → stateB c now ts = false) := fun h => HFAIL.out (by rw [HAT.out, HTB.out]; have : sersB c.w now T.sers = false := allTo_not h hil; rw [this]; simp)
              have HMA : Hid (serAt c.w now T.sers i = (prevB T.sers i && keyOK T.sers[i].s && btwB T.sers[i].n 0 now && decide (now - T.sers[i].n < c.w))) := serAt_eq hil
              have hsz := n3 i hil
              have HPRE : Hid (0 < i → ∃ pn : ByteArray, prevB T.sers i = blt pn T.sers[i].s ∧ wr.cell? ⟨pb, po + (i - 1) * 2, none⟩ = some (.string pn)) := fun h0 => by
                refine ⟨_, prevB_at h0 hil, ?_⟩
                obtain ⟨b', o', e, _, u0, _⟩ := (P25.out.later HB5.out).at (i := i - 1) (by omega)
                simp only [Option.some.injEq, Addr.mk.injEq, and_true] at e
                rw [e.1, e.2]; exact u0
              have HPZ : Hid (i = 0 → prevB T.sers i = true) := fun h0 => by subst h0; rfl
              have TBX : Hid (Blk wr tb #[.string T.name, .int .i64 T.limit, .slice a1 T.mets.length q1, .slice (some ⟨pb, po, none⟩) T.sers.length q2] 55) := T5.out.later HB5.out
              have SBX : Hid (Blk wr (w.heap.size + 1) #[.int .i64 now, .slice (some ⟨b, o, none⟩) ts.length cap] 33) := S5.out.later HB5.out
              have CBX : Hid (Blk wr w.heap.size #[.int .i64 c.w, .int .i64 c.tl, .int .i64 c.ml, .int .i64 c.sh, .int .i64 c.ha, .int .i64 c.sg] 29) := C5.out.later HB5.out
              generalize T.sers[i] = P at *
              have HMN : Hid (∀ W, Calls Tryz.prog 30 #[.string P.s] W fun e w' => e = .returned (.bool (keyOK P.s)) ∧ Below W.heap.size W w') := fun W => l4Key_any P.s W hsz
              go_upto_region 19 with fail
              have MBX : Hid (Blk (wr.alloc (.cells #[.string P.s, .int .i64 P.n] 61)) wr.heap.size #[.string P.s, .int .i64 P.n] 61) := Blk.new _ _ _
              have TBY : Hid (Blk (wr.alloc (.cells #[.string P.s, .int .i64 P.n] 61)) tb #[.string T.name, .int .i64 T.limit, .slice a1 T.mets.length q1, .slice (some ⟨pb, po, none⟩) T.sers.length q2] 55) := TBX.out.alloc _
              have SBY : Hid (Blk (wr.alloc (.cells #[.string P.s, .int .i64 P.n] 61)) (w.heap.size + 1) #[.int .i64 now, .slice (some ⟨b, o, none⟩) ts.length cap] 33) := SBX.out.alloc _
              have CBY : Hid (Blk (wr.alloc (.cells #[.string P.s, .int .i64 P.n] 61)) w.heap.size #[.int .i64 c.w, .int .i64 c.tl, .int .i64 c.ml, .int .i64 c.sh, .int .i64 c.ha, .int .i64 c.sg] 29) := CBX.out.alloc _
              have HB6 : Hid (Below wo.heap.size wo (wr.alloc (.cells #[.string P.s, .int .i64 P.n] 61))) := bto HB5.out (bnew _ _)
              have HPR6 : Hid (0 < i → ∃ pn : ByteArray, prevB T.sers i = blt pn P.s ∧ (wr.alloc (.cells #[.string P.s, .int .i64 P.n] 61)).cell? ⟨pb, po + (i - 1) * 2, none⟩ = some (.string pn)) := fun h0 => by
                obtain ⟨pn, e1, e2⟩ := HPRE.out h0
                exact ⟨pn, e1, ((bnew _ _).cell hpl).trans e2⟩
              generalize wr.alloc (.cells #[.string P.s, .int .i64 P.n] 61) = W at *
              generalize wr.heap.size = mb at *
              clear c0 c1 HPRE TBX SBX CBX hpl HB5 wr
              go_cut [142] (fun s wx => s = .bool (!(serAt c.w now T.sers i)) ∧ Below W.heap.size W wx)
              case first =>
                have d0 := Later.cells (show W.cell? ⟨mb, 0, none⟩ = some (.string P.s) from MBX.out.cell 0)
                have d1 := Later.cells (show W.cell? ⟨mb, 1, none⟩ = some (.int .i64 P.n) from MBX.out.cell 1)
                have d2 := Later.cells (show W.cell? ⟨tb, 3, none⟩ = some (.slice (some ⟨pb, po, none⟩) T.sers.length q2) from TBY.out.cell 3)
                have d4 := Later.cells (show W.cell? ⟨w.heap.size + 1, 0, none⟩ = some (.int .i64 now) from SBY.out.cell 0)
                have d5 := Later.cells (show W.cell? ⟨w.heap.size, 0, none⟩ = some (.int .i64 c.w) from CBY.out.cell 0)
                have hnel := Later.there W
                by_cases f1 : keyOK P.s = false
                · have HV : Hid (serAt c.w now T.sers i = false) := by show _ = _; rw [HMA.out, f1]; simp
                  rw [f1] at HMN
                  clear f1
                  refine wp_region_later (by kernel_rfl) (by kernel_rfl) ?_
                  repeat (go_big_quiet_step (first | (go_at_call 30; exact calls_later (HMN.out _))))
                  refine wpQuiet_nil ?_
                  rintro _ ⟨x, rfl⟩
                  go_wp2_with fail
                  go_meet
                  exact ⟨by rw [HV.out]; rfl, x.h⟩
                have f1' : keyOK P.s = true := by simpa using f1
                rw [f1'] at HMN HMA
                clear f1 f1'
                by_cases f2 : btwB P.n 0 now = false
                · have HV : Hid (serAt c.w now T.sers i = false) := by show _ = _; rw [HMA.out, f2]; simp
                  have HL2 : Hid (btwB P.n 0 now = false) := f2
                  clear f2
                  refine wp_region_later (by kernel_rfl) (by kernel_rfl) ?_
                  repeat (go_big_quiet_step (first | (go_at_call 30; exact calls_later (HMN.out _)) | (go_at_call 26; exact calls_later_same (between_is HL2.out _))))
                  refine wpQuiet_nil ?_
                  rintro _ ⟨x, rfl⟩
                  go_wp2_with fail
                  go_meet
                  exact ⟨by rw [HV.out]; rfl, x.h⟩
                have f2' : btwB P.n 0 now = true := by simpa using f2
                obtain ⟨r0, r1⟩ := btw_in f2'
                rw [f2'] at HMA
                have HL2 : Hid (btwB P.n 0 now = true) := f2'
                clear f2 f2'
                by_cases f3 : c.w ≤ now - P.n
                · have hx : decide (now - P.n < c.w) = false := by simp; omega
                  have HV : Hid (serAt c.w now T.sers i = false) := by show _ = _; rw [HMA.out, hx]; simp
                  clear hx
                  refine wp_region_later (by kernel_rfl) (by kernel_rfl) ?_
                  repeat (go_big_quiet_step (first | (go_at_call 30; exact calls_later (HMN.out _)) | (go_at_call 26; exact calls_later_same (between_is HL2.out _))))
                  refine wpQuiet_nil ?_
                  rintro _ ⟨x, rfl⟩
                  go_wp2_with fail
                  go_meet
                  exact ⟨by rw [HV.out]; rfl, x.h⟩
                have hx : decide (now - P.n < c.w) = true := by simp; omega
                rw [hx] at HMA
                have hx2 : decide (c.w ≤ now - P.n) = false := by simpa using f3
                clear hx
                by_cases h0 : (0 : Int) < i
                · have h0' : 0 < i := by omega
                  obtain ⟨pn, hp, cp⟩ := HPR6.out h0'
                  have d3 := Later.cells cp
                  have HV : Hid (serAt c.w now T.sers i = blt pn P.s) := by show _ = _; rw [HMA.out, hp]; simp
                  clear cp hp
                  refine wp_region_later (by kernel_rfl) (by kernel_rfl) ?_
                  repeat (go_big_quiet_step (first | (go_at_call 30; exact calls_later (HMN.out _)) | (go_at_call 26; exact calls_later_same (between_is HL2.out _))))
                  refine wpQuiet_nil ?_
                  rintro _ ⟨x, rfl⟩
                  go_wp2_with fail
                  go_meet
                  exact ⟨by rw [HV.out]; rfl, x.h⟩
                · have hd : decide ((0 : Int) < i) = false := by simpa using h0
                  have hd' : decide (0 < i) = false := by simp; omega
                  have HV : Hid (serAt c.w now T.sers i = true) := by show _ = _; rw [HMA.out, HPZ.out (by omega)]; rfl
                  refine wp_region_later (by kernel_rfl) (by kernel_rfl) ?_
                  repeat (go_big_quiet_step (first | (go_at_call 30; exact calls_later (HMN.out _)) | (go_at_call 26; exact calls_later_same (between_is HL2.out _))))
                  refine wpQuiet_nil ?_
                  rintro _ ⟨x, rfl⟩
                  go_wp2_with fail
                  go_meet
                  exact ⟨by rw [HV.out]; rfl, x.h⟩
              obtain ⟨rfl, hb7⟩ := hcut
              rename World => w7
              have HB7 : Hid (Below wo.heap.size wo w7) := bto HB6.out hb7
              clear hb7 HB6 MBX TBY SBY CBY HPR6 HMN
              by_cases f4 : serAt c.w now T.sers i = false
              · have HF4 : Hid (serAt c.w now T.sers i = false) := f4
                rw [f4]
                clear f4
                go_wp2
                go_ret
                exact ⟨ret_bool (HMF.out HF4.out).symm, bto Bw5.out HB7.out⟩
              · have f4' : serAt c.w now T.sers i = true := by simpa using f4
                have HF4 : Hid (allTo (serAt c.w now T.sers) (i + 1) = true) := by show _ = _; rw [allTo_succ, HMO.out, f4']; rfl
                rw [f4']
                clear f4 f4'
                go_wp2
                exact ⟨⟨i + 1, by omega, by go_num, HF4.out, HB7.out⟩, by simp [intOf]; omega⟩
            · have ei : i = T.sers.length := by omega
              have HSS : Hid (sersB c.w now T.sers = true) := by have := HMO.out; rw [ei] at this; exact this
              have HNX : Hid (allTo (tenAt c.w now ts) (k + 1) = true) := by
                show _ = _
                rw [allTo_succ, HOK.out, HAT.out, HTB.out, HMB.out, HSS.out]; rfl
              clear ei
              go_wp2
              exact ⟨⟨k + 1, by omega, by go_num, HNX.out, bto B5.out HB5.out⟩, by simp [intOf]; omega⟩
    · have ek : k = ts.length := by omega
      have HEND : Hid (stateB c now ts = true) := by show _ = _; rw [HSB2.out]; have := HOK.out; rw [ek] at this; exact this
      go_wp2
      go_ret
      exact ⟨ret_bool HEND.out.symm, Bw.out⟩
end Go.Proofs.YtojeemogabhaoaaGreatDoor
