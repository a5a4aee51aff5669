import Derived.Test.YtojeemogabhaoaaGreatDoorProg
import Derived.Test.YtojeemogabhaoaaGreatDoorJ20QTail
import Derived.Test.YtojeemogabhaoaaGreatDoorJ05Cfg
import Derived.Deep.DeepCutAuto
import Derived.Deep.RegionHeld3
namespace Go.Proofs.YtojeemogabhaoaaGreatDoor
open Go.RowKit Go.Maps
theorem LedAt.base {w : World} {B B' l m : Nat} {c : CfgD} {now : Int} {ts : List TenD} {M : Nat} (h : LedAt w B l m c now ts M) (hB : B' ≤ B) : LedAt w B' l m c now ts M := by
  obtain ⟨T, L, h, e⟩ := h
  refine ⟨T, L, { h with idx := fun p hp => (h.idx p hp).keep fun g _ hs => ⟨rfl, Nat.le_trans hB hs.1, hs.2⟩, lB := Nat.le_trans hB h.lB, mB := Nat.le_trans hB h.mB }, e⟩
def FitT (ts : List TenD) (M : Nat) : Prop := ∀ i (h : i < ts.length), ts[i].name.size ≤ maxLen ∧ (∀ j (h' : j < ts[i].mets.length), ts[i].mets[j].s.size ≤ 1000000000) ∧ (∀ j (h' : j < ts[i].sers.length), ts[i].sers[j].s.size ≤ 1000000000) ∧ ts[i].mets.length ≤ 500000000 ∧ ts[i].sers.length ≤ 500000000 ∧ ts[i].sers.length ≤ M
def OpenOut (c : CfgD) (now : Int) (ts : List TenD) (M : Nat) (w : World) (e : Ending) (w' : World) : Prop :=
  (stateB c now ts = false ∧ e = .returned (.tuple #[.pointer none, .bool false]) ∧ Below w.heap.size w w') ∨
  (stateB c now ts = true ∧ ∃ l m, e = .returned (.tuple #[.pointer (some ⟨l, 0, none⟩), .bool true]) ∧ w.heap.size ≤ l ∧ LedAt w' w.heap.size l m c now ts M ∧ Below w.heap.size w w')
set_option maxRecDepth 100000 in
set_option maxHeartbeats 8000000 in
theorem open_any (c : CfgD) (now : Int) (a : Option Addr) (cap : Nat) (ts : List TenD) (M : Nat) (w : World) (hf : TensIn w a ts) (hfit : FitT ts M) (hlen : ts.length ≤ 1000000000) (hU : UTab w) :
    Calls Tryz.prog 32 #[cfgV c, .agg #[.int .i64 now, .slice a ts.length cap]] w fun e w' => OpenOut c now ts M w e w' := by
  have HC : Hid (∀ W, Calls Tryz.prog 59 #[cfgV c] W fun e w' => e = .returned (.bool (cfgB c)) ∧ Below W.heap.size W w') := fun W => implCfg_any c W
  have HSB : Hid (stateB c now ts = (cfgB c && btwB now 0 1000000000000 && decide (ts.length ≤ 10000) && tensB c.w now ts)) := rfl
  have HF : Hid (TensIn w a ts) := hf
  have HB : Hid (FitT ts M) := hfit
  have HU : Hid (UTab w) := hU
  have HWI : Hid (∀ W, Calls Tryz.prog 60 #[.int .i64 now, .int .i64 1000000000000] W fun e w' => e = .returned (.bool (btwB now 0 1000000000000)) ∧ w' = W) := fun W => within_any now 1000000000000 W
  have HCW : Hid (cfgB c = true → 1 ≤ c.w ∧ c.w ≤ 1000000000) := fun h => by
    have : btwB c.w 1 1000000000 = true := by
      cases hb : btwB c.w 1 1000000000 with
      | true => rfl
      | false => rw [cfgB, hb] at h; simp at h
    exact btw_in this
  clear hf hfit hU
  unfold cfgV at *
  by_cases g0 : cfgB c = false
  · rw [g0] at HC HSB
    go_enter Tryz.func32, Tryz.ntmps32
    go_wp2_with fail
    refine (HC.out _).mono ?_
    rintro e w1 ⟨rfl, hb1⟩
    go_wp2
    go_ret2
    exact Or.inl ⟨by rw [HSB.out]; simp, rfl, bto (bto (bnew _ _) (bnew _ _)) hb1⟩
  have g0' : cfgB c = true := by simpa using g0
  obtain ⟨hw0, hw1⟩ := HCW.out g0'
  rw [g0'] at HC HSB
  clear g0 g0' HCW
  by_cases g1 : btwB now 0 1000000000000 = false
  · rw [g1] at HSB HWI
    clear g1
    go_enter Tryz.func32, Tryz.ntmps32
    go_wp2_with fail
    refine (HC.out _).mono ?_
    rintro e w1 ⟨rfl, hb1⟩
    have B1 : Hid (Below w.heap.size w w1) := bto (bto (bnew _ _) (bnew _ _)) hb1
    have S1 : Hid (Blk w1 (w.heap.size + 1) #[.int .i64 now, .slice a ts.length cap] 33) := hid (by have := (Blk.new (w.alloc (.cells #[.int .i64 c.w, .int .i64 c.tl, .int .i64 c.ml, .int .i64 c.sh, .int .i64 c.ha, .int .i64 c.sg] 29)) #[.int .i64 now, .slice a ts.length cap] 33).later hb1; simpa using this)
    have s0 : w1.cell? ⟨w.heap.size + 1, 0, none⟩ = some (.int .i64 now) := S1.out.cell 0
    clear hb1
    go_wp2_with fail
    refine (HWI.out _).mono ?_
    rintro e w2 ⟨rfl, hw⟩
    replace hw := hw.symm
    subst hw
    go_wp2
    go_ret2
    exact Or.inl ⟨by rw [HSB.out]; simp, rfl, B1.out⟩
  have g1' : btwB now 0 1000000000000 = true := by simpa using g1
  obtain ⟨hn0, hn1⟩ := btw_in g1'
  rw [g1'] at HSB HWI
  clear g1 g1'
  by_cases g2 : (10000 : Int) < ts.length
  · have e2 : decide (ts.length ≤ 10000) = false := by simp; omega
    rw [e2] at HSB
    go_enter Tryz.func32, Tryz.ntmps32
    go_wp2_with fail
    refine (HC.out _).mono ?_
    rintro e w1 ⟨rfl, hb1⟩
    have B1 : Hid (Below w.heap.size w w1) := bto (bto (bnew _ _) (bnew _ _)) hb1
    have S1 : Hid (Blk w1 (w.heap.size + 1) #[.int .i64 now, .slice a ts.length cap] 33) := hid (by have := (Blk.new (w.alloc (.cells #[.int .i64 c.w, .int .i64 c.tl, .int .i64 c.ml, .int .i64 c.sh, .int .i64 c.ha, .int .i64 c.sg] 29)) #[.int .i64 now, .slice a ts.length cap] 33).later hb1; simpa using this)
    have s0 : w1.cell? ⟨w.heap.size + 1, 0, none⟩ = some (.int .i64 now) := S1.out.cell 0
    have s1 : w1.cell? ⟨w.heap.size + 1, 1, none⟩ = some (.slice a ts.length cap) := S1.out.cell 1
    clear hb1
    go_wp2_with fail
    refine (HWI.out _).mono ?_
    rintro e w2 ⟨rfl, hw⟩
    replace hw := hw.symm
    subst hw
    go_wp2
    go_ret2
    exact Or.inl ⟨by rw [HSB.out]; simp, rfl, B1.out⟩
  have e2 : decide (ts.length ≤ 10000) = true := by simp; omega
  rw [e2] at HSB
  clear e2
  have HSB2 : Hid (stateB c now ts = tensB c.w now ts) := by show _ = _; rw [HSB.out]; simp
  clear HSB
  have hmm := @run_makeMap Tryz.prog
  go_enter Tryz.func32, Tryz.ntmps32
  go_wp2_with fail
  refine (HC.out _).mono ?_
  rintro e w1 ⟨rfl, hb1⟩
  have B1 : Hid (Below w.heap.size w w1) := bto (bto (bnew _ _) (bnew _ _)) hb1
  have C1 : Hid (Blk w1 w.heap.size #[.int .i64 c.w, .int .i64 c.tl, .int .i64 c.ml, .int .i64 c.sh, .int .i64 c.ha, .int .i64 c.sg] 29) := hid (((Blk.new _ _ _).alloc _).later hb1)
  have S1 : Hid (Blk w1 (w.heap.size + 1) #[.int .i64 now, .slice a ts.length cap] 33) := hid (by have := (Blk.new (w.alloc (.cells #[.int .i64 c.w, .int .i64 c.tl, .int .i64 c.ml, .int .i64 c.sh, .int .i64 c.ha, .int .i64 c.sg] 29)) #[.int .i64 now, .slice a ts.length cap] 33).later hb1; simpa using this)
  have s0 : w1.cell? ⟨w.heap.size + 1, 0, none⟩ = some (.int .i64 now) := S1.out.cell 0
  have s1 : w1.cell? ⟨w.heap.size + 1, 1, none⟩ = some (.slice a ts.length cap) := S1.out.cell 1
  have k0 : w1.cell? ⟨w.heap.size, 0, none⟩ = some (.int .i64 c.w) := C1.out.cell 0
  have k1 : w1.cell? ⟨w.heap.size, 1, none⟩ = some (.int .i64 c.tl) := C1.out.cell 1
  have k2 : w1.cell? ⟨w.heap.size, 2, none⟩ = some (.int .i64 c.ml) := C1.out.cell 2
  have k3 : w1.cell? ⟨w.heap.size, 3, none⟩ = some (.int .i64 c.sh) := C1.out.cell 3
  have k4 : w1.cell? ⟨w.heap.size, 4, none⟩ = some (.int .i64 c.ha) := C1.out.cell 4
  have k5 : w1.cell? ⟨w.heap.size, 5, none⟩ = some (.int .i64 c.sg) := C1.out.cell 5
  have hs1l := lt_of_block S1.out
  clear hb1 HC
  go_wp2_with fail
  refine (HWI.out _).mono ?_
  rintro e w2 ⟨rfl, hw⟩
  replace hw := hw.symm
  subst hw
  clear HWI
  go_upto_region 3 with fail
  go_cut [6] (fun s wx => s = .pointer (some ⟨w1.heap.size + 1, 0, none⟩) ∧ wx = (w1.alloc (.map #[] 0)).alloc (.cells (ledV c now w1.heap.size) 99))
  case first =>
    go_wp2
    go_meet
    exact ⟨rfl, rfl⟩
  obtain ⟨rfl, hwc⟩ := hcut
  have L0 : Hid (LedAt wc w1.heap.size (w1.heap.size + 1) w1.heap.size c now (ts.take 0) M) := by
    rw [hwc]
    refine ⟨fun _ => none, [], ?_, rfl⟩
    exact {
      blk := by have := Blk.new (w1.alloc (.map #[] 0)) (ledV c now w1.heap.size) 99; simpa using this
      ten := (World.ownsMap_made w1 _ _ _).alloc _
      rise := List.Pairwise.nil
      idx := fun p hp => by cases hp
      nd := List.nodup_nil
      tl := rfl
      tm := rfl
      lB := by omega
      mB := Nat.le_refl _ }
  have BC : Hid (Below w1.heap.size w1 wc) := by rw [hwc]; exact bto (bnew _ _) (bnew _ _)
  have s2 : wc.cell? ⟨w.heap.size + 1, 1, none⟩ = some (.slice a ts.length cap) := (BC.out.cell hs1l).trans s1
  have SC : Hid (Blk wc (w.heap.size + 1) #[.int .i64 now, .slice a ts.length cap] 33) := S1.out.later BC.out
  have HU1 : Hid (UTab w1) := HU.out.later B1.out
  have HF1 : Hid (TensIn w1 a ts) := HF.out.later B1.out
  clear hwc hmm s0 s1 k0 k1 k2 k3 k4 k5 C1 HU HF
  go_wp2
  clear s2
  go_loopw [7, 8, 33] (fun _ _ i wr => ∃ k : Nat, k ≤ ts.length ∧ i = .int .i64 k ∧ allTo (tenAt c.w now ts) k = true ∧ LedAt wr w1.heap.size (w1.heap.size + 1) w1.heap.size c now (ts.take k) M ∧ Below w1.heap.size w1 wr) (fun _ _ i _ => ts.length - (intOf i).toNat)
  case atStart => exact ⟨0, Nat.zero_le _, rfl, rfl, L0.out, BC.out⟩
  case round =>
    obtain ⟨k, hk, rfl, hok, hled, hbel⟩ := hrel
    have HOK : Hid (allTo (tenAt c.w now ts) k = true) := hok
    have HLED : Hid (LedAt wr w1.heap.size (w1.heap.size + 1) w1.heap.size c now (ts.take k) M) := hled
    have HBEL : Hid (Below w1.heap.size w1 wr) := hbel
    clear hok hled hbel L0 BC SC
    by_cases hlt : k < ts.length
    · obtain ⟨b, o, a1, q1, a2, q2, rfl, hbl, t0, t1, t2, t3, p1, p2⟩ := HF1.out.at hlt
      obtain ⟨n1, n2, n3, n4, n5, n6⟩ := HB.out k hlt
      have HAT : Hid (tenAt c.w now ts k = (prevT ts k && tenB c.w now ts[k])) := tenAt_eq hlt
      have HFAIL : Hid (tenAt c.w now ts k = false → stateB c now ts = false) := fun h => by rw [HSB2.out]; exact allTo_not h hlt
      have HPRE : Hid (0 < k → ∃ pn : ByteArray, prevT ts k = blt pn ts[k].name ∧ w1.cell? ⟨b, o + (k - 1) * 4, none⟩ = some (.string pn)) := fun h0 => by
        refine ⟨_, prevT_at h0 hlt, ?_⟩
        obtain ⟨b', o', _, _, _, _, e, _, u0, _⟩ := HF1.out.at (i := k - 1) (by omega)
        simp only [Option.some.injEq, Addr.mk.injEq, and_true] at e
        rw [e.1, e.2]; exact u0
      have HPZ : Hid (k = 0 → prevT ts k = true) := fun h0 => by subst h0; rfl
      have HTK : Hid (prevT ts k = true → insBy (·.name) ts[k] (ts.take k) = ts.take (k + 1) ∧ getBy (·.name) ts[k].name (ts.take k) = none) := fun h => ins_take (key := fun t : TenD => t.name) hlt (by
        apply rise_steps
        intro j hj
        simp only [List.length_take] at hj
        by_cases e : j + 1 = k
        · subst e
          rw [prevT_at (by omega) hlt] at h
          simpa using h
        · have := allTo_at HOK.out (k := j + 1) (by omega)
          rw [tenAt_eq (by omega), Bool.and_eq_true] at this
          have h1 := this.1
          rw [prevT_at (by omega) (by omega)] at h1
          simpa using h1)
      have HTL : Hid ((ts.take k).length ≤ 1000000000) := by show _ ≤ _; rw [List.length_take]; omega
      have z0 : wr.cell? ⟨b, o + k * 4, none⟩ = some (.string ts[k].name) := (HBEL.out.cell hbl).trans t0
      have z1 : wr.cell? ⟨b, o + k * 4 + 1, none⟩ = some (.int .i64 ts[k].limit) := (HBEL.out.cell hbl).trans t1
      have z2 : wr.cell? ⟨b, o + k * 4 + 2, none⟩ = some (.slice a1 ts[k].mets.length q1) := (HBEL.out.cell hbl).trans t2
      have z3 : wr.cell? ⟨b, o + k * 4 + 3, none⟩ = some (.slice a2 ts[k].sers.length q2) := (HBEL.out.cell hbl).trans t3
      generalize ts[k] = T at *
      have HLDA : Hid (∀ W, LedAt W w1.heap.size (w1.heap.size + 1) w1.heap.size c now (ts.take k) M → Below w1.heap.size w1 W → prevT ts k = true → Calls Tryz.prog 61 #[.pointer (some ⟨w1.heap.size + 1, 0, none⟩), .agg #[.string T.name, .int .i64 T.limit, .slice a1 T.mets.length q1, .slice a2 T.sers.length q2]] W fun e w' => e = .returned (.bool (tenB c.w now T)) ∧ (tenB c.w now T = true → LedAt w' w1.heap.size (w1.heap.size + 1) w1.heap.size c now (ts.take (k + 1)) M) ∧ Turn (· = w1.heap.size) W w') := fun W hW hb hp => by
        refine (load_any (w1.heap.size + 1) w1.heap.size T a1 a2 q1 q2 c now (ts.take k) M w1 W hW hb HU1.out p1 p2 (HTK.out hp).2 n1 n2 n3 n4 n5 HTL.out n6 hn0 hn1 hw0 hw1).mono ?_
        rintro e w' ⟨h1, h2, h3⟩
        rw [(HTK.out hp).1] at h2
        exact ⟨h1, h2, h3⟩
      have hTBG : w1.heap.size + 1 < wr.heap.size := by obtain ⟨_, _, hz, _⟩ := HLED.out; exact lt_of_block hz.blk
      go_upto_region 7 with fail
      have TBX : Hid (Blk (wr.alloc (.cells #[.string T.name, .int .i64 T.limit, .slice a1 T.mets.length q1, .slice a2 T.sers.length q2] 55)) wr.heap.size #[.string T.name, .int .i64 T.limit, .slice a1 T.mets.length q1, .slice a2 T.sers.length q2] 55) := Blk.new _ _ _
      have HB2 : Hid (Below w1.heap.size w1 (wr.alloc (.cells #[.string T.name, .int .i64 T.limit, .slice a1 T.mets.length q1, .slice a2 T.sers.length q2] 55))) := HBEL.out.trans ((bnew _ _).mono HBEL.out.size)
      have HL2 : Hid (LedAt (wr.alloc (.cells #[.string T.name, .int .i64 T.limit, .slice a1 T.mets.length q1, .slice a2 T.sers.length q2] 55)) w1.heap.size (w1.heap.size + 1) w1.heap.size c now (ts.take k) M) := HLED.out.later (bnew _ _)
      generalize wr.alloc (.cells #[.string T.name, .int .i64 T.limit, .slice a1 T.mets.length q1, .slice a2 T.sers.length q2] 55) = W at *
      generalize wr.heap.size = tb at *
      have x0 : W.cell? ⟨w.heap.size + 1, 1, none⟩ = some (.slice (some ⟨b, o, none⟩) ts.length cap) := (HB2.out.cell hs1l).trans (S1.out.cell 1)
      have x1 : W.cell? ⟨tb, 0, none⟩ = some (.string T.name) := TBX.out.cell 0
      have x2 : W.cell? ⟨tb, 1, none⟩ = some (.int .i64 T.limit) := TBX.out.cell 1
      have x3 : W.cell? ⟨tb, 2, none⟩ = some (.slice a1 T.mets.length q1) := TBX.out.cell 2
      have x4 : W.cell? ⟨tb, 3, none⟩ = some (.slice a2 T.sers.length q2) := TBX.out.cell 3
      have HPR2 : Hid (0 < k → ∃ pn : ByteArray, prevT ts k = blt pn T.name ∧ W.cell? ⟨b, o + (k - 1) * 4, none⟩ = some (.string pn)) := fun h0 => by
        obtain ⟨pn, e1, e2⟩ := HPRE.out h0
        exact ⟨pn, e1, (HB2.out.cell hbl).trans e2⟩
      have HLD0 : Hid (prevT ts k = true → ∀ W', Below W.heap.size W W' → Calls Tryz.prog 61 #[.pointer (some ⟨w1.heap.size + 1, 0, none⟩), .agg #[.string T.name, .int .i64 T.limit, .slice a1 T.mets.length q1, .slice a2 T.sers.length q2]] W' fun e w' => e = .returned (.bool (tenB c.w now T)) ∧ (tenB c.w now T = true → LedAt w' w1.heap.size (w1.heap.size + 1) w1.heap.size c now (ts.take (k + 1)) M) ∧ Turn (· = w1.heap.size) W' w') := fun hp W' hW => HLDA.out W' (HL2.out.later hW) (HB2.out.trans (hW.mono HB2.out.size)) hp
      have hTBL : tb < W.heap.size := lt_of_block TBX.out
      have hTB1 : w1.heap.size + 1 < tb := hTBG
      have hWs := HB2.out.size
      have HBT : Hid (∀ w', Turn (· = w1.heap.size) W w' → Below w1.heap.size w1 w') := fun w' hw => HB2.out.trans (hw.below hWs (fun k hk => by omega))
      clear z0 z1 z2 z3 t0 t1 t2 t3 p1 p2 HPRE HLDA HLED HBEL TBX wr
      go_cut [57] (fun s wx => s = .bool (!(tenAt c.w now ts k)) ∧ (tenAt c.w now ts k = true → LedAt wx w1.heap.size (w1.heap.size + 1) w1.heap.size c now (ts.take (k + 1)) M) ∧ Below w1.heap.size w1 wx)
      case first =>
        by_cases h0 : (0 : Int) < k
        · have h0' : 0 < k := by omega
          obtain ⟨pn, hp, cp⟩ := HPR2.out h0'
          obtain ⟨j, hj⟩ : ∃ j, j = k - 1 := ⟨_, rfl⟩
          rw [← hj] at cp
          have hi0 : IntKind.i64.wrap ((k : Int) - 1) = (j : Int) := by
            have : (k : Int) - 1 = (j : Int) := by omega
            rw [this]
            simp only [IntKind.wrap, IntKind.bits, IntKind.signed]
            simp
            omega
          have hi1 : (j : Int) < ts.length := by omega
          have hi2 : j < ts.length := by omega
          clear hj
          by_cases hb : Op.bytesLess pn.toList T.name.toList = true
          · have hpt : prevT ts k = true := by rw [hp]; exact hb
            have HLD := hid (HLD0.out hpt)
            have HV : Hid (tenAt c.w now ts k = tenB c.w now T) := by show _ = _; rw [HAT.out, hpt, Bool.true_and]
            clear hp hpt
            have HKS : Hid (∀ w', Turn (· = w1.heap.size) W w' → w'.cell? ⟨w.heap.size + 1, 1, none⟩ = some (.slice (some ⟨b, o, none⟩) ts.length cap) ∧ w'.cell? ⟨b, o + j * 4, none⟩ = some (.string pn) ∧ w'.cell? ⟨tb, 0, none⟩ = some (.string T.name) ∧ w'.cell? ⟨tb, 1, none⟩ = some (.int .i64 T.limit) ∧ w'.cell? ⟨tb, 2, none⟩ = some (.slice a1 T.mets.length q1) ∧ w'.cell? ⟨tb, 3, none⟩ = some (.slice a2 T.sers.length q2)) := fun w' hw => by
              have hg : ∀ g, g < W.heap.size → g ≠ w1.heap.size → ∀ q, w'.cell? ⟨g, q, none⟩ = W.cell? ⟨g, q, none⟩ := fun g h1 h2 q => World.cell?_of_block (hw.block g h1 h2)
              exact ⟨(hg _ (by omega) (by omega) _).trans x0, (hg _ (by omega) (by omega) _).trans cp, (hg _ hTBL (by omega) _).trans x1, (hg _ hTBL (by omega) _).trans x2, (hg _ hTBL (by omega) _).trans x3, (hg _ hTBL (by omega) _).trans x4⟩
            go_region_held3 (fun w' => w'.cell? ⟨w.heap.size + 1, 1, none⟩ = some (.slice (some ⟨b, o, none⟩) ts.length cap) ∧ w'.cell? ⟨b, o + j * 4, none⟩ = some (.string pn) ∧ w'.cell? ⟨tb, 0, none⟩ = some (.string T.name) ∧ w'.cell? ⟨tb, 1, none⟩ = some (.int .i64 T.limit) ∧ w'.cell? ⟨tb, 2, none⟩ = some (.slice a1 T.mets.length q1) ∧ w'.cell? ⟨tb, 3, none⟩ = some (.slice a2 T.sers.length q2))
              (first | go_keep | exact HKS.out _ hs8)
              (first | (go_at_call 61; refine (HLD.out _ (by repeat (first | with_reducible exact Below.refl _ _ | exact (Below.refl _ _).drew | with_reducible refine Below.drew ?_))).mono ?_; rintro e w8 ⟨rfl, hl8, ht8⟩; have hs8 : Turn (· = w1.heap.size) W w8 := (Turn.refl _ _).drew.trans' ht8))
            all_goals (go_wp2_with fail; go_meet)
            all_goals exact ⟨by rw [HV.out], fun h => by rw [HV.out] at h; exact hl8 h, HBT.out _ hs8⟩
          · have hb' : Op.bytesLess pn.toList T.name.toList = false := by simpa using hb
            have HV : Hid (tenAt c.w now ts k = false) := by show _ = _; rw [HAT.out, hp, blt, hb']; rfl
            clear hp hb
            go_quiet (fail)
            go_wp2_with fail
            go_meet
            exact ⟨by rw [HV.out]; rfl, fun h => absurd h (by rw [HV.out]; simp), below_drewN HB2.out _⟩
        · have hd : decide ((0 : Int) < k) = false := by simpa using h0
          have hd' : decide (0 < k) = false := by simp; omega
          have hnk : ¬ 0 < k := by omega
          have hpt : prevT ts k = true := HPZ.out (by omega)
          have HLD := hid (HLD0.out hpt)
          have HV : Hid (tenAt c.w now ts k = tenB c.w now T) := by show _ = _; rw [HAT.out, hpt, Bool.true_and]
          clear hpt
          refine wp_region_quiet_tail 17 (by kernel_rfl) (by kernel_rfl) ?_
          simp only [List.take_succ_cons, List.take_zero, List.drop_succ_cons, List.drop_zero]
          have hnel : Nonempty Unit := ⟨()⟩
          repeat (go_big_quiet_step (fail))
          refine wpQuiet_nil ?_
          go_wp2_with (first | (go_at_call 61; refine (HLD.out _ ((Below.refl _ _).drew)).mono ?_; rintro e w8 ⟨rfl, hl8, ht8⟩))
          go_meet
          exact ⟨by rw [HV.out], fun h => by rw [HV.out] at h; exact hl8 h, HBT.out _ ((Turn.refl _ _).drew.trans' ht8)⟩
      obtain ⟨rfl, hl8, hb8⟩ := hcut
      rename World => w8
      have HB8 : Hid (Below w1.heap.size w1 w8) := hb8
      by_cases f4 : tenAt c.w now ts k = false
      · have HF4 : Hid (stateB c now ts = false) := HFAIL.out f4
        rw [f4]
        clear f4 hl8 hb8
        go_wp2
        go_ret2
        exact Or.inl ⟨HF4.out, rfl, bto B1.out HB8.out⟩
      · have f4' : tenAt c.w now ts k = true := by simpa using f4
        have HF4 : Hid (allTo (tenAt c.w now ts) (k + 1) = true) := by show _ = _; rw [allTo_succ, HOK.out, f4']; rfl
        have HL8 : Hid (LedAt w8 w1.heap.size (w1.heap.size + 1) w1.heap.size c now (ts.take (k + 1)) M) := hl8 f4'
        rw [f4']
        clear f4 f4' hl8 hb8
        go_wp2
        exact ⟨⟨k + 1, by omega, by go_num, HF4.out, HL8.out, HB8.out⟩, by simp [intOf]; omega⟩
    · have ek : k = ts.length := by omega
      have HEND : Hid (stateB c now ts = true) := by show _ = _; rw [HSB2.out]; have := HOK.out; rw [ek] at this; exact this
      have HLE : Hid (LedAt wr w1.heap.size (w1.heap.size + 1) w1.heap.size c now ts M) := by have := HLED.out; rw [ek, List.take_length] at this; exact this
      have hz := B1.out.size
      go_wp2
      go_ret2
      exact Or.inr ⟨HEND.out, _, _, rfl, by omega, HLE.out.base hz, bto B1.out HBEL.out⟩
end Go.Proofs.YtojeemogabhaoaaGreatDoor
namespace Go.Proofs.YtojeemogabhaoaaGreatDoor
open Go.RowKit
set_option maxRecDepth 100000 in
set_option maxHeartbeats 1000000 in
theorem implState_any (c : CfgD) (now : Int) (a : Option Addr) (cap : Nat) (ts : List TenD) (M : Nat) (w : World) (hf : TensIn w a ts) (hfit : FitT ts M) (hlen : ts.length ≤ 1000000000) (hU : UTab w) :
    Calls Tryz.prog 11 #[cfgV c, .agg #[.int .i64 now, .slice a ts.length cap]] w fun e w' => e = .returned (.bool (stateB c now ts)) ∧ Below w.heap.size w w' := by
  have HO : Hid (∀ W, Below w.heap.size w W → Calls Tryz.prog 32 #[cfgV c, .agg #[.int .i64 now, .slice a ts.length cap]] W fun e w' => OpenOut c now ts M W e w') := fun W hW => open_any c now a cap ts M W (hf.later hW) hfit hlen (hU.later hW)
  clear hf hfit hU
  unfold OpenOut at HO
  unfold cfgV at *
  go_enter Tryz.func11, Tryz.ntmps11
  go_wp2_with fail
  refine (HO.out _ (bto (bnew _ _) (bnew _ _))).mono ?_
  intro e w1 hx
  have HX := hid hx
  clear hx
  rcases HX.out with ⟨hs, rfl, hb⟩ | ⟨hs, l, m, rfl, _, _, hb⟩
  · have HB : Hid (Below w.heap.size w w1) := bto (bto (bnew _ _) (bnew _ _)) hb
    have HSB : Hid (stateB c now ts = false) := hs
    clear HX hb hs
    go_wp2
    go_ret
    exact ⟨ret_bool HSB.out.symm, HB.out⟩
  · have HB : Hid (Below w.heap.size w w1) := bto (bto (bnew _ _) (bnew _ _)) hb
    have HSB : Hid (stateB c now ts = true) := hs
    clear HX hb hs
    go_wp2
    go_ret
    exact ⟨ret_bool HSB.out.symm, HB.out⟩
end Go.Proofs.YtojeemogabhaoaaGreatDoor
