import Derived.Test.YtoecnlhnfhongaaDoorProg
import Derived.Test.YtoecnlhnfhongaaDoorSmpB
import Derived.Test.YtoecnlhnfhongaaDoorLabT
namespace Go.Proofs.YtoecnlhnfhongaaDoor
open Go.RowKit

set_option maxRecDepth 100000 in
set_option maxHeartbeats 1000000 in
theorem szSample_any (f : SmpD) (a1 : Option Addr) (c1 : Nat) (left : Int) (w : World) (h0 : 0 ≤ left) (h1 : left ≤ 1048576) (hs : ShortL f.labs) (hl : f.labs.length ≤ maxLen) (p1 : LabsIn w a1 f.labs) :
    Calls Tryd.prog 30 #[.agg #[.slice a1 f.labs.length c1, .int .i64 f.bits], .int .i64 left] w fun e w' => e = .returned (.int .i64 (szLabs left f.labs)) ∧ Below w.heap.size w w' := by
  have HM : Hid (∀ W, Below w.heap.size w W → Calls Tryd.prog 52 #[.slice a1 f.labs.length c1, .int .i64 left] W fun e w' => e = .returned (.int .i64 (szLabs left f.labs)) ∧ Below W.heap.size W w') :=
    fun W hW => szLabelS_any a1 c1 f.labs _ W h0 h1 (p1.later hW) hs hl
  clear p1 hs hl
  by_cases c : (f.labs.length + labBulk f.labs : Int) ≤ left
  · have e : szLabs left f.labs = left - f.labs.length - labBulk f.labs := by unfold szLabs; rw [if_pos c]
    rw [e] at HM ⊢
    have hn : ¬ (left - f.labs.length - labBulk f.labs < 0) := by omega
    generalize left - f.labs.length - labBulk f.labs = L at *
    clear e
    go_enter Tryd.func30, Tryd.ntmps30
    go_wp2_with fail
    refine (HM.out _ (bnew _ _)).mono ?_
    rintro e w1 ⟨rfl, hb1⟩
    have B1 : Hid (Below w.heap.size w w1) := bto (bnew _ _) hb1
    clear hb1
    go_wp2
    go_ret
    exact ⟨rfl, B1.out⟩
  · have e : szLabs left f.labs = -1 := by unfold szLabs; rw [if_neg c]
    rw [e] at HM ⊢
    clear e
    go_enter Tryd.func30, Tryd.ntmps30
    go_wp2_with fail
    refine (HM.out _ (bnew _ _)).mono ?_
    rintro e w1 ⟨rfl, hb1⟩
    have B1 : Hid (Below w.heap.size w w1) := bto (bnew _ _) hb1
    clear hb1
    go_wp2
    go_ret
    exact ⟨rfl, B1.out⟩

set_option maxRecDepth 100000 in
set_option maxHeartbeats 1000000 in
theorem szSampleS_any (a : Option Addr) (cap : Nat) (fs : List SmpD) (left : Int) (w : World) (h0 : 0 ≤ left) (h1 : left ≤ 1048576) (hf : SmpsIn w a fs) (hs : ShortSm fs) (hlen : fs.length ≤ maxLen) :
    Calls Tryd.prog 14 #[.slice a fs.length cap, .int .i64 left] w fun e w' => e = .returned (.int .i64 (szSmps left fs)) ∧ Below w.heap.size w w' := by
  unfold maxLen at hlen
  by_cases c1 : left - fs.length < 0
  · have e : szSmps left fs = -1 := by unfold szSmps; rw [if_neg]; omega
    rw [e]
    clear hf hs
    go_enter Tryd.func14, Tryd.ntmps14
    go_wp2
    go_ret
    exact ⟨rfl, Below.refl _ _⟩
  · have hne : ¬ (left - fs.length < 0) := c1
    have HF : Hid (SmpsIn w a fs) := hf
    have HS : Hid (ShortSm fs) := hs
    clear hf hs
    go_enter Tryd.func14, Tryd.ntmps14
    go_wp2
    go_loopw [1, 5] (fun l i wr => ∃ k : Nat, k ≤ fs.length ∧ i = .int .i64 k ∧ (smpsBulk (fs.take k) : Int) ≤ left - fs.length ∧ l = .int .i64 (left - fs.length - smpsBulk (fs.take k)) ∧ Below w.heap.size w wr) (fun _ i _ => fs.length - (intOf i).toNat)
    case atStart => exact ⟨0, Nat.zero_le _, rfl, by simp [smpsBulk]; omega, by simp [smpsBulk], Below.refl _ _⟩
    case round =>
      obtain ⟨k, hk, rfl, hle, rfl, hbel⟩ := hrel
      by_cases hlt : k < fs.length
      · obtain ⟨b, o, a1, q1, rfl, hb, c0, c1, p1⟩ := (HF.out.later hbel).at hlt
        have hss := HS.out k hlt
        have hts := smpsBulk_take_succ fs k hlt
        have htl := smpsBulk_take_le fs (k + 1)
        have HC : Hid (∀ L : Int, 0 ≤ L → L ≤ 1048576 → Calls Tryd.prog 30 #[.agg #[.slice a1 fs[k].labs.length q1, .int .i64 fs[k].bits], .int .i64 L] wr fun e w' => e = .returned (.int .i64 (szLabs L fs[k].labs)) ∧ Below wr.heap.size wr w') :=
          fun L g0 g1 => szSample_any fs[k] a1 q1 L wr g0 g1 hss.1 hss.2 p1
        have hsb : smpBulk fs[k] = fs[k].labs.length + labBulk fs[k].labs := rfl
        clear p1 hss
        by_cases c3 : (smpBulk fs[k] : Int) ≤ left - fs.length - smpsBulk (fs.take k)
        · have E : Hid (szLabs (left - fs.length - smpsBulk (fs.take k)) fs[k].labs = left - fs.length - smpsBulk (fs.take (k + 1))) := by
            show _ = _
            unfold szLabs; rw [if_pos (by omega), hts]; omega
          have hle2 : (smpsBulk (fs.take (k + 1)) : Int) ≤ left - fs.length := by omega
          clear hts hsb
          go_wp2_with fail
          refine (HC.out _ (by omega) (by omega)).mono ?_
          rintro e w' ⟨rfl, hb2⟩
          rw [E.out]
          clear HC
          go_wp2
          exact ⟨⟨k + 1, by omega, by go_num, hle2, rfl, hbel.trans (hb2.mono hbel.size)⟩, by simp [intOf]; omega⟩
        · have E : Hid (szLabs (left - fs.length - smpsBulk (fs.take k)) fs[k].labs = -1) := by
            show _ = _
            unfold szLabs; rw [if_neg (by omega)]
          have E2 : Hid (szSmps left fs = -1) := by show szSmps left fs = -1; unfold szSmps; rw [if_neg (by omega)]
          clear hts hsb
          go_wp2_with fail
          refine (HC.out _ (by omega) (by omega)).mono ?_
          rintro e w' ⟨rfl, hb2⟩
          rw [E.out]
          clear HC
          go_wp2
          go_ret
          exact ⟨ret_int E2.out.symm, hbel.trans (hb2.mono hbel.size)⟩
      · go_wp2
        go_ret
        have e : fs.take k = fs := List.take_of_length_le (by omega)
        rw [e] at hle ⊢
        exact ⟨ret_int (by unfold szSmps; rw [if_pos (by omega)]), hbel⟩

set_option maxRecDepth 100000 in
set_option maxHeartbeats 1000000 in
theorem szRequest_any (r : ReqD) (a : Option Addr) (cap : Nat) (left : Int) (w : World) (h0 : 0 ≤ left) (h1 : left ≤ 1048576) (hf : SmpsIn w a r.smps) (hs : ShortSm r.smps) (hlen : r.smps.length ≤ maxLen) (ht : r.tenant.size ≤ maxLen) (hm : r.metric.size ≤ maxLen) :
    Calls Tryd.prog 5 #[.agg #[.int .i64 r.kind, .string r.tenant, .string r.metric, .int .i64 r.num, .slice a r.smps.length cap], .int .i64 left] w fun e w' => e = .returned (.int .i64 (szReq left r)) ∧ Below w.heap.size w w' := by
  have hrb : reqBulk r = r.tenant.size + r.metric.size + r.smps.length + smpsBulk r.smps := rfl
  unfold maxLen at ht hm
  by_cases k1 : left - r.tenant.size < 0
  · have E : Hid (szReq left r = -1) := by show _ = _; unfold szReq; rw [if_neg]; omega
    clear hf hs hlen hrb
    go_enter Tryd.func5, Tryd.ntmps5
    go_wp2
    go_ret
    exact ⟨ret_int E.out.symm, bnew _ _⟩
  by_cases k2 : left - r.tenant.size - r.metric.size < 0
  · have E : Hid (szReq left r = -1) := by show _ = _; unfold szReq; rw [if_neg]; omega
    clear hf hs hlen hrb
    go_enter Tryd.func5, Tryd.ntmps5
    go_wp2
    go_ret
    exact ⟨ret_int E.out.symm, bnew _ _⟩
  have HM : Hid (∀ W, Below w.heap.size w W → Calls Tryd.prog 14 #[.slice a r.smps.length cap, .int .i64 (left - r.tenant.size - r.metric.size)] W fun e w' => e = .returned (.int .i64 (szSmps (left - r.tenant.size - r.metric.size) r.smps)) ∧ Below W.heap.size W w') :=
    fun W hW => szSampleS_any a cap r.smps _ W (by omega) (by omega) (hf.later hW) hs hlen
  clear hf hs hlen
  by_cases k3 : (r.smps.length + smpsBulk r.smps : Int) ≤ left - r.tenant.size - r.metric.size
  · have e2 : szSmps (left - r.tenant.size - r.metric.size) r.smps = left - r.tenant.size - r.metric.size - r.smps.length - smpsBulk r.smps := by unfold szSmps; rw [if_pos k3]
    rw [e2] at HM
    have k3' : ¬ (left - r.tenant.size - r.metric.size - r.smps.length - smpsBulk r.smps < 0) := by omega
    have E : Hid (szReq left r = left - r.tenant.size - r.metric.size - r.smps.length - smpsBulk r.smps) := by show _ = _; unfold szReq; rw [if_pos] <;> omega
    clear e2 hrb
    go_enter Tryd.func5, Tryd.ntmps5
    go_wp2_with fail
    refine (HM.out _ (bnew _ _)).mono ?_
    rintro e w1 ⟨rfl, hb1⟩
    have B1 : Hid (Below w.heap.size w w1) := bto (bnew _ _) hb1
    clear hb1
    go_wp2
    go_ret
    exact ⟨ret_int E.out.symm, B1.out⟩
  · have e2 : szSmps (left - r.tenant.size - r.metric.size) r.smps = -1 := by unfold szSmps; rw [if_neg k3]
    rw [e2] at HM
    have E : Hid (szReq left r = -1) := by show _ = _; unfold szReq; rw [if_neg]; omega
    clear e2 hrb k3
    go_enter Tryd.func5, Tryd.ntmps5
    go_wp2_with fail
    refine (HM.out _ (bnew _ _)).mono ?_
    rintro e w1 ⟨rfl, hb1⟩
    have B1 : Hid (Below w.heap.size w w1) := bto (bnew _ _) hb1
    clear hb1
    go_wp2
    go_ret
    exact ⟨ret_int E.out.symm, B1.out⟩
end Go.Proofs.YtoecnlhnfhongaaDoor
