import Derived.Test.YtoecnlhnfhongaaGreatDoorProg
import Derived.Test.YtoecnlhnfhongaaGreatDoorJ03StaB
import Derived.Deep.OwnRows
import Derived.Test.YtoecnlhnfhongaaGreatDoorJ01RdL
namespace Go.Proofs.YtoecnlhnfhongaaGreatDoor
open Go.RowKit

set_option maxHeartbeats 400000 in
theorem eqMetricLimit_same (nm : ByteArray) (da : Int) (w : World) :
    Calls Tryz.prog 79 #[.agg #[.string nm, .int .i64 da], .agg #[.string nm, .int .i64 da]] w fun e w' => e = .returned (.bool true) ∧ Below w.heap.size w w' := by
  go_enter Tryz.func79, Tryz.ntmps79
  go_wp2
  go_ret
  exact ⟨rfl, ((Below.refl _ _).alloc (Nat.le_refl _) _).alloc (by simp) _⟩
set_option maxHeartbeats 1000000 in
theorem eqMetricLimitS_same (a a' : Option Addr) (cap cap' : Nat) (fs : List PairD) (w : World) (hf : PairsIn w a fs) (hf' : PairsIn w a' fs) (hlen : fs.length ≤ maxLen) :
    Calls Tryz.prog 62 #[.slice a fs.length cap, .slice a' fs.length cap'] w fun e w' => e = .returned (.bool true) ∧ Below w.heap.size w w' := by
  unfold maxLen at hlen
  have HF : Hid (PairsIn w a fs) := hf
  have HF' : Hid (PairsIn w a' fs) := hf'
  clear hf hf'
  go_enter Tryz.func62, Tryz.ntmps62
  go_wp2
  go_loopw [5] (fun i wr => ∃ k : Nat, k ≤ fs.length ∧ i = .int .i64 k ∧ Below w.heap.size w wr) (fun i _ => fs.length - (intOf i).toNat)
  case atStart => exact ⟨0, Nat.zero_le _, rfl, Below.refl _ _⟩
  case round =>
    obtain ⟨k, hk, rfl, hbel⟩ := hrel
    by_cases hlt : k < fs.length
    · obtain ⟨b, o, rfl, hb, c0, c1⟩ := (HF.out.later hbel).at hlt
      obtain ⟨b', o', rfl, hb', c0', c1'⟩ := (HF'.out.later hbel).at hlt
      have d0 := Later.cells c0
      have d1 := Later.cells c1
      have d0' := Later.cells c0'
      have d1' := Later.cells c1'
      clear c0 c1 c0' c1'
      have hne := Later.there wr
      go_wp2_with fail
      refine wp_region_later (by kernel_rfl) (by kernel_rfl) ?_
      repeat (go_big_quiet_step (refine calls_later (eqMetricLimit_same _ _ _)))
      refine wpQuiet_nil ?_
      rintro _ ⟨x, rfl⟩
      go_wp2
      exact ⟨⟨k + 1, by omega, by go_num, hbel.trans (x.h.mono hbel.size)⟩, by simp [intOf]; omega⟩
    · go_wp2
      go_ret
      exact ⟨rfl, hbel⟩


set_option maxHeartbeats 400000 in
theorem eqSeries_same (nm : ByteArray) (da : Int) (w : World) :
    Calls Tryz.prog 80 #[.agg #[.string nm, .int .i64 da], .agg #[.string nm, .int .i64 da]] w fun e w' => e = .returned (.bool true) ∧ Below w.heap.size w w' := by
  go_enter Tryz.func80, Tryz.ntmps80
  go_wp2
  go_ret
  exact ⟨rfl, ((Below.refl _ _).alloc (Nat.le_refl _) _).alloc (by simp) _⟩
set_option maxHeartbeats 1000000 in
theorem eqSeriesS_same (a a' : Option Addr) (cap cap' : Nat) (fs : List PairD) (w : World) (hf : PairsIn w a fs) (hf' : PairsIn w a' fs) (hlen : fs.length ≤ maxLen) :
    Calls Tryz.prog 63 #[.slice a fs.length cap, .slice a' fs.length cap'] w fun e w' => e = .returned (.bool true) ∧ Below w.heap.size w w' := by
  unfold maxLen at hlen
  have HF : Hid (PairsIn w a fs) := hf
  have HF' : Hid (PairsIn w a' fs) := hf'
  clear hf hf'
  go_enter Tryz.func63, Tryz.ntmps63
  go_wp2
  go_loopw [5] (fun i wr => ∃ k : Nat, k ≤ fs.length ∧ i = .int .i64 k ∧ Below w.heap.size w wr) (fun i _ => fs.length - (intOf i).toNat)
  case atStart => exact ⟨0, Nat.zero_le _, rfl, Below.refl _ _⟩
  case round =>
    obtain ⟨k, hk, rfl, hbel⟩ := hrel
    by_cases hlt : k < fs.length
    · obtain ⟨b, o, rfl, hb, c0, c1⟩ := (HF.out.later hbel).at hlt
      obtain ⟨b', o', rfl, hb', c0', c1'⟩ := (HF'.out.later hbel).at hlt
      have d0 := Later.cells c0
      have d1 := Later.cells c1
      have d0' := Later.cells c0'
      have d1' := Later.cells c1'
      clear c0 c1 c0' c1'
      have hne := Later.there wr
      go_wp2_with fail
      refine wp_region_later (by kernel_rfl) (by kernel_rfl) ?_
      repeat (go_big_quiet_step (refine calls_later (eqSeries_same _ _ _)))
      refine wpQuiet_nil ?_
      rintro _ ⟨x, rfl⟩
      go_wp2
      exact ⟨⟨k + 1, by omega, by go_num, hbel.trans (x.h.mono hbel.size)⟩, by simp [intOf]; omega⟩
    · go_wp2
      go_ret
      exact ⟨rfl, hbel⟩

end Go.Proofs.YtoecnlhnfhongaaGreatDoor

namespace Go.Proofs.YtoecnlhnfhongaaGreatDoor
open Go.RowKit

set_option maxRecDepth 100000 in
set_option maxHeartbeats 1000000 in
theorem eqTenant_same (f : TenD) (a1 a2 b1 b2 : Option Addr) (c1 c2 d1 d2 : Nat) (w : World) (p1 : PairsIn w a1 f.mets) (p2 : PairsIn w a2 f.sers) (q1 : PairsIn w b1 f.mets) (q2 : PairsIn w b2 f.sers) (l1 : f.mets.length ≤ maxLen) (l2 : f.sers.length ≤ maxLen) :
    Calls Tryz.prog 43 #[.agg #[.string f.name, .int .i64 f.limit, .slice a1 f.mets.length c1, .slice a2 f.sers.length c2], .agg #[.string f.name, .int .i64 f.limit, .slice b1 f.mets.length d1, .slice b2 f.sers.length d2]] w fun e w' => e = .returned (.bool true) ∧ Below w.heap.size w w' := by
  have HM : Hid (∀ W, Below w.heap.size w W → Calls Tryz.prog 62 #[.slice a1 f.mets.length c1, .slice b1 f.mets.length d1] W fun e w' => e = .returned (.bool true) ∧ Below W.heap.size W w') :=
    fun W hW => eqMetricLimitS_same a1 b1 c1 d1 f.mets W (p1.later hW) (q1.later hW) l1
  have HS : Hid (∀ W, Below w.heap.size w W → Calls Tryz.prog 63 #[.slice a2 f.sers.length c2, .slice b2 f.sers.length d2] W fun e w' => e = .returned (.bool true) ∧ Below W.heap.size W w') :=
    fun W hW => eqSeriesS_same a2 b2 c2 d2 f.sers W (p2.later hW) (q2.later hW) l2
  clear p1 p2 q1 q2
  go_enter Tryz.func43, Tryz.ntmps43
  go_wp2_with fail
  refine (HM.out _ (bto (bnew _ _) (bnew _ _))).mono ?_
  rintro e w1 ⟨rfl, hb1⟩
  have B1 : Hid (Below w.heap.size w w1) := bto (bto (bnew _ _) (bnew _ _)) hb1
  have t0 : w1.cell? ⟨w.heap.size, 3, none⟩ = some (.slice a2 f.sers.length c2) := (((Blk.new w _ _).alloc _).later hb1).cell 3
  have t1 : w1.cell? ⟨w.heap.size + 1, 3, none⟩ = some (.slice b2 f.sers.length d2) := by
    have := ((Blk.new (w.alloc (.cells #[.string f.name, .int .i64 f.limit, .slice a1 f.mets.length c1, .slice a2 f.sers.length c2] 39)) #[.string f.name, .int .i64 f.limit, .slice b1 f.mets.length d1, .slice b2 f.sers.length d2] 39).later hb1).cell 3
    simpa using this
  clear hb1
  go_wp2_with fail
  refine (HS.out _ B1.out).mono ?_
  rintro e w2 ⟨rfl, hb2⟩
  have B2 : Hid (Below w.heap.size w w2) := bto B1.out hb2
  clear hb2
  go_wp2
  go_ret
  exact ⟨rfl, B2.out⟩

def LenT (fs : List TenD) : Prop := ∀ i (h : i < fs.length), fs[i].mets.length ≤ maxLen ∧ fs[i].sers.length ≤ maxLen
set_option maxRecDepth 100000 in
set_option maxHeartbeats 2000000 in
theorem eqTenantS_same (a a' : Option Addr) (cap cap' : Nat) (fs : List TenD) (w : World) (hf : TensIn w a fs) (hf' : TensIn w a' fs) (hlen : fs.length ≤ maxLen) (hl : LenT fs) :
    Calls Tryz.prog 19 #[.slice a fs.length cap, .slice a' fs.length cap'] w fun e w' => e = .returned (.bool true) ∧ Below w.heap.size w w' := by
  unfold maxLen at hlen
  have HF : Hid (TensIn w a fs) := hf
  have HF' : Hid (TensIn w a' fs) := hf'
  have HL : Hid (LenT fs) := hl
  clear hf hf' hl
  go_enter Tryz.func19, Tryz.ntmps19
  go_wp2
  go_loopw [5] (fun i wr => ∃ k : Nat, k ≤ fs.length ∧ i = .int .i64 k ∧ Below w.heap.size w wr) (fun i _ => fs.length - (intOf i).toNat)
  case atStart => exact ⟨0, Nat.zero_le _, rfl, Below.refl _ _⟩
  case round =>
    obtain ⟨k, hk, rfl, hbel⟩ := hrel
    by_cases hlt : k < fs.length
    · obtain ⟨b, o, a1, q1, a2, q2, rfl, hb, c0, c1, c2, c3, p1, p2⟩ := (HF.out.later hbel).at hlt
      obtain ⟨b', o', b1, r1, b2, r2, rfl, hb', e0, e1, e2, e3, s1, s2⟩ := (HF'.out.later hbel).at hlt
      have d0 := Later.cells c0
      have d1 := Later.cells c1
      have d2 := Later.cells c2
      have d3 := Later.cells c3
      have g0 := Later.cells e0
      have g1 := Later.cells e1
      have g2 := Later.cells e2
      have g3 := Later.cells e3
      have HC : Hid (∀ x : Later wr, Calls Tryz.prog 43 #[.agg #[.string fs[k].name, .int .i64 fs[k].limit, .slice a1 fs[k].mets.length q1, .slice a2 fs[k].sers.length q2], .agg #[.string fs[k].name, .int .i64 fs[k].limit, .slice b1 fs[k].mets.length r1, .slice b2 fs[k].sers.length r2]] x.w' fun e w' => e = .returned (.bool true) ∧ Below x.w'.heap.size x.w' w') :=
        fun x => eqTenant_same fs[k] _ _ _ _ _ _ _ _ x.w' (p1.later x.h) (p2.later x.h) (s1.later x.h) (s2.later x.h) (HL.out k hlt).1 (HL.out k hlt).2
      clear c0 c1 c2 c3 e0 e1 e2 e3 p1 p2 s1 s2
      have hne := Later.there wr
      go_wp2_with fail
      refine wp_region_later (by kernel_rfl) (by kernel_rfl) ?_
      repeat (go_big_quiet_step (exact calls_later (HC.out _)))
      refine wpQuiet_nil ?_
      rintro _ ⟨x, rfl⟩
      go_wp2
      exact ⟨⟨k + 1, by omega, by go_num, hbel.trans (x.h.mono hbel.size)⟩, by simp [intOf]; omega⟩
    · go_wp2
      go_ret
      exact ⟨rfl, hbel⟩

set_option maxRecDepth 100000 in
set_option maxHeartbeats 1000000 in
theorem eqState_same (now : Int) (a a' : Option Addr) (cap cap' : Nat) (fs : List TenD) (w : World) (hf : TensIn w a fs) (hf' : TensIn w a' fs) (hlen : fs.length ≤ maxLen) (hl : LenT fs) :
    Calls Tryz.prog 7 #[.agg #[.int .i64 now, .slice a fs.length cap], .agg #[.int .i64 now, .slice a' fs.length cap']] w fun e w' => e = .returned (.bool true) ∧ Below w.heap.size w w' := by
  have HC : Hid (∀ W, Below w.heap.size w W → Calls Tryz.prog 19 #[.slice a fs.length cap, .slice a' fs.length cap'] W fun e w' => e = .returned (.bool true) ∧ Below W.heap.size W w') :=
    fun W hW => eqTenantS_same a a' cap cap' fs W (hf.later hW) (hf'.later hW) hlen hl
  clear hf hf' hl
  go_enter Tryz.func7, Tryz.ntmps7
  go_wp2_with fail
  refine (HC.out _ (bto (bnew _ _) (bnew _ _))).mono ?_
  rintro e w1 ⟨rfl, hb1⟩
  have B1 : Hid (Below w.heap.size w w1) := bto (bto (bnew _ _) (bnew _ _)) hb1
  clear hb1
  go_wp2
  go_ret
  exact ⟨rfl, B1.out⟩
end Go.Proofs.YtoecnlhnfhongaaGreatDoor

namespace Go.Proofs.YtoecnlhnfhongaaGreatDoor
open Go.RowKit

set_option maxRecDepth 100000 in
set_option maxHeartbeats 1000000 in
theorem toConfig_any (c0 c1 c2 c3 c4 c5 : Int) (w : World) :
    Calls Tryz.prog 5 #[.agg #[.int .i64 c0, .int .i64 c1, .int .i64 c2, .int .i64 c3, .int .i64 c4, .int .i64 c5]] w fun e w' => e = .returned (.agg #[.int .i64 c0, .int .i64 c1, .int .i64 c2, .int .i64 c3, .int .i64 c4, .int .i64 c5]) ∧ Below w.heap.size w w' := by
  go_enter Tryz.func5, Tryz.ntmps5
  go_wp2
  exact bodyPost_ret (v := .agg #[.int .i64 c0, .int .i64 c1, .int .i64 c2, .int .i64 c3, .int .i64 c4, .int .i64 c5]) (by simp [results, Tryz.results5, go_sem]) rfl ⟨rfl, (((Below.refl _ _).alloc (Nat.le_refl _) _).alloc (by simp) _).alloc (by simp; omega) _⟩

end Go.Proofs.YtoecnlhnfhongaaGreatDoor

