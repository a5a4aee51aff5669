import Derived.Test.YtgpgacncmoiefaaProg
import Derived.Test.YtgpgacncmoiefaaTenB
import Derived.Test.YtgpgacncmoiefaaPrE
namespace Go.Proofs.Ytgpgacncmoiefaa
open Go.RowKit

set_option maxRecDepth 100000 in
set_option maxHeartbeats 1000000 in
theorem eqTenant_same (f : TenD) (a1 a2 b1 b2 : Option Addr) (c1 c2 d1 d2 : Nat) (w : World) (p1 : PairsIn w a1 f.mets) (p2 : PairsIn w a2 f.sers) (q1 : PairsIn w b1 f.mets) (q2 : PairsIn w b2 f.sers) (l1 : f.mets.length ≤ maxLen) (l2 : f.sers.length ≤ maxLen) :
    Calls Try.prog 79 #[.agg #[.string f.name, .int .i64 f.limit, .slice a1 f.mets.length c1, .slice a2 f.sers.length c2], .agg #[.string f.name, .int .i64 f.limit, .slice b1 f.mets.length d1, .slice b2 f.sers.length d2]] w fun e w' => e = .returned (.bool true) ∧ Below w.heap.size w w' := by
  have HM : Hid (∀ W, Below w.heap.size w W → Calls Try.prog 90 #[.slice a1 f.mets.length c1, .slice b1 f.mets.length d1] W fun e w' => e = .returned (.bool true) ∧ Below W.heap.size W w') :=
    fun W hW => eqMetricLimitS_same a1 b1 c1 d1 f.mets W (p1.later hW) (q1.later hW) l1
  have HS : Hid (∀ W, Below w.heap.size w W → Calls Try.prog 91 #[.slice a2 f.sers.length c2, .slice b2 f.sers.length d2] W fun e w' => e = .returned (.bool true) ∧ Below W.heap.size W w') :=
    fun W hW => eqSeriesS_same a2 b2 c2 d2 f.sers W (p2.later hW) (q2.later hW) l2
  clear p1 p2 q1 q2
  go_enter Try.func79, Try.ntmps79
  go_wp2_with fail
  refine (HM.out _ (bto (bnew _ _) (bnew _ _))).mono ?_
  rintro e w1 ⟨rfl, hb1⟩
  have B1 : Hid (Below w.heap.size w w1) := bto (bto (bnew _ _) (bnew _ _)) hb1
  have t0 : w1.cell? ⟨w.heap.size, 3, none⟩ = some (.slice a2 f.sers.length c2) := (((Blk.new w _ _).alloc _).later hb1).cell 3
  have t1 : w1.cell? ⟨w.heap.size + 1, 3, none⟩ = some (.slice b2 f.sers.length d2) := by
    have := ((Blk.new (w.alloc (.cells #[.string f.name, .int .i64 f.limit, .slice a1 f.mets.length c1, .slice a2 f.sers.length c2] 87)) #[.string f.name, .int .i64 f.limit, .slice b1 f.mets.length d1, .slice b2 f.sers.length d2] 87).later hb1).cell 3
    simpa using this
  clear hb1
  go_wp2_with fail
  refine (HS.out _ B1.out).mono ?_
  rintro e w2 ⟨rfl, hb2⟩
  have B2 : Hid (Below w.heap.size w w2) := bto B1.out hb2
  clear hb2
  go_wp2
  go_ret
  exact ⟨rfl, B2.out⟩

def LenT (fs : List TenD) : Prop := ∀ i (h : i < fs.length), fs[i].mets.length ≤ maxLen ∧ fs[i].sers.length ≤ maxLen
set_option maxRecDepth 100000 in
set_option maxHeartbeats 2000000 in
theorem eqTenantS_same (a a' : Option Addr) (cap cap' : Nat) (fs : List TenD) (w : World) (hf : TensIn w a fs) (hf' : TensIn w a' fs) (hlen : fs.length ≤ maxLen) (hl : LenT fs) :
    Calls Try.prog 66 #[.slice a fs.length cap, .slice a' fs.length cap'] w fun e w' => e = .returned (.bool true) ∧ Below w.heap.size w w' := by
  unfold maxLen at hlen
  have HF : Hid (TensIn w a fs) := hf
  have HF' : Hid (TensIn w a' fs) := hf'
  have HL : Hid (LenT fs) := hl
  clear hf hf' hl
  go_enter Try.func66, Try.ntmps66
  go_wp2
  go_loopw [5] (fun i wr => ∃ k : Nat, k ≤ fs.length ∧ i = .int .i64 k ∧ Below w.heap.size w wr) (fun i _ => fs.length - (intOf i).toNat)
  case atStart => exact ⟨0, Nat.zero_le _, rfl, Below.refl _ _⟩
  case round =>
    obtain ⟨k, hk, rfl, hbel⟩ := hrel
    by_cases hlt : k < fs.length
    · obtain ⟨b, o, a1, q1, a2, q2, rfl, hb, c0, c1, c2, c3, p1, p2⟩ := (HF.out.later hbel).at hlt
      obtain ⟨b', o', b1, r1, b2, r2, rfl, hb', e0, e1, e2, e3, s1, s2⟩ := (HF'.out.later hbel).at hlt
      have d0 := Later.cells c0
      have d1 := Later.cells c1
      have d2 := Later.cells c2
      have d3 := Later.cells c3
      have g0 := Later.cells e0
      have g1 := Later.cells e1
      have g2 := Later.cells e2
      have g3 := Later.cells e3
      have HC : Hid (∀ x : Later wr, Calls Try.prog 79 #[.agg #[.string fs[k].name, .int .i64 fs[k].limit, .slice a1 fs[k].mets.length q1, .slice a2 fs[k].sers.length q2], .agg #[.string fs[k].name, .int .i64 fs[k].limit, .slice b1 fs[k].mets.length r1, .slice b2 fs[k].sers.length r2]] x.w' fun e w' => e = .returned (.bool true) ∧ Below x.w'.heap.size x.w' w') :=
        fun x => eqTenant_same fs[k] _ _ _ _ _ _ _ _ x.w' (p1.later x.h) (p2.later x.h) (s1.later x.h) (s2.later x.h) (HL.out k hlt).1 (HL.out k hlt).2
      clear c0 c1 c2 c3 e0 e1 e2 e3 p1 p2 s1 s2
      have hne := Later.there wr
      go_wp2_with fail
      refine wp_region_later (by kernel_rfl) (by kernel_rfl) ?_
      repeat (go_big_quiet_step (exact calls_later (HC.out _)))
      refine wpQuiet_nil ?_
      rintro _ ⟨x, rfl⟩
      go_wp2
      exact ⟨⟨k + 1, by omega, by go_num, hbel.trans (x.h.mono hbel.size)⟩, by simp [intOf]; omega⟩
    · go_wp2
      go_ret
      exact ⟨rfl, hbel⟩

set_option maxRecDepth 100000 in
set_option maxHeartbeats 1000000 in
theorem eqState_same (now : Int) (a a' : Option Addr) (cap cap' : Nat) (fs : List TenD) (w : World) (hf : TensIn w a fs) (hf' : TensIn w a' fs) (hlen : fs.length ≤ maxLen) (hl : LenT fs) :
    Calls Try.prog 31 #[.agg #[.int .i64 now, .slice a fs.length cap], .agg #[.int .i64 now, .slice a' fs.length cap']] w fun e w' => e = .returned (.bool true) ∧ Below w.heap.size w w' := by
  have HC : Hid (∀ W, Below w.heap.size w W → Calls Try.prog 66 #[.slice a fs.length cap, .slice a' fs.length cap'] W fun e w' => e = .returned (.bool true) ∧ Below W.heap.size W w') :=
    fun W hW => eqTenantS_same a a' cap cap' fs W (hf.later hW) (hf'.later hW) hlen hl
  clear hf hf' hl
  go_enter Try.func31, Try.ntmps31
  go_wp2_with fail
  refine (HC.out _ (bto (bnew _ _) (bnew _ _))).mono ?_
  rintro e w1 ⟨rfl, hb1⟩
  have B1 : Hid (Below w.heap.size w w1) := bto (bto (bnew _ _) (bnew _ _)) hb1
  clear hb1
  go_wp2
  go_ret
  exact ⟨rfl, B1.out⟩
end Go.Proofs.Ytgpgacncmoiefaa
