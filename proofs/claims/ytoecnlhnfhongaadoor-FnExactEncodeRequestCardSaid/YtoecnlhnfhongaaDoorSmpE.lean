import Derived.Test.YtoecnlhnfhongaaDoorProg
import Derived.Test.YtoecnlhnfhongaaDoorSmpB
import Derived.Test.YtoecnlhnfhongaaDoorLabE
namespace Go.Proofs.YtoecnlhnfhongaaDoor
open Go.RowKit

set_option maxRecDepth 100000 in
set_option maxHeartbeats 1000000 in
theorem eqSample_same (f : SmpD) (a1 b1 : Option Addr) (c1 d1 : Nat) (w : World) (p1 : LabsIn w a1 f.labs) (q1 : LabsIn w b1 f.labs) (l1 : f.labs.length ≤ maxLen) :
    Calls Tryd.prog 45 #[.agg #[.slice a1 f.labs.length c1, .int .i64 f.bits], .agg #[.slice b1 f.labs.length d1, .int .i64 f.bits]] w fun e w' => e = .returned (.bool true) ∧ Below w.heap.size w w' := by
  have HM : Hid (∀ W, Below w.heap.size w W → Calls Tryd.prog 57 #[.slice a1 f.labs.length c1, .slice b1 f.labs.length d1] W fun e w' => e = .returned (.bool true) ∧ Below W.heap.size W w') :=
    fun W hW => eqLabelS_same a1 b1 c1 d1 f.labs W (p1.later hW) (q1.later hW) l1
  clear p1 q1
  go_enter Tryd.func45, Tryd.ntmps45
  go_wp2_with fail
  refine (HM.out _ (bto (bnew _ _) (bnew _ _))).mono ?_
  rintro e w1 ⟨rfl, hb1⟩
  have B1 : Hid (Below w.heap.size w w1) := bto (bto (bnew _ _) (bnew _ _)) hb1
  have t0 : w1.cell? ⟨w.heap.size, 1, none⟩ = some (.int .i64 f.bits) := (((Blk.new w _ _).alloc _).later hb1).cell 1
  have t1 : w1.cell? ⟨w.heap.size + 1, 1, none⟩ = some (.int .i64 f.bits) := by
    have := ((Blk.new (w.alloc (.cells #[.slice a1 f.labs.length c1, .int .i64 f.bits] 54)) #[.slice b1 f.labs.length d1, .int .i64 f.bits] 54).later hb1).cell 1
    simpa using this
  clear hb1
  go_wp2
  go_ret
  exact ⟨rfl, B1.out⟩

def LenX (fs : List SmpD) : Prop := ∀ i (h : i < fs.length), fs[i].labs.length ≤ maxLen
set_option maxRecDepth 100000 in
set_option maxHeartbeats 2000000 in
theorem eqSampleS_same (a a' : Option Addr) (cap cap' : Nat) (fs : List SmpD) (w : World) (hf : SmpsIn w a fs) (hf' : SmpsIn w a' fs) (hlen : fs.length ≤ maxLen) (hl : LenX fs) :
    Calls Tryd.prog 22 #[.slice a fs.length cap, .slice a' fs.length cap'] w fun e w' => e = .returned (.bool true) ∧ Below w.heap.size w w' := by
  unfold maxLen at hlen
  have HF : Hid (SmpsIn w a fs) := hf
  have HF' : Hid (SmpsIn w a' fs) := hf'
  have HL : Hid (LenX fs) := hl
  clear hf hf' hl
  go_enter Tryd.func22, Tryd.ntmps22
  go_wp2
  go_loopw [5] (fun i wr => ∃ k : Nat, k ≤ fs.length ∧ i = .int .i64 k ∧ Below w.heap.size w wr) (fun i _ => fs.length - (intOf i).toNat)
  case atStart => exact ⟨0, Nat.zero_le _, rfl, Below.refl _ _⟩
  case round =>
    obtain ⟨k, hk, rfl, hbel⟩ := hrel
    by_cases hlt : k < fs.length
    · obtain ⟨b, o, a1, q1, rfl, hb, c0, c1, p1⟩ := (HF.out.later hbel).at hlt
      obtain ⟨b', o', b1, r1, rfl, hb', e0, e1, s1⟩ := (HF'.out.later hbel).at hlt
      have d0 := Later.cells c0
      have d1 := Later.cells c1
      have g0 := Later.cells e0
      have g1 := Later.cells e1
      have HC : Hid (∀ x : Later wr, Calls Tryd.prog 45 #[.agg #[.slice a1 fs[k].labs.length q1, .int .i64 fs[k].bits], .agg #[.slice b1 fs[k].labs.length r1, .int .i64 fs[k].bits]] x.w' fun e w' => e = .returned (.bool true) ∧ Below x.w'.heap.size x.w' w') :=
        fun x => eqSample_same fs[k] _ _ _ _ x.w' (p1.later x.h) (s1.later x.h) (HL.out k hlt)
      clear c0 c1 e0 e1 p1 s1
      have hne := Later.there wr
      go_wp2_with fail
      refine wp_region_later (by kernel_rfl) (by kernel_rfl) ?_
      repeat (go_big_quiet_step (exact calls_later (HC.out _)))
      refine wpQuiet_nil ?_
      rintro _ ⟨x, rfl⟩
      go_wp2
      exact ⟨⟨k + 1, by omega, by go_num, hbel.trans (x.h.mono hbel.size)⟩, by simp [intOf]; omega⟩
    · go_wp2
      go_ret
      exact ⟨rfl, hbel⟩

set_option maxRecDepth 100000 in
set_option maxHeartbeats 1000000 in
theorem eqRequest_same (r : ReqD) (a a' : Option Addr) (cap cap' : Nat) (w : World) (hf : SmpsIn w a r.smps) (hf' : SmpsIn w a' r.smps) (hlen : r.smps.length ≤ maxLen) (hl : LenX r.smps) :
    Calls Tryd.prog 9 #[.agg #[.int .i64 r.kind, .string r.tenant, .string r.metric, .int .i64 r.num, .slice a r.smps.length cap], .agg #[.int .i64 r.kind, .string r.tenant, .string r.metric, .int .i64 r.num, .slice a' r.smps.length cap']] w fun e w' => e = .returned (.bool true) ∧ Below w.heap.size w w' := by
  have HC : Hid (∀ W, Below w.heap.size w W → Calls Tryd.prog 22 #[.slice a r.smps.length cap, .slice a' r.smps.length cap'] W fun e w' => e = .returned (.bool true) ∧ Below W.heap.size W w') :=
    fun W hW => eqSampleS_same a a' cap cap' r.smps W (hf.later hW) (hf'.later hW) hlen hl
  clear hf hf' hl
  go_enter Tryd.func9, Tryd.ntmps9
  go_wp2_with fail
  refine (HC.out _ (bto (bnew _ _) (bnew _ _))).mono ?_
  rintro e w1 ⟨rfl, hb1⟩
  have B1 : Hid (Below w.heap.size w w1) := bto (bto (bnew _ _) (bnew _ _)) hb1
  clear hb1
  go_wp2
  go_ret
  exact ⟨rfl, B1.out⟩
end Go.Proofs.YtoecnlhnfhongaaDoor
