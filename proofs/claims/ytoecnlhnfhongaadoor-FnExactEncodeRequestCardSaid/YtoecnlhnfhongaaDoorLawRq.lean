/- The verifier's own text: the law FnExactEncodeRequest; written by genlawrq.py. -/
import Derived.Test.YtoecnlhnfhongaaDoorProg
import Derived.Test.YtoecnlhnfhongaaDoorSRqW
import Derived.Test.YtoecnlhnfhongaaDoorIRq
import Derived.Test.YtoecnlhnfhongaaDoorSmpT
import Derived.Test.YtoecnlhnfhongaaDoorSmpF
import Derived.Test.YtoecnlhnfhongaaDoorSmpE
import Derived.Deep.RegionHeld3
import Derived.Deep.DeepCutAuto
namespace Go.Proofs.YtoecnlhnfhongaaDoor
open Go.RowKit

set_option maxRecDepth 100000 in
set_option maxHeartbeats 4000000 in
theorem lawReq (r : ReqD) (a : Option Addr) (cap : Nat) (w : World) (hf : SmpsIn w a r.smps) (hs : ShortSm r.smps) (hlen : r.smps.length ≤ maxLen) (ht : r.tenant.size ≤ maxLen) (hm : r.metric.size ≤ maxLen) (hnu : I64r r.num) (hbi : RngX r.smps) (hT : ShTab w) :
    Calls Tryd.prog 3 #[.agg #[.int .i64 r.kind, .string r.tenant, .string r.metric, .int .i64 r.num, .slice a r.smps.length cap]] w fun e w' => e = .returned (.bool true) ∧ Below w.heap.size w w' := by
  have HSZ : Hid (∀ W, Below w.heap.size w W → Calls Tryd.prog 5 #[.agg #[.int .i64 r.kind, .string r.tenant, .string r.metric, .int .i64 r.num, .slice a r.smps.length cap], .int .i64 1048576] W fun e w' => e = .returned (.int .i64 (szReq 1048576 r)) ∧ Below W.heap.size W w') := fun W hW => szRequest_any r a cap 1048576 W (by omega) (by omega) (hf.later hW) hs hlen ht hm
  by_cases hbig : (reqBulk r : Int) ≤ 1048576
  rotate_left
  · have e : szReq 1048576 r = -1 := by unfold szReq; rw [if_neg hbig]
    rw [e] at HSZ
    clear hf hs hlen hT hbig e hnu hbi ht hm
    go_enter Tryd.func3, Tryd.ntmps3
    go_wp2_with fail
    refine (HSZ.out _ (bnew _ _)).mono ?_
    rintro e w1 ⟨rfl, hb1⟩
    have B1 : Hid (Below w.heap.size w w1) := bto (bnew _ _) hb1
    clear hb1
    go_wp2
    go_ret
    exact ⟨rfl, B1.out⟩
  have e : szReq 1048576 r = 1048576 - reqBulk r := by unfold szReq; rw [if_pos hbig]
  rw [e] at HSZ
  have h0 : ¬ ((1048576 : Int) - reqBulk r < 0) := by omega
  have hb : reqBulk r = r.tenant.size + r.metric.size + r.smps.length + smpsBulk r.smps := rfl
  have hsm : ∀ i (h : i < r.smps.length), r.smps[i].labs.length ≤ 1048576 := fun i hi => by
    have h1 := smpBulk_at r.smps i hi
    have h2 : smpBulk r.smps[i] = r.smps[i].labs.length + labBulk r.smps[i].labs := rfl
    omega
  have HTR : Hid (∀ W, Below w.heap.size w W → Calls Tryd.prog 7 #[.agg #[.int .i64 r.kind, .string r.tenant, .string r.metric, .int .i64 r.num, .slice a r.smps.length cap]] W fun e w' => ∃ g, e = .returned (.agg #[.int .i64 r.kind, .string r.tenant, .string r.metric, .int .i64 r.num, .slice (some ⟨g, 0, none⟩) r.smps.length r.smps.length]) ∧ W.heap.size ≤ g ∧ g < w'.heap.size ∧ SmpsOwn w' W.heap.size (some ⟨g, 0, none⟩) r.smps ∧ Below W.heap.size W w') := fun W hW => toRequest_any r a cap W (hf.later hW) (by omega) hsm
  have HSP : Hid (∀ W g, SmpsIn W (some ⟨g, 0, none⟩) r.smps → Calls Tryd.prog 6 #[.agg #[.int .i64 r.kind, .string r.tenant, .string r.metric, .int .i64 r.num, .slice (some ⟨g, 0, none⟩) r.smps.length r.smps.length]] W fun e w' => e = .returned (.string (reqB r)) ∧ Below W.heap.size W w') := fun W g h => specReq_any r _ _ W h (by omega) hnu hbi
  have HIM : Hid (∀ W g, SmpsIn W (some ⟨g, 0, none⟩) r.smps → ShTab W → Calls Tryd.prog 8 #[.agg #[.int .i64 r.kind, .string r.tenant, .string r.metric, .int .i64 r.num, .slice (some ⟨g, 0, none⟩) r.smps.length r.smps.length]] W fun e w' => e = .returned (.string (reqB r)) ∧ Below W.heap.size W w') := fun W g h hu => implReq_any r _ _ W h (by omega) hu
  have HEQ : Hid (∀ W g g', SmpsIn W (some ⟨g, 0, none⟩) r.smps → SmpsIn W (some ⟨g', 0, none⟩) r.smps → Calls Tryd.prog 9 #[.agg #[.int .i64 r.kind, .string r.tenant, .string r.metric, .int .i64 r.num, .slice (some ⟨g, 0, none⟩) r.smps.length r.smps.length], .agg #[.int .i64 r.kind, .string r.tenant, .string r.metric, .int .i64 r.num, .slice (some ⟨g', 0, none⟩) r.smps.length r.smps.length]] W fun e w' => e = .returned (.bool true) ∧ Below W.heap.size W w') := fun W g g' h h' => eqRequest_same r _ _ _ _ W h h' (by unfold maxLen; omega) (fun i hi => by have := hsm i hi; unfold maxLen; omega)
  have HU : Hid (ShTab w) := hT
  generalize reqB r = RQ at *
  generalize (1048576 : Int) - reqBulk r = left at *
  clear hf hs hlen hT e hbig hb hsm hnu hbi ht hm
  generalize r.smps.length = n at *
  go_enter Tryd.func3, Tryd.ntmps3
  go_wp2_with fail
  refine (HSZ.out _ (bnew _ _)).mono ?_
  rintro e w1 ⟨rfl, hb1⟩
  have H1 : Hid (Blk w1 w.heap.size #[.int .i64 r.kind, .string r.tenant, .string r.metric, .int .i64 r.num, .slice a n cap] 24 ∧ Below w.heap.size w w1) := ⟨(Blk.new _ _ _).later hb1, bto (bnew _ _) hb1⟩
  have x0 : w1.cell? ⟨w.heap.size, 0, none⟩ = some (.int .i64 r.kind) := H1.out.1.cell 0; have x1 : w1.cell? ⟨w.heap.size, 1, none⟩ = some (.string r.tenant) := H1.out.1.cell 1; have x2 : w1.cell? ⟨w.heap.size, 2, none⟩ = some (.string r.metric) := H1.out.1.cell 2; have x3 : w1.cell? ⟨w.heap.size, 3, none⟩ = some (.int .i64 r.num) := H1.out.1.cell 3; have x4 : w1.cell? ⟨w.heap.size, 4, none⟩ = some (.slice a n cap) := H1.out.1.cell 4
  clear hb1 HSZ
  go_wp2_with fail
  refine (HTR.out _ H1.out.2).mono ?_
  rintro e w2 ⟨g1, rfl, _, _, ho2, hb2⟩
  have H2 : Hid (SmpsIn w2 (some ⟨g1, 0, none⟩) r.smps ∧ Blk w2 w.heap.size #[.int .i64 r.kind, .string r.tenant, .string r.metric, .int .i64 r.num, .slice a n cap] 24 ∧ Below w.heap.size w w2) := ⟨ho2.smps, H1.out.1.later hb2, bto H1.out.2 hb2⟩
  clear ho2 hb2 H1 x0 x1 x2 x3 x4
  go_wp2_with fail
  refine (HSP.out _ g1 H2.out.1).mono ?_
  rintro e w3 ⟨rfl, hb3⟩
  have H3 : Hid (Blk w3 w.heap.size #[.int .i64 r.kind, .string r.tenant, .string r.metric, .int .i64 r.num, .slice a n cap] 24 ∧ Below w.heap.size w w3) := ⟨H2.out.2.1.later hb3, bto H2.out.2.2 hb3⟩
  clear hb3 H2 HSP
  have x0 : w3.cell? ⟨w.heap.size, 0, none⟩ = some (.int .i64 r.kind) := H3.out.1.cell 0; have x1 : w3.cell? ⟨w.heap.size, 1, none⟩ = some (.string r.tenant) := H3.out.1.cell 1; have x2 : w3.cell? ⟨w.heap.size, 2, none⟩ = some (.string r.metric) := H3.out.1.cell 2; have x3 : w3.cell? ⟨w.heap.size, 3, none⟩ = some (.int .i64 r.num) := H3.out.1.cell 3; have x4 : w3.cell? ⟨w.heap.size, 4, none⟩ = some (.slice a n cap) := H3.out.1.cell 4
  go_wp2_with fail
  refine (HTR.out _ H3.out.2).mono ?_
  rintro e w4 ⟨g2, rfl, _, _, ho4, hb4⟩
  have H4 : Hid (SmpsIn w4 (some ⟨g2, 0, none⟩) r.smps ∧ Blk w4 w.heap.size #[.int .i64 r.kind, .string r.tenant, .string r.metric, .int .i64 r.num, .slice a n cap] 24 ∧ Below w.heap.size w w4) := ⟨ho4.smps, H3.out.1.later hb4, bto H3.out.2 hb4⟩
  clear ho4 hb4 H3 x0 x1 x2 x3 x4
  go_upto_region 7 with fail
  have H5 : Hid (SmpsIn (w4.alloc (.cells #[.int .i64 r.kind, .string r.tenant, .string r.metric, .int .i64 r.num, .slice (some ⟨g2, 0, none⟩) n n] 29)) (some ⟨g2, 0, none⟩) r.smps ∧ Blk (w4.alloc (.cells #[.int .i64 r.kind, .string r.tenant, .string r.metric, .int .i64 r.num, .slice (some ⟨g2, 0, none⟩) n n] 29)) w.heap.size #[.int .i64 r.kind, .string r.tenant, .string r.metric, .int .i64 r.num, .slice a n cap] 24 ∧ Below w.heap.size w (w4.alloc (.cells #[.int .i64 r.kind, .string r.tenant, .string r.metric, .int .i64 r.num, .slice (some ⟨g2, 0, none⟩) n n] 29)) ∧ Blk (w4.alloc (.cells #[.int .i64 r.kind, .string r.tenant, .string r.metric, .int .i64 r.num, .slice (some ⟨g2, 0, none⟩) n n] 29)) w4.heap.size #[.int .i64 r.kind, .string r.tenant, .string r.metric, .int .i64 r.num, .slice (some ⟨g2, 0, none⟩) n n] 29) := ⟨H4.out.1.later (bnew _ _), H4.out.2.1.alloc _, bto H4.out.2.2 (bnew _ _), Blk.new _ _ _⟩
  clear H4
  generalize w4.alloc (.cells #[.int .i64 r.kind, .string r.tenant, .string r.metric, .int .i64 r.num, .slice (some ⟨g2, 0, none⟩) n n] 29) = w5 at *
  generalize w4.heap.size = X at *
  clear w4
  have y0 : w5.cell? ⟨X, 0, none⟩ = some (.int .i64 r.kind) := H5.out.2.2.2.cell 0; have y1 : w5.cell? ⟨X, 1, none⟩ = some (.string r.tenant) := H5.out.2.2.2.cell 1; have y2 : w5.cell? ⟨X, 2, none⟩ = some (.string r.metric) := H5.out.2.2.2.cell 2; have y3 : w5.cell? ⟨X, 3, none⟩ = some (.int .i64 r.num) := H5.out.2.2.2.cell 3; have y4 : w5.cell? ⟨X, 4, none⟩ = some (.slice (some ⟨g2, 0, none⟩) n n) := H5.out.2.2.2.cell 4
  go_wp2_with fail
  refine (HIM.out _ g2 H5.out.1 (HU.out.later H5.out.2.2.1)).mono ?_
  rintro e w6 ⟨rfl, hb6⟩
  have H6 : Hid (SmpsIn w6 (some ⟨g2, 0, none⟩) r.smps ∧ Blk w6 w.heap.size #[.int .i64 r.kind, .string r.tenant, .string r.metric, .int .i64 r.num, .slice a n cap] 24 ∧ Below w.heap.size w w6 ∧ Blk w6 X #[.int .i64 r.kind, .string r.tenant, .string r.metric, .int .i64 r.num, .slice (some ⟨g2, 0, none⟩) n n] 29) := ⟨H5.out.1.later hb6, H5.out.2.1.later hb6, bto H5.out.2.2.1 hb6, H5.out.2.2.2.later hb6⟩
  clear hb6 H5 HIM y0 y1 y2 y3 y4
  have HK : Hid (∀ w', Below w6.heap.size w6 w' → w'.cell? ⟨w.heap.size, 0, none⟩ = some (.int .i64 r.kind) ∧ w'.cell? ⟨w.heap.size, 1, none⟩ = some (.string r.tenant) ∧ w'.cell? ⟨w.heap.size, 2, none⟩ = some (.string r.metric) ∧ w'.cell? ⟨w.heap.size, 3, none⟩ = some (.int .i64 r.num) ∧ w'.cell? ⟨w.heap.size, 4, none⟩ = some (.slice a n cap) ∧ w'.cell? ⟨X, 0, none⟩ = some (.int .i64 r.kind) ∧ w'.cell? ⟨X, 1, none⟩ = some (.string r.tenant) ∧ w'.cell? ⟨X, 2, none⟩ = some (.string r.metric) ∧ w'.cell? ⟨X, 3, none⟩ = some (.int .i64 r.num) ∧ w'.cell? ⟨X, 4, none⟩ = some (.slice (some ⟨g2, 0, none⟩) n n)) := fun w' h => by
    have q := H6.out.2.1.later h
    have p := H6.out.2.2.2.later h
    exact ⟨q.cell 0, q.cell 1, q.cell 2, q.cell 3, q.cell 4, p.cell 0, p.cell 1, p.cell 2, p.cell 3, p.cell 4⟩
  obtain ⟨x0, x1, x2, x3, x4, y0, y1, y2, y3, y4⟩ := HK.out w6 (Below.refl _ _)
  have hR : (RQ.toList != RQ.toList) = false := by simp
  go_upto_region 10 with fail
  go_cut [26] (fun s wx => s = .bool false ∧ Below w6.heap.size w6 wx)
  case first =>
    go_region_held3 (fun w' => w'.cell? ⟨w.heap.size, 0, none⟩ = some (.int .i64 r.kind) ∧ w'.cell? ⟨w.heap.size, 1, none⟩ = some (.string r.tenant) ∧ w'.cell? ⟨w.heap.size, 2, none⟩ = some (.string r.metric) ∧ w'.cell? ⟨w.heap.size, 3, none⟩ = some (.int .i64 r.num) ∧ w'.cell? ⟨w.heap.size, 4, none⟩ = some (.slice a n cap) ∧ w'.cell? ⟨X, 0, none⟩ = some (.int .i64 r.kind) ∧ w'.cell? ⟨X, 1, none⟩ = some (.string r.tenant) ∧ w'.cell? ⟨X, 2, none⟩ = some (.string r.metric) ∧ w'.cell? ⟨X, 3, none⟩ = some (.int .i64 r.num) ∧ w'.cell? ⟨X, 4, none⟩ = some (.slice (some ⟨g2, 0, none⟩) n n))
      (first | go_keep | exact HK.out _ k4 | exact HK.out _ k3)
      (first
        | (go_at_call 7; refine (HTR.out _ (H6.out.2.2.1.drew)).mono ?_; rintro e w3 ⟨g, rfl, hg3, hg4, ho3, hb3⟩; have k3 : Below w6.heap.size w6 w3 := (by exact bto (Below.refl _ _).drew hb3))
        | (go_at_call 9; refine (HEQ.out _ g2 g (H6.out.1.later k3) ho3.smps).mono ?_; rintro e w4 ⟨rfl, hb4⟩; have k4 : Below w6.heap.size w6 w4 := (by exact bto k3 hb4)))
    all_goals (go_wp2_with fail; go_meet)
    all_goals exact ⟨rfl, k4⟩
  obtain ⟨rfl, hb8⟩ := hcut
  rename World => w8
  have Bw8 : Hid (Below w.heap.size w w8) := bto H6.out.2.2.1 hb8
  clear hb8
  go_wp2
  go_ret
  exact ⟨rfl, Bw8.out⟩
end Go.Proofs.YtoecnlhnfhongaaDoor
