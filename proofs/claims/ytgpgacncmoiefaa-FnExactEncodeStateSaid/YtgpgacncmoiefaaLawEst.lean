import Derived.Test.YtgpgacncmoiefaaProg
import Derived.Test.YtgpgacncmoiefaaIEst
import Derived.Test.YtgpgacncmoiefaaSEst
import Derived.Test.YtgpgacncmoiefaaTenS
import Derived.Test.YtgpgacncmoiefaaTenE
import Derived.Test.YtgpgacncmoiefaaTenT
import Derived.Deep.RegionHeld3
import Derived.Deep.DeepCutAuto
namespace Go.Proofs.Ytgpgacncmoiefaa
open Go.RowKit

theorem pair_bulk_at' (ps : List PairD) (k : Nat) (h : k < ps.length) : ps[k].s.size ≤ pairBulk ps := by
  have h1 := pairBulk_take_succ ps k h
  have h2 := pairBulk_take_le ps (k + 1)
  omega
theorem encTs_le : ∀ (ts : List TenD), (encTs ts).size ≤ 17 * ts.length + 10 * tensBulk ts
  | [] => by simp [encTs, tensBulk]
  | t :: q => by
    have h1 := encTs_le q
    have h2 := encT_size t
    show (encT t ++ encTs q).size ≤ 17 * (q.length + 1) + 10 * (tenBulk t + tensBulk q)
    rw [ByteArray.size_append, h2]
    unfold tenBulk
    omega
theorem est_fit {ts : List TenD} (h : ts.length + tensBulk ts ≤ 1048576) : BigE ts ∧ SmallT ts ∧ LenT ts ∧ (encTs ts).size ≤ 100000000 := by
  have hb : ∀ i (hi : i < ts.length), tenBulk ts[i] ≤ 1048576 := fun i hi => by
    have h1 := tensBulk_take_succ ts i hi
    have h2 := tensBulk_take_le ts (i + 1)
    omega
  have h1 : ∀ i (hi : i < ts.length), ts[i].name.size ≤ 1048576 ∧ ts[i].mets.length ≤ 1048576 ∧ ts[i].sers.length ≤ 1048576 ∧ pairBulk ts[i].mets ≤ 1048576 ∧ pairBulk ts[i].sers ≤ 1048576 := fun i hi => by have := hb i hi; unfold tenBulk at this; omega
  have h2 : ∀ i (hi : i < ts.length), (∀ j (h' : j < ts[i].mets.length), ts[i].mets[j].s.size ≤ 1000000000) ∧ (∀ j (h' : j < ts[i].sers.length), ts[i].sers[j].s.size ≤ 1000000000) := fun i hi =>
    ⟨fun j hj => by have := pair_bulk_at' _ j hj; have := h1 i hi; omega, fun j hj => by have := pair_bulk_at' _ j hj; have := h1 i hi; omega⟩
  refine ⟨fun i hi => ⟨?_, ?_, ?_, (h2 i hi).1, (h2 i hi).2⟩, fun i hi => ⟨?_, ?_⟩, fun i hi => ⟨?_, ?_⟩, ?_⟩
  all_goals first | (have := h1 i hi; unfold maxLen at *; omega) | (have := h1 i hi; omega) | (have := encTs_le ts; omega)

set_option maxRecDepth 100000 in
set_option maxHeartbeats 4000000 in
theorem lawEncState (lsn now : Int) (a : Option Addr) (cap : Nat) (ts : List TenD) (w : World) (hf : TensIn w a ts) (hs : ShortT ts) (hr : RngT ts) (hl : I64p lsn) (hnw : I64p now) (hlen : ts.length ≤ maxLen) :
    Calls Try.prog 8 #[.int .i64 lsn, .agg #[.int .i64 now, .slice a ts.length cap]] w fun e w' => e = .returned (.bool true) ∧ Below w.heap.size w w' := by
  have HSZ : Hid (∀ W, Below w.heap.size w W → Calls Try.prog 27 #[.agg #[.int .i64 now, .slice a ts.length cap], .int .i64 1048576] W fun e w' => e = .returned (.int .i64 (szTens 1048576 ts)) ∧ Below W.heap.size W w') := fun W hW => szState_any a cap ts now 1048576 W (by omega) (by omega) (hf.later hW) hs hlen
  by_cases hbig : (ts.length + tensBulk ts : Int) ≤ 1048576
  · have e : szTens 1048576 ts = 1048576 - ts.length - tensBulk ts := by unfold szTens; rw [if_pos hbig]
    rw [e] at HSZ
    have h0 : ¬ ((1048576 : Int) - ts.length - tensBulk ts < 0) := by omega
    have hl' : ts.length ≤ 1048576 := by omega
    obtain ⟨f1, f2, f3, f4⟩ := est_fit (ts := ts) (by omega)
    have HTS : Hid (∀ W, Below w.heap.size w W → Calls Try.prog 29 #[.agg #[.int .i64 now, .slice a ts.length cap]] W fun e w' => ∃ g, e = .returned (.agg #[.int .i64 now, .slice (some ⟨g, 0, none⟩) ts.length ts.length]) ∧ W.heap.size ≤ g ∧ g < w'.heap.size ∧ TensOwn w' W.heap.size (some ⟨g, 0, none⟩) ts ∧ Below W.heap.size W w') := fun W hW => toState_any now a cap ts W (hf.later hW) hl' f2
    have HSP : Hid (∀ W g, TensIn W (some ⟨g, 0, none⟩) ts → Calls Try.prog 28 #[.int .i64 lsn, .agg #[.int .i64 now, .slice (some ⟨g, 0, none⟩) ts.length ts.length]] W fun e w' => e = .returned (.string (staB lsn now ts)) ∧ Below W.heap.size W w') := fun W g h => specEst_any lsn now _ _ ts W h f1 hr hl hnw (by omega) f4
    have HIM : Hid (∀ W g, TensIn W (some ⟨g, 0, none⟩) ts → Calls Try.prog 30 #[.int .i64 lsn, .agg #[.int .i64 now, .slice (some ⟨g, 0, none⟩) ts.length ts.length]] W fun e w' => e = .returned (.string (staB lsn now ts)) ∧ Below W.heap.size W w') := fun W g h => implEst_any lsn now _ _ ts W h f1 (by omega) f4
    have HEQ : Hid (∀ W g g', TensIn W (some ⟨g, 0, none⟩) ts → TensIn W (some ⟨g', 0, none⟩) ts → Calls Try.prog 31 #[.agg #[.int .i64 now, .slice (some ⟨g, 0, none⟩) ts.length ts.length], .agg #[.int .i64 now, .slice (some ⟨g', 0, none⟩) ts.length ts.length]] W fun e w' => e = .returned (.bool true) ∧ Below W.heap.size W w') := fun W g g' h h' => eqState_same now _ _ _ _ ts W h h' (by unfold maxLen; omega) f3
    generalize staB lsn now ts = R at *
    generalize (1048576 : Int) - ts.length - tensBulk ts = left at *
    generalize ts.length = n at *
    clear hf hs hlen hr hl hnw e hbig hl' f1 f2 f3 f4
    go_enter Try.func8, Try.ntmps8
    go_wp2_with fail
    refine (HSZ.out _ (bnew _ _)).mono ?_
    rintro e w1 ⟨rfl, hb1⟩
    have B1 : Hid (Below w.heap.size w w1) := bto (bnew _ _) hb1
    have S1 : Hid (Blk w1 w.heap.size #[.int .i64 now, .slice a n cap] 46) := hid ((Blk.new _ _ _).later hb1)
    have y0 : w1.cell? ⟨w.heap.size, 0, none⟩ = some (.int .i64 now) := S1.out.cell 0
    have y1 : w1.cell? ⟨w.heap.size, 1, none⟩ = some (.slice a n cap) := S1.out.cell 1
    clear hb1 HSZ
    go_wp2_with fail
    refine (HTS.out _ B1.out).mono ?_
    rintro e w2 ⟨g, rfl, hg1, hg2, ho2, hb2⟩
    have B2 : Hid (Below w.heap.size w w2) := bto B1.out hb2
    have S2 : Hid (Blk w2 w.heap.size #[.int .i64 now, .slice a n cap] 46) := S1.out.later hb2
    have O2 : Hid (TensIn w2 (some ⟨g, 0, none⟩) ts) := ho2.tens
    clear ho2 hb2 y0 y1 S1 B1
    go_wp2_with fail
    refine (HSP.out _ _ O2.out).mono ?_
    rintro e w3 ⟨rfl, hb3⟩
    have B3 : Hid (Below w.heap.size w w3) := bto B2.out hb3
    have S3 : Hid (Blk w3 w.heap.size #[.int .i64 now, .slice a n cap] 46) := S2.out.later hb3
    have y0 : w3.cell? ⟨w.heap.size, 0, none⟩ = some (.int .i64 now) := S3.out.cell 0
    have y1 : w3.cell? ⟨w.heap.size, 1, none⟩ = some (.slice a n cap) := S3.out.cell 1
    clear hb3 B2 O2 S2
    go_wp2_with fail
    refine (HTS.out _ B3.out).mono ?_
    rintro e w5 ⟨g1, rfl, hg1, hg2, ho5, hb5⟩
    have B5 : Hid (Below w.heap.size w w5) := bto B3.out hb5
    have S5 : Hid (Blk w5 w.heap.size #[.int .i64 now, .slice a n cap] 46) := S3.out.later hb5
    have O5 : Hid (TensIn w5 (some ⟨g1, 0, none⟩) ts) := ho5.tens
    clear ho5 hb5 S3 B3 y0 y1
    go_wp2_with fail
    refine (HIM.out _ g1 (O5.out.later (bnew _ _))).mono ?_
    rintro e w7 ⟨rfl, hb7⟩
    have Bw7 : Hid (Below w.heap.size w w7) := bto (bto B5.out (bnew _ _)) hb7
    have O7 : Hid (TensIn w7 (some ⟨g1, 0, none⟩) ts) := (O5.out.later (bnew _ _)).later hb7
    have S7 : Hid (Blk w7 w.heap.size #[.int .i64 now, .slice a n cap] 46) := hid ((S5.out.alloc _).later hb7)
    have X7 : Hid (Blk w7 w5.heap.size #[.int .i64 now, .slice (some ⟨g1, 0, none⟩) n n] 51) := hid ((Blk.new _ _ _).later hb7)
    have hR : (R.toList != R.toList) = false := by simp
    clear hb7 B5 S5 O5
    generalize w5.heap.size = X at *
    have HK7 : Hid (∀ w', Below w7.heap.size w7 w' → w'.cell? ⟨w.heap.size, 0, none⟩ = some (.int .i64 now) ∧ w'.cell? ⟨w.heap.size, 1, none⟩ = some (.slice a n cap) ∧ w'.cell? ⟨X, 0, none⟩ = some (.int .i64 now) ∧ w'.cell? ⟨X, 1, none⟩ = some (.slice (some ⟨g1, 0, none⟩) n n)) := fun w' h => by
      have q := S7.out.later h
      have r := X7.out.later h
      exact ⟨q.cell 0, q.cell 1, r.cell 0, r.cell 1⟩
    obtain ⟨y2, y3, u2, u3⟩ := HK7.out w7 (Below.refl _ _)
    go_upto_region 10 with fail
    go_cut [30] (fun s wx => s = .bool false ∧ Below w7.heap.size w7 wx)
    case first =>
      go_region_held3 (fun w' => w'.cell? ⟨w.heap.size, 0, none⟩ = some (.int .i64 now) ∧ w'.cell? ⟨w.heap.size, 1, none⟩ = some (.slice a n cap) ∧ w'.cell? ⟨X, 0, none⟩ = some (.int .i64 now) ∧ w'.cell? ⟨X, 1, none⟩ = some (.slice (some ⟨g1, 0, none⟩) n n))
        (first | go_keep | exact HK7.out _ k4 | exact HK7.out _ k3)
        (first
          | (go_at_call 29; refine (HTS.out _ (Bw7.out.drew)).mono ?_; rintro e w3 ⟨g, rfl, hg3, hg4, ho3, hb3⟩; have k3 : Below w7.heap.size w7 w3 := (by exact bto (Below.refl _ _).drew hb3))
          | (go_at_call 31; refine (HEQ.out _ g1 g (O7.out.later k3) ho3.tens).mono ?_; rintro e w4 ⟨rfl, hb4⟩; have k4 : Below w7.heap.size w7 w4 := (by exact bto k3 hb4)))
      all_goals (go_wp2_with fail; go_meet)
      all_goals exact ⟨rfl, k4⟩
    obtain ⟨rfl, hb8⟩ := hcut
    rename World => w8
    have Bw8 : Hid (Below w.heap.size w w8) := bto Bw7.out hb8
    clear hb8
    go_wp2
    go_ret
    exact ⟨rfl, Bw8.out⟩
  · have e : szTens 1048576 ts = -1 := by unfold szTens; rw [if_neg hbig]
    rw [e] at HSZ
    clear hf hs hlen hr hl hnw hbig e
    go_enter Try.func8, Try.ntmps8
    go_wp2_with fail
    refine (HSZ.out _ (bnew _ _)).mono ?_
    rintro e w1 ⟨rfl, hb1⟩
    have B1 : Hid (Below w.heap.size w w1) := bto (bnew _ _) hb1
    clear hb1
    go_wp2
    go_ret
    exact ⟨rfl, B1.out⟩
end Go.Proofs.Ytgpgacncmoiefaa
