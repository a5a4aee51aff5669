import Derived.Test.YtgpgacncmoiefaaProg
import Derived.Test.YtgpgacncmoiefaaIBat
import Derived.Test.YtgpgacncmoiefaaSBat
import Derived.Test.YtgpgacncmoiefaaRecS
import Derived.Deep.RegionHeld3
import Derived.Deep.DeepCutAuto
namespace Go.Proofs.Ytgpgacncmoiefaa
open Go.RowKit

theorem rec_bulk_at (rs : List RecD) (k : Nat) (h : k < rs.length) : rs[k].tenant.size + rs[k].text.size ≤ recBulk rs := by
  have h1 := recBulk_take_succ rs k h
  have h2 := recBulk_take_le rs (k + 1)
  omega

set_option maxRecDepth 100000 in
set_option maxHeartbeats 4000000 in
theorem lawEncBatch (lsn : Int) (a : Option Addr) (cap : Nat) (rs : List RecD) (w : World) (hf : RecsIn w a rs) (hs : ShortR rs) (hr : RngR rs) (hl : I64 lsn) (hlen : rs.length ≤ maxLen) :
    Calls Try.prog 6 #[.agg #[.int .i64 lsn, .slice a rs.length cap]] w fun e w' => e = .returned (.bool true) ∧ Below w.heap.size w w' := by
  have HSZ : Hid (∀ W, Below w.heap.size w W → Calls Try.prog 18 #[.agg #[.int .i64 lsn, .slice a rs.length cap], .int .i64 1048576] W fun e w' => e = .returned (.int .i64 (szRecs 1048576 rs)) ∧ Below W.heap.size W w') := fun W hW => szBatch_any a cap rs lsn 1048576 W (by omega) (by omega) (hf.later hW) hs hlen
  by_cases hbig : (rs.length + recBulk rs : Int) ≤ 1048576
  · have e : szRecs 1048576 rs = 1048576 - rs.length - recBulk rs := by unfold szRecs; rw [if_pos hbig]
    rw [e] at HSZ
    have h0 : ¬ ((1048576 : Int) - rs.length - recBulk rs < 0) := by omega
    have hl' : rs.length ≤ 1048576 := by omega
    have hb : ∀ i (h : i < rs.length), rs[i].tenant.size ≤ 1000000000 ∧ rs[i].text.size ≤ 1000000000 := fun i h => by have := rec_bulk_at rs i h; omega
    have HTS : Hid (∀ W, Below w.heap.size w W → Calls Try.prog 20 #[.agg #[.int .i64 lsn, .slice a rs.length cap]] W fun e w' => ∃ g, e = .returned (.agg #[.int .i64 lsn, .slice (some ⟨g, 0, none⟩) rs.length rs.length]) ∧ W.heap.size ≤ g ∧ g < w'.heap.size ∧ RecsOwn w' W.heap.size (some ⟨g, 0, none⟩) rs ∧ Below W.heap.size W w') := fun W hW => toBatch_any lsn a cap rs W (hf.later hW) hl'
    have HSP : Hid (∀ W g, RecsIn W (some ⟨g, 0, none⟩) rs → Calls Try.prog 19 #[.agg #[.int .i64 lsn, .slice (some ⟨g, 0, none⟩) rs.length rs.length]] W fun e w' => e = .returned (.string (batB lsn rs)) ∧ Below W.heap.size W w') := fun W g h => specBat_any lsn _ _ rs W h hb hr hl (by omega)
    have HIM : Hid (∀ W g, RecsIn W (some ⟨g, 0, none⟩) rs → Calls Try.prog 21 #[.agg #[.int .i64 lsn, .slice (some ⟨g, 0, none⟩) rs.length rs.length]] W fun e w' => e = .returned (.string (batB lsn rs)) ∧ Below W.heap.size W w') := fun W g h => implBat_any lsn _ _ rs W h hb (by omega)
    have HEQ : Hid (∀ W g g', RecsIn W (some ⟨g, 0, none⟩) rs → RecsIn W (some ⟨g', 0, none⟩) rs → Calls Try.prog 22 #[.agg #[.int .i64 lsn, .slice (some ⟨g, 0, none⟩) rs.length rs.length], .agg #[.int .i64 lsn, .slice (some ⟨g', 0, none⟩) rs.length rs.length]] W fun e w' => e = .returned (.bool true) ∧ Below W.heap.size W w') := fun W g g' h h' => eqBatch_same lsn _ _ _ _ rs W h h' (by unfold maxLen; omega)
    clear hb
    generalize batB lsn rs = R at *
    generalize (1048576 : Int) - rs.length - recBulk rs = left at *
    generalize rs.length = n at *
    clear hf hs hlen hr hl e hbig hl'
    go_enter Try.func6, Try.ntmps6
    go_wp2_with fail
    refine (HSZ.out _ (bnew _ _)).mono ?_
    rintro e w1 ⟨rfl, hb1⟩
    have B1 : Hid (Below w.heap.size w w1) := bto (bnew _ _) hb1
    have S1 : Hid (Blk w1 w.heap.size #[.int .i64 lsn, .slice a n cap] 32) := hid ((Blk.new _ _ _).later hb1)
    have y0 : w1.cell? ⟨w.heap.size, 0, none⟩ = some (.int .i64 lsn) := S1.out.cell 0
    have y1 : w1.cell? ⟨w.heap.size, 1, none⟩ = some (.slice a n cap) := S1.out.cell 1
    clear hb1 HSZ
    go_wp2_with fail
    refine (HTS.out _ B1.out).mono ?_
    rintro e w2 ⟨g, rfl, hg1, hg2, ho2, hb2⟩
    have B2 : Hid (Below w.heap.size w w2) := bto B1.out hb2
    have S2 : Hid (Blk w2 w.heap.size #[.int .i64 lsn, .slice a n cap] 32) := S1.out.later hb2
    have O2 : Hid (RecsIn w2 (some ⟨g, 0, none⟩) rs) := ho2.recs
    clear ho2 hb2 y0 y1 S1 B1
    go_wp2_with fail
    refine (HSP.out _ _ O2.out).mono ?_
    rintro e w3 ⟨rfl, hb3⟩
    have B3 : Hid (Below w.heap.size w w3) := bto B2.out hb3
    have S3 : Hid (Blk w3 w.heap.size #[.int .i64 lsn, .slice a n cap] 32) := S2.out.later hb3
    have y0 : w3.cell? ⟨w.heap.size, 0, none⟩ = some (.int .i64 lsn) := S3.out.cell 0
    have y1 : w3.cell? ⟨w.heap.size, 1, none⟩ = some (.slice a n cap) := S3.out.cell 1
    clear hb3 B2 O2 S2
    go_wp2_with fail
    refine (HTS.out _ B3.out).mono ?_
    rintro e w5 ⟨g1, rfl, hg1, hg2, ho5, hb5⟩
    have B5 : Hid (Below w.heap.size w w5) := bto B3.out hb5
    have S5 : Hid (Blk w5 w.heap.size #[.int .i64 lsn, .slice a n cap] 32) := S3.out.later hb5
    have O5 : Hid (RecsIn w5 (some ⟨g1, 0, none⟩) rs) := ho5.recs
    clear ho5 hb5 S3 B3 y0 y1
    go_wp2_with fail
    refine (HIM.out _ g1 (O5.out.later (bnew _ _))).mono ?_
    rintro e w7 ⟨rfl, hb7⟩
    have Bw7 : Hid (Below w.heap.size w w7) := bto (bto B5.out (bnew _ _)) hb7
    have O7 : Hid (RecsIn w7 (some ⟨g1, 0, none⟩) rs) := (O5.out.later (bnew _ _)).later hb7
    have S7 : Hid (Blk w7 w.heap.size #[.int .i64 lsn, .slice a n cap] 32) := hid ((S5.out.alloc _).later hb7)
    have X7 : Hid (Blk w7 w5.heap.size #[.int .i64 lsn, .slice (some ⟨g1, 0, none⟩) n n] 37) := hid ((Blk.new _ _ _).later hb7)
    have hR : (R.toList != R.toList) = false := by simp
    clear hb7 B5 S5 O5
    generalize w5.heap.size = X at *
    have HK7 : Hid (∀ w', Below w7.heap.size w7 w' → w'.cell? ⟨w.heap.size, 0, none⟩ = some (.int .i64 lsn) ∧ w'.cell? ⟨w.heap.size, 1, none⟩ = some (.slice a n cap) ∧ w'.cell? ⟨X, 0, none⟩ = some (.int .i64 lsn) ∧ w'.cell? ⟨X, 1, none⟩ = some (.slice (some ⟨g1, 0, none⟩) n n)) := fun w' h => by
      have q := S7.out.later h
      have r := X7.out.later h
      exact ⟨q.cell 0, q.cell 1, r.cell 0, r.cell 1⟩
    obtain ⟨y2, y3, u2, u3⟩ := HK7.out w7 (Below.refl _ _)
    go_upto_region 10 with fail
    go_cut [26] (fun s wx => s = .bool false ∧ Below w7.heap.size w7 wx)
    case first =>
      go_region_held3 (fun w' => w'.cell? ⟨w.heap.size, 0, none⟩ = some (.int .i64 lsn) ∧ w'.cell? ⟨w.heap.size, 1, none⟩ = some (.slice a n cap) ∧ w'.cell? ⟨X, 0, none⟩ = some (.int .i64 lsn) ∧ w'.cell? ⟨X, 1, none⟩ = some (.slice (some ⟨g1, 0, none⟩) n n))
        (first | go_keep | exact HK7.out _ k4 | exact HK7.out _ k3)
        (first
          | (go_at_call 20; refine (HTS.out _ (Bw7.out.drew)).mono ?_; rintro e w3 ⟨g, rfl, hg3, hg4, ho3, hb3⟩; have k3 : Below w7.heap.size w7 w3 := (by exact bto (Below.refl _ _).drew hb3))
          | (go_at_call 22; refine (HEQ.out _ g1 g (O7.out.later k3) ho3.recs).mono ?_; rintro e w4 ⟨rfl, hb4⟩; have k4 : Below w7.heap.size w7 w4 := (by exact bto k3 hb4)))
      all_goals (go_wp2_with fail; go_meet)
      all_goals exact ⟨rfl, k4⟩
    obtain ⟨rfl, hb8⟩ := hcut
    rename World => w8
    have Bw8 : Hid (Below w.heap.size w w8) := bto Bw7.out hb8
    clear hb8
    go_wp2
    go_ret
    exact ⟨rfl, Bw8.out⟩
  · have e : szRecs 1048576 rs = -1 := by unfold szRecs; rw [if_neg hbig]
    rw [e] at HSZ
    clear hf hs hlen hr hl hbig e
    go_enter Try.func6, Try.ntmps6
    go_wp2_with fail
    refine (HSZ.out _ (bnew _ _)).mono ?_
    rintro e w1 ⟨rfl, hb1⟩
    have B1 : Hid (Below w.heap.size w w1) := bto (bnew _ _) hb1
    clear hb1
    go_wp2
    go_ret
    exact ⟨rfl, B1.out⟩
end Go.Proofs.Ytgpgacncmoiefaa
