import Derived.Test.YtpajhkikcofhfaaGreatDoorProg
import Derived.Test.YtpajhkikcofhfaaGreatDoorJ30DrwC
import Derived.Deep.RegionHeldLaw
import Derived.Deep.RegionHeld3
import Derived.Deep.AppendLies
namespace Go.Proofs.YtpajhkikcofhfaaGreatDoor
open Go.RowKit

theorem infoSm : (Tryz.prog.info? 34).map (fun i => (i.zero, i.size, i.bytes)) = some (some (.agg #[.slice none 0 0, .int .i64 0]), 2, 32) := by kernel_rfl
/-- What the draw of a request answers. -/
def DrawnQ (w w' : World) (B P N : Nat) (e : Ending) : Prop := ∃ q : QV, e = .returned q.val ∧ reqK.part w' w.heap.size w'.heap.size q ∧ CurB w' B P N ∧ But B w w'
theorem noSmps {w : World} {lo hi : Nat} {q : QV} (h : q.ys = []) (hg : q.good) : reqK.part w lo hi q := ⟨Or.inl h, hg⟩
theorem good_of {k num : Int} {t m : ByteArray} {ys : List XV} {a : Option Addr} {c : Nat} (hk : 1 ≤ k ∧ k ≤ 6) (ht : t.size ≤ 16) (hm : m.size ≤ 16) (hn : -100 ≤ num ∧ num ≤ 100) (hy : ys.length ≤ 5) : QV.good ⟨k, t, m, num, ys, a, c⟩ := ⟨hk, ht, hm, hn, hy⟩

set_option maxRecDepth 100000 in
set_option maxHeartbeats 4000000 in
theorem drawReq_any (B P N : Nat) (w : World) (h : CurB w B P N) (hN : N ≤ 50000) :
    Calls Tryz.prog 14 #[.pointer (some ⟨B, 0, none⟩)] w fun e w' => DrawnQ w w' B P (N + 1200) e := by
  have HC : Hid (CurB w B P N) := h
  have hlt := h.lt
  have hPw := h.up.2
  have hZ : w.heap.size ≤ w.heap.size := Nat.le_refl _
  clear h
  obtain ⟨i0, hi0, hz0, hz1, hz2⟩ := info_parts infoSm
  go_enter Tryz.func14, Tryz.ntmps14
  go_wp2_with fail
  refine (curPick_any B P N 12 _ (HC.out.later (bnew _ _)) (by omega) (by omega) (by omega)).mono ?_
  rintro e w1 ⟨sw, hsw, rfl, hc1, hb1⟩
  have hby : Blk (w.alloc (.cells #[.int .i64 0, .string ⟨#[]⟩, .string ⟨#[]⟩, .int .i64 0, .slice none 0 0] 31)) w.heap.size #[.int .i64 0, .string ⟨#[]⟩, .string ⟨#[]⟩, .int .i64 0, .slice none 0 0] 31 := heap_alloc_new _ _
  have Y1 : Hid (Blk w1 w.heap.size #[.int .i64 0, .string ⟨#[]⟩, .string ⟨#[]⟩, .int .i64 0, .slice none 0 0] 31) := (hb1.block _ (lt_of_block hby) (by omega)).trans hby
  have H1 : Hid (CurB w1 B P (N + 1) ∧ But B w w1) := ⟨hc1, (But.of (bnew _ _)).trans hb1⟩
  have hR1 : w.heap.size < w1.heap.size := lt_of_block Y1.out
  clear hc1 hb1 HC hby
  have hcase : sw = 0 ∨ sw = 1 ∨ sw = 2 ∨ sw = 3 ∨ sw = 4 ∨ 5 ≤ sw := by omega
  rcases hcase with rfl | rfl | rfl | rfl | rfl | h5
  · go_wp2_with fail
    refine (curPick_any B P (N + 1) 3 w1 H1.out.1 (by omega) (by omega) (by omega)).mono ?_
    rintro e w2 ⟨v, hv, rfl, hc2, hb2⟩
    have H2 : Hid (CurB w2 B P (N + 2) ∧ But B w w2) := ⟨hc2, H1.out.2.trans hb2⟩
    have Y2 : Hid (Blk w2 w.heap.size #[.int .i64 0, .string ⟨#[]⟩, .string ⟨#[]⟩, .int .i64 0, .slice none 0 0] 31) := (hb2.block _ (by have := lt_of_block Y1.out; simpa using this) (by omega)).trans (Y1.out)
    clear hc2 hb2 H1 Y1
    have p2 : (v : Int) < 3 := by omega
    have r0 := Y2.out.cell 0
    have s0 := Y2.out.free 0
    have r1 := Y2.out.cell 1
    have s1 := Y2.out.free 1
    have r2 := Y2.out.cell 2
    have s2 := Y2.out.free 2
    have r3 := Y2.out.cell 3
    have s3 := Y2.out.free 3
    have r4 := Y2.out.cell 4
    have s4 := Y2.out.free 4
    go_wp2
    refine bodyPost_ret (v := .agg #[.int .i64 2, .string ⟨#[]⟩, .string ⟨#[]⟩, .int .i64 (1 + v), .slice none 0 0]) (by simp [results, Tryz.results14, go_sem, r0, r1, r2, r3, r4]) rfl ?_
    refine ⟨⟨2, ⟨#[]⟩, ⟨#[]⟩, 1 + v, [], none, 0⟩, rfl, noSmps rfl (good_of ⟨by omega, by omega⟩ (by decide) (by decide) ⟨by omega, by omega⟩ (by simp)), (H2.out.1.below ?_).mono (by omega), H2.out.2.below_to ?_⟩
    · repeat (with_reducible first | exact Below.refl _ _ | exact hPw | exact hZ | refine Below.setCell ?_ ?_ _)
    · repeat (with_reducible first | exact Below.refl _ _ | exact hPw | exact hZ | refine Below.setCell ?_ ?_ _)
  · go_wp2_with fail
    refine (drawTenant_any B P (N + 1) w1 H1.out.1 (by omega)).mono ?_
    rintro e w2 ⟨tn, htn, rfl, hc2, hb2⟩
    have H2 : Hid (CurB w2 B P (N + 2) ∧ But B w w2) := ⟨hc2, H1.out.2.trans hb2⟩
    have Y2 : Hid (Blk w2 w.heap.size #[.int .i64 0, .string ⟨#[]⟩, .string ⟨#[]⟩, .int .i64 0, .slice none 0 0] 31) := (hb2.block _ (by have := lt_of_block Y1.out; simpa using this) (by omega)).trans (Y1.out)
    have hR2 : w.heap.size < w2.heap.size := lt_of_block Y2.out
    have hs2 : w.heap.size ≤ w2.heap.size := by omega
    clear hc2 hb2 H1 Y1 hR1
    go_wp2_with fail
    refine (drawMetric_any B P (N + 2) _ (H2.out.1.later (bnew _ _)) (by omega)).mono ?_
    rintro e w3 ⟨mt, hmt, rfl, hc3, hb3⟩
    have hbx : Blk (w2.alloc (.cells #[.int .i64 3, .string tn, .string ⟨#[]⟩, .int .i64 0, .slice none 0 0] 31)) w2.heap.size #[.int .i64 3, .string tn, .string ⟨#[]⟩, .int .i64 0, .slice none 0 0] 31 := heap_alloc_new _ _
    have X3 : Hid (Blk w3 w2.heap.size #[.int .i64 3, .string tn, .string ⟨#[]⟩, .int .i64 0, .slice none 0 0] 31) := (hb3.block _ (lt_of_block hbx) (by omega)).trans hbx
    have H3 : Hid (CurB w3 B P (N + 3) ∧ But B w w3) := ⟨hc3, (H2.out.2.later (bnew _ _)).trans hb3⟩
    have Y3 : Hid (Blk w3 w.heap.size #[.int .i64 0, .string ⟨#[]⟩, .string ⟨#[]⟩, .int .i64 0, .slice none 0 0] 31) := (hb3.block _ (by simp; omega) (by omega)).trans (Y2.out.alloc _)
    clear hc3 hb3 hbx H2 Y2
    have c2 := X3.out.cell 2
    have f2 := X3.out.free 2
    go_wp2_with fail
    refine (curPick_any B P (N + 3) 8 _ (H3.out.1.below ((Below.refl _ _).setCell (by show P ≤ w2.heap.size; omega) _)) (by omega) (by omega) (by omega)).mono ?_
    rintro e w4 ⟨v, hv, rfl, hc4, hb4⟩
    have hx4 := Blk.set X3.out 2 (.string mt)
    have X4 : Hid (Blk w4 w2.heap.size #[.int .i64 3, .string tn, .string mt, .int .i64 0, .slice none 0 0] 31) := (hb4.block _ (lt_of_block hx4) (by omega)).trans hx4
    have H4 : Hid (CurB w4 B P (N + 4) ∧ But B w w4) := ⟨hc4, (H3.out.2.below_to ((Below.refl _ _).setCell hs2 _)).trans hb4⟩
    have Y4 : Hid (Blk w4 w.heap.size #[.int .i64 0, .string ⟨#[]⟩, .string ⟨#[]⟩, .int .i64 0, .slice none 0 0] 31) := (hb4.block _ (by have := lt_of_block Y3.out; simpa using this) (by omega)).trans (Y3.out.keepS (by omega) _)
    clear hc4 hb4 hx4 H3 X3 c2 f2 Y3
    have p4 : (v : Int) < 8 := by omega
    have c0 := X4.out.cell 0
    have c1 := X4.out.cell 1
    have c2 := X4.out.cell 2
    have c3 := X4.out.cell 3
    have c4 := X4.out.cell 4
    have f3 := X4.out.free 3
    have r0 := Y4.out.cell 0
    have s0 := Y4.out.free 0
    have r1 := Y4.out.cell 1
    have s1 := Y4.out.free 1
    have r2 := Y4.out.cell 2
    have s2 := Y4.out.free 2
    have r3 := Y4.out.cell 3
    have s3 := Y4.out.free 3
    have r4 := Y4.out.cell 4
    have s4 := Y4.out.free 4
    have n1 : ¬ (w.heap.size = w2.heap.size) := by omega
    have n2 : ¬ (w2.heap.size = w.heap.size) := by omega
    have hP1 : P ≤ w2.heap.size := by omega
    go_wp2
    refine bodyPost_ret (v := .agg #[.int .i64 3, .string tn, .string mt, .int .i64 (v - 1), .slice none 0 0]) (by simp [results, Tryz.results14, go_sem, r0, r1, r2, r3, r4]) rfl ?_
    refine ⟨⟨3, tn, mt, v - 1, [], none, 0⟩, rfl, noSmps rfl (good_of ⟨by omega, by omega⟩ htn hmt ⟨by omega, by omega⟩ (by simp)), (H4.out.1.below ?_).mono (by omega), H4.out.2.below_to ?_⟩
    · repeat (with_reducible first | exact Below.refl _ _ | exact hPw | exact hP1 | exact hZ | exact hs2 | refine Below.setCell ?_ ?_ _)
    · repeat (with_reducible first | exact Below.refl _ _ | exact hPw | exact hP1 | exact hZ | exact hs2 | refine Below.setCell ?_ ?_ _)
  · have r0 := Y1.out.cell 0
    have s0 := Y1.out.free 0
    have r1 := Y1.out.cell 1
    have s1 := Y1.out.free 1
    have r2 := Y1.out.cell 2
    have s2 := Y1.out.free 2
    have r3 := Y1.out.cell 3
    have s3 := Y1.out.free 3
    have r4 := Y1.out.cell 4
    have s4 := Y1.out.free 4
    go_wp2
    refine bodyPost_ret (v := .agg #[.int .i64 4, .string ⟨#[]⟩, .string ⟨#[]⟩, .int .i64 0, .slice none 0 0]) (by simp [results, Tryz.results14, go_sem, r0, r1, r2, r3, r4]) rfl ?_
    refine ⟨⟨4, ⟨#[]⟩, ⟨#[]⟩, 0, [], none, 0⟩, rfl, noSmps rfl (good_of ⟨by omega, by omega⟩ (by decide) (by decide) ⟨by omega, by omega⟩ (by simp)), (H1.out.1.below ?_).mono (by omega), H1.out.2.below_to ?_⟩
    · repeat (with_reducible first | exact Below.refl _ _ | exact hPw | exact hZ | refine Below.setCell ?_ ?_ _)
    · repeat (with_reducible first | exact Below.refl _ _ | exact hPw | exact hZ | refine Below.setCell ?_ ?_ _)
  · go_wp2_with fail
    refine (drawTenant_any B P (N + 1) w1 H1.out.1 (by omega)).mono ?_
    rintro e w2 ⟨tn, htn, rfl, hc2, hb2⟩
    have H2 : Hid (CurB w2 B P (N + 2) ∧ But B w w2) := ⟨hc2, H1.out.2.trans hb2⟩
    have Y2 : Hid (Blk w2 w.heap.size #[.int .i64 0, .string ⟨#[]⟩, .string ⟨#[]⟩, .int .i64 0, .slice none 0 0] 31) := (hb2.block _ (by have := lt_of_block Y1.out; simpa using this) (by omega)).trans (Y1.out)
    have hR2 : w.heap.size < w2.heap.size := lt_of_block Y2.out
    have hs2 : w.heap.size ≤ w2.heap.size := by omega
    clear hc2 hb2 H1 Y1 hR1
    go_wp2_with fail
    refine (drawMetric_any B P (N + 2) _ (H2.out.1.later (bnew _ _)) (by omega)).mono ?_
    rintro e w3 ⟨mt, hmt, rfl, hc3, hb3⟩
    have hbx : Blk (w2.alloc (.cells #[.int .i64 5, .string tn, .string ⟨#[]⟩, .int .i64 0, .slice none 0 0] 31)) w2.heap.size #[.int .i64 5, .string tn, .string ⟨#[]⟩, .int .i64 0, .slice none 0 0] 31 := heap_alloc_new _ _
    have X3 : Hid (Blk w3 w2.heap.size #[.int .i64 5, .string tn, .string ⟨#[]⟩, .int .i64 0, .slice none 0 0] 31) := (hb3.block _ (lt_of_block hbx) (by omega)).trans hbx
    have H3 : Hid (CurB w3 B P (N + 3) ∧ But B w w3) := ⟨hc3, (H2.out.2.later (bnew _ _)).trans hb3⟩
    have Y3 : Hid (Blk w3 w.heap.size #[.int .i64 0, .string ⟨#[]⟩, .string ⟨#[]⟩, .int .i64 0, .slice none 0 0] 31) := (hb3.block _ (by simp; omega) (by omega)).trans (Y2.out.alloc _)
    clear hc3 hb3 hbx H2 Y2
    have c0 := X3.out.cell 0
    have c1 := X3.out.cell 1
    have c2 := X3.out.cell 2
    have c3 := X3.out.cell 3
    have c4 := X3.out.cell 4
    have f2 := X3.out.free 2
    have r0 := Y3.out.cell 0
    have s0 := Y3.out.free 0
    have r1 := Y3.out.cell 1
    have s1 := Y3.out.free 1
    have r2 := Y3.out.cell 2
    have s2 := Y3.out.free 2
    have r3 := Y3.out.cell 3
    have s3 := Y3.out.free 3
    have r4 := Y3.out.cell 4
    have s4 := Y3.out.free 4
    have n1 : ¬ (w.heap.size = w2.heap.size) := by omega
    have n2 : ¬ (w2.heap.size = w.heap.size) := by omega
    have hP1 : P ≤ w2.heap.size := by omega
    go_wp2
    refine bodyPost_ret (v := .agg #[.int .i64 5, .string tn, .string mt, .int .i64 0, .slice none 0 0]) (by simp [results, Tryz.results14, go_sem, r0, r1, r2, r3, r4]) rfl ?_
    refine ⟨⟨5, tn, mt, 0, [], none, 0⟩, rfl, noSmps rfl (good_of ⟨by omega, by omega⟩ htn hmt ⟨by omega, by omega⟩ (by simp)), (H3.out.1.below ?_).mono (by omega), H3.out.2.below_to ?_⟩
    · repeat (with_reducible first | exact Below.refl _ _ | exact hPw | exact hP1 | exact hZ | exact hs2 | refine Below.setCell ?_ ?_ _)
    · repeat (with_reducible first | exact Below.refl _ _ | exact hPw | exact hP1 | exact hZ | exact hs2 | refine Below.setCell ?_ ?_ _)
  · go_wp2_with fail
    refine (drawTenant_any B P (N + 1) w1 H1.out.1 (by omega)).mono ?_
    rintro e w2 ⟨tn, htn, rfl, hc2, hb2⟩
    have H2 : Hid (CurB w2 B P (N + 2) ∧ But B w w2) := ⟨hc2, H1.out.2.trans hb2⟩
    have Y2 : Hid (Blk w2 w.heap.size #[.int .i64 0, .string ⟨#[]⟩, .string ⟨#[]⟩, .int .i64 0, .slice none 0 0] 31) := (hb2.block _ (by have := lt_of_block Y1.out; simpa using this) (by omega)).trans (Y1.out)
    have hR2 : w.heap.size < w2.heap.size := lt_of_block Y2.out
    have hs2 : w.heap.size ≤ w2.heap.size := by omega
    clear hc2 hb2 H1 Y1 hR1
    have r0 := Y2.out.cell 0
    have s0 := Y2.out.free 0
    have r1 := Y2.out.cell 1
    have s1 := Y2.out.free 1
    have r2 := Y2.out.cell 2
    have s2 := Y2.out.free 2
    have r3 := Y2.out.cell 3
    have s3 := Y2.out.free 3
    have r4 := Y2.out.cell 4
    have s4 := Y2.out.free 4
    go_wp2
    refine bodyPost_ret (v := .agg #[.int .i64 6, .string tn, .string ⟨#[]⟩, .int .i64 0, .slice none 0 0]) (by simp [results, Tryz.results14, go_sem, r0, r1, r2, r3, r4]) rfl ?_
    refine ⟨⟨6, tn, ⟨#[]⟩, 0, [], none, 0⟩, rfl, noSmps rfl (good_of ⟨by omega, by omega⟩ htn (by decide) ⟨by omega, by omega⟩ (by simp)), (H2.out.1.below ?_).mono (by omega), H2.out.2.below_to ?_⟩
    · repeat (with_reducible first | exact Below.refl _ _ | exact hPw | exact hZ | refine Below.setCell ?_ ?_ _)
    · repeat (with_reducible first | exact Below.refl _ _ | exact hPw | exact hZ | refine Below.setCell ?_ ?_ _)
  · have n0 : ¬ ((sw : Int) = 0) := by omega
    have n1 : ¬ ((sw : Int) = 1) := by omega
    have n2 : ¬ ((sw : Int) = 2) := by omega
    have n3 : ¬ ((sw : Int) = 3) := by omega
    have n4 : ¬ ((sw : Int) = 4) := by omega
    go_wp2_with fail
    refine (drawTenant_any B P (N + 1) w1 H1.out.1 (by omega)).mono ?_
    rintro e w2 ⟨tn, htn, rfl, hc2, hb2⟩
    have H2 : Hid (CurB w2 B P (N + 2) ∧ But B w w2) := ⟨hc2, H1.out.2.trans hb2⟩
    have Y2 : Hid (Blk w2 w.heap.size #[.int .i64 0, .string ⟨#[]⟩, .string ⟨#[]⟩, .int .i64 0, .slice none 0 0] 31) := (hb2.block _ (by have := lt_of_block Y1.out; simpa using this) (by omega)).trans (Y1.out)
    have hR2 : w.heap.size < w2.heap.size := lt_of_block Y2.out
    have hs2 : w.heap.size ≤ w2.heap.size := by omega
    clear hc2 hb2 H1 Y1 hR1
    clear n0 n1 n2 n3 n4 h5 hsw
    go_wp2_with fail
    refine (curPick_any B P (N + 2) 5 _ (H2.out.1.later (bnew _ _)) (by omega) (by omega) (by omega)).mono ?_
    rintro e w3 ⟨nn, hnn, rfl, hc3, hb3⟩
    have hbx : Blk (w2.alloc (.cells #[.int .i64 1, .string tn, .string ⟨#[]⟩, .int .i64 0, .slice none 0 0] 31)) w2.heap.size #[.int .i64 1, .string tn, .string ⟨#[]⟩, .int .i64 0, .slice none 0 0] 31 := heap_alloc_new _ _
    have X3 : Hid (Blk w3 w2.heap.size #[.int .i64 1, .string tn, .string ⟨#[]⟩, .int .i64 0, .slice none 0 0] 31) := (hb3.block _ (lt_of_block hbx) (by omega)).trans hbx
    have H3 : Hid (CurB w3 B P (N + 3) ∧ But B w w3) := ⟨hc3, (H2.out.2.later (bnew _ _)).trans hb3⟩
    have Y3 : Hid (Blk w3 w.heap.size #[.int .i64 0, .string ⟨#[]⟩, .string ⟨#[]⟩, .int .i64 0, .slice none 0 0] 31) := (hb3.block _ (by simp; omega) (by omega)).trans (Y2.out.alloc _)
    clear hc3 hb3 hbx H2 Y2
    have hX3 : w2.heap.size < w3.heap.size := lt_of_block X3.out
    have p3 : (nn : Int) < 5 := by omega
    have HXG : Hid (∃ X, X = w2.heap.size) := ⟨_, rfl⟩
    obtain ⟨X, hX⟩ := HXG.out
    rw [← hX] at X3 hX3 hs2 hR2 ⊢
    clear hX HXG
    go_wp2
    go_loopw [7, 8] (fun i _ wr => ∃ (k : Nat) (v : Value) (ys : List XV), k ≤ nn + 1 ∧ i = .int .i64 (k : Nat) ∧ Hid (Blk wr X #[.int .i64 1, .string tn, .string ⟨#[]⟩, .int .i64 0, v] 31) ∧ Hid (Blk wr w.heap.size #[.int .i64 0, .string ⟨#[]⟩, .string ⟨#[]⟩, .int .i64 0, .slice none 0 0] 31) ∧ Hid (RowZ smpK wr (X + 1) 34 v k ys) ∧ Hid (CurB wr B P (N + 3 + 210 * k)) ∧ Hid (But B w wr) ∧ X < wr.heap.size) (fun i _ _ => nn + 1 - (intOf i).toNat)
    case atStart => exact ⟨0, .slice none 0 0, [], Nat.zero_le _, rfl, X3.out, Y3.out, RowZ.nil _ _ _ _, H3.out.1, H3.out.2, hX3⟩
    case round =>
      clear X3 Y3 H3
      obtain ⟨k, v, ys, hk, rfl, HX, HY, HR, HC, HBU, hXr⟩ := hrel
      by_cases hlk : k < nn + 1
      · have hlk' : (k : Int) < 1 + (nn : Int) := by omega
        go_wp2_with fail
        refine (drawLabels_any B P (N + 3 + 210 * k) wr HC.out (by omega)).mono ?_
        rintro e w4 ⟨g4, c4, ls, rfl, hl1, hl2, hsl, hrow, hc4, hb4⟩
        have L4 : Hid (w4.ownsRow wr.heap.size 57 2 (.slice (some ⟨g4, 0, none⟩) ls.length c4) ls.length (flatL ls) ∧ SizL ls) := ⟨hrow, hsl⟩
        have H4 : Hid (CurB w4 B P (N + 3 + 210 * k + 100) ∧ But B wr w4) := ⟨hc4, hb4⟩
        have hs4 : wr.heap.size ≤ w4.heap.size := hb4.size
        have hg4 := hrow.lt g4 rfl
        have hRr : w.heap.size < wr.heap.size := by omega
        clear hrow hsl hc4 hb4 HC
        go_wp2_with fail
        refine (curPick_any B P (N + 3 + 210 * k + 100) 8 _ (H4.out.1.later (bnew _ _)) (by omega) (by omega) (by omega)).mono ?_
        rintro e w5 ⟨v5, hv5, rfl, hc5, hb5⟩
        have hbz : Blk (w4.alloc (.cells #[.slice (some ⟨g4, 0, none⟩) ls.length c4, .int .i64 0] 34)) w4.heap.size #[.slice (some ⟨g4, 0, none⟩) ls.length c4, .int .i64 0] 34 := heap_alloc_new _ _
        have Z5 : Hid (Blk w5 w4.heap.size #[.slice (some ⟨g4, 0, none⟩) ls.length c4, .int .i64 0] 34) := (hb5.block _ (lt_of_block hbz) (by omega)).trans hbz
        have L5 : Hid (w5.ownsRow wr.heap.size 57 2 (.slice (some ⟨g4, 0, none⟩) ls.length c4) ls.length (flatL ls) ∧ SizL ls) := ⟨row_but0 (row_later L4.out.1 (bnew _ _)) hb5 (by omega), L4.out.2⟩
        have H5 : Hid (CurB w5 B P (N + 3 + 210 * k + 101) ∧ But B wr w5) := ⟨hc5, (H4.out.2.later (bnew _ _)).trans hb5⟩
        have hs5 : w4.heap.size < w5.heap.size := lt_of_block Z5.out
        clear hc5 hb5 hbz H4 L4
        by_cases h7 : v5 = 7
        · have h7' : ((v5 : Nat) : Int) = 7 := by omega
          rw [h7']
          clear h7 h7' hv5
          have z0 := Z5.out.cell 0
          go_wp2_with fail
          refine (spoil_any B P (N + 3 + 210 * k + 101) w5 wr.heap.size g4 c4 ls H5.out.1 (by omega) L5.out.1 hl1 hl2 L5.out.2).mono ?_
          rintro e w6 ⟨g6, c6, ls6, rfl, hl6, hsl6, hrow6, hc6, hb6⟩
          have Z6 : Hid (Blk w6 w4.heap.size #[.slice (some ⟨g4, 0, none⟩) ls.length c4, .int .i64 0] 34) := (hb6.block _ hs5 (by omega)).trans Z5.out
          have L6 : Hid (w6.ownsRow w5.heap.size 57 2 (.slice (some ⟨g6, 0, none⟩) ls6.length c6) ls6.length (flatL ls6)) := hrow6
          have H6 : Hid (CurB w6 B P (N + 3 + 210 * k + 201) ∧ But B wr w6) := ⟨hc6, H5.out.2.trans hb6⟩
          have hc6' := (row_cells hrow6).1
          have hgl := hrow6.lt g6 rfl
          have hg6 : g6 ≠ w4.heap.size := by omega
          have hgB : g6 ≠ B := by omega
          clear hgl
          clear hc6 hb6 hrow6 H5 L5 Z5 z0
          have z0 := Z6.out.cell 0
          have y0 := Z6.out.free 0
          go_wp2_with fail
          refine (curPick_any B P (N + 3 + 210 * k + 201) 5 _ (H6.out.1.below ((Below.refl _ _).setCell (by show P ≤ w4.heap.size; omega) _)) (by omega) (by omega) (by omega)).mono ?_
          rintro e w7 ⟨v7, hv7, rfl, hc7, hb7⟩
          have hz7 := Blk.set Z6.out 0 (.slice (some ⟨g6, 0, none⟩) ls6.length c6)
          have Z7 : Hid (Blk w7 w4.heap.size #[.slice (some ⟨g6, 0, none⟩) ls6.length c6, .int .i64 0] 34) := (hb7.block _ (lt_of_block hz7) (by omega)).trans hz7
          have L7 : Hid (LabsOwn w7 wr.heap.size (some ⟨g6, 0, none⟩) ls6) := labs_of_row (row_mono0 (row_but0 (row_but0 L6.out ((But.refl w4.heap.size w6).setCell 0 _) (by omega)) hb7 (by omega)) (by omega))
          have H7 : Hid (CurB w7 B P (N + 3 + 210 * k + 202) ∧ But B wr w7) := ⟨hc7, (H6.out.2.below_to ((Below.refl _ _).setCell hs4 _)).trans hb7⟩
          clear hc7 hb7 hz7 H6 L6 Z6 z0 y0
          have hob : ∀ q, v.ownBlock = some q → X + 1 ≤ q ∧ q < wr.heap.size := fun q hq => HR.out.lt q hq
          have HO7 : Hid (w7.ownsRow (X + 1) 34 2 v k (smpK.flat ys)) := (HR.out.but H7.out.2 (by omega)).1
          have HX7 : Hid (Blk w7 X #[.int .i64 1, .string tn, .string ⟨#[]⟩, .int .i64 0, v] 31) := (H7.out.2.block _ hXr (by omega)).trans HX.out
          have HY7 : Hid (Blk w7 w.heap.size #[.int .i64 0, .string ⟨#[]⟩, .string ⟨#[]⟩, .int .i64 0, .slice none 0 0] 31) := (H7.out.2.block _ hRr (by omega)).trans HY.out
          by_cases h4 : v7 = 4
          · have h4' : ((v7 : Nat) : Int) = 4 := by omega
            rw [h4']
            clear h4 h4' hv7
            go_wp2_with fail
            refine (drawBits_any B P (N + 3 + 210 * k + 202) w7 H7.out.1 (by omega)).mono ?_
            rintro e w8 ⟨z, hz, rfl, hc8, hb8⟩
            have hs7 : w4.heap.size < w7.heap.size := lt_of_block Z7.out
            have Z8 : Hid (Blk w8 w4.heap.size #[.slice (some ⟨g6, 0, none⟩) ls6.length c6, .int .i64 0] 34) := (hb8.block _ hs7 (by omega)).trans Z7.out
            have L8 : Hid (LabsOwn w8 wr.heap.size (some ⟨g6, 0, none⟩) ls6) := L7.out.butS hb8 hgB
            have H8 : Hid (CurB w8 B P (N + 3 + 210 * k + 203) ∧ But B wr w8) := ⟨hc8, H7.out.2.trans hb8⟩
            have hs8 : w4.heap.size < w8.heap.size := lt_of_block Z8.out
            have HO8 : Hid (w8.ownsRow (X + 1) 34 2 v k (smpK.flat ys)) := (HR.out.but H8.out.2 (by omega)).1
            have HX8 : Hid (Blk w8 X #[.int .i64 1, .string tn, .string ⟨#[]⟩, .int .i64 0, v] 31) := (H8.out.2.block _ hXr (by omega)).trans HX.out
            have HY8 : Hid (Blk w8 w.heap.size #[.int .i64 0, .string ⟨#[]⟩, .string ⟨#[]⟩, .int .i64 0, .slice none 0 0] 31) := (H8.out.2.block _ hRr (by omega)).trans HY.out
            have z0 := Z8.out.cell 0
            have z1 := Z8.out.cell 1
            have y1 := Z8.out.free 1
            have x4 := HX8.out.cell 4
            have xf := HX8.out.free 4
            have m1 : ¬ (X = w4.heap.size) := by omega
            have m2 : ¬ (w4.heap.size = X) := by omega
            clear Z7 L7 H7 HO7 HX7 HY7 hc8 hb8
            have HBT : Hid (But w4.heap.size w8 (w8.setCell ⟨w4.heap.size, 1, none⟩ (.int .i64 z))) := ((But.refl w4.heap.size w8).setCell 1 _)
            have HOW : Hid ((w8.setCell ⟨w4.heap.size, 1, none⟩ (.int .i64 z)).ownsRow (X + 1) 34 2 v k (smpK.flat ys)) := (Turn.but HBT.out).row HO8.out (fun g hg e => by have := hob g hg; omega)
            have HXW : Hid (Blk (w8.setCell ⟨w4.heap.size, 1, none⟩ (.int .i64 z)) X #[.int .i64 1, .string tn, .string ⟨#[]⟩, .int .i64 0, v] 31) := (HBT.out.block _ (by have := lt_of_block HX8.out; omega) (by omega)).trans HX8.out
            have HYW : Hid (Blk (w8.setCell ⟨w4.heap.size, 1, none⟩ (.int .i64 z)) w.heap.size #[.int .i64 0, .string ⟨#[]⟩, .string ⟨#[]⟩, .int .i64 0, .slice none 0 0] 31) := (HBT.out.block _ (by have := lt_of_block HY8.out; omega) (by omega)).trans HY8.out
            have HLW : Hid (LabsOwn (w8.setCell ⟨w4.heap.size, 1, none⟩ (.int .i64 z)) wr.heap.size (some ⟨g6, 0, none⟩) ls6) := L8.out.butS HBT.out hg6
            have hWs : (w8.setCell ⟨w4.heap.size, 1, none⟩ (.int .i64 z)).heap.size = w8.heap.size := by simp
            go_wp2_with (at_builtin; refine wpList_append_lies _ rfl _ _ _ rfl (X + 1) 34 i0 _ 2 32 Tryz.underlying29 hi0 hz0 hz1 hz2 rfl (by omega) v k (smpK.flat ys) rfl (by exact HOW.out.alloc _) ⟨w8.heap.size, 0, none⟩ 1 1 [.slice (some ⟨g6, 0, none⟩) ls6.length c6, .int .i64 z] rfl rfl (by have := World.news_of_block (cs := #[.slice (some ⟨g6, 0, none⟩) ls6.length c6, .int .i64 z]) (t := 34) (fr := (0, 0)) (heap_alloc_new (w8.setCell ⟨w4.heap.size, 1, none⟩ (.int .i64 z)) (.cells #[.slice (some ⟨g6, 0, none⟩) ls6.length c6, .int .i64 z] 34)); simpa using this) (by simp [Value.oneCell']) (by omega) (by simp [maxLen]; omega) (by omega) (by simp; omega) (w8.heap.size + 1) (by simp) ?_; intro g9 c9 w9 hown9 hgrow9 hat9 hlt9; have HX9 : Hid (Blk w9 X #[.int .i64 1, .string tn, .string ⟨#[]⟩, .int .i64 0, v] 31) := (Turn.grown hgrow9).blk (HXW.out.alloc _) (fun e => by have := hob _ e; omega); have x9 := HX9.out.cell 4; have f9 := HX9.out.free 4)
            have HY9 : Blk w9 w.heap.size #[.int .i64 0, .string ⟨#[]⟩, .string ⟨#[]⟩, .int .i64 0, .slice none 0 0] 31 := (Turn.grown hgrow9).blk (HYW.out.alloc _) (fun e => by have := hob _ e; omega)
            have hgg : (v.ownBlock = some g9 ∧ g9 < wr.heap.size) ∨ (w8.setCell ⟨w4.heap.size, 1, none⟩ (.int .i64 z)).heap.size ≤ g9 := by
              rcases hat9 with h | h
              · exact Or.inl ⟨h, (hob _ h).2⟩
              · exact Or.inr (by omega)
            have hk9 : ∀ g, g < (w8.setCell ⟨w4.heap.size, 1, none⟩ (.int .i64 z)).heap.size → v.ownBlock ≠ some g → w9.heap[g]? = (w8.setCell ⟨w4.heap.size, 1, none⟩ (.int .i64 z)).heap[g]? := fun g hg hne => by
              rw [(Turn.grown hgrow9).block g (by simp; omega) hne]
              exact (bnew _ _).block g hg
            have hB9 : Below w.heap.size w8 w9 := (((Below.refl w.heap.size w8).setCell (show w.heap.size ≤ w4.heap.size by omega) _).alloc (by simp; omega) _).grown hgrow9 (by simp; omega) (fun q hq => by have := hob q hq; omega)
            have hR9 : RowZ smpK w9 (X + 1) 34 (.slice (some ⟨g9, 0, none⟩) (k + 1) c9) (k + 1) (ys ++ [⟨⟨ls6, z⟩, some ⟨g6, 0, none⟩, c6⟩]) := RowZ.snoc (wr := wr) (w4 := (w8.setCell ⟨w4.heap.size, 1, none⟩ (.int .i64 z))) (w6 := w9) (v := v) hown9 HR.out (by omega) (by have := hB9.size; omega) (by omega)
              (fun g hg hb hne => ((hk9 g (by omega) hne).trans (HBT.out.block g (by omega) (by omega))).trans (H8.out.2.block g hg (by omega)))
              (fun g hg hg4 => hk9 g hg4 (fun e => by have := (hob _ e).2; omega))
              ⟨HLW.out.inR, ⟨hl6, hc6', hsl6⟩, hz⟩ hgg
            have hT9 : Turn (· = X) w9 (w9.setCell ⟨X, 4, none⟩ (.slice (some ⟨g9, 0, none⟩) (k + 1) c9)) := (Turn.refl (· = X) w9).setCell (Or.inl rfl) 4 _
            have hB10 : Below w.heap.size w8 (w9.setCell ⟨X, 4, none⟩ (.slice (some ⟨g9, 0, none⟩) (k + 1) c9)) := hB9.setCell hs2 _
            exact ⟨⟨k + 1, _, ys ++ [⟨⟨ls6, z⟩, some ⟨g6, 0, none⟩, c6⟩], by omega, by go_num, by have := HX9.out.set 4 (.slice (some ⟨g9, 0, none⟩) (k + 1) c9); exact this, HY9.keepS (by omega) _, hid (hR9.turn hT9 (fun g e => by rw [e]; omega)), (H8.out.1.below (hB10.mono hPw)).mono (by omega), (HBU.out.trans H8.out.2).below_to (hB10.mono (by omega)), by have := hB10.size; omega⟩, by simp [intOf]; omega⟩
          · have h4' : ¬ (((v7 : Nat) : Int) = 4) := by omega
            have z0 := Z7.out.cell 0
            have z1 := Z7.out.cell 1
            have x4 := HX7.out.cell 4
            have xf := HX7.out.free 4
            have hs7 : w4.heap.size < w7.heap.size := lt_of_block Z7.out
            have HBT : Hid (But w4.heap.size w7 w7) := (But.refl w4.heap.size w7)
            have HOW : Hid (w7.ownsRow (X + 1) 34 2 v k (smpK.flat ys)) := (Turn.but HBT.out).row HO7.out (fun g hg e => by have := hob g hg; omega)
            have HXW : Hid (Blk w7 X #[.int .i64 1, .string tn, .string ⟨#[]⟩, .int .i64 0, v] 31) := (HBT.out.block _ (by have := lt_of_block HX7.out; omega) (by omega)).trans HX7.out
            have HYW : Hid (Blk w7 w.heap.size #[.int .i64 0, .string ⟨#[]⟩, .string ⟨#[]⟩, .int .i64 0, .slice none 0 0] 31) := (HBT.out.block _ (by have := lt_of_block HY7.out; omega) (by omega)).trans HY7.out
            have HLW : Hid (LabsOwn w7 wr.heap.size (some ⟨g6, 0, none⟩) ls6) := L7.out.butS HBT.out hg6
            have hWs : w7.heap.size = w7.heap.size := by simp
            go_wp2_with (at_builtin; refine wpList_append_lies _ rfl _ _ _ rfl (X + 1) 34 i0 _ 2 32 Tryz.underlying29 hi0 hz0 hz1 hz2 rfl (by omega) v k (smpK.flat ys) rfl (by exact HOW.out.alloc _) ⟨w7.heap.size, 0, none⟩ 1 1 [.slice (some ⟨g6, 0, none⟩) ls6.length c6, .int .i64 0] rfl rfl (by have := World.news_of_block (cs := #[.slice (some ⟨g6, 0, none⟩) ls6.length c6, .int .i64 0]) (t := 34) (fr := (0, 0)) (heap_alloc_new w7 (.cells #[.slice (some ⟨g6, 0, none⟩) ls6.length c6, .int .i64 0] 34)); simpa using this) (by simp [Value.oneCell']) (by omega) (by simp [maxLen]; omega) (by omega) (by simp; omega) (w7.heap.size + 1) (by simp) ?_; intro g9 c9 w9 hown9 hgrow9 hat9 hlt9; have HX9 : Hid (Blk w9 X #[.int .i64 1, .string tn, .string ⟨#[]⟩, .int .i64 0, v] 31) := (Turn.grown hgrow9).blk (HXW.out.alloc _) (fun e => by have := hob _ e; omega); have x9 := HX9.out.cell 4; have f9 := HX9.out.free 4)
            have HY9 : Blk w9 w.heap.size #[.int .i64 0, .string ⟨#[]⟩, .string ⟨#[]⟩, .int .i64 0, .slice none 0 0] 31 := (Turn.grown hgrow9).blk (HYW.out.alloc _) (fun e => by have := hob _ e; omega)
            have hgg : (v.ownBlock = some g9 ∧ g9 < wr.heap.size) ∨ w7.heap.size ≤ g9 := by
              rcases hat9 with h | h
              · exact Or.inl ⟨h, (hob _ h).2⟩
              · exact Or.inr (by omega)
            have hk9 : ∀ g, g < w7.heap.size → v.ownBlock ≠ some g → w9.heap[g]? = w7.heap[g]? := fun g hg hne => by
              rw [(Turn.grown hgrow9).block g (by simp; omega) hne]
              exact (bnew _ _).block g hg
            have hB9 : Below w.heap.size w7 w9 := ((Below.refl w.heap.size w7).alloc (by omega) _).grown hgrow9 (by simp; omega) (fun q hq => by have := hob q hq; omega)
            have hR9 : RowZ smpK w9 (X + 1) 34 (.slice (some ⟨g9, 0, none⟩) (k + 1) c9) (k + 1) (ys ++ [⟨⟨ls6, 0⟩, some ⟨g6, 0, none⟩, c6⟩]) := RowZ.snoc (wr := wr) (w4 := w7) (w6 := w9) (v := v) hown9 HR.out (by omega) (by have := hB9.size; omega) (by omega)
              (fun g hg hb hne => ((hk9 g (by omega) hne).trans (HBT.out.block g (by omega) (by omega))).trans (H7.out.2.block g hg (by omega)))
              (fun g hg hg4 => hk9 g hg4 (fun e => by have := (hob _ e).2; omega))
              ⟨HLW.out.inR, ⟨hl6, hc6', hsl6⟩, ⟨by simp only; omega, by simp only; omega⟩⟩ hgg
            have hT9 : Turn (· = X) w9 (w9.setCell ⟨X, 4, none⟩ (.slice (some ⟨g9, 0, none⟩) (k + 1) c9)) := (Turn.refl (· = X) w9).setCell (Or.inl rfl) 4 _
            have hB10 : Below w.heap.size w7 (w9.setCell ⟨X, 4, none⟩ (.slice (some ⟨g9, 0, none⟩) (k + 1) c9)) := hB9.setCell hs2 _
            exact ⟨⟨k + 1, _, ys ++ [⟨⟨ls6, 0⟩, some ⟨g6, 0, none⟩, c6⟩], by omega, by go_num, by have := HX9.out.set 4 (.slice (some ⟨g9, 0, none⟩) (k + 1) c9); exact this, HY9.keepS (by omega) _, hid (hR9.turn hT9 (fun g e => by rw [e]; omega)), (H7.out.1.below (hB10.mono hPw)).mono (by omega), (HBU.out.trans H7.out.2).below_to (hB10.mono (by omega)), by have := hB10.size; omega⟩, by simp [intOf]; omega⟩
        · have h7' : ¬ (((v5 : Nat) : Int) = 7) := by omega
          go_wp2_with fail
          refine (curPick_any B P (N + 3 + 210 * k + 101) 5 w5 H5.out.1 (by omega) (by omega) (by omega)).mono ?_
          rintro e w7 ⟨v7, hv7, rfl, hc7, hb7⟩
          have hl6 : ls.length ≤ 20 := by omega
          have hsl6 := L5.out.2
          have hc6' := (row_cells L5.out.1).1
          have hg6 : g4 ≠ w4.heap.size := by omega
          have hgB : g4 ≠ B := by omega
          have Z7 : Hid (Blk w7 w4.heap.size #[.slice (some ⟨g4, 0, none⟩) ls.length c4, .int .i64 0] 34) := (hb7.block _ hs5 (by omega)).trans Z5.out
          have L7 : Hid (LabsOwn w7 wr.heap.size (some ⟨g4, 0, none⟩) ls) := labs_of_row (row_but0 L5.out.1 hb7 (by omega))
          have H7 : Hid (CurB w7 B P (N + 3 + 210 * k + 202) ∧ But B wr w7) := ⟨hc7.mono (by omega), H5.out.2.trans hb7⟩
          clear hc7 hb7 H5 L5 Z5 h7 h7' hv5
          obtain ⟨g6, c6, ls6, e1, e2, e3⟩ : ∃ (g6 c6 : Nat) (ls6 : List LabD), g6 = g4 ∧ c6 = c4 ∧ ls6 = ls := ⟨_, _, _, rfl, rfl, rfl⟩
          subst e1 e2 e3
          have hob : ∀ q, v.ownBlock = some q → X + 1 ≤ q ∧ q < wr.heap.size := fun q hq => HR.out.lt q hq
          have HO7 : Hid (w7.ownsRow (X + 1) 34 2 v k (smpK.flat ys)) := (HR.out.but H7.out.2 (by omega)).1
          have HX7 : Hid (Blk w7 X #[.int .i64 1, .string tn, .string ⟨#[]⟩, .int .i64 0, v] 31) := (H7.out.2.block _ hXr (by omega)).trans HX.out
          have HY7 : Hid (Blk w7 w.heap.size #[.int .i64 0, .string ⟨#[]⟩, .string ⟨#[]⟩, .int .i64 0, .slice none 0 0] 31) := (H7.out.2.block _ hRr (by omega)).trans HY.out
          by_cases h4 : v7 = 4
          · have h4' : ((v7 : Nat) : Int) = 4 := by omega
            rw [h4']
            clear h4 h4' hv7
            go_wp2_with fail
            refine (drawBits_any B P (N + 3 + 210 * k + 202) w7 H7.out.1 (by omega)).mono ?_
            rintro e w8 ⟨z, hz, rfl, hc8, hb8⟩
            have hs7 : w4.heap.size < w7.heap.size := lt_of_block Z7.out
            have Z8 : Hid (Blk w8 w4.heap.size #[.slice (some ⟨g6, 0, none⟩) ls6.length c6, .int .i64 0] 34) := (hb8.block _ hs7 (by omega)).trans Z7.out
            have L8 : Hid (LabsOwn w8 wr.heap.size (some ⟨g6, 0, none⟩) ls6) := L7.out.butS hb8 hgB
            have H8 : Hid (CurB w8 B P (N + 3 + 210 * k + 203) ∧ But B wr w8) := ⟨hc8, H7.out.2.trans hb8⟩
            have hs8 : w4.heap.size < w8.heap.size := lt_of_block Z8.out
            have HO8 : Hid (w8.ownsRow (X + 1) 34 2 v k (smpK.flat ys)) := (HR.out.but H8.out.2 (by omega)).1
            have HX8 : Hid (Blk w8 X #[.int .i64 1, .string tn, .string ⟨#[]⟩, .int .i64 0, v] 31) := (H8.out.2.block _ hXr (by omega)).trans HX.out
            have HY8 : Hid (Blk w8 w.heap.size #[.int .i64 0, .string ⟨#[]⟩, .string ⟨#[]⟩, .int .i64 0, .slice none 0 0] 31) := (H8.out.2.block _ hRr (by omega)).trans HY.out
            have z0 := Z8.out.cell 0
            have z1 := Z8.out.cell 1
            have y1 := Z8.out.free 1
            have x4 := HX8.out.cell 4
            have xf := HX8.out.free 4
            have m1 : ¬ (X = w4.heap.size) := by omega
            have m2 : ¬ (w4.heap.size = X) := by omega
            clear Z7 L7 H7 HO7 HX7 HY7 hc8 hb8
            have HBT : Hid (But w4.heap.size w8 (w8.setCell ⟨w4.heap.size, 1, none⟩ (.int .i64 z))) := ((But.refl w4.heap.size w8).setCell 1 _)
            have HOW : Hid ((w8.setCell ⟨w4.heap.size, 1, none⟩ (.int .i64 z)).ownsRow (X + 1) 34 2 v k (smpK.flat ys)) := (Turn.but HBT.out).row HO8.out (fun g hg e => by have := hob g hg; omega)
            have HXW : Hid (Blk (w8.setCell ⟨w4.heap.size, 1, none⟩ (.int .i64 z)) X #[.int .i64 1, .string tn, .string ⟨#[]⟩, .int .i64 0, v] 31) := (HBT.out.block _ (by have := lt_of_block HX8.out; omega) (by omega)).trans HX8.out
            have HYW : Hid (Blk (w8.setCell ⟨w4.heap.size, 1, none⟩ (.int .i64 z)) w.heap.size #[.int .i64 0, .string ⟨#[]⟩, .string ⟨#[]⟩, .int .i64 0, .slice none 0 0] 31) := (HBT.out.block _ (by have := lt_of_block HY8.out; omega) (by omega)).trans HY8.out
            have HLW : Hid (LabsOwn (w8.setCell ⟨w4.heap.size, 1, none⟩ (.int .i64 z)) wr.heap.size (some ⟨g6, 0, none⟩) ls6) := L8.out.butS HBT.out hg6
            have hWs : (w8.setCell ⟨w4.heap.size, 1, none⟩ (.int .i64 z)).heap.size = w8.heap.size := by simp
            go_wp2_with (at_builtin; refine wpList_append_lies _ rfl _ _ _ rfl (X + 1) 34 i0 _ 2 32 Tryz.underlying29 hi0 hz0 hz1 hz2 rfl (by omega) v k (smpK.flat ys) rfl (by exact HOW.out.alloc _) ⟨w8.heap.size, 0, none⟩ 1 1 [.slice (some ⟨g6, 0, none⟩) ls6.length c6, .int .i64 z] rfl rfl (by have := World.news_of_block (cs := #[.slice (some ⟨g6, 0, none⟩) ls6.length c6, .int .i64 z]) (t := 34) (fr := (0, 0)) (heap_alloc_new (w8.setCell ⟨w4.heap.size, 1, none⟩ (.int .i64 z)) (.cells #[.slice (some ⟨g6, 0, none⟩) ls6.length c6, .int .i64 z] 34)); simpa using this) (by simp [Value.oneCell']) (by omega) (by simp [maxLen]; omega) (by omega) (by simp; omega) (w8.heap.size + 1) (by simp) ?_; intro g9 c9 w9 hown9 hgrow9 hat9 hlt9; have HX9 : Hid (Blk w9 X #[.int .i64 1, .string tn, .string ⟨#[]⟩, .int .i64 0, v] 31) := (Turn.grown hgrow9).blk (HXW.out.alloc _) (fun e => by have := hob _ e; omega); have x9 := HX9.out.cell 4; have f9 := HX9.out.free 4)
            have HY9 : Blk w9 w.heap.size #[.int .i64 0, .string ⟨#[]⟩, .string ⟨#[]⟩, .int .i64 0, .slice none 0 0] 31 := (Turn.grown hgrow9).blk (HYW.out.alloc _) (fun e => by have := hob _ e; omega)
            have hgg : (v.ownBlock = some g9 ∧ g9 < wr.heap.size) ∨ (w8.setCell ⟨w4.heap.size, 1, none⟩ (.int .i64 z)).heap.size ≤ g9 := by
              rcases hat9 with h | h
              · exact Or.inl ⟨h, (hob _ h).2⟩
              · exact Or.inr (by omega)
            have hk9 : ∀ g, g < (w8.setCell ⟨w4.heap.size, 1, none⟩ (.int .i64 z)).heap.size → v.ownBlock ≠ some g → w9.heap[g]? = (w8.setCell ⟨w4.heap.size, 1, none⟩ (.int .i64 z)).heap[g]? := fun g hg hne => by
              rw [(Turn.grown hgrow9).block g (by simp; omega) hne]
              exact (bnew _ _).block g hg
            have hB9 : Below w.heap.size w8 w9 := (((Below.refl w.heap.size w8).setCell (show w.heap.size ≤ w4.heap.size by omega) _).alloc (by simp; omega) _).grown hgrow9 (by simp; omega) (fun q hq => by have := hob q hq; omega)
            have hR9 : RowZ smpK w9 (X + 1) 34 (.slice (some ⟨g9, 0, none⟩) (k + 1) c9) (k + 1) (ys ++ [⟨⟨ls6, z⟩, some ⟨g6, 0, none⟩, c6⟩]) := RowZ.snoc (wr := wr) (w4 := (w8.setCell ⟨w4.heap.size, 1, none⟩ (.int .i64 z))) (w6 := w9) (v := v) hown9 HR.out (by omega) (by have := hB9.size; omega) (by omega)
              (fun g hg hb hne => ((hk9 g (by omega) hne).trans (HBT.out.block g (by omega) (by omega))).trans (H8.out.2.block g hg (by omega)))
              (fun g hg hg4 => hk9 g hg4 (fun e => by have := (hob _ e).2; omega))
              ⟨HLW.out.inR, ⟨hl6, hc6', hsl6⟩, hz⟩ hgg
            have hT9 : Turn (· = X) w9 (w9.setCell ⟨X, 4, none⟩ (.slice (some ⟨g9, 0, none⟩) (k + 1) c9)) := (Turn.refl (· = X) w9).setCell (Or.inl rfl) 4 _
            have hB10 : Below w.heap.size w8 (w9.setCell ⟨X, 4, none⟩ (.slice (some ⟨g9, 0, none⟩) (k + 1) c9)) := hB9.setCell hs2 _
            exact ⟨⟨k + 1, _, ys ++ [⟨⟨ls6, z⟩, some ⟨g6, 0, none⟩, c6⟩], by omega, by go_num, by have := HX9.out.set 4 (.slice (some ⟨g9, 0, none⟩) (k + 1) c9); exact this, HY9.keepS (by omega) _, hid (hR9.turn hT9 (fun g e => by rw [e]; omega)), (H8.out.1.below (hB10.mono hPw)).mono (by omega), (HBU.out.trans H8.out.2).below_to (hB10.mono (by omega)), by have := hB10.size; omega⟩, by simp [intOf]; omega⟩
          · have h4' : ¬ (((v7 : Nat) : Int) = 4) := by omega
            have z0 := Z7.out.cell 0
            have z1 := Z7.out.cell 1
            have x4 := HX7.out.cell 4
            have xf := HX7.out.free 4
            have hs7 : w4.heap.size < w7.heap.size := lt_of_block Z7.out
            have HBT : Hid (But w4.heap.size w7 w7) := (But.refl w4.heap.size w7)
            have HOW : Hid (w7.ownsRow (X + 1) 34 2 v k (smpK.flat ys)) := (Turn.but HBT.out).row HO7.out (fun g hg e => by have := hob g hg; omega)
            have HXW : Hid (Blk w7 X #[.int .i64 1, .string tn, .string ⟨#[]⟩, .int .i64 0, v] 31) := (HBT.out.block _ (by have := lt_of_block HX7.out; omega) (by omega)).trans HX7.out
            have HYW : Hid (Blk w7 w.heap.size #[.int .i64 0, .string ⟨#[]⟩, .string ⟨#[]⟩, .int .i64 0, .slice none 0 0] 31) := (HBT.out.block _ (by have := lt_of_block HY7.out; omega) (by omega)).trans HY7.out
            have HLW : Hid (LabsOwn w7 wr.heap.size (some ⟨g6, 0, none⟩) ls6) := L7.out.butS HBT.out hg6
            have hWs : w7.heap.size = w7.heap.size := by simp
            go_wp2_with (at_builtin; refine wpList_append_lies _ rfl _ _ _ rfl (X + 1) 34 i0 _ 2 32 Tryz.underlying29 hi0 hz0 hz1 hz2 rfl (by omega) v k (smpK.flat ys) rfl (by exact HOW.out.alloc _) ⟨w7.heap.size, 0, none⟩ 1 1 [.slice (some ⟨g6, 0, none⟩) ls6.length c6, .int .i64 0] rfl rfl (by have := World.news_of_block (cs := #[.slice (some ⟨g6, 0, none⟩) ls6.length c6, .int .i64 0]) (t := 34) (fr := (0, 0)) (heap_alloc_new w7 (.cells #[.slice (some ⟨g6, 0, none⟩) ls6.length c6, .int .i64 0] 34)); simpa using this) (by simp [Value.oneCell']) (by omega) (by simp [maxLen]; omega) (by omega) (by simp; omega) (w7.heap.size + 1) (by simp) ?_; intro g9 c9 w9 hown9 hgrow9 hat9 hlt9; have HX9 : Hid (Blk w9 X #[.int .i64 1, .string tn, .string ⟨#[]⟩, .int .i64 0, v] 31) := (Turn.grown hgrow9).blk (HXW.out.alloc _) (fun e => by have := hob _ e; omega); have x9 := HX9.out.cell 4; have f9 := HX9.out.free 4)
            have HY9 : Blk w9 w.heap.size #[.int .i64 0, .string ⟨#[]⟩, .string ⟨#[]⟩, .int .i64 0, .slice none 0 0] 31 := (Turn.grown hgrow9).blk (HYW.out.alloc _) (fun e => by have := hob _ e; omega)
            have hgg : (v.ownBlock = some g9 ∧ g9 < wr.heap.size) ∨ w7.heap.size ≤ g9 := by
              rcases hat9 with h | h
              · exact Or.inl ⟨h, (hob _ h).2⟩
              · exact Or.inr (by omega)
            have hk9 : ∀ g, g < w7.heap.size → v.ownBlock ≠ some g → w9.heap[g]? = w7.heap[g]? := fun g hg hne => by
              rw [(Turn.grown hgrow9).block g (by simp; omega) hne]
              exact (bnew _ _).block g hg
            have hB9 : Below w.heap.size w7 w9 := ((Below.refl w.heap.size w7).alloc (by omega) _).grown hgrow9 (by simp; omega) (fun q hq => by have := hob q hq; omega)
            have hR9 : RowZ smpK w9 (X + 1) 34 (.slice (some ⟨g9, 0, none⟩) (k + 1) c9) (k + 1) (ys ++ [⟨⟨ls6, 0⟩, some ⟨g6, 0, none⟩, c6⟩]) := RowZ.snoc (wr := wr) (w4 := w7) (w6 := w9) (v := v) hown9 HR.out (by omega) (by have := hB9.size; omega) (by omega)
              (fun g hg hb hne => ((hk9 g (by omega) hne).trans (HBT.out.block g (by omega) (by omega))).trans (H7.out.2.block g hg (by omega)))
              (fun g hg hg4 => hk9 g hg4 (fun e => by have := (hob _ e).2; omega))
              ⟨HLW.out.inR, ⟨hl6, hc6', hsl6⟩, ⟨by simp only; omega, by simp only; omega⟩⟩ hgg
            have hT9 : Turn (· = X) w9 (w9.setCell ⟨X, 4, none⟩ (.slice (some ⟨g9, 0, none⟩) (k + 1) c9)) := (Turn.refl (· = X) w9).setCell (Or.inl rfl) 4 _
            have hB10 : Below w.heap.size w7 (w9.setCell ⟨X, 4, none⟩ (.slice (some ⟨g9, 0, none⟩) (k + 1) c9)) := hB9.setCell hs2 _
            exact ⟨⟨k + 1, _, ys ++ [⟨⟨ls6, 0⟩, some ⟨g6, 0, none⟩, c6⟩], by omega, by go_num, by have := HX9.out.set 4 (.slice (some ⟨g9, 0, none⟩) (k + 1) c9); exact this, HY9.keepS (by omega) _, hid (hR9.turn hT9 (fun g e => by rw [e]; omega)), (H7.out.1.below (hB10.mono hPw)).mono (by omega), (HBU.out.trans H7.out.2).below_to (hB10.mono (by omega)), by have := hB10.size; omega⟩, by simp [intOf]; omega⟩
      · have hke : k = nn + 1 := by omega
        have hlk' : ¬ ((k : Int) < 1 + (nn : Int)) := by omega
        obtain ⟨ra, rc, rfl⟩ := HR.out.row
        have c0 := HX.out.cell 0
        have c1 := HX.out.cell 1
        have c2 := HX.out.cell 2
        have c3 := HX.out.cell 3
        have c4 := HX.out.cell 4
        have r0 := HY.out.cell 0
        have s0 := HY.out.free 0
        have r1 := HY.out.cell 1
        have s1 := HY.out.free 1
        have r2 := HY.out.cell 2
        have s2 := HY.out.free 2
        have r3 := HY.out.cell 3
        have s3 := HY.out.free 3
        have r4 := HY.out.cell 4
        have s4 := HY.out.free 4
        have n1 : ¬ (w.heap.size = X) := by omega
        have n2 : ¬ (X = w.heap.size) := by omega
        go_wp2
        refine bodyPost_ret (v := .agg #[.int .i64 1, .string tn, .string ⟨#[]⟩, .int .i64 0, .slice ra (nn + 1) rc]) (by simp [results, Tryz.results14, go_sem, r0, r1, r2, r3, r4]) rfl ?_
        subst hke
        have hyl : ys.length = nn + 1 := HR.out.2.1
        have hT : Turn (· = w.heap.size) wr (((((wr.setCell ⟨w.heap.size, 0, none⟩ (.int .i64 1)).setCell ⟨w.heap.size, 1, none⟩ (.string tn)).setCell ⟨w.heap.size, 2, none⟩ (.string ⟨#[]⟩)).setCell ⟨w.heap.size, 3, none⟩ (.int .i64 0)).setCell ⟨w.heap.size, 4, none⟩ (.slice ra (nn + 1) rc)) := (((((Turn.refl (· = w.heap.size) wr).setCell (Or.inl rfl) 0 _).setCell (Or.inl rfl) 1 _).setCell (Or.inl rfl) 2 _).setCell (Or.inl rfl) 3 _).setCell (Or.inl rfl) 4 _
        refine ⟨⟨1, tn, ⟨#[]⟩, 0, ys, ra, rc⟩, by unfold QV.val; simp only [hyl], ⟨((HR.out.turn hT (fun g e => by rw [e]; omega)).out).wide (by omega) (Nat.le_refl _), good_of ⟨by omega, by omega⟩ htn (by decide) ⟨by omega, by omega⟩ (by omega)⟩, (HC.out.below ?_).mono (by omega), HBU.out.below_to ?_⟩
        · repeat (with_reducible first | exact Below.refl _ _ | exact hPw | exact hZ | refine Below.setCell ?_ ?_ _)
        · repeat (with_reducible first | exact Below.refl _ _ | exact hPw | exact hZ | refine Below.setCell ?_ ?_ _)
end Go.Proofs.YtpajhkikcofhfaaGreatDoor

