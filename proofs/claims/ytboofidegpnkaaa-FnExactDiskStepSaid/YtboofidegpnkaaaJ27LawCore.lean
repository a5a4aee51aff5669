import Derived.Test.YtboofidegpnkaaaProg
import Derived.Test.YtboofidegpnkaaaJ25LawHelp
import Derived.Test.YtboofidegpnkaaaJ26OpTo
import Derived.Deep.RegionHeld3
import Derived.Deep.DeepCutAuto
namespace Go.Proofs.Ytboofidegpnkaaa
open Go.RowKit

set_option maxRecDepth 100000 in
set_option maxHeartbeats 4000000 in
theorem lawDiskStep_core (a : Option Addr) (cap : Nat) (fs : List FileD) (c k cr fl : Int) (dn : Bool) (op : OpD) (w : World) (F0 : List FileD) (code c0 k0 cr0 fl0 : Int) (dn0 : Bool) (HF : Hid (FilesIn w a fs)) (hs : Short fs) (hlen : fs.length ≤ maxLen) (hn : op.name.size ≤ maxLen) (ht : op.to.size ≤ maxLen) (hdt : op.data.size ≤ maxLen)
    (hneg : ¬ szFs 1048576 fs < 0) (hneg2 : ¬ szO (szFs 1048576 fs) op < 0) (hl20 : fs.length ≤ 1048576) (hFl2 : F0.length ≤ 1048577)
    (HSP : Hid (∀ a' cap' W, FilesIn W a' fs → Calls Try.prog 6 #[.agg #[.slice a' fs.length cap', .int .i64 c, .int .i64 k, .int .i64 cr, .int .i64 fl, .bool dn], .agg #[.int .i64 op.kind, .string op.name, .string op.to, .string op.data, .int .i64 op.size]] W fun e w' => ∃ aw cw, e = .returned (.tuple #[.agg #[.slice aw F0.length cw, .int .i64 c0, .int .i64 k0, .int .i64 cr0, .int .i64 fl0, .bool dn0], .int .i64 code]) ∧ FilesIn w' aw F0 ∧ Below W.heap.size W w'))
    (HIM : Hid (∀ a' cap' W, FilesIn W a' fs → Calls Try.prog 9 #[.agg #[.slice a' fs.length cap', .int .i64 c, .int .i64 k, .int .i64 cr, .int .i64 fl, .bool dn], .agg #[.int .i64 op.kind, .string op.name, .string op.to, .string op.data, .int .i64 op.size]] W fun e w' => ∃ ag cg, e = .returned (.tuple #[.agg #[.slice ag F0.length cg, .int .i64 c0, .int .i64 k0, .int .i64 cr0, .int .i64 fl0, .bool dn0], .int .i64 code]) ∧ Owned w' W.heap.size ag F0 ∧ Below W.heap.size W w')) :
    Calls Try.prog 3 #[.agg #[.slice a fs.length cap, .int .i64 c, .int .i64 k, .int .i64 cr, .int .i64 fl, .bool dn], .agg #[.int .i64 op.kind, .string op.name, .string op.to, .string op.data, .int .i64 op.size]] w fun e w' => e = .returned (.bool true) ∧ Below w.heap.size w w' := by
  have hsz1 : szFs 1048576 fs ≤ 1048576 := by unfold szFs; split <;> omega
  have hszn : 0 ≤ szFs 1048576 fs := by omega
  have HN2 : Hid (¬ szO (szFs 1048576 fs) op < 0) := hneg2
  have HL : Hid (fs.length ≤ maxLen) := hlen
  go_enter Try.func3, Try.ntmps3
  go_wp2_with fail
  refine (szDisk_any a cap fs c k cr fl dn 1048576 _ (by omega) (by omega) ((HF.out.later (bnew _ _)).later (bnew _ _)) hs hlen).mono ?_
  rintro e w0 ⟨rfl, hb0⟩
  obtain ⟨hA0, hO0, hbl0⟩ := twoBoxes hb0
  have H0 : Hid (Blk w0 (w.heap.size) #[.slice a fs.length cap, .int .i64 c, .int .i64 k, .int .i64 cr, .int .i64 fl, .bool dn] 24 ∧ Blk w0 (w.heap.size + 1) #[.int .i64 op.kind, .string op.name, .string op.to, .string op.data, .int .i64 op.size] 26 ∧ Below w.heap.size w w0) := ⟨hA0, hO0, hbl0⟩
  obtain ⟨o0, o1, o2, o3, o4⟩ := hO0.five
  clear hb0 hA0 hO0 hbl0
  go_wp2_with fail
  refine (szDiskOp_any op (szFs 1048576 fs) _ hszn hsz1 hn ht hdt).mono ?_
  rintro e w1 ⟨rfl, hb1⟩
  have A1 : Hid (Blk w1 (w.heap.size) #[.slice a fs.length cap, .int .i64 c, .int .i64 k, .int .i64 cr, .int .i64 fl, .bool dn] 24) := H0.out.1.later hb1
  have O1 : Hid (Blk w1 (w.heap.size + 1) #[.int .i64 op.kind, .string op.name, .string op.to, .string op.data, .int .i64 op.size] 26) := H0.out.2.1.later hb1
  have B1 : Hid (Below w.heap.size w w1) := bto H0.out.2.2 hb1
  have HFK : Hid (∀ w', Below w1.heap.size w1 w' → FilesIn w' a fs) := fun w' h => HF.out.later (bto B1.out h)
  have HK : Hid (∀ w', Below w1.heap.size w1 w' → w'.cell? ⟨w.heap.size, 0, none⟩ = some (.slice a fs.length cap) ∧ w'.cell? ⟨w.heap.size, 1, none⟩ = some (.int .i64 c) ∧ w'.cell? ⟨w.heap.size, 2, none⟩ = some (.int .i64 k) ∧ w'.cell? ⟨w.heap.size, 3, none⟩ = some (.int .i64 cr) ∧ w'.cell? ⟨w.heap.size, 4, none⟩ = some (.int .i64 fl) ∧ w'.cell? ⟨w.heap.size, 5, none⟩ = some (.bool dn) ∧ w'.cell? ⟨w.heap.size + 1, 0, none⟩ = some (.int .i64 op.kind) ∧ w'.cell? ⟨w.heap.size + 1, 1, none⟩ = some (.string op.name) ∧ w'.cell? ⟨w.heap.size + 1, 2, none⟩ = some (.string op.to) ∧ w'.cell? ⟨w.heap.size + 1, 3, none⟩ = some (.string op.data) ∧ w'.cell? ⟨w.heap.size + 1, 4, none⟩ = some (.int .i64 op.size)) := fun w' h => by
    obtain ⟨a0, a1, a2, a3, a4, a5⟩ := (A1.out.later h).six
    obtain ⟨b0, b1, b2, b3, b4⟩ := (O1.out.later h).five
    exact ⟨a0, a1, a2, a3, a4, a5, b0, b1, b2, b3, b4⟩
  have hN1 : w.heap.size + 1 < w1.heap.size := lt_of_block O1.out
  obtain ⟨x0, x1, x2, x3, x4, x5⟩ := A1.out.six
  clear o0 o1 o2 o3 o4
  obtain ⟨o0, o1, o2, o3, o4⟩ := O1.out.five
  clear hb1 H0 hs hlen hneg hszn hsz1 hn ht hdt
  go_upto_region 8 with fail
  go_cut [6, 7] (fun s6 s7 wx => ∃ (P : Nat) (aw : Option Addr) (cw : Nat), s6 = .pointer (some ⟨P, 0, none⟩) ∧ s7 = .int .i64 code ∧ w1.heap.size ≤ P ∧ Blk wx P #[.slice aw F0.length cw, .int .i64 c0, .int .i64 k0, .int .i64 cr0, .int .i64 fl0, .bool dn0] 31 ∧ FilesIn wx aw F0 ∧ Below w1.heap.size w1 wx)
  case first =>
    go_region_held3 (fun w' => w'.cell? ⟨w.heap.size, 0, none⟩ = some (.slice a fs.length cap) ∧ w'.cell? ⟨w.heap.size, 1, none⟩ = some (.int .i64 c) ∧ w'.cell? ⟨w.heap.size, 2, none⟩ = some (.int .i64 k) ∧ w'.cell? ⟨w.heap.size, 3, none⟩ = some (.int .i64 cr) ∧ w'.cell? ⟨w.heap.size, 4, none⟩ = some (.int .i64 fl) ∧ w'.cell? ⟨w.heap.size, 5, none⟩ = some (.bool dn) ∧ w'.cell? ⟨w.heap.size + 1, 0, none⟩ = some (.int .i64 op.kind) ∧ w'.cell? ⟨w.heap.size + 1, 1, none⟩ = some (.string op.name) ∧ w'.cell? ⟨w.heap.size + 1, 2, none⟩ = some (.string op.to) ∧ w'.cell? ⟨w.heap.size + 1, 3, none⟩ = some (.string op.data) ∧ w'.cell? ⟨w.heap.size + 1, 4, none⟩ = some (.int .i64 op.size))
      (exact HK.out _ (by repeat (first | with_reducible refine Below.setCell ?_ (by first | exact Nat.le_refl _ | exact low (by repeat (first | with_reducible exact Below.refl _ _ | exact (Below.refl _ _).drew | with_reducible refine bto ?_ (bnew _ _) | with_reducible refine Below.drew ?_ | refine bto ?_ (by assumption)))) _ | with_reducible exact Below.refl _ _ | with_reducible refine bto ?_ (bnew _ _) | with_reducible refine Below.drew ?_ | exact (Below.refl _ _).drew | refine bto ?_ (by assumption))))
      (first
      | (go_at_call 7; refine (toDisk_any a cap fs c k cr fl dn _ (HFK.out _ (by repeat (first | with_reducible refine Below.setCell ?_ (by first | exact Nat.le_refl _ | exact low (by repeat (first | with_reducible exact Below.refl _ _ | exact (Below.refl _ _).drew | with_reducible refine bto ?_ (bnew _ _) | with_reducible refine Below.drew ?_ | refine bto ?_ (by assumption)))) _ | with_reducible exact Below.refl _ _ | with_reducible refine bto ?_ (bnew _ _) | with_reducible refine Below.drew ?_ | exact (Below.refl _ _).drew | refine bto ?_ (by assumption)))) hl20).mono ?_; rintro e w2 ⟨g1, rfl, _, _, hf2, hb2⟩; (first | (have hz := blk_of_drew hb2) | (have hz : Blk _ w3.heap.size _ _ := blk_of_alloc hb2) | (have hz := hz.later hb2) | skip))
      | (go_at_call 8; refine (toDiskOp_any op _).mono ?_; rintro e w3 ⟨rfl, hb3⟩; (first | (have hz := blk_of_drew hb3) | (have hz : Blk _ w2.heap.size _ _ := blk_of_alloc hb3) | (have hz := hz.later hb3) | skip))
      | (go_at_call 6; refine (HSP.out _ _ _ (hf2.later (by repeat (first | with_reducible refine Below.setCell ?_ (by first | exact Nat.le_refl _ | exact low (by repeat (first | with_reducible exact Below.refl _ _ | exact (Below.refl _ _).drew | with_reducible refine bto ?_ (bnew _ _) | with_reducible refine Below.drew ?_ | refine bto ?_ (by assumption)))) _ | with_reducible exact Below.refl _ _ | with_reducible refine bto ?_ (bnew _ _) | with_reducible refine Below.drew ?_ | exact (Below.refl _ _).drew | refine bto ?_ (by assumption))))).mono ?_; rintro e w4 ⟨aw, cw, rfl, how, hb4⟩; (first | (have hz := blk_of_drew hb4) | (have hz : Blk _ w2.heap.size _ _ := blk_of_alloc hb4) | (have hz : Blk _ w3.heap.size _ _ := blk_of_alloc hb4) | (have hz := hz.later hb4) | skip); (try (obtain ⟨q0, q1, q2, q3, q4, q5⟩ := hz.six; have f0 := hz.free 0; have f1 := hz.free 1; have f2 := hz.free 2; have f3 := hz.free 3; have f4 := hz.free 4; have f5 := hz.free 5))))
    all_goals (go_wp2_with fail; go_meet)
    · refine ⟨w4.heap.size, aw, cw, rfl, rfl, ?_, ?_, ?_, ?_⟩
      · exact low (by repeat (first | with_reducible refine Below.setCell ?_ (by first | exact Nat.le_refl _ | exact low (by repeat (first | with_reducible exact Below.refl _ _ | exact (Below.refl _ _).drew | with_reducible refine bto ?_ (bnew _ _) | with_reducible refine Below.drew ?_ | refine bto ?_ (by assumption)))) _ | with_reducible exact Below.refl _ _ | with_reducible refine bto ?_ (bnew _ _) | with_reducible refine Below.drew ?_ | exact (Below.refl _ _).drew | refine bto ?_ (by assumption)))
      · exact blk_new _ _ _
      · exact how.later (bnew _ _)
      · exact (by repeat (first | with_reducible refine Below.setCell ?_ (by first | exact Nat.le_refl _ | exact low (by repeat (first | with_reducible exact Below.refl _ _ | exact (Below.refl _ _).drew | with_reducible refine bto ?_ (bnew _ _) | with_reducible refine Below.drew ?_ | refine bto ?_ (by assumption)))) _ | with_reducible exact Below.refl _ _ | with_reducible refine bto ?_ (bnew _ _) | with_reducible refine Below.drew ?_ | exact (Below.refl _ _).drew | refine bto ?_ (by assumption)))
    · refine ⟨w3.heap.size, aw, cw, rfl, rfl, ?_, ?_, ?_, ?_⟩
      · exact low (by repeat (first | with_reducible refine Below.setCell ?_ (by first | exact Nat.le_refl _ | exact low (by repeat (first | with_reducible exact Below.refl _ _ | exact (Below.refl _ _).drew | with_reducible refine bto ?_ (bnew _ _) | with_reducible refine Below.drew ?_ | refine bto ?_ (by assumption)))) _ | with_reducible exact Below.refl _ _ | with_reducible refine bto ?_ (bnew _ _) | with_reducible refine Below.drew ?_ | exact (Below.refl _ _).drew | refine bto ?_ (by assumption)))
      · exact blk_fill hz
      · exact how.apart (apart_zero how hz) (but_fill _ _ _ _ _ _)
      · exact (by repeat (first | with_reducible refine Below.setCell ?_ (by first | exact Nat.le_refl _ | exact low (by repeat (first | with_reducible exact Below.refl _ _ | exact (Below.refl _ _).drew | with_reducible refine bto ?_ (bnew _ _) | with_reducible refine Below.drew ?_ | refine bto ?_ (by assumption)))) _ | with_reducible exact Below.refl _ _ | with_reducible refine bto ?_ (bnew _ _) | with_reducible refine Below.drew ?_ | exact (Below.refl _ _).drew | refine bto ?_ (by assumption)))
    · refine ⟨w2.heap.size, aw, cw, rfl, rfl, ?_, ?_, ?_, ?_⟩
      · exact low (by repeat (first | with_reducible refine Below.setCell ?_ (by first | exact Nat.le_refl _ | exact low (by repeat (first | with_reducible exact Below.refl _ _ | exact (Below.refl _ _).drew | with_reducible refine bto ?_ (bnew _ _) | with_reducible refine Below.drew ?_ | refine bto ?_ (by assumption)))) _ | with_reducible exact Below.refl _ _ | with_reducible refine bto ?_ (bnew _ _) | with_reducible refine Below.drew ?_ | exact (Below.refl _ _).drew | refine bto ?_ (by assumption)))
      · exact blk_fill hz
      · exact how.apart (apart_zero how hz) (but_fill _ _ _ _ _ _)
      · exact (by repeat (first | with_reducible refine Below.setCell ?_ (by first | exact Nat.le_refl _ | exact low (by repeat (first | with_reducible exact Below.refl _ _ | exact (Below.refl _ _).drew | with_reducible refine bto ?_ (bnew _ _) | with_reducible refine Below.drew ?_ | refine bto ?_ (by assumption)))) _ | with_reducible exact Below.refl _ _ | with_reducible refine bto ?_ (bnew _ _) | with_reducible refine Below.drew ?_ | exact (Below.refl _ _).drew | refine bto ?_ (by assumption)))
    · refine ⟨w1.heap.size, aw, cw, rfl, rfl, ?_, ?_, ?_, ?_⟩
      · exact low (by repeat (first | with_reducible refine Below.setCell ?_ (by first | exact Nat.le_refl _ | exact low (by repeat (first | with_reducible exact Below.refl _ _ | exact (Below.refl _ _).drew | with_reducible refine bto ?_ (bnew _ _) | with_reducible refine Below.drew ?_ | refine bto ?_ (by assumption)))) _ | with_reducible exact Below.refl _ _ | with_reducible refine bto ?_ (bnew _ _) | with_reducible refine Below.drew ?_ | exact (Below.refl _ _).drew | refine bto ?_ (by assumption)))
      · exact blk_fill hz
      · exact how.apart (apart_zero how hz) (but_fill _ _ _ _ _ _)
      · exact (by repeat (first | with_reducible refine Below.setCell ?_ (by first | exact Nat.le_refl _ | exact low (by repeat (first | with_reducible exact Below.refl _ _ | exact (Below.refl _ _).drew | with_reducible refine bto ?_ (bnew _ _) | with_reducible refine Below.drew ?_ | refine bto ?_ (by assumption)))) _ | with_reducible exact Below.refl _ _ | with_reducible refine bto ?_ (bnew _ _) | with_reducible refine Below.drew ?_ | exact (Below.refl _ _).drew | refine bto ?_ (by assumption)))
  obtain ⟨P, aw, cw, rfl, rfl, hP, W4r, FW4r, B4r⟩ := hcut
  rename World => w4
  have W4 : Hid (Blk w4 P #[.slice aw F0.length cw, .int .i64 c0, .int .i64 k0, .int .i64 cr0, .int .i64 fl0, .bool dn0] 31) := W4r
  have FW4 : Hid (FilesIn w4 aw F0) := FW4r
  have FR : Hid (Front aw F0 w4.heap.size) := front_of FW4r
  have A4 : Hid (Blk w4 w.heap.size #[.slice a fs.length cap, .int .i64 c, .int .i64 k, .int .i64 cr, .int .i64 fl, .bool dn] 24) := A1.out.later B4r
  have O4 : Hid (Blk w4 (w.heap.size + 1) #[.int .i64 op.kind, .string op.name, .string op.to, .string op.data, .int .i64 op.size] 26) := O1.out.later B4r
  have B4 : Hid (Below w.heap.size w w4) := bto B1.out B4r
  have hP4 : P < w4.heap.size := lt_of_block W4r
  obtain ⟨e0, e1, e2, e3, e4, e5⟩ := A4.out.six
  clear W4r FW4r B4r A1 O1 B1 HFK HK x0 x1 x2 x3 x4 x5 o0 o1 o2 o3 o4
  go_upto_region 9 with fail
  go_cut [8] (fun s8 wx => ∃ (g2 Q : Nat), s8 = .pointer (some ⟨Q, 0, none⟩) ∧ w4.heap.size ≤ g2 ∧ g2 < Q ∧ Blk wx Q #[.slice (some ⟨g2, 0, none⟩) fs.length fs.length, .int .i64 c, .int .i64 k, .int .i64 cr, .int .i64 fl, .bool dn] 31 ∧ Owned wx g2 (some ⟨g2, 0, none⟩) fs ∧ Below w4.heap.size w4 wx)
  case first =>
    go_wp2_with fail
    refine (toDisk_any a cap fs c k cr fl dn _ (HF.out.later B4.out) hl20).mono ?_
    rintro e w5 ⟨g2, rfl, hg2, hx2, hf5, hb5⟩
    have H5 : Hid (w4.heap.size ≤ g2 ∧ g2 < w5.heap.size ∧ Owned w5 g2 (some ⟨g2, 0, none⟩) fs ∧ Below w4.heap.size w4 w5) := ⟨hg2, (by obtain ⟨_, _, h⟩ := hx2; exact lt_of_block h), owned_of hf5 hx2 (Nat.le_refl _), hb5⟩
    clear hg2 hx2 hf5 hb5 e0 e1 e2 e3 e4 e5
    go_wp2_with fail
    go_meet
    exact ⟨g2, w5.heap.size, rfl, H5.out.1, H5.out.2.1, blk_new _ _ _, H5.out.2.2.1.later (bnew _ _), bto H5.out.2.2.2 (bnew _ _)⟩
  obtain ⟨g2, Q, rfl, hg2, hQ, XB6r, X6r, B6r⟩ := hcut
  rename World => w6
  have XB6 : Hid (Blk w6 Q #[.slice (some ⟨g2, 0, none⟩) fs.length fs.length, .int .i64 c, .int .i64 k, .int .i64 cr, .int .i64 fl, .bool dn] 31) := XB6r
  have X6 : Hid (Owned w6 g2 (some ⟨g2, 0, none⟩) fs) := X6r
  have W6 : Hid (Blk w6 P #[.slice aw F0.length cw, .int .i64 c0, .int .i64 k0, .int .i64 cr0, .int .i64 fl0, .bool dn0] 31) := W4.out.later B6r
  have FW6 : Hid (FilesIn w6 aw F0) := FW4.out.later B6r
  have A6 : Hid (Blk w6 w.heap.size #[.slice a fs.length cap, .int .i64 c, .int .i64 k, .int .i64 cr, .int .i64 fl, .bool dn] 24) := A4.out.later B6r
  have O6 : Hid (Blk w6 (w.heap.size + 1) #[.int .i64 op.kind, .string op.name, .string op.to, .string op.data, .int .i64 op.size] 26) := O4.out.later B6r
  have B6 : Hid (Below w.heap.size w w6) := bto B4.out B6r
  have hQ6 : Q < w6.heap.size := lt_of_block XB6r
  have HK : Hid (∀ w', Below w6.heap.size w6 w' → w'.cell? ⟨Q, 0, none⟩ = some (.slice (some ⟨g2, 0, none⟩) fs.length fs.length) ∧ w'.cell? ⟨Q, 1, none⟩ = some (.int .i64 c) ∧ w'.cell? ⟨Q, 2, none⟩ = some (.int .i64 k) ∧ w'.cell? ⟨Q, 3, none⟩ = some (.int .i64 cr) ∧ w'.cell? ⟨Q, 4, none⟩ = some (.int .i64 fl) ∧ w'.cell? ⟨Q, 5, none⟩ = some (.bool dn) ∧ w'.cell? ⟨w.heap.size + 1, 0, none⟩ = some (.int .i64 op.kind) ∧ w'.cell? ⟨w.heap.size + 1, 1, none⟩ = some (.string op.name) ∧ w'.cell? ⟨w.heap.size + 1, 2, none⟩ = some (.string op.to) ∧ w'.cell? ⟨w.heap.size + 1, 3, none⟩ = some (.string op.data) ∧ w'.cell? ⟨w.heap.size + 1, 4, none⟩ = some (.int .i64 op.size)) := fun w' h => by
    obtain ⟨a0, a1, a2, a3, a4, a5⟩ := (XB6.out.later h).six
    obtain ⟨b0, b1, b2, b3, b4⟩ := (O6.out.later h).five
    exact ⟨a0, a1, a2, a3, a4, a5, b0, b1, b2, b3, b4⟩
  obtain ⟨x0, x1, x2, x3, x4, x5⟩ := XB6.out.six
  obtain ⟨o0, o1, o2, o3, o4⟩ := O6.out.five
  clear XB6r X6r B6r W4 FW4 A4 O4 B4 e0 e1 e2 e3 e4 e5
  go_upto_region 10 with fail
  go_cut [9, 10] (fun s9 s10 wx => ∃ (G : Nat) (ag : Option Addr) (cg : Nat), s9 = .pointer (some ⟨G, 0, none⟩) ∧ s10 = .int .i64 code ∧ w6.heap.size ≤ G ∧ Blk wx G #[.slice ag F0.length cg, .int .i64 c0, .int .i64 k0, .int .i64 cr0, .int .i64 fl0, .bool dn0] 31 ∧ Owned wx w6.heap.size ag F0 ∧ Apart ag F0 G ∧ Below w6.heap.size w6 wx)
  case first =>
    go_region_held3 (fun w' => w'.cell? ⟨Q, 0, none⟩ = some (.slice (some ⟨g2, 0, none⟩) fs.length fs.length) ∧ w'.cell? ⟨Q, 1, none⟩ = some (.int .i64 c) ∧ w'.cell? ⟨Q, 2, none⟩ = some (.int .i64 k) ∧ w'.cell? ⟨Q, 3, none⟩ = some (.int .i64 cr) ∧ w'.cell? ⟨Q, 4, none⟩ = some (.int .i64 fl) ∧ w'.cell? ⟨Q, 5, none⟩ = some (.bool dn) ∧ w'.cell? ⟨w.heap.size + 1, 0, none⟩ = some (.int .i64 op.kind) ∧ w'.cell? ⟨w.heap.size + 1, 1, none⟩ = some (.string op.name) ∧ w'.cell? ⟨w.heap.size + 1, 2, none⟩ = some (.string op.to) ∧ w'.cell? ⟨w.heap.size + 1, 3, none⟩ = some (.string op.data) ∧ w'.cell? ⟨w.heap.size + 1, 4, none⟩ = some (.int .i64 op.size))
      (exact HK.out _ (by repeat (first | with_reducible refine Below.setCell ?_ (by first | exact Nat.le_refl _ | exact low (by repeat (first | with_reducible exact Below.refl _ _ | exact (Below.refl _ _).drew | with_reducible refine bto ?_ (bnew _ _) | with_reducible refine Below.drew ?_ | refine bto ?_ (by assumption)))) _ | with_reducible exact Below.refl _ _ | with_reducible refine bto ?_ (bnew _ _) | with_reducible refine Below.drew ?_ | exact (Below.refl _ _).drew | refine bto ?_ (by assumption))))
      (first
      | (go_at_call 8; refine (toDiskOp_any op _).mono ?_; rintro e v3 ⟨rfl, hb3⟩; (first | (have hz := blk_of_drew hb3) | (have hz := hz.later hb3) | skip))
      | (go_at_call 9; refine (HIM.out _ _ _ (X6.out.files.later (by repeat (first | with_reducible refine Below.setCell ?_ (by first | exact Nat.le_refl _ | exact low (by repeat (first | with_reducible exact Below.refl _ _ | exact (Below.refl _ _).drew | with_reducible refine bto ?_ (bnew _ _) | with_reducible refine Below.drew ?_ | refine bto ?_ (by assumption)))) _ | with_reducible exact Below.refl _ _ | with_reducible refine bto ?_ (bnew _ _) | with_reducible refine Below.drew ?_ | exact (Below.refl _ _).drew | refine bto ?_ (by assumption))))).mono ?_; rintro e v4 ⟨ag, cg, rfl, hog, hb4⟩; (first | (have hz := blk_of_drew hb4) | (have hz : Blk _ v3.heap.size _ _ := blk_of_alloc hb4) | (have hz := hz.later hb4) | skip); (try (obtain ⟨q0, q1, q2, q3, q4, q5⟩ := hz.six; have f0 := hz.free 0; have f1 := hz.free 1; have f2 := hz.free 2; have f3 := hz.free 3; have f4 := hz.free 4; have f5 := hz.free 5))))
    all_goals (go_wp2_with fail; go_meet)
    · refine ⟨v4.heap.size, ag, cg, rfl, rfl, ?_, ?_, ?_, ?_, ?_⟩
      · exact low (by repeat (first | with_reducible refine Below.setCell ?_ (by first | exact Nat.le_refl _ | exact low (by repeat (first | with_reducible exact Below.refl _ _ | exact (Below.refl _ _).drew | with_reducible refine bto ?_ (bnew _ _) | with_reducible refine Below.drew ?_ | refine bto ?_ (by assumption)))) _ | with_reducible exact Below.refl _ _ | with_reducible refine bto ?_ (bnew _ _) | with_reducible refine Below.drew ?_ | exact (Below.refl _ _).drew | refine bto ?_ (by assumption)))
      · exact blk_new _ _ _
      · exact (hog.later (bnew _ _)).mono (low (by repeat (first | with_reducible refine Below.setCell ?_ (by first | exact Nat.le_refl _ | exact low (by repeat (first | with_reducible exact Below.refl _ _ | exact (Below.refl _ _).drew | with_reducible refine bto ?_ (bnew _ _) | with_reducible refine Below.drew ?_ | refine bto ?_ (by assumption)))) _ | with_reducible exact Below.refl _ _ | with_reducible refine bto ?_ (bnew _ _) | with_reducible refine Below.drew ?_ | exact (Below.refl _ _).drew | refine bto ?_ (by assumption))))
      · exact (front_of hog.files).apart
      · exact (by repeat (first | with_reducible refine Below.setCell ?_ (by first | exact Nat.le_refl _ | exact low (by repeat (first | with_reducible exact Below.refl _ _ | exact (Below.refl _ _).drew | with_reducible refine bto ?_ (bnew _ _) | with_reducible refine Below.drew ?_ | refine bto ?_ (by assumption)))) _ | with_reducible exact Below.refl _ _ | with_reducible refine bto ?_ (bnew _ _) | with_reducible refine Below.drew ?_ | exact (Below.refl _ _).drew | refine bto ?_ (by assumption)))
    · refine ⟨v3.heap.size, ag, cg, rfl, rfl, ?_, ?_, ?_, ?_, ?_⟩
      · exact low (by repeat (first | with_reducible refine Below.setCell ?_ (by first | exact Nat.le_refl _ | exact low (by repeat (first | with_reducible exact Below.refl _ _ | exact (Below.refl _ _).drew | with_reducible refine bto ?_ (bnew _ _) | with_reducible refine Below.drew ?_ | refine bto ?_ (by assumption)))) _ | with_reducible exact Below.refl _ _ | with_reducible refine bto ?_ (bnew _ _) | with_reducible refine Below.drew ?_ | exact (Below.refl _ _).drew | refine bto ?_ (by assumption)))
      · exact blk_fill hz
      · exact (hog.beside (apart_zero hog.files hz) (but_fill _ _ _ _ _ _)).mono (low (by repeat (first | with_reducible refine Below.setCell ?_ (by first | exact Nat.le_refl _ | exact low (by repeat (first | with_reducible exact Below.refl _ _ | exact (Below.refl _ _).drew | with_reducible refine bto ?_ (bnew _ _) | with_reducible refine Below.drew ?_ | refine bto ?_ (by assumption)))) _ | with_reducible exact Below.refl _ _ | with_reducible refine bto ?_ (bnew _ _) | with_reducible refine Below.drew ?_ | exact (Below.refl _ _).drew | refine bto ?_ (by assumption))))
      · exact apart_zero hog.files hz
      · exact (by repeat (first | with_reducible refine Below.setCell ?_ (by first | exact Nat.le_refl _ | exact low (by repeat (first | with_reducible exact Below.refl _ _ | exact (Below.refl _ _).drew | with_reducible refine bto ?_ (bnew _ _) | with_reducible refine Below.drew ?_ | refine bto ?_ (by assumption)))) _ | with_reducible exact Below.refl _ _ | with_reducible refine bto ?_ (bnew _ _) | with_reducible refine Below.drew ?_ | exact (Below.refl _ _).drew | refine bto ?_ (by assumption)))
    · refine ⟨w6.heap.size, ag, cg, rfl, rfl, ?_, ?_, ?_, ?_, ?_⟩
      · exact low (by repeat (first | with_reducible refine Below.setCell ?_ (by first | exact Nat.le_refl _ | exact low (by repeat (first | with_reducible exact Below.refl _ _ | exact (Below.refl _ _).drew | with_reducible refine bto ?_ (bnew _ _) | with_reducible refine Below.drew ?_ | refine bto ?_ (by assumption)))) _ | with_reducible exact Below.refl _ _ | with_reducible refine bto ?_ (bnew _ _) | with_reducible refine Below.drew ?_ | exact (Below.refl _ _).drew | refine bto ?_ (by assumption)))
      · exact blk_fill hz
      · exact (hog.beside (apart_zero hog.files hz) (but_fill _ _ _ _ _ _)).mono (low (by repeat (first | with_reducible refine Below.setCell ?_ (by first | exact Nat.le_refl _ | exact low (by repeat (first | with_reducible exact Below.refl _ _ | exact (Below.refl _ _).drew | with_reducible refine bto ?_ (bnew _ _) | with_reducible refine Below.drew ?_ | refine bto ?_ (by assumption)))) _ | with_reducible exact Below.refl _ _ | with_reducible refine bto ?_ (bnew _ _) | with_reducible refine Below.drew ?_ | exact (Below.refl _ _).drew | refine bto ?_ (by assumption))))
      · exact apart_zero hog.files hz
      · exact (by repeat (first | with_reducible refine Below.setCell ?_ (by first | exact Nat.le_refl _ | exact low (by repeat (first | with_reducible exact Below.refl _ _ | exact (Below.refl _ _).drew | with_reducible refine bto ?_ (bnew _ _) | with_reducible refine Below.drew ?_ | refine bto ?_ (by assumption)))) _ | with_reducible exact Below.refl _ _ | with_reducible refine bto ?_ (bnew _ _) | with_reducible refine Below.drew ?_ | exact (Below.refl _ _).drew | refine bto ?_ (by assumption)))
  obtain ⟨G, ag, cg, rfl, rfl, hG, GB7r, G7r, AP, hb7⟩ := hcut
  rename World => w7
  have GB7 : Hid (Blk w7 G #[.slice ag F0.length cg, .int .i64 c0, .int .i64 k0, .int .i64 cr0, .int .i64 fl0, .bool dn0] 31) := GB7r
  have G7 : Hid (Owned w7 w6.heap.size ag F0) := G7r
  have APH : Hid (Apart ag F0 G) := AP
  clear GB7r G7r AP HK x0 x1 x2 x3 x4 x5 o0 o1 o2 o3 o4
  have B7 : Hid (Below w.heap.size w w7) := bto B6.out hb7
  have A7 : Hid (Blk w7 w.heap.size #[.slice a fs.length cap, .int .i64 c, .int .i64 k, .int .i64 cr, .int .i64 fl, .bool dn] 24) := A6.out.later hb7
  have O7 : Hid (Blk w7 (w.heap.size + 1) #[.int .i64 op.kind, .string op.name, .string op.to, .string op.data, .int .i64 op.size] 26) := O6.out.later hb7
  have W7 : Hid (Blk w7 P #[.slice aw F0.length cw, .int .i64 c0, .int .i64 k0, .int .i64 cr0, .int .i64 fl0, .bool dn0] 31) := W6.out.later hb7
  have FW7 : Hid (FilesIn w7 aw F0) := FW6.out.later hb7
  have X7 : Hid (Owned w7 g2 (some ⟨g2, 0, none⟩) fs) := X6.out.later hb7
  have XB7 : Hid (Blk w7 Q #[.slice (some ⟨g2, 0, none⟩) fs.length fs.length, .int .i64 c, .int .i64 k, .int .i64 cr, .int .i64 fl, .bool dn] 31) := XB6.out.later hb7
  clear B6 A6 O6 W6 FW6 X6 XB6
  obtain ⟨y0, y1, y2, y3, y4, y5⟩ := W7.out.six
  obtain ⟨z0, z1, z2, z3, z4, z5⟩ := GB7.out.six
  clear hb7
  go_wp2_with fail
  refine (eqDisk_same _ _ _ _ F0 c0 k0 cr0 fl0 dn0 _ G7.out.files FW7.out (by simp [maxLen]; omega)).mono ?_
  rintro e w8 ⟨rfl, hb8⟩
  have B8 : Hid (Below w.heap.size w w8) := bto B7.out hb8
  have A8 : Hid (Blk w8 w.heap.size #[.slice a fs.length cap, .int .i64 c, .int .i64 k, .int .i64 cr, .int .i64 fl, .bool dn] 24) := A7.out.later hb8
  have O8 : Hid (Blk w8 (w.heap.size + 1) #[.int .i64 op.kind, .string op.name, .string op.to, .string op.data, .int .i64 op.size] 26) := O7.out.later hb8
  have W8 : Hid (Blk w8 P #[.slice aw F0.length cw, .int .i64 c0, .int .i64 k0, .int .i64 cr0, .int .i64 fl0, .bool dn0] 31) := W7.out.later hb8
  have FW8 : Hid (FilesIn w8 aw F0) := FW7.out.later hb8
  have X8 : Hid (Owned w8 g2 (some ⟨g2, 0, none⟩) fs) := X7.out.later hb8
  have XB8 : Hid (Blk w8 Q #[.slice (some ⟨g2, 0, none⟩) fs.length fs.length, .int .i64 c, .int .i64 k, .int .i64 cr, .int .i64 fl, .bool dn] 31) := XB7.out.later hb8
  have G8 : Hid (Owned w8 w6.heap.size ag F0) := G7.out.later hb8
  have GB8 : Hid (Blk w8 G #[.slice ag F0.length cg, .int .i64 c0, .int .i64 k0, .int .i64 cr0, .int .i64 fl0, .bool dn0] 31) := GB7.out.later hb8
  clear B7 A7 O7 W7 FW7 X7 XB7 G7 GB7
  have HK : Hid (∀ w', Below w8.heap.size w8 w' → w'.cell? ⟨w.heap.size, 0, none⟩ = some (.slice a fs.length cap) ∧ w'.cell? ⟨w.heap.size, 1, none⟩ = some (.int .i64 c) ∧ w'.cell? ⟨w.heap.size, 2, none⟩ = some (.int .i64 k) ∧ w'.cell? ⟨w.heap.size, 3, none⟩ = some (.int .i64 cr) ∧ w'.cell? ⟨w.heap.size, 4, none⟩ = some (.int .i64 fl) ∧ w'.cell? ⟨w.heap.size, 5, none⟩ = some (.bool dn) ∧ w'.cell? ⟨Q, 0, none⟩ = some (.slice (some ⟨g2, 0, none⟩) fs.length fs.length) ∧ w'.cell? ⟨Q, 1, none⟩ = some (.int .i64 c) ∧ w'.cell? ⟨Q, 2, none⟩ = some (.int .i64 k) ∧ w'.cell? ⟨Q, 3, none⟩ = some (.int .i64 cr) ∧ w'.cell? ⟨Q, 4, none⟩ = some (.int .i64 fl) ∧ w'.cell? ⟨Q, 5, none⟩ = some (.bool dn)) := fun w' h => by
    obtain ⟨a0, a1, a2, a3, a4, a5⟩ := (A8.out.later h).six
    obtain ⟨b0, b1, b2, b3, b4, b5⟩ := (XB8.out.later h).six
    exact ⟨a0, a1, a2, a3, a4, a5, b0, b1, b2, b3, b4, b5⟩
  clear y0 y1 y2 y3 y4 y5 z0 z1 z2 z3 z4 z5 hb8
  obtain ⟨x0, x1, x2, x3, x4, x5⟩ := A8.out.six
  obtain ⟨z0, z1, z2, z3, z4, z5⟩ := XB8.out.six
  go_wp2_with fail
  go_region_held3 (fun w' => w'.cell? ⟨w.heap.size, 0, none⟩ = some (.slice a fs.length cap) ∧ w'.cell? ⟨w.heap.size, 1, none⟩ = some (.int .i64 c) ∧ w'.cell? ⟨w.heap.size, 2, none⟩ = some (.int .i64 k) ∧ w'.cell? ⟨w.heap.size, 3, none⟩ = some (.int .i64 cr) ∧ w'.cell? ⟨w.heap.size, 4, none⟩ = some (.int .i64 fl) ∧ w'.cell? ⟨w.heap.size, 5, none⟩ = some (.bool dn) ∧ w'.cell? ⟨Q, 0, none⟩ = some (.slice (some ⟨g2, 0, none⟩) fs.length fs.length) ∧ w'.cell? ⟨Q, 1, none⟩ = some (.int .i64 c) ∧ w'.cell? ⟨Q, 2, none⟩ = some (.int .i64 k) ∧ w'.cell? ⟨Q, 3, none⟩ = some (.int .i64 cr) ∧ w'.cell? ⟨Q, 4, none⟩ = some (.int .i64 fl) ∧ w'.cell? ⟨Q, 5, none⟩ = some (.bool dn))
    (exact HK.out _ (by repeat (first | with_reducible refine Below.setCell ?_ (by first | exact Nat.le_refl _ | exact low (by repeat (first | with_reducible exact Below.refl _ _ | exact (Below.refl _ _).drew | with_reducible refine bto ?_ (bnew _ _) | with_reducible refine Below.drew ?_ | refine bto ?_ (by assumption)))) _ | with_reducible exact Below.refl _ _ | with_reducible refine bto ?_ (bnew _ _) | with_reducible refine Below.drew ?_ | exact (Below.refl _ _).drew | refine bto ?_ (by assumption))))
    (first
    | (go_at_call 7; refine (toDisk_any a cap fs c k cr fl dn _ (HF.out.later (bto B8.out (Below.refl _ _).drew)) hl20).mono ?_; rintro e w9 ⟨g3, rfl, _, _, hf9, hb9⟩)
    | (go_at_call 10; refine (eqDisk_same _ _ _ _ fs c k cr fl dn _ ((X8.out.files.later (Below.refl _ _).drew).later hb9) hf9 HL.out).mono ?_; rintro e w10 ⟨rfl, hb10⟩))
  have hb10' : Below w8.heap.size w8 w10 := bto (bto (Below.refl _ _).drew hb9) hb10
  have B10 : Hid (Below w.heap.size w w10) := bto B8.out hb10'
  have A10 : Hid (Blk w10 w.heap.size #[.slice a fs.length cap, .int .i64 c, .int .i64 k, .int .i64 cr, .int .i64 fl, .bool dn] 24) := A8.out.later hb10'
  have O10 : Hid (Blk w10 (w.heap.size + 1) #[.int .i64 op.kind, .string op.name, .string op.to, .string op.data, .int .i64 op.size] 26) := O8.out.later hb10'
  have W10 : Hid (Blk w10 P #[.slice aw F0.length cw, .int .i64 c0, .int .i64 k0, .int .i64 cr0, .int .i64 fl0, .bool dn0] 31) := W8.out.later hb10'
  have FW10 : Hid (FilesIn w10 aw F0) := FW8.out.later hb10'
  have X10 : Hid (Owned w10 g2 (some ⟨g2, 0, none⟩) fs) := X8.out.later hb10'
  have XB10 : Hid (Blk w10 Q #[.slice (some ⟨g2, 0, none⟩) fs.length fs.length, .int .i64 c, .int .i64 k, .int .i64 cr, .int .i64 fl, .bool dn] 31) := XB8.out.later hb10'
  have G10 : Hid (Owned w10 w6.heap.size ag F0) := G8.out.later hb10'
  have GB10 : Hid (Blk w10 G #[.slice ag F0.length cg, .int .i64 c0, .int .i64 k0, .int .i64 cr0, .int .i64 fl0, .bool dn0] 31) := GB8.out.later hb10'
  clear B8 A8 O8 W8 FW8 X8 XB8 G8 GB8
  clear x0 x1 x2 x3 x4 x5 z0 z1 z2 z3 z4 z5 HK hf9 hb9 hb10 hb10'
  obtain ⟨z0, z1, z2, z3, z4, z5⟩ := XB10.out.six
  go_wp2_with fail
  refine (markDisk_any (some ⟨g2, 0, none⟩) fs.length fs c k cr fl dn 1 g2 _ (by omega) (by omega) X10.out).mono ?_
  rintro e w13 ⟨rfl, hm13, _⟩
  have hbut : But g2 w10 w13 := by
    rcases hm13 with ⟨_, h⟩ | ⟨_, g, o, e, _, h⟩
    · exact But.of h
    · simp only [Option.some.injEq, Addr.mk.injEq, and_true] at e
      rw [e.1]; exact h
  have hNg : w.heap.size ≤ g2 := by omega
  have B13 : Hid (Below w.heap.size w w13) := B10.out.trans (hbut.below hNg B10.out.size)
  have A13 : Hid (Blk w13 w.heap.size #[.slice a fs.length cap, .int .i64 c, .int .i64 k, .int .i64 cr, .int .i64 fl, .bool dn] 24) := A10.out.but hbut (by omega)
  have O13 : Hid (Blk w13 (w.heap.size + 1) #[.int .i64 op.kind, .string op.name, .string op.to, .string op.data, .int .i64 op.size] 26) := O10.out.but hbut (by omega)
  have W13 : Hid (Blk w13 P #[.slice aw F0.length cw, .int .i64 c0, .int .i64 k0, .int .i64 cr0, .int .i64 fl0, .bool dn0] 31) := W10.out.but hbut (by omega)
  have FW13 : Hid (FilesIn w13 aw F0) := FW10.out.but' hbut FR.out (by omega)
  have G13 : Hid (Owned w13 w6.heap.size ag F0) := G10.out.but hbut (by omega)
  have GB13 : Hid (Blk w13 G #[.slice ag F0.length cg, .int .i64 c0, .int .i64 k0, .int .i64 cr0, .int .i64 fl0, .bool dn0] 31) := GB10.out.but hbut (by omega)
  clear z0 z1 z2 z3 z4 z5 hm13 hbut B10 A10 O10 W10 FW10 X10 XB10 G10 GB10
  obtain ⟨y0, y1, y2, y3, y4, y5⟩ := W13.out.six
  obtain ⟨z0, z1, z2, z3, z4, z5⟩ := GB13.out.six
  have hkk : ¬ (((1 + 3 * fs.length : Nat) : Int) < 0) := by omega
  go_wp2_with fail
  refine (eqDisk_same _ _ _ _ F0 c0 k0 cr0 fl0 dn0 _ G13.out.files FW13.out (by simp [maxLen]; omega)).mono ?_
  rintro e w15 ⟨rfl, hb15⟩
  have B15 : Hid (Below w.heap.size w w15) := bto B13.out hb15
  have A15 : Hid (Blk w15 w.heap.size #[.slice a fs.length cap, .int .i64 c, .int .i64 k, .int .i64 cr, .int .i64 fl, .bool dn] 24) := A13.out.later hb15
  have O15 : Hid (Blk w15 (w.heap.size + 1) #[.int .i64 op.kind, .string op.name, .string op.to, .string op.data, .int .i64 op.size] 26) := O13.out.later hb15
  have W15 : Hid (Blk w15 P #[.slice aw F0.length cw, .int .i64 c0, .int .i64 k0, .int .i64 cr0, .int .i64 fl0, .bool dn0] 31) := W13.out.later hb15
  have FW15 : Hid (FilesIn w15 aw F0) := FW13.out.later hb15
  have G15 : Hid (Owned w15 w6.heap.size ag F0) := G13.out.later hb15
  have GB15 : Hid (Blk w15 G #[.slice ag F0.length cg, .int .i64 c0, .int .i64 k0, .int .i64 cr0, .int .i64 fl0, .bool dn0] 31) := GB13.out.later hb15
  clear B13 A13 O13 W13 FW13 G13 GB13
  clear y0 y1 y2 y3 y4 y5 z0 z1 z2 z3 z4 z5 hb15 hkk
  obtain ⟨z0, z1, z2, z3, z4, z5⟩ := GB15.out.six
  go_wp2_with fail
  refine (markDisk_any ag cg F0 c0 k0 cr0 fl0 dn0 1 w6.heap.size _ (by omega) (by omega) G15.out).mono ?_
  rintro e w16 ⟨rfl, hm16, ho16⟩
  have M16 : Hid (FilesIn w16 ag (markL 1 F0.length)) := ho16.files
  have H16 : Hid (Below w.heap.size w w16 ∧ Blk w16 w.heap.size #[.slice a fs.length cap, .int .i64 c, .int .i64 k, .int .i64 cr, .int .i64 fl, .bool dn] 24 ∧ Blk w16 (w.heap.size + 1) #[.int .i64 op.kind, .string op.name, .string op.to, .string op.data, .int .i64 op.size] 26 ∧ Blk w16 P #[.slice aw F0.length cw, .int .i64 c0, .int .i64 k0, .int .i64 cr0, .int .i64 fl0, .bool dn0] 31 ∧ FilesIn w16 aw F0 ∧ Blk w16 G #[.slice ag F0.length cg, .int .i64 c0, .int .i64 k0, .int .i64 cr0, .int .i64 fl0, .bool dn0] 31) := by
    rcases hm16 with ⟨_, h⟩ | ⟨hp, g, o, e, hB, h⟩
    · exact ⟨bto B15.out h, A15.out.later h, O15.out.later h, W15.out.later h, FW15.out.later h, GB15.out.later h⟩
    · have hne : g ≠ G := by
        rcases APH.out with hn | ⟨b, o', e', hne⟩
        · rw [hn] at hp; simp at hp
        · rw [e] at e'
          simp only [Option.some.injEq, Addr.mk.injEq, and_true] at e'
          rw [e'.1]; exact hne
      exact ⟨B15.out.trans (h.below (by omega) B15.out.size), A15.out.but h (by omega), O15.out.but h (by omega), W15.out.but h (by omega), FW15.out.but' h FR.out (by omega), GB15.out.but h (Ne.symm hne)⟩
  have B16 : Hid (Below w.heap.size w w16) := H16.out.1
  have A16 : Hid (Blk w16 w.heap.size #[.slice a fs.length cap, .int .i64 c, .int .i64 k, .int .i64 cr, .int .i64 fl, .bool dn] 24) := H16.out.2.1
  have O16 : Hid (Blk w16 (w.heap.size + 1) #[.int .i64 op.kind, .string op.name, .string op.to, .string op.data, .int .i64 op.size] 26) := H16.out.2.2.1
  have W16 : Hid (Blk w16 P #[.slice aw F0.length cw, .int .i64 c0, .int .i64 k0, .int .i64 cr0, .int .i64 fl0, .bool dn0] 31) := H16.out.2.2.2.1
  have FW16 : Hid (FilesIn w16 aw F0) := H16.out.2.2.2.2.1
  have GB16 : Hid (Blk w16 G #[.slice ag F0.length cg, .int .i64 c0, .int .i64 k0, .int .i64 cr0, .int .i64 fl0, .bool dn0] 31) := H16.out.2.2.2.2.2
  clear z0 z1 z2 z3 z4 z5 hm16 ho16 H16 B15 A15 O15 W15 FW15 G15 GB15
  obtain ⟨z0, z1, z2, z3, z4, z5⟩ := GB16.out.six
  go_wp2_with fail
  refine (heldDisk_any ag cg c0 k0 cr0 fl0 dn0 1 F0.length _ (by omega) (by omega) M16.out).mono ?_
  rintro e w17 ⟨rfl, hb17⟩
  have B17 : Hid (Below w.heap.size w w17) := bto B16.out hb17
  have A17 : Hid (Blk w17 w.heap.size #[.slice a fs.length cap, .int .i64 c, .int .i64 k, .int .i64 cr, .int .i64 fl, .bool dn] 24) := A16.out.later hb17
  have O17 : Hid (Blk w17 (w.heap.size + 1) #[.int .i64 op.kind, .string op.name, .string op.to, .string op.data, .int .i64 op.size] 26) := O16.out.later hb17
  have W17 : Hid (Blk w17 P #[.slice aw F0.length cw, .int .i64 c0, .int .i64 k0, .int .i64 cr0, .int .i64 fl0, .bool dn0] 31) := W16.out.later hb17
  have FW17 : Hid (FilesIn w17 aw F0) := FW16.out.later hb17
  clear B16 A16 O16 W16 FW16
  clear z0 z1 z2 z3 z4 z5 hb17 GB16 M16
  have HFK : Hid (∀ w', Below w17.heap.size w17 w' → FilesIn w' a fs) := fun w' h => HF.out.later (bto B17.out h)
  have HK : Hid (∀ w', Below w17.heap.size w17 w' → w'.cell? ⟨w.heap.size, 0, none⟩ = some (.slice a fs.length cap) ∧ w'.cell? ⟨w.heap.size, 1, none⟩ = some (.int .i64 c) ∧ w'.cell? ⟨w.heap.size, 2, none⟩ = some (.int .i64 k) ∧ w'.cell? ⟨w.heap.size, 3, none⟩ = some (.int .i64 cr) ∧ w'.cell? ⟨w.heap.size, 4, none⟩ = some (.int .i64 fl) ∧ w'.cell? ⟨w.heap.size, 5, none⟩ = some (.bool dn) ∧ w'.cell? ⟨w.heap.size + 1, 0, none⟩ = some (.int .i64 op.kind) ∧ w'.cell? ⟨w.heap.size + 1, 1, none⟩ = some (.string op.name) ∧ w'.cell? ⟨w.heap.size + 1, 2, none⟩ = some (.string op.to) ∧ w'.cell? ⟨w.heap.size + 1, 3, none⟩ = some (.string op.data) ∧ w'.cell? ⟨w.heap.size + 1, 4, none⟩ = some (.int .i64 op.size)) := fun w' h => by
    obtain ⟨a0, a1, a2, a3, a4, a5⟩ := (A17.out.later h).six
    obtain ⟨b0, b1, b2, b3, b4⟩ := (O17.out.later h).five
    exact ⟨a0, a1, a2, a3, a4, a5, b0, b1, b2, b3, b4⟩
  obtain ⟨x0, x1, x2, x3, x4, x5⟩ := A17.out.six
  obtain ⟨o0, o1, o2, o3, o4⟩ := O17.out.five
  have hkk : ¬ (((1 + 3 * F0.length : Nat) : Int) < 0) := by omega
  go_upto_region 27 with fail
  go_cut [14, 15] (fun s14 s15 wx => ∃ (R : Nat) (ah : Option Addr) (ch : Nat), s14 = .pointer (some ⟨R, 0, none⟩) ∧ s15 = .int .i64 code ∧ Blk wx R #[.slice ah F0.length ch, .int .i64 c0, .int .i64 k0, .int .i64 cr0, .int .i64 fl0, .bool dn0] 31 ∧ FilesIn wx ah F0 ∧ Below w17.heap.size w17 wx)
  case first =>
    go_region_held3 (fun w' => w'.cell? ⟨w.heap.size, 0, none⟩ = some (.slice a fs.length cap) ∧ w'.cell? ⟨w.heap.size, 1, none⟩ = some (.int .i64 c) ∧ w'.cell? ⟨w.heap.size, 2, none⟩ = some (.int .i64 k) ∧ w'.cell? ⟨w.heap.size, 3, none⟩ = some (.int .i64 cr) ∧ w'.cell? ⟨w.heap.size, 4, none⟩ = some (.int .i64 fl) ∧ w'.cell? ⟨w.heap.size, 5, none⟩ = some (.bool dn) ∧ w'.cell? ⟨w.heap.size + 1, 0, none⟩ = some (.int .i64 op.kind) ∧ w'.cell? ⟨w.heap.size + 1, 1, none⟩ = some (.string op.name) ∧ w'.cell? ⟨w.heap.size + 1, 2, none⟩ = some (.string op.to) ∧ w'.cell? ⟨w.heap.size + 1, 3, none⟩ = some (.string op.data) ∧ w'.cell? ⟨w.heap.size + 1, 4, none⟩ = some (.int .i64 op.size))
      (exact HK.out _ (by repeat (first | with_reducible refine Below.setCell ?_ (by first | exact Nat.le_refl _ | exact low (by repeat (first | with_reducible exact Below.refl _ _ | exact (Below.refl _ _).drew | with_reducible refine bto ?_ (bnew _ _) | with_reducible refine Below.drew ?_ | refine bto ?_ (by assumption)))) _ | with_reducible exact Below.refl _ _ | with_reducible refine bto ?_ (bnew _ _) | with_reducible refine Below.drew ?_ | exact (Below.refl _ _).drew | refine bto ?_ (by assumption))))
      (first
      | (go_at_call 7; refine (toDisk_any a cap fs c k cr fl dn _ (HFK.out _ (by repeat (first | with_reducible refine Below.setCell ?_ (by first | exact Nat.le_refl _ | exact low (by repeat (first | with_reducible exact Below.refl _ _ | exact (Below.refl _ _).drew | with_reducible refine bto ?_ (bnew _ _) | with_reducible refine Below.drew ?_ | refine bto ?_ (by assumption)))) _ | with_reducible exact Below.refl _ _ | with_reducible refine bto ?_ (bnew _ _) | with_reducible refine Below.drew ?_ | exact (Below.refl _ _).drew | refine bto ?_ (by assumption)))) hl20).mono ?_; rintro e v2 ⟨g4, rfl, _, _, hf2, hb2⟩; (first | (have hz := blk_of_drew hb2) | (have hz : Blk _ v3.heap.size _ _ := blk_of_alloc hb2) | (have hz := hz.later hb2) | skip))
      | (go_at_call 8; refine (toDiskOp_any op _).mono ?_; rintro e v3 ⟨rfl, hb3⟩; (first | (have hz := blk_of_drew hb3) | (have hz : Blk _ v2.heap.size _ _ := blk_of_alloc hb3) | (have hz := hz.later hb3) | skip))
      | (go_at_call 9; refine (HIM.out _ _ _ (hf2.later (by repeat (first | with_reducible refine Below.setCell ?_ (by first | exact Nat.le_refl _ | exact low (by repeat (first | with_reducible exact Below.refl _ _ | exact (Below.refl _ _).drew | with_reducible refine bto ?_ (bnew _ _) | with_reducible refine Below.drew ?_ | refine bto ?_ (by assumption)))) _ | with_reducible exact Below.refl _ _ | with_reducible refine bto ?_ (bnew _ _) | with_reducible refine Below.drew ?_ | exact (Below.refl _ _).drew | refine bto ?_ (by assumption))))).mono ?_; rintro e v4 ⟨ah, ch, rfl, hoh, hb4⟩; (first | (have hz := blk_of_drew hb4) | (have hz : Blk _ v2.heap.size _ _ := blk_of_alloc hb4) | (have hz : Blk _ v3.heap.size _ _ := blk_of_alloc hb4) | (have hz := hz.later hb4) | skip); (try (obtain ⟨q0, q1, q2, q3, q4, q5⟩ := hz.six; have f0 := hz.free 0; have f1 := hz.free 1; have f2 := hz.free 2; have f3 := hz.free 3; have f4 := hz.free 4; have f5 := hz.free 5))))
    all_goals (go_wp2_with fail; go_meet)
    · refine ⟨v4.heap.size, ah, ch, rfl, rfl, ?_, ?_, ?_⟩
      · exact blk_new _ _ _
      · exact hoh.files.later (bnew _ _)
      · exact (by repeat (first | with_reducible refine Below.setCell ?_ (by first | exact Nat.le_refl _ | exact low (by repeat (first | with_reducible exact Below.refl _ _ | exact (Below.refl _ _).drew | with_reducible refine bto ?_ (bnew _ _) | with_reducible refine Below.drew ?_ | refine bto ?_ (by assumption)))) _ | with_reducible exact Below.refl _ _ | with_reducible refine bto ?_ (bnew _ _) | with_reducible refine Below.drew ?_ | exact (Below.refl _ _).drew | refine bto ?_ (by assumption)))
    · refine ⟨v3.heap.size, ah, ch, rfl, rfl, ?_, ?_, ?_⟩
      · exact blk_fill hz
      · exact hoh.files.apart (apart_zero hoh.files hz) (but_fill _ _ _ _ _ _)
      · exact (by repeat (first | with_reducible refine Below.setCell ?_ (by first | exact Nat.le_refl _ | exact low (by repeat (first | with_reducible exact Below.refl _ _ | exact (Below.refl _ _).drew | with_reducible refine bto ?_ (bnew _ _) | with_reducible refine Below.drew ?_ | refine bto ?_ (by assumption)))) _ | with_reducible exact Below.refl _ _ | with_reducible refine bto ?_ (bnew _ _) | with_reducible refine Below.drew ?_ | exact (Below.refl _ _).drew | refine bto ?_ (by assumption)))
    · refine ⟨v2.heap.size, ah, ch, rfl, rfl, ?_, ?_, ?_⟩
      · exact blk_fill hz
      · exact hoh.files.apart (apart_zero hoh.files hz) (but_fill _ _ _ _ _ _)
      · exact (by repeat (first | with_reducible refine Below.setCell ?_ (by first | exact Nat.le_refl _ | exact low (by repeat (first | with_reducible exact Below.refl _ _ | exact (Below.refl _ _).drew | with_reducible refine bto ?_ (bnew _ _) | with_reducible refine Below.drew ?_ | refine bto ?_ (by assumption)))) _ | with_reducible exact Below.refl _ _ | with_reducible refine bto ?_ (bnew _ _) | with_reducible refine Below.drew ?_ | exact (Below.refl _ _).drew | refine bto ?_ (by assumption)))
    · refine ⟨w17.heap.size, ah, ch, rfl, rfl, ?_, ?_, ?_⟩
      · exact blk_fill hz
      · exact hoh.files.apart (apart_zero hoh.files hz) (but_fill _ _ _ _ _ _)
      · exact (by repeat (first | with_reducible refine Below.setCell ?_ (by first | exact Nat.le_refl _ | exact low (by repeat (first | with_reducible exact Below.refl _ _ | exact (Below.refl _ _).drew | with_reducible refine bto ?_ (bnew _ _) | with_reducible refine Below.drew ?_ | refine bto ?_ (by assumption)))) _ | with_reducible exact Below.refl _ _ | with_reducible refine bto ?_ (bnew _ _) | with_reducible refine Below.drew ?_ | exact (Below.refl _ _).drew | refine bto ?_ (by assumption)))
  obtain ⟨R, ah, ch, rfl, rfl, HB20r, OH, hb20⟩ := hcut
  rename World => w20
  have HB20 : Hid (Blk w20 R #[.slice ah F0.length ch, .int .i64 c0, .int .i64 k0, .int .i64 cr0, .int .i64 fl0, .bool dn0] 31) := HB20r
  have OH20 : Hid (FilesIn w20 ah F0) := OH
  clear HB20r OH HK HFK x0 x1 x2 x3 x4 x5 o0 o1 o2 o3 o4 hkk A17 O17
  have B20 : Hid (Below w.heap.size w w20) := bto B17.out hb20
  have W20 : Hid (Blk w20 P #[.slice aw F0.length cw, .int .i64 c0, .int .i64 k0, .int .i64 cr0, .int .i64 fl0, .bool dn0] 31) := W17.out.later hb20
  have FW20 : Hid (FilesIn w20 aw F0) := FW17.out.later hb20
  clear B17 W17 FW17
  obtain ⟨y0, y1, y2, y3, y4, y5⟩ := W20.out.six
  obtain ⟨z0, z1, z2, z3, z4, z5⟩ := HB20.out.six
  clear hb20
  go_wp2_with fail
  refine (eqDisk_same _ _ _ _ F0 c0 k0 cr0 fl0 dn0 _ OH20.out FW20.out (by simp [maxLen]; omega)).mono ?_
  rintro e w21 ⟨rfl, hb21⟩
  have B21 : Hid (Below w.heap.size w w21) := bto B20.out hb21
  clear hb21 y0 y1 y2 y3 y4 y5 z0 z1 z2 z3 z4 z5
  go_wp2
  go_ret
  exact ⟨rfl, B21.out⟩
end Go.Proofs.Ytboofidegpnkaaa

