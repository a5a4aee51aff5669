import Derived.Test.YtboofidegpnkaaaGreatDoorProg
import Derived.Test.YtboofidegpnkaaaGreatDoorJ27LawBoxA
import Derived.Test.YtboofidegpnkaaaGreatDoorJ28Reg7
import Derived.Test.YtboofidegpnkaaaGreatDoorJ29Reg9
import Derived.Test.YtboofidegpnkaaaGreatDoorJ30Reg26
import Derived.Deep.RegionHeld3
import Derived.Deep.DeepCutAuto
import Derived.Test.YtboofidegpnkaaaGreatDoorJ23SApp
import Derived.Test.YtboofidegpnkaaaGreatDoorJ26LogEq
import Derived.Test.YtboofidegpnkaaaGreatDoorJ21SegL
import Derived.Test.YtboofidegpnkaaaGreatDoorJ01Btw
import Derived.ProofKit
import Derived.OpenShut
import Derived.Deep.Slices
import Derived.Deep.Strs
namespace Go.Proofs.YtboofidegpnkaaaGreatDoor
open Go.RowKit
set_option maxRecDepth 100000 in
set_option maxHeartbeats 8000000 in
theorem lawApp_core (a : Option Addr) (cap : Nat) (K : DiskD) (L : LogD) (p : ByteArray) (most : Int) (w : World) (K0 : DiskD) (L0 : LogD) (code : Int) (HF : Hid (FilesIn w a K.fs)) (hs : Short K.fs) (hlen : K.fs.length ≤ maxLen) (hp : p.size ≤ 1048576)
    (hneg : ¬ szFs 1048576 K.fs < 0) (hl20 : K.fs.length ≤ 1048576) (hFl2 : K0.fs.length ≤ 1048580)
    (HSP : Hid (∀ a' cap' W, FilesIn W a' K.fs → Calls Tryz.prog 5 #[.agg #[.slice a' K.fs.length cap', .int .i64 K.c, .int .i64 K.k, .int .i64 K.cr, .int .i64 K.fl, .bool K.dn], .agg #[.int .i64 L.first, .int .i64 L.last, .int .i64 L.size], .string p, .int .i64 most] W fun e w' => ∃ aw cw, e = .returned (.tuple #[.agg #[.slice aw K0.fs.length cw, .int .i64 K0.c, .int .i64 K0.k, .int .i64 K0.cr, .int .i64 K0.fl, .bool K0.dn], .agg #[.int .i64 L0.first, .int .i64 L0.last, .int .i64 L0.size], .int .i64 code]) ∧ FilesIn w' aw K0.fs ∧ Below W.heap.size W w'))
    (HIM : Hid (∀ a' cap' W, Below w.heap.size w W → FilesIn W a' K.fs → Calls Tryz.prog 8 #[.agg #[.slice a' K.fs.length cap', .int .i64 K.c, .int .i64 K.k, .int .i64 K.cr, .int .i64 K.fl, .bool K.dn], .agg #[.int .i64 L.first, .int .i64 L.last, .int .i64 L.size], .string p, .int .i64 most] W fun e w' => ∃ ag cg, e = .returned (.tuple #[.agg #[.slice ag K0.fs.length cg, .int .i64 K0.c, .int .i64 K0.k, .int .i64 K0.cr, .int .i64 K0.fl, .bool K0.dn], .agg #[.int .i64 L0.first, .int .i64 L0.last, .int .i64 L0.size], .int .i64 code]) ∧ Owned w' W.heap.size ag K0.fs ∧ Below W.heap.size W w')) :
    Calls Tryz.prog 3 #[.agg #[.slice a K.fs.length cap, .int .i64 K.c, .int .i64 K.k, .int .i64 K.cr, .int .i64 K.fl, .bool K.dn], .agg #[.int .i64 L.first, .int .i64 L.last, .int .i64 L.size], .string p, .int .i64 most] w fun e w' => e = .returned (.bool true) ∧ Below w.heap.size w w' := by
  have HL : Hid (K.fs.length ≤ maxLen) := hlen
  have hpi : ¬ (1048576 : Int) < (p.size : Int) := by omega
  go_enter Tryz.func3, Tryz.ntmps3
  go_wp2_with fail
  refine (szDisk_any a cap K.fs K.c K.k K.cr K.fl K.dn 1048576 _ (by omega) (by omega) ((HF.out.later (bnew _ _)).later (bnew _ _)) hs hlen).mono ?_
  rintro e w1 ⟨rfl, hb1⟩
  obtain ⟨hA1, hO1, hbl1⟩ := twoBoxes hb1
  have A1 : Hid (Blk w1 w.heap.size #[.slice a K.fs.length cap, .int .i64 K.c, .int .i64 K.k, .int .i64 K.cr, .int .i64 K.fl, .bool K.dn] 24) := hA1
  have O1 : Hid (Blk w1 (w.heap.size + 1) #[.int .i64 L.first, .int .i64 L.last, .int .i64 L.size] 26) := hO1
  have B1 : Hid (Below w.heap.size w w1) := hbl1
  have HFK : Hid (∀ w', Below w1.heap.size w1 w' → FilesIn w' a K.fs) := fun w' h => HF.out.later (bto B1.out h)
  have HKA : Hid (KA w.heap.size K L a cap w1) := ⟨A1.out, O1.out⟩
  have hN1 : w.heap.size + 1 < w1.heap.size := lt_of_block O1.out
  obtain ⟨x0, x1, x2, x3, x4, x5⟩ := A1.out.six
  obtain ⟨o0, o1, o2⟩ := O1.out.three
  clear hb1 hA1 hO1 hbl1 hs hlen
  go_upto_region 7 with fail
  go_cut [10, 11, 12] (fun s10 s11 s12 wx => ∃ (P PL : Nat) (aw : Option Addr) (cw : Nat), s10 = .pointer (some ⟨P, 0, none⟩) ∧ s11 = .pointer (some ⟨PL, 0, none⟩) ∧ s12 = .int .i64 code ∧ Blk wx P #[.slice aw K0.fs.length cw, .int .i64 K0.c, .int .i64 K0.k, .int .i64 K0.cr, .int .i64 K0.fl, .bool K0.dn] 30 ∧ Blk wx PL #[.int .i64 L0.first, .int .i64 L0.last, .int .i64 L0.size] 31 ∧ FilesIn wx aw K0.fs ∧ Below w1.heap.size w1 wx)
  case first => exact reg7 (aw := none) (cw := 0) hl20 HSP HFK HKA hN1 (by with_reducible assumption) (by with_reducible assumption)
  obtain ⟨P, PL, aw, cw, rfl, rfl, rfl, W4r, V4r, FW4r, B4r⟩ := hcut
  rename World => w4
  have W4 : Hid (Blk w4 P #[.slice aw K0.fs.length cw, .int .i64 K0.c, .int .i64 K0.k, .int .i64 K0.cr, .int .i64 K0.fl, .bool K0.dn] 30) := W4r
  have V4 : Hid (Blk w4 PL #[.int .i64 L0.first, .int .i64 L0.last, .int .i64 L0.size] 31) := V4r
  have FW4 : Hid (FilesIn w4 aw K0.fs) := FW4r
  have FR : Hid (Front aw K0.fs w4.heap.size) := front_of FW4r
  have A4 : Hid (Blk w4 w.heap.size #[.slice a K.fs.length cap, .int .i64 K.c, .int .i64 K.k, .int .i64 K.cr, .int .i64 K.fl, .bool K.dn] 24) := A1.out.later B4r
  have O4 : Hid (Blk w4 (w.heap.size + 1) #[.int .i64 L.first, .int .i64 L.last, .int .i64 L.size] 26) := O1.out.later B4r
  have B4 : Hid (Below w.heap.size w w4) := bto B1.out B4r
  have hP4 : P < w4.heap.size := lt_of_block W4r
  have hPL4 : PL < w4.heap.size := lt_of_block V4r
  have hN4 : w.heap.size + 1 < w4.heap.size := lt_of_block O4.out
  obtain ⟨e0, e1, e2, e3, e4, e5⟩ := A4.out.six
  clear W4r V4r FW4r B4r A1 O1 B1 HFK HKA x0 x1 x2 x3 x4 x5 o0 o1 o2
  go_upto_region 8 with fail
  go_cut [13] (fun s13 wx => ∃ (g2 Q : Nat), s13 = .pointer (some ⟨Q, 0, none⟩) ∧ w4.heap.size ≤ g2 ∧ g2 < Q ∧ Blk wx Q #[.slice (some ⟨g2, 0, none⟩) K.fs.length K.fs.length, .int .i64 K.c, .int .i64 K.k, .int .i64 K.cr, .int .i64 K.fl, .bool K.dn] 30 ∧ Owned wx g2 (some ⟨g2, 0, none⟩) K.fs ∧ Below w4.heap.size w4 wx)
  case first =>
    go_wp2_with fail
    refine (toDisk_any a cap K.fs K.c K.k K.cr K.fl K.dn _ (HF.out.later B4.out) hl20).mono ?_
    rintro e w5 ⟨g2, rfl, hg2, hx2, hf5, hb5⟩
    have H5 : Hid (w4.heap.size ≤ g2 ∧ g2 < w5.heap.size ∧ Owned w5 g2 (some ⟨g2, 0, none⟩) K.fs ∧ Below w4.heap.size w4 w5) := ⟨hg2, (by obtain ⟨_, _, h⟩ := hx2; exact lt_of_block h), owned_of hf5 hx2 (Nat.le_refl _), hb5⟩
    clear hg2 hx2 hf5 hb5 e0 e1 e2 e3 e4 e5
    go_wp2_with fail
    go_meet
    exact ⟨g2, w5.heap.size, rfl, H5.out.1, H5.out.2.1, blk_new _ _ _, H5.out.2.2.1.later (bnew _ _), bto H5.out.2.2.2 (bnew _ _)⟩
  obtain ⟨g2, Q, rfl, hg2, hQ, XB6r, X6r, B6r⟩ := hcut
  rename World => w6
  have XB6 : Hid (Blk w6 Q #[.slice (some ⟨g2, 0, none⟩) K.fs.length K.fs.length, .int .i64 K.c, .int .i64 K.k, .int .i64 K.cr, .int .i64 K.fl, .bool K.dn] 30) := XB6r
  have X6 : Hid (Owned w6 g2 (some ⟨g2, 0, none⟩) K.fs) := X6r
  have W6 : Hid (Blk w6 P #[.slice aw K0.fs.length cw, .int .i64 K0.c, .int .i64 K0.k, .int .i64 K0.cr, .int .i64 K0.fl, .bool K0.dn] 30) := W4.out.later B6r
  have V6 : Hid (Blk w6 PL #[.int .i64 L0.first, .int .i64 L0.last, .int .i64 L0.size] 31) := V4.out.later B6r
  have FW6 : Hid (FilesIn w6 aw K0.fs) := FW4.out.later B6r
  have B6 : Hid (Below w.heap.size w w6) := bto B4.out B6r
  have A6 : Hid (Blk w6 w.heap.size #[.slice a K.fs.length cap, .int .i64 K.c, .int .i64 K.k, .int .i64 K.cr, .int .i64 K.fl, .bool K.dn] 24) := A4.out.later B6r
  have O6 : Hid (Blk w6 (w.heap.size + 1) #[.int .i64 L.first, .int .i64 L.last, .int .i64 L.size] 26) := O4.out.later B6r
  have hQ6 : Q < w6.heap.size := lt_of_block XB6r
  have HKB : Hid (KB Q (w.heap.size + 1) #[.slice (some ⟨g2, 0, none⟩) K.fs.length K.fs.length, .int .i64 K.c, .int .i64 K.k, .int .i64 K.cr, .int .i64 K.fl, .bool K.dn] #[.int .i64 L.first, .int .i64 L.last, .int .i64 L.size] 30 26 w6) := ⟨XB6.out, O6.out⟩
  clear XB6r X6r B6r W4 V4 FW4 A4 O4 B4 e0 e1 e2 e3 e4 e5
  go_upto_region 9 with fail
  go_cut [14, 15, 16] (fun s14 s15 s16 wx => ∃ (G GL1 : Nat) (ag : Option Addr) (cg : Nat), s14 = .pointer (some ⟨G, 0, none⟩) ∧ s15 = .pointer (some ⟨GL1, 0, none⟩) ∧ s16 = .int .i64 code ∧ w6.heap.size ≤ G ∧ w6.heap.size ≤ GL1 ∧ Blk wx G #[.slice ag K0.fs.length cg, .int .i64 K0.c, .int .i64 K0.k, .int .i64 K0.cr, .int .i64 K0.fl, .bool K0.dn] 30 ∧ Blk wx GL1 #[.int .i64 L0.first, .int .i64 L0.last, .int .i64 L0.size] 31 ∧ Owned wx w6.heap.size ag K0.fs ∧ Apart ag K0.fs G ∧ Below w6.heap.size w6 wx)
  case first => exact reg9 (ag := none) (cg := 0) HIM B6 X6 HKB hQ6 hN4 hg2 hQ (by with_reducible assumption) (by with_reducible assumption)
  obtain ⟨G, GL1, ag, cg, rfl, rfl, rfl, hG, hGL, GB7r, GL7r, G7r, AP, hb7⟩ := hcut
  rename World => w7
  have GB7 : Hid (Blk w7 G #[.slice ag K0.fs.length cg, .int .i64 K0.c, .int .i64 K0.k, .int .i64 K0.cr, .int .i64 K0.fl, .bool K0.dn] 30) := GB7r
  have GL7 : Hid (Blk w7 GL1 #[.int .i64 L0.first, .int .i64 L0.last, .int .i64 L0.size] 31) := GL7r
  have G7 : Hid (Owned w7 w6.heap.size ag K0.fs) := G7r
  have APH : Hid (Apart ag K0.fs G) := AP
  have hG7 : G < w7.heap.size := lt_of_block GB7r
  have hGL7 : GL1 < w7.heap.size := lt_of_block GL7r
  clear GB7r GL7r G7r AP HKB
  have B7 : Hid (Below w.heap.size w w7) := bto B6.out hb7
  have A7 : Hid (Blk w7 w.heap.size #[.slice a K.fs.length cap, .int .i64 K.c, .int .i64 K.k, .int .i64 K.cr, .int .i64 K.fl, .bool K.dn] 24) := A6.out.later hb7
  have O7 : Hid (Blk w7 (w.heap.size + 1) #[.int .i64 L.first, .int .i64 L.last, .int .i64 L.size] 26) := O6.out.later hb7
  have W7 : Hid (Blk w7 P #[.slice aw K0.fs.length cw, .int .i64 K0.c, .int .i64 K0.k, .int .i64 K0.cr, .int .i64 K0.fl, .bool K0.dn] 30) := W6.out.later hb7
  have V7 : Hid (Blk w7 PL #[.int .i64 L0.first, .int .i64 L0.last, .int .i64 L0.size] 31) := V6.out.later hb7
  have FW7 : Hid (FilesIn w7 aw K0.fs) := FW6.out.later hb7
  have X7 : Hid (Owned w7 g2 (some ⟨g2, 0, none⟩) K.fs) := X6.out.later hb7
  have XB7 : Hid (Blk w7 Q #[.slice (some ⟨g2, 0, none⟩) K.fs.length K.fs.length, .int .i64 K.c, .int .i64 K.k, .int .i64 K.cr, .int .i64 K.fl, .bool K.dn] 30) := XB6.out.later hb7
  clear B6 A6 O6 W6 V6 FW6 X6 XB6
  clear hb7
  obtain ⟨y0, y1, y2, y3, y4, y5⟩ := W7.out.six
  obtain ⟨z0, z1, z2, z3, z4, z5⟩ := GB7.out.six
  go_wp2_with fail
  refine (eqDisk_same _ _ _ _ K0.fs K0.c K0.k K0.cr K0.fl K0.dn _ G7.out.files FW7.out (by simp [maxLen]; omega)).mono ?_
  rintro e w80 ⟨rfl, hb80⟩
  have B80 : Hid (Below w.heap.size w w80) := bto B7.out hb80
  have A80 : Hid (Blk w80 w.heap.size #[.slice a K.fs.length cap, .int .i64 K.c, .int .i64 K.k, .int .i64 K.cr, .int .i64 K.fl, .bool K.dn] 24) := A7.out.later hb80
  have O80 : Hid (Blk w80 (w.heap.size + 1) #[.int .i64 L.first, .int .i64 L.last, .int .i64 L.size] 26) := O7.out.later hb80
  have W80 : Hid (Blk w80 P #[.slice aw K0.fs.length cw, .int .i64 K0.c, .int .i64 K0.k, .int .i64 K0.cr, .int .i64 K0.fl, .bool K0.dn] 30) := W7.out.later hb80
  have V80 : Hid (Blk w80 PL #[.int .i64 L0.first, .int .i64 L0.last, .int .i64 L0.size] 31) := V7.out.later hb80
  have FW80 : Hid (FilesIn w80 aw K0.fs) := FW7.out.later hb80
  have X80 : Hid (Owned w80 g2 (some ⟨g2, 0, none⟩) K.fs) := X7.out.later hb80
  have XB80 : Hid (Blk w80 Q #[.slice (some ⟨g2, 0, none⟩) K.fs.length K.fs.length, .int .i64 K.c, .int .i64 K.k, .int .i64 K.cr, .int .i64 K.fl, .bool K.dn] 30) := XB7.out.later hb80
  have G80 : Hid (Owned w80 w6.heap.size ag K0.fs) := G7.out.later hb80
  have GB80 : Hid (Blk w80 G #[.slice ag K0.fs.length cg, .int .i64 K0.c, .int .i64 K0.k, .int .i64 K0.cr, .int .i64 K0.fl, .bool K0.dn] 30) := GB7.out.later hb80
  have GL80 : Hid (Blk w80 GL1 #[.int .i64 L0.first, .int .i64 L0.last, .int .i64 L0.size] 31) := GL7.out.later hb80
  clear B7 A7 O7 W7 V7 FW7 X7 XB7 G7 GB7 GL7
  clear y0 y1 y2 y3 y4 y5 z0 z1 z2 z3 z4 z5 hb80
  obtain ⟨y0, y1, y2⟩ := V80.out.three
  obtain ⟨z0, z1, z2⟩ := GL80.out.three
  go_wp2_with fail
  refine (eqLog_same L0.first L0.last L0.size _).mono ?_
  rintro e w8 ⟨rfl, hb8⟩
  have B8 : Hid (Below w.heap.size w w8) := bto B80.out hb8
  have A8 : Hid (Blk w8 w.heap.size #[.slice a K.fs.length cap, .int .i64 K.c, .int .i64 K.k, .int .i64 K.cr, .int .i64 K.fl, .bool K.dn] 24) := A80.out.later hb8
  have O8 : Hid (Blk w8 (w.heap.size + 1) #[.int .i64 L.first, .int .i64 L.last, .int .i64 L.size] 26) := O80.out.later hb8
  have W8 : Hid (Blk w8 P #[.slice aw K0.fs.length cw, .int .i64 K0.c, .int .i64 K0.k, .int .i64 K0.cr, .int .i64 K0.fl, .bool K0.dn] 30) := W80.out.later hb8
  have V8 : Hid (Blk w8 PL #[.int .i64 L0.first, .int .i64 L0.last, .int .i64 L0.size] 31) := V80.out.later hb8
  have FW8 : Hid (FilesIn w8 aw K0.fs) := FW80.out.later hb8
  have X8 : Hid (Owned w8 g2 (some ⟨g2, 0, none⟩) K.fs) := X80.out.later hb8
  have XB8 : Hid (Blk w8 Q #[.slice (some ⟨g2, 0, none⟩) K.fs.length K.fs.length, .int .i64 K.c, .int .i64 K.k, .int .i64 K.cr, .int .i64 K.fl, .bool K.dn] 30) := XB80.out.later hb8
  have G8 : Hid (Owned w8 w6.heap.size ag K0.fs) := G80.out.later hb8
  have GB8 : Hid (Blk w8 G #[.slice ag K0.fs.length cg, .int .i64 K0.c, .int .i64 K0.k, .int .i64 K0.cr, .int .i64 K0.fl, .bool K0.dn] 30) := GB80.out.later hb8
  have GL8 : Hid (Blk w8 GL1 #[.int .i64 L0.first, .int .i64 L0.last, .int .i64 L0.size] 31) := GL80.out.later hb8
  clear B80 A80 O80 W80 V80 FW80 X80 XB80 G80 GB80 GL80
  clear y0 y1 y2 z0 z1 z2 hb8
  have HK : Hid (∀ w', Below w8.heap.size w8 w' → w'.cell? ⟨w.heap.size, 0, none⟩ = some (.slice a K.fs.length cap) ∧ w'.cell? ⟨w.heap.size, 1, none⟩ = some (.int .i64 K.c) ∧ w'.cell? ⟨w.heap.size, 2, none⟩ = some (.int .i64 K.k) ∧ w'.cell? ⟨w.heap.size, 3, none⟩ = some (.int .i64 K.cr) ∧ w'.cell? ⟨w.heap.size, 4, none⟩ = some (.int .i64 K.fl) ∧ w'.cell? ⟨w.heap.size, 5, none⟩ = some (.bool K.dn) ∧ w'.cell? ⟨Q, 0, none⟩ = some (.slice (some ⟨g2, 0, none⟩) K.fs.length K.fs.length) ∧ w'.cell? ⟨Q, 1, none⟩ = some (.int .i64 K.c) ∧ w'.cell? ⟨Q, 2, none⟩ = some (.int .i64 K.k) ∧ w'.cell? ⟨Q, 3, none⟩ = some (.int .i64 K.cr) ∧ w'.cell? ⟨Q, 4, none⟩ = some (.int .i64 K.fl) ∧ w'.cell? ⟨Q, 5, none⟩ = some (.bool K.dn)) := fun w' h => by
    obtain ⟨a0, a1, a2, a3, a4, a5⟩ := (A8.out.later h).six
    obtain ⟨b0, b1, b2, b3, b4, b5⟩ := (XB8.out.later h).six
    exact ⟨a0, a1, a2, a3, a4, a5, b0, b1, b2, b3, b4, b5⟩
  obtain ⟨x0, x1, x2, x3, x4, x5⟩ := A8.out.six
  obtain ⟨z0, z1, z2, z3, z4, z5⟩ := XB8.out.six
  go_wp2_with fail
  go_region_held3 (fun w' => w'.cell? ⟨w.heap.size, 0, none⟩ = some (.slice a K.fs.length cap) ∧ w'.cell? ⟨w.heap.size, 1, none⟩ = some (.int .i64 K.c) ∧ w'.cell? ⟨w.heap.size, 2, none⟩ = some (.int .i64 K.k) ∧ w'.cell? ⟨w.heap.size, 3, none⟩ = some (.int .i64 K.cr) ∧ w'.cell? ⟨w.heap.size, 4, none⟩ = some (.int .i64 K.fl) ∧ w'.cell? ⟨w.heap.size, 5, none⟩ = some (.bool K.dn) ∧ w'.cell? ⟨Q, 0, none⟩ = some (.slice (some ⟨g2, 0, none⟩) K.fs.length K.fs.length) ∧ w'.cell? ⟨Q, 1, none⟩ = some (.int .i64 K.c) ∧ w'.cell? ⟨Q, 2, none⟩ = some (.int .i64 K.k) ∧ w'.cell? ⟨Q, 3, none⟩ = some (.int .i64 K.cr) ∧ w'.cell? ⟨Q, 4, none⟩ = some (.int .i64 K.fl) ∧ w'.cell? ⟨Q, 5, none⟩ = some (.bool K.dn))
    (exact HK.out _ (by repeat (first | with_reducible refine Below.setCell ?_ (by first | exact Nat.le_refl _ | exact Nat.le_succ _ | exact low (by repeat (first | with_reducible exact Below.refl _ _ | exact (Below.refl _ _).drew | with_reducible refine bto ?_ (bnew _ _) | with_reducible refine Below.drew ?_ | refine bto ?_ (by assumption))) | exact Nat.le_trans (low (by repeat (first | with_reducible exact Below.refl _ _ | exact (Below.refl _ _).drew | with_reducible refine bto ?_ (bnew _ _) | with_reducible refine Below.drew ?_ | refine bto ?_ (by assumption)))) (Nat.le_succ _)) _ | with_reducible exact Below.refl _ _ | with_reducible refine bto ?_ (bnew _ _) | with_reducible refine Below.drew ?_ | exact (Below.refl _ _).drew | refine bto ?_ (by assumption))))
    (first
    | (go_at_call 6; refine (toDisk_any a cap K.fs K.c K.k K.cr K.fl K.dn _ (HF.out.later (bto B8.out (Below.refl _ _).drew)) hl20).mono ?_; rintro e w9 ⟨g3, rfl, _, _, hf9, hb9⟩)
    | (go_at_call 9; refine (eqDisk_same _ _ _ _ K.fs K.c K.k K.cr K.fl K.dn _ ((X8.out.files.later (Below.refl _ _).drew).later hb9) hf9 HL.out).mono ?_; rintro e w10 ⟨rfl, hb10⟩))
  have hb10' : Below w8.heap.size w8 w10 := bto (bto (Below.refl _ _).drew hb9) hb10
  have B10 : Hid (Below w.heap.size w w10) := bto B8.out hb10'
  have A10 : Hid (Blk w10 w.heap.size #[.slice a K.fs.length cap, .int .i64 K.c, .int .i64 K.k, .int .i64 K.cr, .int .i64 K.fl, .bool K.dn] 24) := A8.out.later hb10'
  have O10 : Hid (Blk w10 (w.heap.size + 1) #[.int .i64 L.first, .int .i64 L.last, .int .i64 L.size] 26) := O8.out.later hb10'
  have W10 : Hid (Blk w10 P #[.slice aw K0.fs.length cw, .int .i64 K0.c, .int .i64 K0.k, .int .i64 K0.cr, .int .i64 K0.fl, .bool K0.dn] 30) := W8.out.later hb10'
  have V10 : Hid (Blk w10 PL #[.int .i64 L0.first, .int .i64 L0.last, .int .i64 L0.size] 31) := V8.out.later hb10'
  have FW10 : Hid (FilesIn w10 aw K0.fs) := FW8.out.later hb10'
  have X10 : Hid (Owned w10 g2 (some ⟨g2, 0, none⟩) K.fs) := X8.out.later hb10'
  have XB10 : Hid (Blk w10 Q #[.slice (some ⟨g2, 0, none⟩) K.fs.length K.fs.length, .int .i64 K.c, .int .i64 K.k, .int .i64 K.cr, .int .i64 K.fl, .bool K.dn] 30) := XB8.out.later hb10'
  have G10 : Hid (Owned w10 w6.heap.size ag K0.fs) := G8.out.later hb10'
  have GB10 : Hid (Blk w10 G #[.slice ag K0.fs.length cg, .int .i64 K0.c, .int .i64 K0.k, .int .i64 K0.cr, .int .i64 K0.fl, .bool K0.dn] 30) := GB8.out.later hb10'
  have GL10 : Hid (Blk w10 GL1 #[.int .i64 L0.first, .int .i64 L0.last, .int .i64 L0.size] 31) := GL8.out.later hb10'
  clear B8 A8 O8 W8 V8 FW8 X8 XB8 G8 GB8 GL8
  clear x0 x1 x2 x3 x4 x5 z0 z1 z2 z3 z4 z5 HK hf9 hb9 hb10 hb10'
  obtain ⟨z0, z1, z2, z3, z4, z5⟩ := XB10.out.six
  go_wp2_with fail
  refine (markDisk_any (some ⟨g2, 0, none⟩) K.fs.length K.fs K.c K.k K.cr K.fl K.dn 1 g2 _ (by omega) (by omega) X10.out).mono ?_
  rintro e w13 ⟨rfl, hm13, _⟩
  have hbut : But g2 w10 w13 := by
    rcases hm13 with ⟨_, h⟩ | ⟨_, g, o, e, _, h⟩
    · exact But.of h
    · simp only [Option.some.injEq, Addr.mk.injEq, and_true] at e
      rw [e.1]; exact h
  have hNg : w.heap.size ≤ g2 := by omega
  have B13 : Hid (Below w.heap.size w w13) := B10.out.trans (hbut.below hNg B10.out.size)
  have A13 : Hid (Blk w13 w.heap.size #[.slice a K.fs.length cap, .int .i64 K.c, .int .i64 K.k, .int .i64 K.cr, .int .i64 K.fl, .bool K.dn] 24) := A10.out.but hbut (by omega)
  have O13 : Hid (Blk w13 (w.heap.size + 1) #[.int .i64 L.first, .int .i64 L.last, .int .i64 L.size] 26) := O10.out.but hbut (by omega)
  have W13 : Hid (Blk w13 P #[.slice aw K0.fs.length cw, .int .i64 K0.c, .int .i64 K0.k, .int .i64 K0.cr, .int .i64 K0.fl, .bool K0.dn] 30) := W10.out.but hbut (by omega)
  have V13 : Hid (Blk w13 PL #[.int .i64 L0.first, .int .i64 L0.last, .int .i64 L0.size] 31) := V10.out.but hbut (by omega)
  have FW13 : Hid (FilesIn w13 aw K0.fs) := FW10.out.but' hbut FR.out (by omega)
  have G13 : Hid (Owned w13 w6.heap.size ag K0.fs) := G10.out.but hbut (by omega)
  have GB13 : Hid (Blk w13 G #[.slice ag K0.fs.length cg, .int .i64 K0.c, .int .i64 K0.k, .int .i64 K0.cr, .int .i64 K0.fl, .bool K0.dn] 30) := GB10.out.but hbut (by omega)
  have GL13 : Hid (Blk w13 GL1 #[.int .i64 L0.first, .int .i64 L0.last, .int .i64 L0.size] 31) := GL10.out.but hbut (by omega)
  clear z0 z1 z2 z3 z4 z5 hm13 hbut B10 A10 O10 W10 V10 FW10 X10 XB10 G10 GB10 GL10
  have hkk : ¬ (((1 + 3 * K.fs.length : Nat) : Int) < 0) := by omega
  obtain ⟨y0, y1, y2, y3, y4, y5⟩ := W13.out.six
  obtain ⟨z0, z1, z2, z3, z4, z5⟩ := GB13.out.six
  go_wp2_with fail
  refine (eqDisk_same _ _ _ _ K0.fs K0.c K0.k K0.cr K0.fl K0.dn _ G13.out.files FW13.out (by simp [maxLen]; omega)).mono ?_
  rintro e w14 ⟨rfl, hb14⟩
  have B14 : Hid (Below w.heap.size w w14) := bto B13.out hb14
  have A14 : Hid (Blk w14 w.heap.size #[.slice a K.fs.length cap, .int .i64 K.c, .int .i64 K.k, .int .i64 K.cr, .int .i64 K.fl, .bool K.dn] 24) := A13.out.later hb14
  have O14 : Hid (Blk w14 (w.heap.size + 1) #[.int .i64 L.first, .int .i64 L.last, .int .i64 L.size] 26) := O13.out.later hb14
  have W14 : Hid (Blk w14 P #[.slice aw K0.fs.length cw, .int .i64 K0.c, .int .i64 K0.k, .int .i64 K0.cr, .int .i64 K0.fl, .bool K0.dn] 30) := W13.out.later hb14
  have V14 : Hid (Blk w14 PL #[.int .i64 L0.first, .int .i64 L0.last, .int .i64 L0.size] 31) := V13.out.later hb14
  have FW14 : Hid (FilesIn w14 aw K0.fs) := FW13.out.later hb14
  have G14 : Hid (Owned w14 w6.heap.size ag K0.fs) := G13.out.later hb14
  have GB14 : Hid (Blk w14 G #[.slice ag K0.fs.length cg, .int .i64 K0.c, .int .i64 K0.k, .int .i64 K0.cr, .int .i64 K0.fl, .bool K0.dn] 30) := GB13.out.later hb14
  have GL14 : Hid (Blk w14 GL1 #[.int .i64 L0.first, .int .i64 L0.last, .int .i64 L0.size] 31) := GL13.out.later hb14
  clear B13 A13 O13 W13 V13 FW13 G13 GB13 GL13
  clear y0 y1 y2 y3 y4 y5 z0 z1 z2 z3 z4 z5 hb14
  obtain ⟨y0, y1, y2⟩ := V14.out.three
  obtain ⟨z0, z1, z2⟩ := GL14.out.three
  go_wp2_with fail
  refine (eqLog_same L0.first L0.last L0.size _).mono ?_
  rintro e w15 ⟨rfl, hb15⟩
  have B15 : Hid (Below w.heap.size w w15) := bto B14.out hb15
  have A15 : Hid (Blk w15 w.heap.size #[.slice a K.fs.length cap, .int .i64 K.c, .int .i64 K.k, .int .i64 K.cr, .int .i64 K.fl, .bool K.dn] 24) := A14.out.later hb15
  have O15 : Hid (Blk w15 (w.heap.size + 1) #[.int .i64 L.first, .int .i64 L.last, .int .i64 L.size] 26) := O14.out.later hb15
  have W15 : Hid (Blk w15 P #[.slice aw K0.fs.length cw, .int .i64 K0.c, .int .i64 K0.k, .int .i64 K0.cr, .int .i64 K0.fl, .bool K0.dn] 30) := W14.out.later hb15
  have V15 : Hid (Blk w15 PL #[.int .i64 L0.first, .int .i64 L0.last, .int .i64 L0.size] 31) := V14.out.later hb15
  have FW15 : Hid (FilesIn w15 aw K0.fs) := FW14.out.later hb15
  have G15 : Hid (Owned w15 w6.heap.size ag K0.fs) := G14.out.later hb15
  have GB15 : Hid (Blk w15 G #[.slice ag K0.fs.length cg, .int .i64 K0.c, .int .i64 K0.k, .int .i64 K0.cr, .int .i64 K0.fl, .bool K0.dn] 30) := GB14.out.later hb15
  have GL15 : Hid (Blk w15 GL1 #[.int .i64 L0.first, .int .i64 L0.last, .int .i64 L0.size] 31) := GL14.out.later hb15
  clear B14 A14 O14 W14 V14 FW14 G14 GB14 GL14
  clear y0 y1 y2 z0 z1 z2 hb15
  clear hkk
  obtain ⟨z0, z1, z2, z3, z4, z5⟩ := GB15.out.six
  go_wp2_with fail
  refine (markDisk_any ag cg K0.fs K0.c K0.k K0.cr K0.fl K0.dn 1 w6.heap.size _ (by omega) (by omega) G15.out).mono ?_
  rintro e w16 ⟨rfl, hm16, ho16⟩
  have M16 : Hid (FilesIn w16 ag (markL 1 K0.fs.length)) := ho16.files
  have H16 : Hid (Below w.heap.size w w16 ∧ Blk w16 w.heap.size #[.slice a K.fs.length cap, .int .i64 K.c, .int .i64 K.k, .int .i64 K.cr, .int .i64 K.fl, .bool K.dn] 24 ∧ Blk w16 (w.heap.size + 1) #[.int .i64 L.first, .int .i64 L.last, .int .i64 L.size] 26 ∧ Blk w16 P #[.slice aw K0.fs.length cw, .int .i64 K0.c, .int .i64 K0.k, .int .i64 K0.cr, .int .i64 K0.fl, .bool K0.dn] 30 ∧ Blk w16 PL #[.int .i64 L0.first, .int .i64 L0.last, .int .i64 L0.size] 31 ∧ FilesIn w16 aw K0.fs ∧ Blk w16 G #[.slice ag K0.fs.length cg, .int .i64 K0.c, .int .i64 K0.k, .int .i64 K0.cr, .int .i64 K0.fl, .bool K0.dn] 30) := by
    rcases hm16 with ⟨_, h⟩ | ⟨hp, g, o, e, hB, h⟩
    · exact ⟨bto B15.out h, A15.out.later h, O15.out.later h, W15.out.later h, V15.out.later h, FW15.out.later h, GB15.out.later h⟩
    · have hne : g ≠ G := by
        rcases APH.out with hn | ⟨b, o', e', hne⟩
        · rw [hn] at hp; simp at hp
        · rw [e] at e'
          simp only [Option.some.injEq, Addr.mk.injEq, and_true] at e'
          rw [e'.1]; exact hne
      exact ⟨B15.out.trans (h.below (by omega) B15.out.size), A15.out.but h (by omega), O15.out.but h (by omega), W15.out.but h (by omega), V15.out.but h (by omega), FW15.out.but' h FR.out (by omega), GB15.out.but h (Ne.symm hne)⟩
  have B16 : Hid (Below w.heap.size w w16) := H16.out.1
  have A16 : Hid (Blk w16 w.heap.size #[.slice a K.fs.length cap, .int .i64 K.c, .int .i64 K.k, .int .i64 K.cr, .int .i64 K.fl, .bool K.dn] 24) := H16.out.2.1
  have O16 : Hid (Blk w16 (w.heap.size + 1) #[.int .i64 L.first, .int .i64 L.last, .int .i64 L.size] 26) := H16.out.2.2.1
  have W16 : Hid (Blk w16 P #[.slice aw K0.fs.length cw, .int .i64 K0.c, .int .i64 K0.k, .int .i64 K0.cr, .int .i64 K0.fl, .bool K0.dn] 30) := H16.out.2.2.2.1
  have V16 : Hid (Blk w16 PL #[.int .i64 L0.first, .int .i64 L0.last, .int .i64 L0.size] 31) := H16.out.2.2.2.2.1
  have FW16 : Hid (FilesIn w16 aw K0.fs) := H16.out.2.2.2.2.2.1
  have GB16 : Hid (Blk w16 G #[.slice ag K0.fs.length cg, .int .i64 K0.c, .int .i64 K0.k, .int .i64 K0.cr, .int .i64 K0.fl, .bool K0.dn] 30) := H16.out.2.2.2.2.2.2
  clear z0 z1 z2 z3 z4 z5 hm16 ho16 H16 B15 A15 O15 W15 V15 FW15 G15 GB15 GL15
  obtain ⟨z0, z1, z2, z3, z4, z5⟩ := GB16.out.six
  go_wp2_with fail
  refine (heldDisk_any ag cg K0.c K0.k K0.cr K0.fl K0.dn 1 K0.fs.length _ (by omega) (by omega) M16.out).mono ?_
  rintro e w17 ⟨rfl, hb17⟩
  have B17 : Hid (Below w.heap.size w w17) := bto B16.out hb17
  have A17 : Hid (Blk w17 w.heap.size #[.slice a K.fs.length cap, .int .i64 K.c, .int .i64 K.k, .int .i64 K.cr, .int .i64 K.fl, .bool K.dn] 24) := A16.out.later hb17
  have O17 : Hid (Blk w17 (w.heap.size + 1) #[.int .i64 L.first, .int .i64 L.last, .int .i64 L.size] 26) := O16.out.later hb17
  have W17 : Hid (Blk w17 P #[.slice aw K0.fs.length cw, .int .i64 K0.c, .int .i64 K0.k, .int .i64 K0.cr, .int .i64 K0.fl, .bool K0.dn] 30) := W16.out.later hb17
  have V17 : Hid (Blk w17 PL #[.int .i64 L0.first, .int .i64 L0.last, .int .i64 L0.size] 31) := V16.out.later hb17
  have FW17 : Hid (FilesIn w17 aw K0.fs) := FW16.out.later hb17
  clear B16 A16 O16 W16 V16 FW16
  clear z0 z1 z2 z3 z4 z5 hb17 GB16 M16
  have HFK : Hid (∀ w', Below w17.heap.size w17 w' → FilesIn w' a K.fs) := fun w' h => HF.out.later (bto B17.out h)
  have HKA : Hid (KA w.heap.size K L a cap w17) := ⟨A17.out, O17.out⟩
  have hN17 : w.heap.size + 1 < w17.heap.size := lt_of_block O17.out
  have hkk : ¬ (((1 + 3 * K0.fs.length : Nat) : Int) < 0) := by omega
  go_upto_region 26 with fail
  go_cut [20, 21, 22] (fun s20 s21 s22 wx => ∃ (R RL : Nat) (ah : Option Addr) (ch : Nat), s20 = .pointer (some ⟨R, 0, none⟩) ∧ s21 = .pointer (some ⟨RL, 0, none⟩) ∧ s22 = .int .i64 code ∧ Blk wx R #[.slice ah K0.fs.length ch, .int .i64 K0.c, .int .i64 K0.k, .int .i64 K0.cr, .int .i64 K0.fl, .bool K0.dn] 30 ∧ Blk wx RL #[.int .i64 L0.first, .int .i64 L0.last, .int .i64 L0.size] 31 ∧ FilesIn wx ah K0.fs ∧ Below w17.heap.size w17 wx)
  case first => exact reg26 hl20 HIM B17 HFK HKA hN17 (by with_reducible assumption) (by with_reducible assumption)
  obtain ⟨R, RL, ah, ch, rfl, rfl, rfl, HB20r, HL20r, OH, hb20⟩ := hcut
  rename World => w20
  have HB20 : Hid (Blk w20 R #[.slice ah K0.fs.length ch, .int .i64 K0.c, .int .i64 K0.k, .int .i64 K0.cr, .int .i64 K0.fl, .bool K0.dn] 30) := HB20r
  have HL20 : Hid (Blk w20 RL #[.int .i64 L0.first, .int .i64 L0.last, .int .i64 L0.size] 31) := HL20r
  have OH20 : Hid (FilesIn w20 ah K0.fs) := OH
  clear HB20r HL20r OH HKA HFK hkk
  have B20 : Hid (Below w.heap.size w w20) := bto B17.out hb20
  have A20 : Hid (Blk w20 w.heap.size #[.slice a K.fs.length cap, .int .i64 K.c, .int .i64 K.k, .int .i64 K.cr, .int .i64 K.fl, .bool K.dn] 24) := A17.out.later hb20
  have O20 : Hid (Blk w20 (w.heap.size + 1) #[.int .i64 L.first, .int .i64 L.last, .int .i64 L.size] 26) := O17.out.later hb20
  have W20 : Hid (Blk w20 P #[.slice aw K0.fs.length cw, .int .i64 K0.c, .int .i64 K0.k, .int .i64 K0.cr, .int .i64 K0.fl, .bool K0.dn] 30) := W17.out.later hb20
  have V20 : Hid (Blk w20 PL #[.int .i64 L0.first, .int .i64 L0.last, .int .i64 L0.size] 31) := V17.out.later hb20
  have FW20 : Hid (FilesIn w20 aw K0.fs) := FW17.out.later hb20
  clear B17 A17 O17 W17 V17 FW17
  obtain ⟨y0, y1, y2, y3, y4, y5⟩ := W20.out.six
  obtain ⟨z0, z1, z2, z3, z4, z5⟩ := HB20.out.six
  clear hb20
  go_wp2_with fail
  refine (eqDisk_same _ _ _ _ K0.fs K0.c K0.k K0.cr K0.fl K0.dn _ OH20.out FW20.out (by simp [maxLen]; omega)).mono ?_
  rintro e w21 ⟨rfl, hb21⟩
  have B21 : Hid (Below w.heap.size w w21) := bto B20.out hb21
  have V21 : Hid (Blk w21 PL #[.int .i64 L0.first, .int .i64 L0.last, .int .i64 L0.size] 31) := V20.out.later hb21
  have HL21 : Hid (Blk w21 RL #[.int .i64 L0.first, .int .i64 L0.last, .int .i64 L0.size] 31) := HL20.out.later hb21
  clear hb21 y0 y1 y2 y3 y4 y5 z0 z1 z2 z3 z4 z5
  obtain ⟨y0, y1, y2⟩ := V21.out.three
  obtain ⟨z0, z1, z2⟩ := HL21.out.three
  go_wp2_with fail
  refine (eqLog_same L0.first L0.last L0.size _).mono ?_
  rintro e w22 ⟨rfl, hb22⟩
  have B22 : Hid (Below w.heap.size w w22) := bto B21.out hb22
  clear hb22 y0 y1 y2 z0 z1 z2
  go_wp2
  go_ret
  exact ⟨rfl, B22.out⟩
end Go.Proofs.YtboofidegpnkaaaGreatDoor
namespace Go.Proofs.YtboofidegpnkaaaGreatDoor
open Go.RowKit
theorem fit_appendT {D : DiskD} {L : LogD} {f : ByteArray} (h : Fit D.fs) : Fit (appendT D L f).1.fs := by
  have h1 : Fit (stepD D (opAppend L.last f)).1.fs := fit_step h (by have := segS_size (L.last); unfold maxLen; show (segS (L.last)).size ≤ _; omega) (by show (0 : Nat) ≤ _; omega)
  have h2 : Fit (stepD (stepD D (opAppend L.last f)).1 (opSync L.last)).1.fs := fit_step h1 (by have := segS_size (L.last); unfold maxLen; show (segS (L.last)).size ≤ _; omega) (by show (0 : Nat) ≤ _; omega)
  unfold appendT
  split
  · exact h1
  · split <;> exact h2
theorem fit_appendD {D : DiskD} {L : LogD} {p : ByteArray} {most : Int} (h : Fit D.fs) : Fit (appendD D L p most).1.fs := by
  have h1 : Fit (stepD D (opCreate (L.last + 1))).1.fs := fit_step h (by have := segS_size (L.last + 1); unfold maxLen; show (segS (L.last + 1)).size ≤ _; omega) (by show (0 : Nat) ≤ _; omega)
  unfold appendD
  split
  · exact h
  · split
    · exact h
    · split
      · split
        · exact h
        · split
          · exact h1
          · exact fit_appendT h1
      · exact fit_appendT h
set_option maxRecDepth 100000 in
set_option maxHeartbeats 4000000 in
theorem lawApp (a : Option Addr) (cap : Nat) (K : DiskD) (L : LogD) (p : ByteArray) (most : Int) (w : World) (hpow : PowTab w) (hf : FilesIn w a K.fs) (hs : Short K.fs) (hlen : K.fs.length ≤ maxLen) :
    Calls Tryz.prog 3 #[.agg #[.slice a K.fs.length cap, .int .i64 K.c, .int .i64 K.k, .int .i64 K.cr, .int .i64 K.fl, .bool K.dn], .agg #[.int .i64 L.first, .int .i64 L.last, .int .i64 L.size], .string p, .int .i64 most] w fun e w' => e = .returned (.bool true) ∧ Below w.heap.size w w' := by
  have HF : Hid (FilesIn w a K.fs) := hf
  clear hf
  by_cases hbig : 1048576 < p.size
  · have hpi : (1048576 : Int) < (p.size : Int) := by omega
    go_enter Tryz.func3, Tryz.ntmps3
    go_wp2
    go_ret
    exact ⟨rfl, bto (bnew _ _) (bnew _ _)⟩
  have hpi : ¬ (1048576 : Int) < (p.size : Int) := by omega
  by_cases hneg : szFs 1048576 K.fs < 0
  · go_enter Tryz.func3, Tryz.ntmps3
    go_wp2_with fail
    refine (szDisk_any a cap K.fs K.c K.k K.cr K.fl K.dn 1048576 _ (by omega) (by omega) ((HF.out.later (bnew _ _)).later (bnew _ _)) hs hlen).mono ?_
    rintro e w1 ⟨rfl, hb1⟩
    have HB : Hid (Below w.heap.size w w1) := bto (bto (bnew _ _) (bnew _ _)) hb1
    clear hb1
    go_wp2
    go_ret
    exact ⟨rfl, HB.out⟩
  have hbd := szFs_bound (Int.not_lt.1 hneg)
  have hl20 : K.fs.length ≤ 1048576 := by omega
  have hsum : sumLen K.fs ≤ 1000000000 := by have := sumLen_le_bulk K.fs; omega
  have hfit : Fit K.fs := ⟨hs, hl20, hsum⟩
  have hp : p.size ≤ 1048576 := by omega
  have hsp : ∀ a' cap' W, FilesIn W a' K.fs → Calls Tryz.prog 5 #[.agg #[.slice a' K.fs.length cap', .int .i64 K.c, .int .i64 K.k, .int .i64 K.cr, .int .i64 K.fl, .bool K.dn], .agg #[.int .i64 L.first, .int .i64 L.last, .int .i64 L.size], .string p, .int .i64 most] W fun e w' => ∃ aw cw, e = .returned (appV (appendD K L p most) aw cw) ∧ FilesIn w' aw (appendD K L p most).1.fs ∧ Below W.heap.size W w' := fun a' cap' W h => specApp_any a' cap' K.fs K.c K.k K.cr K.fl K.dn L.first L.last L.size p most W h hfit hp
  have him : ∀ a' cap' W, Below w.heap.size w W → FilesIn W a' K.fs → Calls Tryz.prog 8 #[.agg #[.slice a' K.fs.length cap', .int .i64 K.c, .int .i64 K.k, .int .i64 K.cr, .int .i64 K.fl, .bool K.dn], .agg #[.int .i64 L.first, .int .i64 L.last, .int .i64 L.size], .string p, .int .i64 most] W fun e w' => ∃ ag cg, e = .returned (appV (appendD K L p most) ag cg) ∧ Owned w' W.heap.size ag (appendD K L p most).1.fs ∧ Below W.heap.size W w' := fun a' cap' W hb h => implApp_any a' cap' K L p most W (hpow.later hb) h hfit hp
  have hfl := (fit_appendD (L := L) (p := p) (most := most) hfit).len
  generalize appendD K L p most = R at hsp him hfl
  obtain ⟨K0, L0, code⟩ := R
  have hfl2 : K0.fs.length ≤ 1048580 := by have : K0.fs.length ≤ 1048576 := hfl; omega
  exact lawApp_core a cap K L p most w K0 L0 (code : Int) HF hs hlen hp hneg hl20 hfl2 hsp him
end Go.Proofs.YtboofidegpnkaaaGreatDoor
namespace Go.Proofs.YtboofidegpnkaaaGreatDoor
open Go.ChangeShapes Go.WideShapes Go.ChangeAt Go.RowKit Go.Deep
theorem cells_file : Tryz.prog.cellsOf 64 = 3 := by kernel_rfl
theorem cells_str : Tryz.prog.cellsOf 9 = 1 := by kernel_rfl
theorem cells_int : Tryz.prog.cellsOf 3 = 1 := by kernel_rfl
theorem cells_bool : Tryz.prog.cellsOf 4 = 1 := by kernel_rfl
theorem cells_fileS : Tryz.prog.cellsOf 22 = 1 := by kernel_rfl
theorem cells_disk : Tryz.prog.cellsOf 24 = 6 := by kernel_rfl
section
variable {H : Type} {enc : TypeId × Value → H} {W : World}
set_option maxRecDepth 100000 in
theorem open_file {fuel : Nat} {cs : List Value} {x : DataW H × List MemPlace} (h : DataW.trod enc Tryz.prog W 0 (fun _ => true) true fuel 64 cs = some x) :
    ∃ f : FileD, cs = [.string f.name, .string f.data, .int .i64 f.synced] ∧ f.name.size ≤ maxLen ∧ f.data.size ≤ maxLen := by
  obtain ⟨y0, y1, y2, n, _, hl, h0, h1, h2⟩ := trod_struct3 Tryz.underlying64 h
  rw [cells_file] at hl
  match cs, hl with
  | [c0, c1, c2], _ =>
    simp [cells_str, cells_int] at h0 h1 h2
    obtain ⟨s0, e0, _, z0⟩ := DataW.trod_string Tryz.underlying9 h0
    obtain ⟨s1, e1, _, z1⟩ := DataW.trod_string Tryz.underlying9 h1
    obtain ⟨i2, e2, _, _⟩ := DataW.trod_int Tryz.underlying3 h2
    simp at e0 e1 e2
    exact ⟨⟨s0, s1, i2⟩, by simp [e0, e1, e2], z0, z1⟩
set_option maxRecDepth 100000 in
theorem open_files {fuel : Nat} {v : Value} {x : DataW H × List MemPlace} (h : DataW.trod enc Tryz.prog W 0 (fun _ => true) true fuel 22 [v] = some x) :
    ∃ (a : Option Addr) (cap : Nat) (fs : List FileD), v = .slice a fs.length cap ∧ FilesIn W a fs ∧ Short fs ∧ fs.length ≤ maxLen := by
  rcases open_slice Tryz.underlying22 h with ⟨hc, _⟩ | ⟨a, len, cap, m, n, D, Pl, hc, _, hl, hm, hmm, _, hx⟩
  · simp at hc
    exact ⟨none, 0, [], by simpa using hc, Or.inl rfl, fun i h => absurd h (by simp), by simp⟩
  · simp at hc
    simp only [if_true] at hmm
    have hin : Inhabited FileD := ⟨⟨ByteArray.empty, ByteArray.empty, 0⟩⟩
    obtain ⟨b, o, spot⟩ := a
    rw [cells_file] at hx
    have hsp : 0 < len → spot = none := fun h0 => by
      obtain ⟨cs', h1, h2⟩ := hx 0 (by omega)
      obtain ⟨f, rfl, _, _⟩ := open_file h2
      obtain ⟨_, _, hcell⟩ := World.cells?_some h1
      have hc0 := hcell 0 (by omega)
      simp only [List.getElem?_cons_zero] at hc0
      have := World.cell?_spot hc0
      simpa [Addr.add] using this
    obtain ⟨F, hF⟩ := choose_lt (α := FileD) (n := len) (p := fun i f => W.cell? ⟨b, o + i * 3, none⟩ = some (.string f.name) ∧
        W.cell? ⟨b, o + i * 3 + 1, none⟩ = some (.string f.data) ∧ W.cell? ⟨b, o + i * 3 + 2, none⟩ = some (.int .i64 f.synced) ∧ f.name.size ≤ maxLen ∧ f.data.size ≤ maxLen) (fun i hi => by
      obtain ⟨cs', h1, h2⟩ := hx i (by omega)
      obtain ⟨f, rfl, z0, z1⟩ := open_file h2
      obtain ⟨_, _, hcell⟩ := World.cells?_some h1
      have hspot := hsp (by omega)
      subst hspot
      refine ⟨f, ?_, ?_, ?_, z0, z1⟩
      · simpa [add_plain] using hcell 0 (by omega)
      · simpa [add_plain] using hcell 1 (by omega)
      · simpa [add_plain] using hcell 2 (by omega))
    refine ⟨some ⟨b, o, spot⟩, cap, (List.range len).map F, by simp [hc], ?_, ?_, by simp; omega⟩
    · by_cases h0 : len = 0
      · subst h0; exact Or.inl rfl
      · have hs := hsp (by omega)
        subst hs
        have hlt : b < W.heap.size := by
          have hc0 := (hF 0 (by omega)).1
          rcases Nat.lt_or_ge b W.heap.size with hlt | hge
          · exact hlt
          · simp [World.cell?, Array.getElem?_eq_none hge] at hc0
        refine Or.inr ⟨b, o, rfl, hlt, fun i hi => ?_⟩
        simp only [List.length_map, List.length_range] at hi
        obtain ⟨q1, q2, q3, _⟩ := hF i hi
        simpa using ⟨q1, q2, q3⟩
    · intro i hi
      simp only [List.length_map, List.length_range] at hi
      obtain ⟨_, _, _, z0, z1⟩ := hF i hi
      simpa using ⟨z0, z1⟩
set_option maxRecDepth 100000 in
theorem open_disk {r : Reach} {b0 : Nat} {v : Value} {d : DataW H} {p : List MemPlace} (hv : Value.okWide Tryz.prog W r b0 24 v) (h : DataW.Trod enc Tryz.prog W 0 (fun _ => true) true 24 v d p) :
    ∃ (a : Option Addr) (cap : Nat) (fs : List FileD) (c k cr fl : Int) (dn : Bool), v = .agg #[.slice a fs.length cap, .int .i64 c, .int .i64 k, .int .i64 cr, .int .i64 fl, .bool dn] ∧ FilesIn W a fs ∧ Short fs ∧ fs.length ≤ maxLen ∧
      (Lit.int .i64 c).wf = true ∧ (Lit.int .i64 k).wf = true ∧ (Lit.int .i64 cr).wf = true ∧ (Lit.int .i64 fl).wf = true := by
  obtain ⟨cs, rfl, hsz⟩ := okWide_struct Tryz.underlying24 hv
  obtain ⟨fuel, hf⟩ := h
  obtain ⟨xs, n, _, _, _, hlen, hfl⟩ := DataW.trod_struct Tryz.underlying24 hf
  rw [cells_disk] at hsz
  obtain ⟨l⟩ := cs
  simp at hsz
  match l, hsz with
  | [c0, c1, c2, c3, c4, c5], _ =>
    match xs, hlen with
    | [y0, y1, y2, y3, y4, y5], _ =>
      have h0 := hfl 0 _ rfl
      have h1 := hfl 1 _ rfl
      have h2 := hfl 2 _ rfl
      have h3 := hfl 3 _ rfl
      have h4 := hfl 4 _ rfl
      have h5 := hfl 5 _ rfl
      simp [Value.cells, cells_fileS, cells_int, cells_bool] at h0 h1 h2 h3 h4 h5
      obtain ⟨a, cap, fs, e0, hF, hS, hL⟩ := open_files h0
      obtain ⟨i1, e1, _, w1⟩ := DataW.trod_int Tryz.underlying3 h1
      obtain ⟨i2, e2, _, w2⟩ := DataW.trod_int Tryz.underlying3 h2
      obtain ⟨i3, e3, _, w3⟩ := DataW.trod_int Tryz.underlying3 h3
      obtain ⟨i4, e4, _, w4⟩ := DataW.trod_int Tryz.underlying3 h4
      obtain ⟨b5, e5, _⟩ := DataW.trod_bool Tryz.underlying4 h5
      simp at e1 e2 e3 e4 e5
      exact ⟨a, cap, fs, i1, i2, i3, i4, b5, by simp [e0, e1, e2, e3, e4, e5], hF, hS, hL, w1, w2, w3, w4⟩
end
end Go.Proofs.YtboofidegpnkaaaGreatDoor
