import Derived.Test.YtndaihhjhllfcabProg
import Derived.Test.YtndaihhjhllfcabSz
import Derived.Test.YtndaihhjhllfcabTo
import Derived.Test.YtndaihhjhllfcabEq
import Derived.Test.YtndaihhjhllfcabSv
import Derived.Deep.RegionHeld3
namespace Go.Proofs.Ytndaihhjhllfcab
open Go.RowKit

theorem szFs_bound {left : Int} {fs : List FileD} (h : 0 ≤ szFs left fs) : (fs.length + bulk fs : Int) ≤ left := by
  unfold szFs at h
  split at h
  · assumption
  · omega

set_option maxHeartbeats 4000000 in
theorem lawDiskValid (a : Option Addr) (cap : Nat) (fs : List FileD) (c k cr fl : Int) (dn : Bool) (w : World) (hf : FilesIn w a fs) (hs : Short fs) (hlen : fs.length ≤ maxLen) :
    Calls Try.prog 3 #[.agg #[.slice a fs.length cap, .int .i64 c, .int .i64 k, .int .i64 cr, .int .i64 fl, .bool dn]] w fun e w' => e = .returned (.bool true) ∧ Below w.heap.size w w' := by
  have HF : Hid (FilesIn w a fs) := hf
  clear hf
  by_cases hneg : szFs 1048576 fs < 0
  · go_enter Try.func3, Try.ntmps3
    go_wp2_with fail
    have hb0 := fun o1 => (Below.refl w.heap.size w).alloc (Nat.le_refl _) o1
    refine (szDisk_any a cap fs c k cr fl dn 1048576 _ (by omega) (by omega) (HF.out.later (hb0 _)) hs hlen).mono ?_
    rintro e w1 ⟨rfl, hb1⟩
    have HB : Hid (Below w.heap.size w w1) := (hb0 _).trans (hb1.mono (by simp))
    clear hb0 hb1
    go_wp2
    go_ret
    exact ⟨rfl, HB.out⟩
  have hbd := szFs_bound (Int.not_lt.1 hneg)
  have hl20 : fs.length ≤ 1048576 := by omega
  have hsum : sumLen fs ≤ 1000000000 := by have := sumLen_le_bulk fs; omega
  clear hbd
  go_enter Try.func3, Try.ntmps3
  go_wp2_with fail
  refine (szDisk_any a cap fs c k cr fl dn 1048576 _ (by omega) (by omega) (HF.out.later (bnew _ _)) hs hlen).mono ?_
  rintro e w1 ⟨rfl, hb1⟩
  have hB1 : Below w.heap.size w w1 := bto (bnew _ _) hb1
  have hX1 := (BoxAt.new w (.slice a fs.length cap) (.int .i64 c) (.int .i64 k) (.int .i64 cr) (.int .i64 fl) (.bool dn) 24).later hb1
  have H1 : Hid (Below w.heap.size w w1 ∧ BoxAt w1 w.heap.size (.slice a fs.length cap) (.int .i64 c) (.int .i64 k) (.int .i64 cr) (.int .i64 fl) (.bool dn)) := ⟨hB1, hX1⟩
  obtain ⟨e0, e1, e2, e3, e4, e5⟩ := hX1
  clear hB1 hb1
  go_wp2_with fail
  refine (toDisk_any a cap fs c k cr fl dn _ (HF.out.later H1.out.1) hl20).mono ?_
  rintro e w2 ⟨g1, rfl, hg1, _, hf2, hb2⟩
  clear e0 e1 e2 e3 e4 e5
  go_wp2_with fail
  refine (specValid_any _ _ fs c k cr fl dn _ hf2 hs hlen hsum).mono ?_
  rintro e w3 ⟨rfl, hb3⟩
  have hX3 := (H1.out.2.later hb2).later hb3
  have H3 : Hid (Below w.heap.size w w3 ∧ BoxAt w3 w.heap.size (.slice a fs.length cap) (.int .i64 c) (.int .i64 k) (.int .i64 cr) (.int .i64 fl) (.bool dn)) := ⟨bto (bto H1.out.1 hb2) hb3, hX3⟩
  obtain ⟨e0, e1, e2, e3, e4, e5⟩ := hX3
  clear hb2 hb3 hf2 hg1 H1
  go_wp2_with fail
  refine (toDisk_any a cap fs c k cr fl dn _ (HF.out.later H3.out.1) hl20).mono ?_
  rintro e w4 ⟨g2, rfl, hg2, _, hf4, hb4⟩
  clear e0 e1 e2 e3 e4 e5
  go_wp2_with fail
  refine (implValid_any _ _ fs c k cr fl dn _ (hf4.later (bnew _ _)) hs hlen hsum).mono ?_
  rintro e w6 ⟨rfl, hb6⟩
  have hY := (BoxAt.new w4 (.slice (some ⟨g2, 0, none⟩) fs.length fs.length) (.int .i64 c) (.int .i64 k) (.int .i64 cr) (.int .i64 fl) (.bool dn) 29).later hb6
  have hX := ((H3.out.2.later hb4).later (bnew _ _)).later hb6
  have hF6 := (hf4.later (bnew _ _)).later hb6
  have hB6 := bto (bto (bto H3.out.1 hb4) (bnew _ _)) hb6
  clear hb4 hf4 hb6 H3 hg2
  generalize diskB fs c k cr fl = dB at *
  generalize w4.heap.size = M at *
  have HX : Hid (BoxAt w6 w.heap.size (.slice a fs.length cap) (.int .i64 c) (.int .i64 k) (.int .i64 cr) (.int .i64 fl) (.bool dn)) := hX
  have HY : Hid (BoxAt w6 M (.slice (some ⟨g2, 0, none⟩) fs.length fs.length) (.int .i64 c) (.int .i64 k) (.int .i64 cr) (.int .i64 fl) (.bool dn)) := hY
  have HK : Hid (∀ w', Below w6.heap.size w6 w' → w'.cell? ⟨w.heap.size, 0, none⟩ = some (.slice a fs.length cap) ∧ w'.cell? ⟨w.heap.size, 1, none⟩ = some (.int .i64 c) ∧ w'.cell? ⟨w.heap.size, 2, none⟩ = some (.int .i64 k) ∧ w'.cell? ⟨w.heap.size, 3, none⟩ = some (.int .i64 cr) ∧ w'.cell? ⟨w.heap.size, 4, none⟩ = some (.int .i64 fl) ∧ w'.cell? ⟨w.heap.size, 5, none⟩ = some (.bool dn) ∧ w'.cell? ⟨M, 0, none⟩ = some (.slice (some ⟨g2, 0, none⟩) fs.length fs.length) ∧ w'.cell? ⟨M, 1, none⟩ = some (.int .i64 c) ∧ w'.cell? ⟨M, 2, none⟩ = some (.int .i64 k) ∧ w'.cell? ⟨M, 3, none⟩ = some (.int .i64 cr) ∧ w'.cell? ⟨M, 4, none⟩ = some (.int .i64 fl) ∧ w'.cell? ⟨M, 5, none⟩ = some (.bool dn)) := fun w' h => by
    obtain ⟨a0, a1, a2, a3, a4, a5⟩ := hX.later h
    obtain ⟨b0, b1, b2, b3, b4, b5⟩ := hY.later h
    exact ⟨a0, a1, a2, a3, a4, a5, b0, b1, b2, b3, b4, b5⟩
  have H6 : Hid (Below w.heap.size w w6 ∧ FilesIn w6 (some ⟨g2, 0, none⟩) fs) := ⟨hB6, hF6⟩
  have HL : Hid (fs.length ≤ maxLen) := hlen
  have hzx := hX.lt
  have hzy := hY.lt
  obtain ⟨x0, x1, x2, x3, x4, x5⟩ := hX
  obtain ⟨y0, y1, y2, y3, y4, y5⟩ := hY
  clear hB6 hF6 hlen hneg hs hsum
  go_wp2_with fail
  go_region_held3 (fun w' => w'.cell? ⟨w.heap.size, 0, none⟩ = some (.slice a fs.length cap) ∧ w'.cell? ⟨w.heap.size, 1, none⟩ = some (.int .i64 c) ∧ w'.cell? ⟨w.heap.size, 2, none⟩ = some (.int .i64 k) ∧ w'.cell? ⟨w.heap.size, 3, none⟩ = some (.int .i64 cr) ∧ w'.cell? ⟨w.heap.size, 4, none⟩ = some (.int .i64 fl) ∧ w'.cell? ⟨w.heap.size, 5, none⟩ = some (.bool dn) ∧ w'.cell? ⟨M, 0, none⟩ = some (.slice (some ⟨g2, 0, none⟩) fs.length fs.length) ∧ w'.cell? ⟨M, 1, none⟩ = some (.int .i64 c) ∧ w'.cell? ⟨M, 2, none⟩ = some (.int .i64 k) ∧ w'.cell? ⟨M, 3, none⟩ = some (.int .i64 cr) ∧ w'.cell? ⟨M, 4, none⟩ = some (.int .i64 fl) ∧ w'.cell? ⟨M, 5, none⟩ = some (.bool dn))
    (first | (exact HK.out _ (bto (bto (Below.refl _ _).drew hb7) hb8)) | (exact HK.out _ (bto (Below.refl _ _).drew hb7)) | (exact HK.out _ (Below.refl _ _).drew))
    (first
    | (go_at_call 8; refine (toDisk_any a cap fs c k cr fl dn _ (HF.out.later (bto H6.out.1 (Below.refl _ _).drew)) hl20).mono ?_; rintro e w7 ⟨g3, rfl, hg3, _, hf7, hb7⟩)
    | (go_at_call 10; refine (eqDisk_same _ _ _ _ fs c k cr fl dn _ ((H6.out.2.later (Below.refl _ _).drew).later hb7) hf7 HL.out).mono ?_; rintro e w8 ⟨rfl, hb8⟩))
  go_wp2
  go_ret
  exact ⟨rfl, bto H6.out.1 (bto (bto (Below.refl _ _).drew hb7) hb8)⟩
end Go.Proofs.Ytndaihhjhllfcab
