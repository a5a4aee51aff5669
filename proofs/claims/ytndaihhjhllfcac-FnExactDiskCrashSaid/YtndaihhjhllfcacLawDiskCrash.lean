import Derived.Test.YtndaihhjhllfcacProg
import Derived.Test.YtndaihhjhllfcacSCrash
import Derived.Test.YtndaihhjhllfcacMark2
import Derived.Test.YtndaihhjhllfcacSz
import Derived.Test.YtndaihhjhllfcacTo
import Derived.Test.YtndaihhjhllfcacEq
import Derived.Deep.RegionHeld3
namespace Go.Proofs.Ytndaihhjhllfcac
open Go.RowKit

theorem szFs_bound {left : Int} {fs : List FileD} (h : 0 ≤ szFs left fs) : (fs.length + bulk fs : Int) ≤ left := by
  unfold szFs at h
  split at h
  · assumption
  · omega

theorem owned_of {w : World} {B g : Nat} {fs : List FileD} (h : FilesIn w (some ⟨g, 0, none⟩) fs) (hx : ∃ cur t, w.heap[g]? = some (.cells cur t (0, 0))) (hB : B ≤ g) : Owned w B (some ⟨g, 0, none⟩) fs := by
  obtain ⟨cur, t, hx⟩ := hx
  rcases h with h | ⟨b, o, e, _, h⟩
  · exact Or.inl h
  · simp only [Option.some.injEq, Addr.mk.injEq, and_true] at e
    obtain ⟨rfl, rfl⟩ := e
    exact Or.inr ⟨g, 0, cur, t, rfl, hB, hx, h⟩

theorem FilesIn.lt {w : World} {a : Option Addr} {fs : List FileD} (h : FilesIn w a fs) (hn : fs ≠ []) : ∃ b o, a = some ⟨b, o, none⟩ ∧ b < w.heap.size := by
  rcases h with h | ⟨b, o, e, hlt, _⟩
  · exact absurd h hn
  · exact ⟨b, o, e, hlt⟩

theorem blk_new (w : World) (cs : Array Value) (t : TypeId) : Blk (w.alloc (.cells cs t)) w.heap.size cs t := heap_alloc_new _ _

theorem Blk.six {w : World} {b : Nat} {v0 v1 v2 v3 v4 v5 : Value} {t : TypeId} (h : Blk w b #[v0, v1, v2, v3, v4, v5] t) :
    w.cell? ⟨b, 0, none⟩ = some v0 ∧ w.cell? ⟨b, 1, none⟩ = some v1 ∧ w.cell? ⟨b, 2, none⟩ = some v2 ∧ w.cell? ⟨b, 3, none⟩ = some v3 ∧ w.cell? ⟨b, 4, none⟩ = some v4 ∧ w.cell? ⟨b, 5, none⟩ = some v5 := by
  simp [h.cell]

theorem Owned.but {w w' : World} {B g : Nat} {a : Option Addr} {fs : List FileD} (h : Owned w B a fs) (hb : But g w w') (hg : g < B) : Owned w' B a fs := by
  rcases h with h | ⟨g', o, cur, t, rfl, hB, hx, hf⟩
  · exact Or.inl h
  · have he : w'.heap[g']? = w.heap[g']? := hb.block g' (lt_of_block hx) (by omega)
    have hk : ∀ j, w'.cell? ⟨g', j, none⟩ = w.cell? ⟨g', j, none⟩ := fun j => World.cell?_of_block he
    exact Or.inr ⟨g', o, cur, t, rfl, hB, he.trans hx, fun i hi => by simp only [hk]; exact hf i hi⟩

/-- A row's block lies in front of P. -/
def Front (a : Option Addr) (fs : List FileD) (P : Nat) : Prop := fs = [] ∨ ∃ b o, a = some ⟨b, o, none⟩ ∧ b < P
theorem front_of {w : World} {a : Option Addr} {fs : List FileD} (h : FilesIn w a fs) : Front a fs w.heap.size := by
  rcases h with h | ⟨b, o, e, hlt, _⟩
  · exact Or.inl h
  · exact Or.inr ⟨b, o, e, hlt⟩
theorem FilesIn.but' {w w' : World} {g P : Nat} {a : Option Addr} {fs : List FileD} (h : FilesIn w a fs) (hb : But g w w') (hf : Front a fs P) (hg : P ≤ g) : FilesIn w' a fs := by
  rcases hf with hn | ⟨b, o, rfl, hlt⟩
  · exact Or.inl hn
  · exact h.but hb (by omega)

/-- Marking the files of a leaves those of a2, which lay there before a's block was made. -/
theorem Marked.keeps {w w' : World} {B n : Nat} {a a2 : Option Addr} {fs : List FileD} (h : Marked w w' B a n) (hf : FilesIn w a2 fs) (hlt : fs = [] ∨ ∃ b o, a2 = some ⟨b, o, none⟩ ∧ b < B) : FilesIn w' a2 fs := by
  rcases hlt with hn | ⟨b, o, rfl, hb⟩
  · exact Or.inl hn
  · rcases h with ⟨_, h⟩ | ⟨_, g, o', _, hB, h⟩
    · exact hf.later h
    · exact hf.but h (by omega)

set_option maxRecDepth 100000 in
set_option maxHeartbeats 1000000 in
theorem lawDiskCrash (a ak : Option Addr) (cap ck : Nat) (fs : List FileD) (zs : List Int) (c k cr fl : Int) (dn : Bool) (w : World) (hf : FilesIn w a fs) (hz : IntsIn w ak zs) (hs : Short fs) (hlen : fs.length ≤ maxLen) (hzl : zs.length ≤ maxLen) :
    Calls Try.prog 3 #[.agg #[.slice a fs.length cap, .int .i64 c, .int .i64 k, .int .i64 cr, .int .i64 fl, .bool dn], .slice ak zs.length ck] w fun e w' => e = .returned (.bool true) ∧ Below w.heap.size w w' := by
  have HF : Hid (FilesIn w a fs) := hf
  have HZ : Hid (IntsIn w ak zs) := hz
  unfold maxLen at hzl
  clear hf hz
  by_cases hbig : (1048576 : Int) < zs.length
  · go_enter Try.func3, Try.ntmps3
    go_wp2
    go_ret
    exact ⟨rfl, bnew _ _⟩
  by_cases hneg : szFs 1048576 fs < 0
  · go_enter Try.func3, Try.ntmps3
    go_wp2_with fail
    refine (szDisk_any a cap fs c k cr fl dn 1048576 _ (by omega) (by omega) (HF.out.later (bnew _ _)) hs hlen).mono ?_
    rintro e w1 ⟨rfl, hb1⟩
    have HB : Hid (Below w.heap.size w w1) := bto (bnew _ _) hb1
    clear hb1
    go_wp2
    go_ret
    exact ⟨rfl, HB.out⟩
  have hbd := szFs_bound (Int.not_lt.1 hneg)
  have hl20 : fs.length ≤ 1048576 := by omega
  have hz20 : zs.length ≤ 1048576 := by omega
  have hsum : sumLen fs ≤ 1000000000 := by have := sumLen_le_bulk fs; omega
  clear hbd
  go_enter Try.func3, Try.ntmps3
  go_wp2_with fail
  refine (szDisk_any a cap fs c k cr fl dn 1048576 _ (by omega) (by omega) (HF.out.later (bnew _ _)) hs hlen).mono ?_
  rintro e w1 ⟨rfl, hb1⟩
  have hA1 : Blk w1 w.heap.size #[.slice a fs.length cap, .int .i64 c, .int .i64 k, .int .i64 cr, .int .i64 fl, .bool dn] 24 := (blk_new w _ _).later hb1
  have H1 : Hid (Below w.heap.size w w1 ∧ Blk w1 w.heap.size #[.slice a fs.length cap, .int .i64 c, .int .i64 k, .int .i64 cr, .int .i64 fl, .bool dn] 24) := ⟨bto (bnew _ _) hb1, hA1⟩
  obtain ⟨e0, e1, e2, e3, e4, e5⟩ := hA1.six
  clear hb1
  go_wp2_with fail
  refine (toDisk_any a cap fs c k cr fl dn _ (HF.out.later H1.out.1) hl20).mono ?_
  rintro e w2 ⟨g1, rfl, hg1, _, hf2, hb2⟩
  clear e0 e1 e2 e3 e4 e5
  go_wp2_with fail
  refine (toIntS_any ak ck zs _ (HZ.out.later (bto H1.out.1 hb2)) hz20).mono ?_
  rintro e w3 ⟨_, rfl, _, _, hi3, hb3⟩
  go_wp2_with fail
  refine (specCrash_any _ _ _ _ fs zs c k cr fl dn _ (hf2.later hb3) hi3 hs hlen hsum).mono ?_
  rintro e w4 ⟨aw, cw, rfl, how, hb4⟩
  have hic := fun a' ak' cap' ck' w' h h' => implCrash_any a' ak' cap' ck' fs zs c k cr fl dn w' h h' hs hlen hsum
  generalize hF0 : crashFs fs zs (diskB fs c k cr fl) = F0 at *
  have hFl : F0.length ≤ 1048576 := by
    rw [← hF0]; unfold crashFs; split
    · rw [crashL_length]; exact hl20
    · simp
  clear hF0
  generalize pick0 (diskB fs c k cr fl) c = c0 at *
  generalize pick0 (diskB fs c k cr fl) k = k0 at *
  have HIC : Hid (∀ a' ak' cap' ck' w', FilesIn w' a' fs → IntsIn w' ak' zs → Calls Try.prog 9 #[.agg #[.slice a' fs.length cap', .int .i64 c, .int .i64 k, .int .i64 cr, .int .i64 fl, .bool dn], .slice ak' zs.length ck'] w' fun e w'' =>
      ∃ a2 cap2, e = .returned (.agg #[.slice a2 F0.length cap2, .int .i64 c0, .int .i64 k0, .int .i64 0, .int .i64 0, .bool false]) ∧ Owned w'' w'.heap.size a2 F0 ∧ Below w'.heap.size w' w'') := hic
  clear hic
  have hA4 : Blk w4 w.heap.size #[.slice a fs.length cap, .int .i64 c, .int .i64 k, .int .i64 cr, .int .i64 fl, .bool dn] 24 := ((H1.out.2.later hb2).later hb3).later hb4
  have B4 : Hid (Below w.heap.size w w4) := bto (bto (bto H1.out.1 hb2) hb3) hb4
  have A4 : Hid (Blk w4 w.heap.size #[.slice a fs.length cap, .int .i64 c, .int .i64 k, .int .i64 cr, .int .i64 fl, .bool dn] 24) := hA4
  have FW4 : Hid (FilesIn w4 aw F0) := how.files
  have FR : Hid (Front aw F0 w4.heap.size) := front_of how.files
  have hN4 : w.heap.size < w4.heap.size := lt_of_block hA4
  have hne4 : ¬ w.heap.size = w4.heap.size := by omega
  obtain ⟨e0, e1, e2, e3, e4, e5⟩ := hA4.six
  clear hb2 hb3 hb4 hf2 hi3 how hg1 H1 hA4
  go_wp2_with fail
  refine (toDisk_any a cap fs c k cr fl dn _ ((HF.out.later B4.out).later (bnew _ _)) hl20).mono ?_
  rintro e w5 ⟨g2, rfl, hg2, hx2, hf5, hb5⟩
  have W5 : Hid (Blk w5 w4.heap.size #[.slice aw F0.length cw, .int .i64 c0, .int .i64 k0, .int .i64 0, .int .i64 0, .bool false] 29) := (blk_new w4 _ _).later hb5
  have A5 : Hid (Blk w5 w.heap.size #[.slice a fs.length cap, .int .i64 c, .int .i64 k, .int .i64 cr, .int .i64 fl, .bool dn] 24) := (A4.out.later (bnew _ _)).later hb5
  have B5 : Hid (Below w.heap.size w w5) := bto (bto B4.out (bnew _ _)) hb5
  have FW5 : Hid (FilesIn w5 aw F0) := (FW4.out.later (bnew _ _)).later hb5
  have hP0 : w4.heap.size < g2 := by simp at hg2; omega
  have hP1 : g2 < w5.heap.size := by obtain ⟨_, _, h⟩ := hx2; exact lt_of_block h
  have X5 : Hid (Owned w5 g2 (some ⟨g2, 0, none⟩) fs) := owned_of hf5 hx2 (Nat.le_refl _)
  clear e0 e1 e2 e3 e4 e5 hg2 hx2 hf5 hb5 A4 B4 FW4 hne4
  go_wp2_with fail
  refine (toIntS_any ak ck zs _ (HZ.out.later (bto B5.out (bnew _ _))) hz20).mono ?_
  rintro e w6 ⟨cz, rfl, hzb, hzs, hi6, hb6⟩
  have W6 : Hid (Blk w6 w4.heap.size #[.slice aw F0.length cw, .int .i64 c0, .int .i64 k0, .int .i64 0, .int .i64 0, .bool false] 29) := (W5.out.later (bnew _ _)).later hb6
  have A6 : Hid (Blk w6 w.heap.size #[.slice a fs.length cap, .int .i64 c, .int .i64 k, .int .i64 cr, .int .i64 fl, .bool dn] 24) := (A5.out.later (bnew _ _)).later hb6
  have B6 : Hid (Below w.heap.size w w6) := bto (bto B5.out (bnew _ _)) hb6
  have FW6 : Hid (FilesIn w6 aw F0) := (FW5.out.later (bnew _ _)).later hb6
  have X6 : Hid (Owned w6 g2 (some ⟨g2, 0, none⟩) fs) := (X5.out.later (bnew _ _)).later hb6
  have XB6 : Hid (Blk w6 w5.heap.size #[.slice (some ⟨g2, 0, none⟩) fs.length fs.length, .int .i64 c, .int .i64 k, .int .i64 cr, .int .i64 fl, .bool dn] 29) := (blk_new w5 _ _).later hb6
  have Z6 : Hid (Blk w6 (w5.heap.size + 1) cz 3 ∧ cz.size = zs.length ∧ IntsIn w6 (some ⟨w5.heap.size + 1, 0, none⟩) zs) := ⟨by simpa using hzb, hzs, by simpa using hi6⟩
  have hQ : w5.heap.size + 1 < w6.heap.size := lt_of_block Z6.out.1
  obtain ⟨x0, x1, x2, x3, x4, x5⟩ := XB6.out.six
  clear hzb hzs hi6 hb6 W5 A5 B5 FW5 X5
  go_wp2_with fail
  refine (HIC.out _ _ _ _ _ X6.out.files Z6.out.2.2).mono ?_
  rintro e w7 ⟨ag, cg, rfl, hog, hb7⟩
  have W7 : Hid (Blk w7 w4.heap.size #[.slice aw F0.length cw, .int .i64 c0, .int .i64 k0, .int .i64 0, .int .i64 0, .bool false] 29) := W6.out.later hb7
  have A7 : Hid (Blk w7 w.heap.size #[.slice a fs.length cap, .int .i64 c, .int .i64 k, .int .i64 cr, .int .i64 fl, .bool dn] 24) := A6.out.later hb7
  have B7 : Hid (Below w.heap.size w w7) := bto B6.out hb7
  have FW7 : Hid (FilesIn w7 aw F0) := FW6.out.later hb7
  have X7 : Hid (Owned w7 g2 (some ⟨g2, 0, none⟩) fs) := X6.out.later hb7
  have XB7 : Hid (Blk w7 w5.heap.size #[.slice (some ⟨g2, 0, none⟩) fs.length fs.length, .int .i64 c, .int .i64 k, .int .i64 cr, .int .i64 fl, .bool dn] 29) := XB6.out.later hb7
  have Z7 : Hid (Blk w7 (w5.heap.size + 1) cz 3) := Z6.out.1.later hb7
  have HZS : Hid (cz.size = zs.length) := Z6.out.2.1
  have ZI7 : Hid (IntsIn w7 (some ⟨w5.heap.size + 1, 0, none⟩) zs) := Z6.out.2.2.later hb7
  have G7 : Hid (Owned w7 w6.heap.size ag F0) := hog
  have hR : w6.heap.size ≤ w7.heap.size := hb7.size
  have hne7a : ¬ w4.heap.size = w7.heap.size := by omega
  have hne7b : w4.heap.size < w7.heap.size := by omega
  obtain ⟨y0, y1, y2, y3, y4, y5⟩ := W7.out.six
  clear x0 x1 x2 x3 x4 x5 hog hb7 W6 A6 B6 FW6 X6 XB6 Z6
  go_wp2_with fail
  refine (eqDisk_same _ _ _ _ F0 c0 k0 0 0 false _ (G7.out.files.later (bnew _ _)) (FW7.out.later (bnew _ _)) (by simp [maxLen]; omega)).mono ?_
  rintro e w8 ⟨rfl, hb8⟩
  have FRG : Hid (Front ag F0 w7.heap.size) := front_of G7.out.files
  have GB7 : Hid (Blk (w7.alloc (.cells #[.slice ag F0.length cg, .int .i64 c0, .int .i64 k0, .int .i64 0, .int .i64 0, .bool false] 29)) w7.heap.size #[.slice ag F0.length cg, .int .i64 c0, .int .i64 k0, .int .i64 0, .int .i64 0, .bool false] 29) := blk_new _ _ _
  have GB8 : Hid (Blk w8 w7.heap.size #[.slice ag F0.length cg, .int .i64 c0, .int .i64 k0, .int .i64 0, .int .i64 0, .bool false] 29) := GB7.out.later hb8
  clear GB7
  have B8 : Hid (Below w.heap.size w w8) := bto B7.out (bto (bnew _ _) hb8)
  have A8 : Hid (Blk w8 w.heap.size #[.slice a fs.length cap, .int .i64 c, .int .i64 k, .int .i64 cr, .int .i64 fl, .bool dn] 24) := A7.out.later (bto (bnew _ _) hb8)
  have W8 : Hid (Blk w8 w4.heap.size #[.slice aw F0.length cw, .int .i64 c0, .int .i64 k0, .int .i64 0, .int .i64 0, .bool false] 29) := W7.out.later (bto (bnew _ _) hb8)
  have FW8 : Hid (FilesIn w8 aw F0) := FW7.out.later (bto (bnew _ _) hb8)
  have X8 : Hid (Owned w8 g2 (some ⟨g2, 0, none⟩) fs) := X7.out.later (bto (bnew _ _) hb8)
  have XB8 : Hid (Blk w8 w5.heap.size #[.slice (some ⟨g2, 0, none⟩) fs.length fs.length, .int .i64 c, .int .i64 k, .int .i64 cr, .int .i64 fl, .bool dn] 29) := XB7.out.later (bto (bnew _ _) hb8)
  have Z8 : Hid (Blk w8 (w5.heap.size + 1) cz 3) := Z7.out.later (bto (bnew _ _) hb8)
  have ZI8 : Hid (IntsIn w8 (some ⟨w5.heap.size + 1, 0, none⟩) zs) := ZI7.out.later (bto (bnew _ _) hb8)
  have G8 : Hid (Owned w8 w6.heap.size ag F0) := G7.out.later (bto (bnew _ _) hb8)
  clear B7 A7 W7 FW7 X7 XB7 Z7 ZI7 G7
  have HK : Hid (∀ w', Below w8.heap.size w8 w' → w'.cell? ⟨w.heap.size, 0, none⟩ = some (.slice a fs.length cap) ∧ w'.cell? ⟨w.heap.size, 1, none⟩ = some (.int .i64 c) ∧ w'.cell? ⟨w.heap.size, 2, none⟩ = some (.int .i64 k) ∧ w'.cell? ⟨w.heap.size, 3, none⟩ = some (.int .i64 cr) ∧ w'.cell? ⟨w.heap.size, 4, none⟩ = some (.int .i64 fl) ∧ w'.cell? ⟨w.heap.size, 5, none⟩ = some (.bool dn) ∧ w'.cell? ⟨w5.heap.size, 0, none⟩ = some (.slice (some ⟨g2, 0, none⟩) fs.length fs.length) ∧ w'.cell? ⟨w5.heap.size, 1, none⟩ = some (.int .i64 c) ∧ w'.cell? ⟨w5.heap.size, 2, none⟩ = some (.int .i64 k) ∧ w'.cell? ⟨w5.heap.size, 3, none⟩ = some (.int .i64 cr) ∧ w'.cell? ⟨w5.heap.size, 4, none⟩ = some (.int .i64 fl) ∧ w'.cell? ⟨w5.heap.size, 5, none⟩ = some (.bool dn)) := fun w' h => by
    obtain ⟨a0, a1, a2, a3, a4, a5⟩ := (A8.out.later h).six
    obtain ⟨b0, b1, b2, b3, b4, b5⟩ := (XB8.out.later h).six
    exact ⟨a0, a1, a2, a3, a4, a5, b0, b1, b2, b3, b4, b5⟩
  have HL : Hid (fs.length ≤ maxLen) := hlen
  obtain ⟨x0, x1, x2, x3, x4, x5⟩ := A8.out.six
  obtain ⟨z0, z1, z2, z3, z4, z5⟩ := XB8.out.six
  clear y0 y1 y2 y3 y4 y5 hb8 hlen hneg
  go_wp2_with fail
  go_region_held3 (fun w' => w'.cell? ⟨w.heap.size, 0, none⟩ = some (.slice a fs.length cap) ∧ w'.cell? ⟨w.heap.size, 1, none⟩ = some (.int .i64 c) ∧ w'.cell? ⟨w.heap.size, 2, none⟩ = some (.int .i64 k) ∧ w'.cell? ⟨w.heap.size, 3, none⟩ = some (.int .i64 cr) ∧ w'.cell? ⟨w.heap.size, 4, none⟩ = some (.int .i64 fl) ∧ w'.cell? ⟨w.heap.size, 5, none⟩ = some (.bool dn) ∧ w'.cell? ⟨w5.heap.size, 0, none⟩ = some (.slice (some ⟨g2, 0, none⟩) fs.length fs.length) ∧ w'.cell? ⟨w5.heap.size, 1, none⟩ = some (.int .i64 c) ∧ w'.cell? ⟨w5.heap.size, 2, none⟩ = some (.int .i64 k) ∧ w'.cell? ⟨w5.heap.size, 3, none⟩ = some (.int .i64 cr) ∧ w'.cell? ⟨w5.heap.size, 4, none⟩ = some (.int .i64 fl) ∧ w'.cell? ⟨w5.heap.size, 5, none⟩ = some (.bool dn))
    (first | (exact HK.out _ (bto (bto (Below.refl _ _).drew hb9) hb10)) | (exact HK.out _ (bto (Below.refl _ _).drew hb9)) | (exact HK.out _ (Below.refl _ _).drew))
    (first
    | (go_at_call 7; refine (toDisk_any a cap fs c k cr fl dn _ (HF.out.later (bto B8.out (Below.refl _ _).drew)) hl20).mono ?_; rintro e w9 ⟨g3, rfl, hg3, _, hf9, hb9⟩)
    | (go_at_call 10; refine (eqDisk_same _ _ _ _ fs c k cr fl dn _ ((X8.out.files.later (Below.refl _ _).drew).later hb9) hf9 HL.out).mono ?_; rintro e w10 ⟨rfl, hb10⟩))
  have hb10' : Below w8.heap.size w8 w10 := bto (bto (Below.refl _ _).drew hb9) hb10
  have B10 : Hid (Below w.heap.size w w10) := bto B8.out hb10'
  have A10 : Hid (Blk w10 w.heap.size #[.slice a fs.length cap, .int .i64 c, .int .i64 k, .int .i64 cr, .int .i64 fl, .bool dn] 24) := A8.out.later hb10'
  have W10 : Hid (Blk w10 w4.heap.size #[.slice aw F0.length cw, .int .i64 c0, .int .i64 k0, .int .i64 0, .int .i64 0, .bool false] 29) := W8.out.later hb10'
  have FW10 : Hid (FilesIn w10 aw F0) := FW8.out.later hb10'
  have X10 : Hid (Owned w10 g2 (some ⟨g2, 0, none⟩) fs) := X8.out.later hb10'
  have XB10 : Hid (Blk w10 w5.heap.size #[.slice (some ⟨g2, 0, none⟩) fs.length fs.length, .int .i64 c, .int .i64 k, .int .i64 cr, .int .i64 fl, .bool dn] 29) := XB8.out.later hb10'
  have Z10 : Hid (Blk w10 (w5.heap.size + 1) cz 3) := Z8.out.later hb10'
  have ZI10 : Hid (IntsIn w10 (some ⟨w5.heap.size + 1, 0, none⟩) zs) := ZI8.out.later hb10'
  have G10 : Hid (Owned w10 w6.heap.size ag F0) := G8.out.later hb10'
  have GB10 : Hid (Blk w10 w7.heap.size #[.slice ag F0.length cg, .int .i64 c0, .int .i64 k0, .int .i64 0, .int .i64 0, .bool false] 29) := GB8.out.later hb10'
  clear B8 A8 W8 FW8 X8 XB8 Z8 ZI8 G8 GB8
  clear x0 x1 x2 x3 x4 x5 z0 z1 z2 z3 z4 z5 HK hf9 hb9 hb10 hb10' hg3
  go_wp2_with fail
  refine (toIntS_any ak ck zs _ (HZ.out.later B10.out) hz20).mono ?_
  rintro e w11 ⟨_, rfl, _, _, hi11, hb11⟩
  go_wp2_with fail
  refine (eqIntS_same _ _ _ _ zs _ (ZI10.out.later hb11) hi11 hz20).mono ?_
  rintro e w12 ⟨rfl, hb12⟩
  have B12 : Hid (Below w.heap.size w w12) := bto B10.out (bto hb11 hb12)
  have A12 : Hid (Blk w12 w.heap.size #[.slice a fs.length cap, .int .i64 c, .int .i64 k, .int .i64 cr, .int .i64 fl, .bool dn] 24) := A10.out.later (bto hb11 hb12)
  have W12 : Hid (Blk w12 w4.heap.size #[.slice aw F0.length cw, .int .i64 c0, .int .i64 k0, .int .i64 0, .int .i64 0, .bool false] 29) := W10.out.later (bto hb11 hb12)
  have FW12 : Hid (FilesIn w12 aw F0) := FW10.out.later (bto hb11 hb12)
  have X12 : Hid (Owned w12 g2 (some ⟨g2, 0, none⟩) fs) := X10.out.later (bto hb11 hb12)
  have XB12 : Hid (Blk w12 w5.heap.size #[.slice (some ⟨g2, 0, none⟩) fs.length fs.length, .int .i64 c, .int .i64 k, .int .i64 cr, .int .i64 fl, .bool dn] 29) := XB10.out.later (bto hb11 hb12)
  have Z12 : Hid (Blk w12 (w5.heap.size + 1) cz 3) := Z10.out.later (bto hb11 hb12)
  have ZI12 : Hid (IntsIn w12 (some ⟨w5.heap.size + 1, 0, none⟩) zs) := ZI10.out.later (bto hb11 hb12)
  have G12 : Hid (Owned w12 w6.heap.size ag F0) := G10.out.later (bto hb11 hb12)
  have GB12 : Hid (Blk w12 w7.heap.size #[.slice ag F0.length cg, .int .i64 c0, .int .i64 k0, .int .i64 0, .int .i64 0, .bool false] 29) := GB10.out.later (bto hb11 hb12)
  clear B10 A10 W10 FW10 X10 XB10 Z10 ZI10 G10 GB10
  obtain ⟨z0, z1, z2, z3, z4, z5⟩ := XB12.out.six
  clear hi11 hb11 hb12
  go_wp2_with fail
  refine (markDisk_any (some ⟨g2, 0, none⟩) fs.length fs c k cr fl dn 1 g2 _ (by omega) (by omega) X12.out).mono ?_
  rintro e w13 ⟨rfl, hm13, _⟩
  have hbut : But g2 w12 w13 := by
    rcases hm13 with ⟨_, h⟩ | ⟨_, g, o, e, _, h⟩
    · exact But.of h
    · simp only [Option.some.injEq, Addr.mk.injEq, and_true] at e
      rw [e.1]; exact h
  have hNg : w.heap.size ≤ g2 := by omega
  have B13 : Hid (Below w.heap.size w w13) := B12.out.trans (hbut.below hNg B12.out.size)
  have A13 : Hid (Blk w13 w.heap.size #[.slice a fs.length cap, .int .i64 c, .int .i64 k, .int .i64 cr, .int .i64 fl, .bool dn] 24) := A12.out.but hbut (by omega)
  have W13 : Hid (Blk w13 w4.heap.size #[.slice aw F0.length cw, .int .i64 c0, .int .i64 k0, .int .i64 0, .int .i64 0, .bool false] 29) := W12.out.but hbut (by omega)
  have FW13 : Hid (FilesIn w13 aw F0) := FW12.out.but' hbut FR.out (by omega)
  have Z13 : Hid (Blk w13 (w5.heap.size + 1) cz 3) := Z12.out.but hbut (by omega)
  have G13 : Hid (Owned w13 w6.heap.size ag F0) := G12.out.but hbut (by omega)
  have GB13 : Hid (Blk w13 w7.heap.size #[.slice ag F0.length cg, .int .i64 c0, .int .i64 k0, .int .i64 0, .int .i64 0, .bool false] 29) := GB12.out.but hbut (by omega)
  clear z0 z1 z2 z3 z4 z5 hm13 hbut B12 A12 W12 FW12 X12 XB12 Z12 ZI12 G12 GB12
  go_wp2_with fail
  refine (markIntS_any (w5.heap.size + 1) zs.length zs.length (1 + 3 * fs.length) 3 cz _ (by omega) Z13.out HZS.out).mono ?_
  rintro e w14 ⟨rfl, hbut⟩
  have B14 : Hid (Below w.heap.size w w14) := B13.out.trans (hbut.below (by omega) B13.out.size)
  have A14 : Hid (Blk w14 w.heap.size #[.slice a fs.length cap, .int .i64 c, .int .i64 k, .int .i64 cr, .int .i64 fl, .bool dn] 24) := A13.out.but hbut (by omega)
  have W14 : Hid (Blk w14 w4.heap.size #[.slice aw F0.length cw, .int .i64 c0, .int .i64 k0, .int .i64 0, .int .i64 0, .bool false] 29) := W13.out.but hbut (by omega)
  have FW14 : Hid (FilesIn w14 aw F0) := FW13.out.but' hbut FR.out (by omega)
  have G14 : Hid (Owned w14 w6.heap.size ag F0) := G13.out.but hbut (by omega)
  have GB14 : Hid (Blk w14 w7.heap.size #[.slice ag F0.length cg, .int .i64 c0, .int .i64 k0, .int .i64 0, .int .i64 0, .bool false] 29) := GB13.out.but hbut (by omega)
  clear hbut B13 A13 W13 FW13 Z13 G13 GB13
  obtain ⟨y0, y1, y2, y3, y4, y5⟩ := W14.out.six
  obtain ⟨z0, z1, z2, z3, z4, z5⟩ := GB14.out.six
  have hkk : ¬ (((1 + 3 * fs.length + zs.length : Nat) : Int) < 0) := by omega
  go_wp2_with fail
  refine (eqDisk_same _ _ _ _ F0 c0 k0 0 0 false _ G14.out.files FW14.out (by simp [maxLen]; omega)).mono ?_
  rintro e w15 ⟨rfl, hb15⟩
  have B15 : Hid (Below w.heap.size w w15) := bto B14.out hb15
  have A15 : Hid (Blk w15 w.heap.size #[.slice a fs.length cap, .int .i64 c, .int .i64 k, .int .i64 cr, .int .i64 fl, .bool dn] 24) := A14.out.later hb15
  have W15 : Hid (Blk w15 w4.heap.size #[.slice aw F0.length cw, .int .i64 c0, .int .i64 k0, .int .i64 0, .int .i64 0, .bool false] 29) := W14.out.later hb15
  have FW15 : Hid (FilesIn w15 aw F0) := FW14.out.later hb15
  have G15 : Hid (Owned w15 w6.heap.size ag F0) := G14.out.later hb15
  have GB15 : Hid (Blk w15 w7.heap.size #[.slice ag F0.length cg, .int .i64 c0, .int .i64 k0, .int .i64 0, .int .i64 0, .bool false] 29) := GB14.out.later hb15
  clear B14 A14 W14 FW14 G14 GB14
  clear y0 y1 y2 y3 y4 y5 z0 z1 z2 z3 z4 z5 hb15 hkk
  obtain ⟨z0, z1, z2, z3, z4, z5⟩ := GB15.out.six
  go_wp2_with fail
  refine (markDisk_any ag cg F0 c0 k0 0 0 false 1 w6.heap.size _ (by omega) (by omega) G15.out).mono ?_
  rintro e w16 ⟨rfl, hm16, ho16⟩
  have M16 : Hid (FilesIn w16 ag (markL 1 F0.length)) := ho16.files
  have H16 : Hid (Below w.heap.size w w16 ∧ Blk w16 w.heap.size #[.slice a fs.length cap, .int .i64 c, .int .i64 k, .int .i64 cr, .int .i64 fl, .bool dn] 24 ∧ Blk w16 w4.heap.size #[.slice aw F0.length cw, .int .i64 c0, .int .i64 k0, .int .i64 0, .int .i64 0, .bool false] 29 ∧ FilesIn w16 aw F0 ∧ Blk w16 w7.heap.size #[.slice ag F0.length cg, .int .i64 c0, .int .i64 k0, .int .i64 0, .int .i64 0, .bool false] 29) := by
    rcases hm16 with ⟨_, h⟩ | ⟨hp, g, o, e, hB, h⟩
    · exact ⟨bto B15.out h, A15.out.later h, W15.out.later h, FW15.out.later h, GB15.out.later h⟩
    · have hlt : g < w7.heap.size := by
        rcases FRG.out with hn | ⟨b, o', e', hlt⟩
        · rw [hn] at hp; simp at hp
        · rw [e] at e'
          simp only [Option.some.injEq, Addr.mk.injEq, and_true] at e'
          rw [e'.1]; exact hlt
      exact ⟨B15.out.trans (h.below (by omega) B15.out.size), A15.out.but h (by omega), W15.out.but h (by omega), FW15.out.but' h FR.out (by omega), GB15.out.but h (by omega)⟩
  have B16 : Hid (Below w.heap.size w w16) := H16.out.1
  have A16 : Hid (Blk w16 w.heap.size #[.slice a fs.length cap, .int .i64 c, .int .i64 k, .int .i64 cr, .int .i64 fl, .bool dn] 24) := H16.out.2.1
  have W16 : Hid (Blk w16 w4.heap.size #[.slice aw F0.length cw, .int .i64 c0, .int .i64 k0, .int .i64 0, .int .i64 0, .bool false] 29) := H16.out.2.2.1
  have FW16 : Hid (FilesIn w16 aw F0) := H16.out.2.2.2.1
  have GB16 : Hid (Blk w16 w7.heap.size #[.slice ag F0.length cg, .int .i64 c0, .int .i64 k0, .int .i64 0, .int .i64 0, .bool false] 29) := H16.out.2.2.2.2
  clear z0 z1 z2 z3 z4 z5 hm16 ho16 H16 B15 A15 W15 FW15 G15 GB15
  obtain ⟨z0, z1, z2, z3, z4, z5⟩ := GB16.out.six
  go_wp2_with fail
  refine (heldDisk_any ag cg c0 k0 0 0 false 1 F0.length _ (by omega) (by omega) M16.out).mono ?_
  rintro e w17 ⟨rfl, hb17⟩
  have B17 : Hid (Below w.heap.size w w17) := bto B16.out hb17
  have A17 : Hid (Blk w17 w.heap.size #[.slice a fs.length cap, .int .i64 c, .int .i64 k, .int .i64 cr, .int .i64 fl, .bool dn] 24) := A16.out.later hb17
  have W17 : Hid (Blk w17 w4.heap.size #[.slice aw F0.length cw, .int .i64 c0, .int .i64 k0, .int .i64 0, .int .i64 0, .bool false] 29) := W16.out.later hb17
  have FW17 : Hid (FilesIn w17 aw F0) := FW16.out.later hb17
  clear B16 A16 W16 FW16
  clear z0 z1 z2 z3 z4 z5 hb17 GB16 M16
  obtain ⟨x0, x1, x2, x3, x4, x5⟩ := A17.out.six
  have hkk : ¬ (((1 + 3 * F0.length : Nat) : Int) < 0) := by omega
  go_wp2_with fail
  refine (toDisk_any a cap fs c k cr fl dn _ (HF.out.later B17.out) hl20).mono ?_
  rintro e w18 ⟨g4, rfl, hg4, _, hf18, hb18⟩
  go_wp2_with fail
  refine (toIntS_any ak ck zs _ (HZ.out.later (bto B17.out hb18)) hz20).mono ?_
  rintro e w19 ⟨_, rfl, _, _, hi19, hb19⟩
  go_wp2_with fail
  refine (HIC.out _ _ _ _ _ (hf18.later hb19) hi19).mono ?_
  rintro e w20 ⟨ah, ch, rfl, hoh, hb20⟩
  have B20 : Hid (Below w.heap.size w w20) := bto B17.out (bto (bto hb18 hb19) hb20)
  have W20 : Hid (Blk w20 w4.heap.size #[.slice aw F0.length cw, .int .i64 c0, .int .i64 k0, .int .i64 0, .int .i64 0, .bool false] 29) := W17.out.later (bto (bto hb18 hb19) hb20)
  have FW20 : Hid (FilesIn w20 aw F0) := FW17.out.later (bto (bto hb18 hb19) hb20)
  clear B17 W17 FW17
  have OH : Hid (FilesIn w20 ah F0) := hoh.files
  have hne20 : ¬ w4.heap.size = w20.heap.size := by have := lt_of_block W20.out; omega
  have hne21 : w4.heap.size < w20.heap.size := lt_of_block W20.out
  obtain ⟨y0, y1, y2, y3, y4, y5⟩ := W20.out.six
  clear x0 x1 x2 x3 x4 x5 hb18 hb19 hb20 hf18 hi19 hoh hg4
  go_wp2_with fail
  refine (eqDisk_same _ _ _ _ F0 c0 k0 0 0 false _ (OH.out.later (bnew _ _)) (FW20.out.later (bnew _ _)) (by simp [maxLen]; omega)).mono ?_
  rintro e w21 ⟨rfl, hb21⟩
  have B21 : Hid (Below w.heap.size w w21) := bto (bto B20.out (bnew _ _)) hb21
  clear hb21 y0 y1 y2 y3 y4 y5
  go_wp2
  go_ret
  exact ⟨rfl, B21.out⟩
end Go.Proofs.Ytndaihhjhllfcac
