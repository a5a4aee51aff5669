import Derived.Test.YtboofidegpnkaaaGreatDoorJ25WApp
import Derived.Test.YtboofidegpnkaaaGreatDoorProg
import Derived.Test.YtboofidegpnkaaaGreatDoorJ01Btw
namespace Go.Proofs.YtboofidegpnkaaaGreatDoor
open Go.RowKit
def Made (n : Nat) (W4 wx : World) (K : DiskD) (L : LogD) (s : Value) : Prop :=
  ∃ (P D B : Nat) (v : Value), s = .pointer (some ⟨P, 0, none⟩) ∧ n + 4 ≤ P ∧ n + 4 ≤ B ∧ WrAt wx P D L ∧ DriveAt wx B D K.fs K.c K.k K.cr K.fl K.dn v ∧ Below W4.heap.size W4 wx
theorem Blk.four {w : World} {b : Nat} {v0 v1 v2 v3 : Value} {t : TypeId} (h : Blk w b #[v0, v1, v2, v3] t) : w.cell? ⟨b, 0, none⟩ = some v0 ∧ w.cell? ⟨b, 1, none⟩ = some v1 ∧ w.cell? ⟨b, 2, none⟩ = some v2 ∧ w.cell? ⟨b, 3, none⟩ = some v3 := by
  simp [h.cell]
theorem DriveAt.set_low {w : World} {B D : Nat} {fs : List FileD} {c k cr fl : Int} {dn : Bool} {v : Value} (h : DriveAt w B D fs c k cr fl dn v) {P : Nat} (hP : P < B) (j : Nat) (x : Value) : DriveAt (w.setCell ⟨P, j, none⟩ x) B D fs c k cr fl dn v := by
  have hk : Keeps (fun k => k = P) w (w.setCell ⟨P, j, none⟩ x) := (Keeps.refl (fun k => k = P) w).setCell (g := P) rfl j x
  have hD := h.from'
  refine ⟨h.from', h.blk.keeps hk (by omega), row_keeps h.row hk (fun g hg e => ?_), h.apart⟩
  have := row_from h.row g hg
  omega
theorem wr_fill {w : World} {P D : Nat} {L : LogD} {z0 z1 z2 z3 : Value} (h : Blk w P #[z0, z1, z2, z3] 53) :
    WrAt ((((w.setCell ⟨P, 0, none⟩ (.pointer (some ⟨D, 0, none⟩))).setCell ⟨P, 1, none⟩ (.int .i64 L.first)).setCell ⟨P, 2, none⟩ (.int .i64 L.last)).setCell ⟨P, 3, none⟩ (.int .i64 L.size)) P D L := by
  have h4 := (((h.set 0 (.pointer (some ⟨D, 0, none⟩))).set 1 (.int .i64 L.first)).set 2 (.int .i64 L.last)).set 3 (.int .i64 L.size)
  show Blk _ _ _ _
  simpa using h4
theorem blk_other {w : World} {b g j : Nat} {cur : Array Value} {t : TypeId} {x : Value} (h : Blk w b cur t) (hne : b ≠ g) : Blk (w.setCell ⟨g, j, none⟩ x) b cur t := (Below.heap_setCell _ _ _ b (fun e => hne e)).trans h
theorem Blk.setO {w : World} {b g : Nat} {cur : Array Value} {t : TypeId} (h : Blk w b cur t) (hne : b ≠ g) (j : Nat) (x : Value) : Blk (w.setCell ⟨g, j, none⟩ x) b cur t := blk_other h hne
def KP (n P D : Nat) (L2 L : LogD) (W : World) : Prop := WrAt W P D L2 ∧ Blk W (n + 1) #[.int .i64 L.first, .int .i64 L.last, .int .i64 L.size] 31
theorem KP.later {n P D : Nat} {L2 L : LogD} {W W' : World} (h : KP n P D L2 L W) (hb : Below W.heap.size W W') : KP n P D L2 L W' := ⟨h.1.later hb, h.2.later hb⟩
theorem KP.drew {n P D : Nat} {L2 L : LogD} {W : World} (h : KP n P D L2 L W) : KP n P D L2 L W.drew := h.later (Below.refl _ _).drew
theorem KP.set {n P D g j : Nat} {L2 L : LogD} {W : World} {x : Value} (h : KP n P D L2 L W) (h1 : P ≠ g) (h2 : n + 1 ≠ g) : KP n P D L2 L (W.setCell ⟨g, j, none⟩ x) := ⟨blk_other h.1 h1, blk_other h.2 h2⟩
theorem KP.cells {n P D : Nat} {L2 L : LogD} {W : World} (h : KP n P D L2 L W) : W.cell? ⟨P, 0, none⟩ = some (.pointer (some ⟨D, 0, none⟩)) ∧ W.cell? ⟨P, 1, none⟩ = some (.int .i64 L2.first) ∧ W.cell? ⟨P, 2, none⟩ = some (.int .i64 L2.last) ∧ W.cell? ⟨P, 3, none⟩ = some (.int .i64 L2.size) ∧ W.cell? ⟨n + 1, 0, none⟩ = some (.int .i64 L.first) ∧ W.cell? ⟨n + 1, 1, none⟩ = some (.int .i64 L.last) ∧ W.cell? ⟨n + 1, 2, none⟩ = some (.int .i64 L.size) := by
  obtain ⟨a, b, c, d⟩ := h.1.cells
  obtain ⟨x, y, z⟩ := h.2.three
  exact ⟨a, b, c, d, x, y, z⟩
def fillW (n : Nat) (w8 : World) (v0 v1 v2 v3 v4 v5 x0 x1 x2 : Value) : World :=
  (((((((((w8.setCell ⟨n + 1 + 1, 0, none⟩ v0).setCell ⟨n + 1 + 1, 1, none⟩ v1).setCell ⟨n + 1 + 1, 2, none⟩ v2).setCell ⟨n + 1 + 1, 3, none⟩ v3).setCell ⟨n + 1 + 1, 4, none⟩ v4).setCell ⟨n + 1 + 1, 5, none⟩ v5).setCell ⟨n + 1 + 1 + 1, 0, none⟩ x0).setCell ⟨n + 1 + 1 + 1, 1, none⟩ x1).setCell ⟨n + 1 + 1 + 1, 2, none⟩ x2)
theorem fill_blks {n : Nat} {w8 : World} {z0 z1 z2 z3 z4 z5 y0 y1 y2 v0 v1 v2 v3 v4 v5 x0 x1 x2 : Value} {t u : TypeId} (hz : Blk w8 (n + 1 + 1) #[z0, z1, z2, z3, z4, z5] t) (hy : Blk w8 (n + 1 + 1 + 1) #[y0, y1, y2] u) :
    Blk (fillW n w8 v0 v1 v2 v3 v4 v5 x0 x1 x2) (n + 1 + 1) #[v0, v1, v2, v3, v4, v5] t ∧ Blk (fillW n w8 v0 v1 v2 v3 v4 v5 x0 x1 x2) (n + 1 + 1 + 1) #[x0, x1, x2] u := by
  constructor
  · exact blk_other (blk_other (blk_other (blk_fill hz) (by omega)) (by omega)) (by omega)
  · have h1 := (((((((hy.setO (g := n + 1 + 1) (by omega) 0 v0).setO (g := n + 1 + 1) (by omega) 1 v1).setO (g := n + 1 + 1) (by omega) 2 v2).setO (g := n + 1 + 1) (by omega) 3 v3).setO (g := n + 1 + 1) (by omega) 4 v4).setO (g := n + 1 + 1) (by omega) 5 v5).set 0 x0).set 1 x1
    have h2 := h1.set 2 x2
    show Blk (fillW n w8 v0 v1 v2 v3 v4 v5 x0 x1 x2) _ _ _
    simpa [fillW] using h2
theorem fill_below {n B : Nat} {w w8 : World} {v0 v1 v2 v3 v4 v5 x0 x1 x2 : Value} (h : Below B w w8) (hB : B ≤ n) : Below B w (fillW n w8 v0 v1 v2 v3 v4 v5 x0 x1 x2) := by
  unfold fillW
  iterate 9 (refine Below.setCell ?_ (by show B ≤ _; first | exact (by simp only; omega) | omega) _)
  exact h
theorem fill_owned {n B : Nat} {w8 : World} {a : Option Addr} {fs : List FileD} {v0 v1 v2 v3 v4 v5 x0 x1 x2 : Value} (h : Owned w8 B a fs) (hB : n + 4 ≤ B) : Owned (fillW n w8 v0 v1 v2 v3 v4 v5 x0 x1 x2) B a fs := by
  unfold fillW
  iterate 9 (refine Owned.set_below ?_ (by show _ < B; first | exact (by simp only; omega) | omega) _)
  exact h
set_option maxRecDepth 100000 in
set_option maxHeartbeats 4000000 in
theorem implApp_any (a : Option Addr) (cap : Nat) (K : DiskD) (L : LogD) (p : ByteArray) (most : Int) (w : World) (hpow : PowTab w) (hf : FilesIn w a K.fs) (hfit : Fit K.fs) (hp : p.size ≤ 1048576) :
    Calls Tryz.prog 8 #[.agg #[.slice a K.fs.length cap, .int .i64 K.c, .int .i64 K.k, .int .i64 K.cr, .int .i64 K.fl, .bool K.dn], .agg #[.int .i64 L.first, .int .i64 L.last, .int .i64 L.size], .string p, .int .i64 most] w fun e w' =>
      ∃ a' cap', e = .returned (.tuple #[.agg #[.slice a' (appendD K L p most).1.fs.length cap', .int .i64 (appendD K L p most).1.c, .int .i64 (appendD K L p most).1.k, .int .i64 (appendD K L p most).1.cr, .int .i64 (appendD K L p most).1.fl, .bool (appendD K L p most).1.dn], .agg #[.int .i64 (appendD K L p most).2.1.first, .int .i64 (appendD K L p most).2.1.last, .int .i64 (appendD K L p most).2.1.size], .int .i64 (appendD K L p most).2.2]) ∧
        Owned w' w.heap.size a' (appendD K L p most).1.fs ∧ Below w.heap.size w w' := by
  have HF : Hid (FilesIn w a K.fs) := hf
  have hlen := hfit.len
  have HS : Hid (Fit K.fs) := hfit
  have HPW : Hid (PowTab w) := hpow
  clear hf hfit hpow
  go_enter Tryz.func8, Tryz.ntmps8
  go_upto_region 1 with fail
  obtain ⟨hA, hL, hR, hR2, hb4⟩ := fourBoxes (w := w) (x := #[.slice a K.fs.length cap, .int .i64 K.c, .int .i64 K.k, .int .i64 K.cr, .int .i64 K.fl, .bool K.dn]) (tx := 30) (y := #[.int .i64 L.first, .int .i64 L.last, .int .i64 L.size]) (ty := 31) (z := #[.slice none 0 0, .int .i64 0, .int .i64 0, .int .i64 0, .int .i64 0, .bool false]) (tz := 30) (u := #[.int .i64 0, .int .i64 0, .int .i64 0]) (tu := 31) (Below.refl _ _)
  have hsz : ((((w.alloc (.cells #[.slice a K.fs.length cap, .int .i64 K.c, .int .i64 K.k, .int .i64 K.cr, .int .i64 K.fl, .bool K.dn] 30)).alloc (.cells #[.int .i64 L.first, .int .i64 L.last, .int .i64 L.size] 31)).alloc (.cells #[.slice none 0 0, .int .i64 0, .int .i64 0, .int .i64 0, .int .i64 0, .bool false] 30)).alloc (.cells #[.int .i64 0, .int .i64 0, .int .i64 0] 31)).heap.size = w.heap.size + 4 := by simp
  generalize ((((w.alloc (.cells #[.slice a K.fs.length cap, .int .i64 K.c, .int .i64 K.k, .int .i64 K.cr, .int .i64 K.fl, .bool K.dn] 30)).alloc (.cells #[.int .i64 L.first, .int .i64 L.last, .int .i64 L.size] 31)).alloc (.cells #[.slice none 0 0, .int .i64 0, .int .i64 0, .int .i64 0, .int .i64 0, .bool false] 30)).alloc (.cells #[.int .i64 0, .int .i64 0, .int .i64 0] 31)) = W4 at *
  have HBX : Hid (∀ wx, Below W4.heap.size W4 wx → Blk wx w.heap.size #[.slice a K.fs.length cap, .int .i64 K.c, .int .i64 K.k, .int .i64 K.cr, .int .i64 K.fl, .bool K.dn] 30 ∧ Blk wx (w.heap.size + 1) #[.int .i64 L.first, .int .i64 L.last, .int .i64 L.size] 31 ∧ Blk wx (w.heap.size + 1 + 1) #[.slice none 0 0, .int .i64 0, .int .i64 0, .int .i64 0, .int .i64 0, .bool false] 30 ∧ Blk wx (w.heap.size + 1 + 1 + 1) #[.int .i64 0, .int .i64 0, .int .i64 0] 31 ∧ Below w.heap.size w wx) := fun wx h => ⟨hA.later h, hL.later h, hR.later h, hR2.later h, bto hb4 h⟩
  have HK : Hid (∀ wx, Below W4.heap.size W4 wx → wx.cell? ⟨w.heap.size, 0, none⟩ = some (.slice a K.fs.length cap) ∧ wx.cell? ⟨w.heap.size, 1, none⟩ = some (.int .i64 K.c) ∧ wx.cell? ⟨w.heap.size, 2, none⟩ = some (.int .i64 K.k) ∧ wx.cell? ⟨w.heap.size, 3, none⟩ = some (.int .i64 K.cr) ∧ wx.cell? ⟨w.heap.size, 4, none⟩ = some (.int .i64 K.fl) ∧ wx.cell? ⟨w.heap.size, 5, none⟩ = some (.bool K.dn) ∧ wx.cell? ⟨w.heap.size + 1, 0, none⟩ = some (.int .i64 L.first) ∧ wx.cell? ⟨w.heap.size + 1, 1, none⟩ = some (.int .i64 L.last) ∧ wx.cell? ⟨w.heap.size + 1, 2, none⟩ = some (.int .i64 L.size)) := fun wx h => by
    obtain ⟨a0, a1, a2, a3, a4, a5⟩ := (hA.later h).six
    obtain ⟨b0, b1, b2⟩ := (hL.later h).three
    exact ⟨a0, a1, a2, a3, a4, a5, b0, b1, b2⟩
  have HF4 : Hid (∀ wx, Below W4.heap.size W4 wx → FilesIn wx a K.fs) := fun wx h => HF.out.later (bto hb4 h)
  have HSZ : Hid (W4.heap.size = w.heap.size + 4) := hsz
  clear hA hL hR hR2 hb4 hsz
  go_cut [11] (fun s wx => Made w.heap.size W4 wx K L s)
  case first =>
    go_region_held3 (fun wx => wx.cell? ⟨w.heap.size, 0, none⟩ = some (.slice a K.fs.length cap) ∧ wx.cell? ⟨w.heap.size, 1, none⟩ = some (.int .i64 K.c) ∧ wx.cell? ⟨w.heap.size, 2, none⟩ = some (.int .i64 K.k) ∧ wx.cell? ⟨w.heap.size, 3, none⟩ = some (.int .i64 K.cr) ∧ wx.cell? ⟨w.heap.size, 4, none⟩ = some (.int .i64 K.fl) ∧ wx.cell? ⟨w.heap.size, 5, none⟩ = some (.bool K.dn) ∧ wx.cell? ⟨w.heap.size + 1, 0, none⟩ = some (.int .i64 L.first) ∧ wx.cell? ⟨w.heap.size + 1, 1, none⟩ = some (.int .i64 L.last) ∧ wx.cell? ⟨w.heap.size + 1, 2, none⟩ = some (.int .i64 L.size))
      (exact HK.out _ (by repeat (first | with_reducible refine Below.setCell ?_ (by exact Nat.le_refl _) _ | with_reducible exact Below.refl _ _ | with_reducible refine bto ?_ (bnew _ _) | with_reducible refine Below.drew ?_ | exact (Below.refl _ _).drew | refine bto ?_ (by assumption))))
      (first
      | (go_at_call 20; refine (mount_any a cap K.fs K.c K.k K.cr K.fl K.dn _ (HF4.out _ (by repeat (first | with_reducible exact Below.refl _ _ | with_reducible refine bto ?_ (bnew _ _) | with_reducible refine Below.drew ?_ | exact (Below.refl _ _).drew | refine bto ?_ (by assumption)))) (by omega)).mono ?_; rintro e w7 ⟨D, v, rfl, hd7, hb7⟩; (try (have hz : Blk w7 W4.heap.size _ _ := blk_of_drew hb7; obtain ⟨q0, q1, q2, q3⟩ := hz.four; have f0 := hz.free 0; have f1 := hz.free 1; have f2 := hz.free 2; have f3 := hz.free 3))))
    all_goals (go_wp2_with fail; go_meet)
    · have hs4 := HSZ.out
      have hbx : Below W4.heap.size W4 w7 := bto (Below.refl _ _).drew hb7
      have hb8 : Below W4.heap.size W4 (w7.alloc (.cells #[.pointer (some ⟨D, 0, none⟩), .int .i64 L.first, .int .i64 L.last, .int .i64 L.size] 53)) := bto hbx (bnew _ _)
      refine ⟨w7.heap.size, D, W4.heap.size, v, rfl, ?_, ?_, heap_alloc_new _ _, hd7.later (bnew _ _), hb8⟩
      · have := hbx.size; omega
      · omega
    · have hs4 := HSZ.out
      have hz : Blk w7 W4.heap.size _ _ := blk_of_drew hb7
      have hb8 : Below W4.heap.size W4 ((((w7.setCell ⟨W4.heap.size, 0, none⟩ (.pointer (some ⟨D, 0, none⟩))).setCell ⟨W4.heap.size, 1, none⟩ (.int .i64 L.first)).setCell ⟨W4.heap.size, 2, none⟩ (.int .i64 L.last)).setCell ⟨W4.heap.size, 3, none⟩ (.int .i64 L.size)) := by
        iterate 4 (refine Below.setCell ?_ (by exact Nat.le_refl _) _)
        exact bto (bto (Below.refl _ _) (bnew _ _)).drew hb7
      refine ⟨W4.heap.size, D, W4.heap.size + 1, v, rfl, by omega, by omega, wr_fill hz, ?_, hb8⟩
      have hd8 : DriveAt w7 (W4.heap.size + 1) D K.fs K.c K.k K.cr K.fl K.dn v := by
        have h9 := hd7
        simpa using h9
      exact (((hd8.set_low (by omega) 0 _).set_low (by omega) 1 _).set_low (by omega) 2 _).set_low (by omega) 3 _
  obtain ⟨P, D, B, v, rfl, hP, hB, hwr, hdr, hb5⟩ := hcut
  obtain ⟨hA, hL, hR, hR2, hbl⟩ := HBX.out _ hb5
  clear HK
  rename World => W5
  obtain ⟨a4, cap4, rfl, hown⟩ := owned_of_row hdr.row
  have HM : Hid (DriveAt W5 B D K.fs K.c K.k K.cr K.fl K.dn (.slice a4 K.fs.length cap4) ∧ Blk W5 w.heap.size #[.slice a K.fs.length cap, .int .i64 K.c, .int .i64 K.k, .int .i64 K.cr, .int .i64 K.fl, .bool K.dn] 30 ∧ Blk W5 (w.heap.size + 1 + 1) #[.slice none 0 0, .int .i64 0, .int .i64 0, .int .i64 0, .int .i64 0, .bool false] 30 ∧ Blk W5 (w.heap.size + 1 + 1 + 1) #[.int .i64 0, .int .i64 0, .int .i64 0] 31 ∧ Below w.heap.size w W5 ∧ Owned W5 B a4 K.fs) := ⟨hdr, hA, hR, hR2, hbl, hown⟩
  have HKP : Hid (KP w.heap.size P D L L W5) := ⟨hwr, hL⟩
  have HB5 : Hid (Below W4.heap.size W4 W5) := hb5
  clear hwr hdr hA hL hR hR2 hbl hown hb5
  go_wp2_with fail
  refine (refuse_any P D L p most _ HKP.out.1 hp).mono ?_
  rintro e w6 ⟨rfl, hb6⟩
  have H6 : Hid (DriveAt w6 B D K.fs K.c K.k K.cr K.fl K.dn (.slice a4 K.fs.length cap4) ∧ Blk w6 w.heap.size #[.slice a K.fs.length cap, .int .i64 K.c, .int .i64 K.k, .int .i64 K.cr, .int .i64 K.fl, .bool K.dn] 30 ∧ Blk w6 (w.heap.size + 1 + 1) #[.slice none 0 0, .int .i64 0, .int .i64 0, .int .i64 0, .int .i64 0, .bool false] 30 ∧ Blk w6 (w.heap.size + 1 + 1 + 1) #[.int .i64 0, .int .i64 0, .int .i64 0] 31 ∧ Below w.heap.size w w6 ∧ Owned w6 B a4 K.fs) := ⟨HM.out.1.later hb6, HM.out.2.1.later hb6, HM.out.2.2.1.later hb6, HM.out.2.2.2.1.later hb6, bto HM.out.2.2.2.2.1 hb6, HM.out.2.2.2.2.2.later hb6⟩
  have HKP6 : Hid (KP w.heap.size P D L L w6) := HKP.out.later hb6
  have HB6 : Hid (Below W4.heap.size W4 w6) := bto HB5.out hb6
  clear hb6 HM HKP HB5
  by_cases h0 : refR L p most = 0
  · obtain ⟨EA, hlb, hz60, hn9⟩ := appendD_add (K := K) h0
    have E0 : Hid (appendD K L p most = addR K L (frameS p) most) := EA
    rw [h0]
    simp only [errW, errV]
    obtain ⟨d0, d1, d2, d3, d4, d5⟩ := H6.out.2.1.six
    have hlm : K.fs.length ≤ maxLen := by unfold maxLen; omega
    cases hdv : diskB K.fs K.c K.k K.cr K.fl with
    | false =>
      have E : Hid (appendD K L p most = (⟨[], 0, 0, 0, 0, false⟩, L, 6)) := by show _ = _; rw [E0.out, addR_bad hdv]
      have HV : Hid (∀ W, FilesIn W a K.fs → Calls Tryz.prog 24 #[.agg #[.slice a K.fs.length cap, .int .i64 K.c, .int .i64 K.k, .int .i64 K.cr, .int .i64 K.fl, .bool K.dn]] W fun e w' => e = .returned (.bool false) ∧ Below W.heap.size W w') := fun W h => implValid_is hdv W h HS.out.short hlm HS.out.sum
      clear hdv EA h0 hn9
      go_wp2_with fail
      refine (HV.out _ (HF4.out _ HB6.out)).mono ?_
      rintro e w7 ⟨rfl, hb7⟩
      have hz := H6.out.2.2.1.later hb7
      have hy := H6.out.2.2.2.1.later hb7
      have H7 : Hid (Below w.heap.size w w7) := bto H6.out.2.2.2.2.1 hb7
      obtain ⟨_, _, _, _, l0, l1, l2⟩ := (HKP6.out.later hb7).cells
      obtain ⟨r0, r1, r2, r3, r4, r5⟩ := hz.six
      obtain ⟨y0, y1, y2⟩ := hy.three
      have f0 := hz.free 0
      have f1 := hz.free 1
      have f2 := hz.free 2
      have f3 := hz.free 3
      have f4 := hz.free 4
      have f5 := hz.free 5
      have g0 := hy.free 0
      have g1 := hy.free 1
      have g2 := hy.free 2
      clear hb7 d0 d1 d2 d3 d4 d5
      go_wp2_with fail
      go_region
      obtain ⟨hzF, hyF⟩ := fill_blks (v0 := .slice none 0 0) (v1 := .int .i64 0) (v2 := .int .i64 0) (v3 := .int .i64 0) (v4 := .int .i64 0) (v5 := .bool false) (x0 := .int .i64 L.first) (x1 := .int .i64 L.last) (x2 := .int .i64 L.size) hz hy
      have HFB : Hid (Below w.heap.size w (fillW w.heap.size w7 (.slice none 0 0) (.int .i64 0) (.int .i64 0) (.int .i64 0) (.int .i64 0) (.bool false) (.int .i64 L.first) (.int .i64 L.last) (.int .i64 L.size))) := fill_below H7.out (Nat.le_refl _)
      obtain ⟨s0, s1, s2, s3, s4, s5⟩ := hzF.six
      obtain ⟨t0, t1, t2⟩ := hyF.three
      clear hz hy r0 r1 r2 r3 r4 r5 y0 y1 y2 f0 f1 f2 f3 f4 f5 g0 g1 g2 l0 l1 l2 hzF hyF
      change Exit.then _ _ Exit.normal _ (fillW w.heap.size w7 (.slice none 0 0) (.int .i64 0) (.int .i64 0) (.int .i64 0) (.int .i64 0) (.bool false) (.int .i64 L.first) (.int .i64 L.last) (.int .i64 L.size)).drew
      generalize fillW w.heap.size w7 (.slice none 0 0) (.int .i64 0) (.int .i64 0) (.int .i64 0) (.int .i64 0) (.bool false) (.int .i64 L.first) (.int .i64 L.last) (.int .i64 L.size) = W9 at *
      go_wp2
      refine bodyPost_ret (v := .tuple #[.agg #[.slice none 0 0, .int .i64 0, .int .i64 0, .int .i64 0, .int .i64 0, .bool false], .agg #[.int .i64 L.first, .int .i64 L.last, .int .i64 L.size], .int .i64 6]) (by simp [results, Tryz.results8, go_sem, s0, s1, s2, s3, s4, s5, t0, t1, t2]) rfl ?_
      rw [E.out]
      exact ⟨none, 0, rfl, Or.inl rfl, HFB.out.drew⟩
    | true =>
      have HV : Hid (∀ W, FilesIn W a K.fs → Calls Tryz.prog 24 #[.agg #[.slice a K.fs.length cap, .int .i64 K.c, .int .i64 K.k, .int .i64 K.cr, .int .i64 K.fl, .bool K.dn]] W fun e w' => e = .returned (.bool true) ∧ Below W.heap.size W w') := fun W h => implValid_is hdv W h HS.out.short hlm HS.out.sum
      have HST : Hid (∀ W, Below w6.heap.size w6 W → WSt W4 W B P D K L) := fun W hb => ⟨HPW.out.later (HBX.out W4 (Below.refl _ _)).2.2.2.2, bto HB6.out hb, by rw [HSZ.out]; exact hB, by rw [HSZ.out]; exact hP, (HKP6.out.later hb).1, ⟨_, H6.out.1.later hb⟩, hdv⟩
      have HAD : Hid (∀ W, Below w6.heap.size w6 W → Calls Tryz.prog 25 #[.pointer (some ⟨P, 0, none⟩), .string (frameS p), .int .i64 most] W fun e w' => e = .returned (errV (addR K L (frameS p) most).2.2) ∧ (addR K L (frameS p) most).2.2 ≤ 6 ∧ WSt W4 w' B P D (addR K L (frameS p) most).1 (addR K L (frameS p) most).2.1) := fun W hb => by
        cases hfu : fullB L (frameS p).size most with
        | false => exact add_short (frameS p) most (HST.out W hb) hlb hz60 hfu
        | true => exact add_full (frameS p) most (HST.out W hb) hlb hz60 hfu (hn9 hfu)
      have HFR : Hid (∀ W, Calls Tryz.prog 26 #[.string p] W fun e w' => e = .returned (.string (frameS p)) ∧ Below W.heap.size W w') := fun W => implFrame_any p W (by unfold maxLen; omega)
      obtain ⟨⟨K2, L2, code⟩, hR⟩ : ∃ R, addR K L (frameS p) most = R := ⟨_, rfl⟩
      have E : Hid (appendD K L p most = (K2, L2, code)) := by show _ = _; rw [E0.out, hR]
      rw [hR] at HAD
      clear hR EA h0 hn9 hdv E0 hlb hz60
      generalize frameS p = F at *
      go_wp2_with fail
      refine (HV.out _ (HF4.out _ HB6.out)).mono ?_
      rintro e w7 ⟨rfl, hb7⟩
      have HB7 : Hid (Below w6.heap.size w6 w7) := hb7
      clear hb7 d0 d1 d2 d3 d4 d5
      go_wp2_with fail
      refine (HFR.out _).mono ?_
      rintro e w8 ⟨rfl, hb8⟩
      have HB8 : Hid (Below w6.heap.size w6 w8) := bto HB7.out hb8
      clear hb8
      go_wp2_with fail
      refine (HAD.out _ HB8.out).mono ?_
      rintro e w9 ⟨rfl, hc6, hst⟩
      obtain ⟨v9, hv9⟩ := hst.drive
      obtain ⟨a9, cap9, rfl, hown9⟩ := owned_of_row hv9.row
      obtain ⟨_, hL9, hR9, hR29, hb9⟩ := HBX.out _ hst.below
      have H9 : Hid (DriveAt w9 B D K2.fs K2.c K2.k K2.cr K2.fl K2.dn (.slice a9 K2.fs.length cap9) ∧ Blk w9 (w.heap.size + 1 + 1) #[.slice none 0 0, .int .i64 0, .int .i64 0, .int .i64 0, .int .i64 0, .bool false] 30 ∧ Blk w9 (w.heap.size + 1 + 1 + 1) #[.int .i64 0, .int .i64 0, .int .i64 0] 31 ∧ Below w.heap.size w w9 ∧ Owned w9 B a9 K2.fs) := ⟨hv9, hR9, hR29, hb9, hown9⟩
      have HKP9 : Hid (KP w.heap.size P D L2 L w9) := ⟨hst.wr, hL9⟩
      have HCD : Hid (∀ W, Calls Tryz.prog 23 #[errV code] W fun e w' => e = .returned (.int .i64 (code : Nat)) ∧ w' = W) := fun W => logCode_disk code hc6 W
      have HUN : Hid (∀ W, DriveAt W B D K2.fs K2.c K2.k K2.cr K2.fl K2.dn (.slice a9 K2.fs.length cap9) → Calls Tryz.prog 22 #[.pointer (some ⟨D, 0, none⟩)] W fun e w' => e = .returned (.agg #[.slice a9 K2.fs.length cap9, .int .i64 K2.c, .int .i64 K2.k, .int .i64 K2.cr, .int .i64 K2.fl, .bool K2.dn]) ∧ Below W.heap.size W w') := fun W h => unmount_any D _ a9 _ cap9 _ _ _ _ _ W h.blk
      clear hst hv9 hown9 hL9 hR9 hR29 hb9 HAD HST HV HFR HB7 HB8
      generalize errV code = EV at *
      go_wp2_with fail
      go_region_held3 (fun wx => wx.cell? ⟨P, 0, none⟩ = some (.pointer (some ⟨D, 0, none⟩)) ∧ wx.cell? ⟨P, 1, none⟩ = some (.int .i64 L2.first) ∧ wx.cell? ⟨P, 2, none⟩ = some (.int .i64 L2.last) ∧ wx.cell? ⟨P, 3, none⟩ = some (.int .i64 L2.size) ∧ wx.cell? ⟨w.heap.size + 1, 0, none⟩ = some (.int .i64 L.first) ∧ wx.cell? ⟨w.heap.size + 1, 1, none⟩ = some (.int .i64 L.last) ∧ wx.cell? ⟨w.heap.size + 1, 2, none⟩ = some (.int .i64 L.size))
        (exact KP.cells (L := L) (by repeat (first | with_reducible refine KP.set ?_ (by omega) (by omega) | exact HKP9.out.drew | exact HKP8.out)))
        (first
        | (go_at_call 22; refine (HUN.out _ (H9.out.1.later (Below.refl _ _).drew)).mono ?_; rintro e w8 ⟨rfl, hb8⟩; have HKP8 : Hid (KP w.heap.size P D L2 L w8) := HKP9.out.drew.later hb8; have hz := (H9.out.2.1.later (Below.refl _ _).drew).later hb8; have hy := (H9.out.2.2.1.later (Below.refl _ _).drew).later hb8; obtain ⟨r0, r1, r2, r3, r4, r5⟩ := hz.six; obtain ⟨y0, y1, y2⟩ := hy.three; have f0 := hz.free 0; have f1 := hz.free 1; have f2 := hz.free 2; have f3 := hz.free 3; have f4 := hz.free 4; have f5 := hz.free 5; have g0 := hy.free 0; have g1 := hy.free 1; have g2 := hy.free 2)
        | (go_at_call 23; refine (HCD.out _).mono ?_; rintro e w' ⟨rfl, hw⟩; replace hw := hw.symm; subst hw))
      have H8 : Hid (Below w.heap.size w w8 ∧ Owned w8 B a9 K2.fs) := ⟨bto (bto H9.out.2.2.2.1 (Below.refl _ _).drew) hb8, (H9.out.2.2.2.2.later (Below.refl _ _).drew).later hb8⟩
      obtain ⟨hzF, hyF⟩ := fill_blks (v0 := .slice a9 K2.fs.length cap9) (v1 := .int .i64 K2.c) (v2 := .int .i64 K2.k) (v3 := .int .i64 K2.cr) (v4 := .int .i64 K2.fl) (v5 := .bool K2.dn) (x0 := .int .i64 L2.first) (x1 := .int .i64 L2.last) (x2 := .int .i64 L2.size) hz hy
      have HFB : Hid (Below w.heap.size w (fillW w.heap.size w8 (.slice a9 K2.fs.length cap9) (.int .i64 K2.c) (.int .i64 K2.k) (.int .i64 K2.cr) (.int .i64 K2.fl) (.bool K2.dn) (.int .i64 L2.first) (.int .i64 L2.last) (.int .i64 L2.size))) := fill_below H8.out.1 (Nat.le_refl _)
      have HFO : Hid (Owned (fillW w.heap.size w8 (.slice a9 K2.fs.length cap9) (.int .i64 K2.c) (.int .i64 K2.k) (.int .i64 K2.cr) (.int .i64 K2.fl) (.bool K2.dn) (.int .i64 L2.first) (.int .i64 L2.last) (.int .i64 L2.size)) B a9 K2.fs) := fill_owned H8.out.2 hB
      obtain ⟨s0, s1, s2, s3, s4, s5⟩ := hzF.six
      obtain ⟨t0, t1, t2⟩ := hyF.three
      clear hz hy r0 r1 r2 r3 r4 r5 y0 y1 y2 f0 f1 f2 f3 f4 f5 g0 g1 g2 hzF hyF
      change Exit.then _ _ Exit.normal _ (fillW w.heap.size w8 (.slice a9 K2.fs.length cap9) (.int .i64 K2.c) (.int .i64 K2.k) (.int .i64 K2.cr) (.int .i64 K2.fl) (.bool K2.dn) (.int .i64 L2.first) (.int .i64 L2.last) (.int .i64 L2.size))
      generalize fillW w.heap.size w8 (.slice a9 K2.fs.length cap9) (.int .i64 K2.c) (.int .i64 K2.k) (.int .i64 K2.cr) (.int .i64 K2.fl) (.bool K2.dn) (.int .i64 L2.first) (.int .i64 L2.last) (.int .i64 L2.size) = W9 at *
      go_wp2
      refine bodyPost_ret (v := .tuple #[.agg #[.slice a9 K2.fs.length cap9, .int .i64 K2.c, .int .i64 K2.k, .int .i64 K2.cr, .int .i64 K2.fl, .bool K2.dn], .agg #[.int .i64 L2.first, .int .i64 L2.last, .int .i64 L2.size], .int .i64 code]) (by simp [results, Tryz.results8, go_sem, s0, s1, s2, s3, s4, s5, t0, t1, t2]) rfl ?_
      rw [E.out]
      exact ⟨a9, cap9, rfl, HFO.out.mono (by omega), HFB.out⟩
  · have E : Hid (appendD K L p most = (K, L, refR L p most)) := appendD_ref h0
    have hc3 : refR L p most = 21 ∨ refR L p most = 22 ∨ refR L p most = 23 := by
      unfold refR at h0 ⊢
      split
      · exact Or.inl rfl
      · split
        · exact Or.inr (Or.inl rfl)
        · split
          · exact Or.inr (Or.inr rfl)
          · rename_i h1 h2 h3
            rw [if_neg h1, if_neg h2, if_neg h3] at h0
            exact absurd rfl h0
    obtain ⟨t, ht⟩ : ∃ t, errW (refR L p most) = .iface 79 (.string t) := by
      rcases hc3 with e | e | e <;> rw [e] <;> exact ⟨_, rfl⟩
    have HCD : Hid (∀ W, Calls Tryz.prog 23 #[.iface 79 (.string t)] W fun e w' => e = .returned (.int .i64 (refR L p most : Nat)) ∧ w' = W) := fun W => by
      rw [← ht]
      exact logCode_any _ (Or.inr (Or.inr hc3)) W
    have HUN : Hid (∀ W, DriveAt W B D K.fs K.c K.k K.cr K.fl K.dn (.slice a4 K.fs.length cap4) → Calls Tryz.prog 22 #[.pointer (some ⟨D, 0, none⟩)] W fun e w' => e = .returned (.agg #[.slice a4 K.fs.length cap4, .int .i64 K.c, .int .i64 K.k, .int .i64 K.cr, .int .i64 K.fl, .bool K.dn]) ∧ Below W.heap.size W w') := fun W h => unmount_any D _ a4 _ cap4 _ _ _ _ _ W h.blk
    rw [ht]
    clear ht h0 hc3
    generalize refR L p most = code at *
    go_wp2_with fail
    go_region_held3 (fun wx => wx.cell? ⟨P, 0, none⟩ = some (.pointer (some ⟨D, 0, none⟩)) ∧ wx.cell? ⟨P, 1, none⟩ = some (.int .i64 L.first) ∧ wx.cell? ⟨P, 2, none⟩ = some (.int .i64 L.last) ∧ wx.cell? ⟨P, 3, none⟩ = some (.int .i64 L.size) ∧ wx.cell? ⟨w.heap.size + 1, 0, none⟩ = some (.int .i64 L.first) ∧ wx.cell? ⟨w.heap.size + 1, 1, none⟩ = some (.int .i64 L.last) ∧ wx.cell? ⟨w.heap.size + 1, 2, none⟩ = some (.int .i64 L.size))
      (exact KP.cells (L := L) (by repeat (first | with_reducible refine KP.set ?_ (by omega) (by omega) | exact HKP6.out.drew | exact HKP8.out)))
      (first
      | (go_at_call 22; refine (HUN.out _ (H6.out.1.later (Below.refl _ _).drew)).mono ?_; rintro e w8 ⟨rfl, hb8⟩; have HKP8 : Hid (KP w.heap.size P D L L w8) := HKP6.out.drew.later hb8; have hz := (H6.out.2.2.1.later (Below.refl _ _).drew).later hb8; have hy := (H6.out.2.2.2.1.later (Below.refl _ _).drew).later hb8; obtain ⟨r0, r1, r2, r3, r4, r5⟩ := hz.six; obtain ⟨y0, y1, y2⟩ := hy.three; have f0 := hz.free 0; have f1 := hz.free 1; have f2 := hz.free 2; have f3 := hz.free 3; have f4 := hz.free 4; have f5 := hz.free 5; have g0 := hy.free 0; have g1 := hy.free 1; have g2 := hy.free 2)
      | (go_at_call 23; refine (HCD.out _).mono ?_; rintro e w' ⟨rfl, hw⟩; replace hw := hw.symm; subst hw))
    have H8 : Hid (Below w.heap.size w w8 ∧ Owned w8 B a4 K.fs) := ⟨bto (bto H6.out.2.2.2.2.1 (Below.refl _ _).drew) hb8, (H6.out.2.2.2.2.2.later (Below.refl _ _).drew).later hb8⟩
    obtain ⟨hzF, hyF⟩ := fill_blks (v0 := .slice a4 K.fs.length cap4) (v1 := .int .i64 K.c) (v2 := .int .i64 K.k) (v3 := .int .i64 K.cr) (v4 := .int .i64 K.fl) (v5 := .bool K.dn) (x0 := .int .i64 L.first) (x1 := .int .i64 L.last) (x2 := .int .i64 L.size) hz hy
    have HFB : Hid (Below w.heap.size w (fillW w.heap.size w8 (.slice a4 K.fs.length cap4) (.int .i64 K.c) (.int .i64 K.k) (.int .i64 K.cr) (.int .i64 K.fl) (.bool K.dn) (.int .i64 L.first) (.int .i64 L.last) (.int .i64 L.size))) := fill_below H8.out.1 (Nat.le_refl _)
    have HFO : Hid (Owned (fillW w.heap.size w8 (.slice a4 K.fs.length cap4) (.int .i64 K.c) (.int .i64 K.k) (.int .i64 K.cr) (.int .i64 K.fl) (.bool K.dn) (.int .i64 L.first) (.int .i64 L.last) (.int .i64 L.size)) B a4 K.fs) := fill_owned H8.out.2 hB
    obtain ⟨s0, s1, s2, s3, s4, s5⟩ := hzF.six
    obtain ⟨t0, t1, t2⟩ := hyF.three
    clear hz hy r0 r1 r2 r3 r4 r5 y0 y1 y2 f0 f1 f2 f3 f4 f5 g0 g1 g2 hzF hyF
    change Exit.then _ _ Exit.normal _ (fillW w.heap.size w8 (.slice a4 K.fs.length cap4) (.int .i64 K.c) (.int .i64 K.k) (.int .i64 K.cr) (.int .i64 K.fl) (.bool K.dn) (.int .i64 L.first) (.int .i64 L.last) (.int .i64 L.size))
    generalize fillW w.heap.size w8 (.slice a4 K.fs.length cap4) (.int .i64 K.c) (.int .i64 K.k) (.int .i64 K.cr) (.int .i64 K.fl) (.bool K.dn) (.int .i64 L.first) (.int .i64 L.last) (.int .i64 L.size) = W9 at *
    go_wp2
    refine bodyPost_ret (v := .tuple #[.agg #[.slice a4 K.fs.length cap4, .int .i64 K.c, .int .i64 K.k, .int .i64 K.cr, .int .i64 K.fl, .bool K.dn], .agg #[.int .i64 L.first, .int .i64 L.last, .int .i64 L.size], .int .i64 code]) (by simp [results, Tryz.results8, go_sem, s0, s1, s2, s3, s4, s5, t0, t1, t2]) rfl ?_
    rw [E.out]
    exact ⟨a4, cap4, rfl, HFO.out.mono (by omega), HFB.out⟩
end Go.Proofs.YtboofidegpnkaaaGreatDoor
namespace Go.Proofs.YtboofidegpnkaaaGreatDoor
open Go.RowKit
set_option maxRecDepth 100000 in
set_option maxHeartbeats 1000000 in
theorem eqLog_same (lf ll ls : Int) (w : World) :
    Calls Tryz.prog 10 #[.agg #[.int .i64 lf, .int .i64 ll, .int .i64 ls], .agg #[.int .i64 lf, .int .i64 ll, .int .i64 ls]] w fun e w' => e = .returned (.bool true) ∧ Below w.heap.size w w' := by
  go_enter Tryz.func10, Tryz.ntmps10
  go_wp2
  go_ret
  exact ⟨rfl, bto (bnew _ _) (bnew _ _)⟩
end Go.Proofs.YtboofidegpnkaaaGreatDoor
