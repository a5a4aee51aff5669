import Derived.Test.YtflfopienjjlbaaGreatDoorProg
import Derived.Test.YtflfopienjjlbaaGreatDoorJ29WApp
import Derived.Test.YtflfopienjjlbaaGreatDoorJ30IApp
import Derived.Test.YtflfopienjjlbaaGreatDoorJ18Mark2
import Derived.Test.YtflfopienjjlbaaGreatDoorJ27QTail
import Derived.Test.YtflfopienjjlbaaGreatDoorJ11IFrames
import Derived.Deep.RegionHeld3
import Derived.Deep.DeepCutAuto
namespace Go.Proofs.YtflfopienjjlbaaGreatDoor
open Go.RowKit

/-- The two results' boxes, filled. -/
def fillPQ (P Q : Nat) (w8 : World) (v0 v1 v2 v3 v4 v5 x0 x1 x2 : Value) : World :=
  (((((((((w8.setCell ⟨P, 0, none⟩ v0).setCell ⟨P, 1, none⟩ v1).setCell ⟨P, 2, none⟩ v2).setCell ⟨P, 3, none⟩ v3).setCell ⟨P, 4, none⟩ v4).setCell ⟨P, 5, none⟩ v5).setCell ⟨Q, 0, none⟩ x0).setCell ⟨Q, 1, none⟩ x1).setCell ⟨Q, 2, none⟩ x2)
theorem fillPQ_blks {P Q : Nat} {w8 : World} {z0 z1 z2 z3 z4 z5 y0 y1 y2 v0 v1 v2 v3 v4 v5 x0 x1 x2 : Value} {t u : TypeId} (hne : P ≠ Q) (hz : Blk w8 P #[z0, z1, z2, z3, z4, z5] t) (hy : Blk w8 Q #[y0, y1, y2] u) :
    Blk (fillPQ P Q w8 v0 v1 v2 v3 v4 v5 x0 x1 x2) P #[v0, v1, v2, v3, v4, v5] t ∧ Blk (fillPQ P Q w8 v0 v1 v2 v3 v4 v5 x0 x1 x2) Q #[x0, x1, x2] u := by
  constructor
  · exact blk_other (blk_other (blk_other (blk_fill hz) hne) hne) hne
  · have h1 := (((((((hy.setO (g := P) (Ne.symm hne) 0 v0).setO (g := P) (Ne.symm hne) 1 v1).setO (g := P) (Ne.symm hne) 2 v2).setO (g := P) (Ne.symm hne) 3 v3).setO (g := P) (Ne.symm hne) 4 v4).setO (g := P) (Ne.symm hne) 5 v5).set 0 x0).set 1 x1
    have h2 := h1.set 2 x2
    show Blk (fillPQ P Q w8 v0 v1 v2 v3 v4 v5 x0 x1 x2) _ _ _
    simpa [fillPQ] using h2
theorem fillPQ_below {P Q B : Nat} {w w8 : World} {v0 v1 v2 v3 v4 v5 x0 x1 x2 : Value} (h : Below B w w8) (hP : B ≤ P) (hQ : B ≤ Q) : Below B w (fillPQ P Q w8 v0 v1 v2 v3 v4 v5 x0 x1 x2) := by
  unfold fillPQ
  iterate 3 (refine Below.setCell ?_ (by show B ≤ Q; exact hQ) _)
  iterate 6 (refine Below.setCell ?_ (by show B ≤ P; exact hP) _)
  exact h
theorem fillPQ_owned {P Q B : Nat} {w8 : World} {a : Option Addr} {fs : List FileD} {v0 v1 v2 v3 v4 v5 x0 x1 x2 : Value} (h : Owned w8 B a fs) (hP : P < B) (hQ : Q < B) : Owned (fillPQ P Q w8 v0 v1 v2 v3 v4 v5 x0 x1 x2) B a fs := by
  unfold fillPQ
  iterate 3 (refine Owned.set_below ?_ (by show Q < B; exact hQ) _)
  iterate 6 (refine Owned.set_below ?_ (by show P < B; exact hP) _)
  exact h
theorem fillPQ_row {P Q B : Nat} {w8 : World} {v : Value} {n : Nat} {xs : List Value} {v0 v1 v2 v3 v4 v5 x0 x1 x2 : Value} (h : w8.ownsRow B 9 1 v n xs) (hP : P < B) (hQ : Q < B) : (fillPQ P Q w8 v0 v1 v2 v3 v4 v5 x0 x1 x2).ownsRow B 9 1 v n xs := by
  unfold fillPQ
  iterate 3 (refine row_set_below (p := ⟨Q, _, none⟩) ?_ (by show Q < B; exact hQ) _)
  iterate 6 (refine row_set_below (p := ⟨P, _, none⟩) ?_ (by show P < B; exact hP) _)
  exact h
theorem WrAt.set {P D g j : Nat} {L : LogD} {W : World} {x : Value} (h : WrAt W P D L) (h1 : P ≠ g) : WrAt (W.setCell ⟨g, j, none⟩ x) P D L := blk_other h h1
/-- The writer is made. -/
def MadeO (W3 wx : World) (K : DiskD) (s : Value) : Prop :=
  ∃ (P D B : Nat) (v : Value), s = .pointer (some ⟨P, 0, none⟩) ∧ W3.heap.size ≤ P ∧ W3.heap.size ≤ B ∧ WrAt wx P D noLog ∧ DriveAt wx B D K.fs K.c K.k K.cr K.fl K.dn v ∧ Below W3.heap.size W3 wx
/-- The files' block and the texts' block are not the same. -/
def Apart2 (a : Option Addr) (fs : List FileD) (sa : Option Addr) (ys : List ByteArray) : Prop :=
  fs = [] ∨ ys = [] ∨ ∃ b o b' o', a = some ⟨b, o, none⟩ ∧ sa = some ⟨b', o', none⟩ ∧ b ≠ b'
theorem apart2_of {w : World} {B B' : Nat} {a sa : Option Addr} {cap sc : Nat} {fs : List FileD} {ys : List ByteArray} (h : w.ownsRow B 59 3 (.slice a fs.length cap) fs.length (flat fs)) (k : w.ownsRow B' 9 1 (.slice sa ys.length sc) ys.length (ys.map Value.string)) : Apart2 a fs sa ys := by
  rcases h.2 with ⟨_, h0⟩ | ⟨g, c, cur, e, _, hb, _⟩
  · exact Or.inl (List.length_eq_zero_iff.1 h0)
  · rcases k.2 with ⟨_, h0⟩ | ⟨g', c', cur', e', _, hb', _⟩
    · exact Or.inr (Or.inl (List.length_eq_zero_iff.1 h0))
    · simp only [Value.slice.injEq] at e e'
      refine Or.inr (Or.inr ⟨g, 0, g', 0, e.1, e'.1, fun hg => ?_⟩)
      subst hg
      rw [hb] at hb'
      simp at hb'
/-- What LogOpen answers. -/
def OpenOut (w : World) (R : DiskD × LogD × List ByteArray × Nat) (e : Ending) (w' : World) : Prop :=
  ∃ (a' : Option Addr) (cap' : Nat) (sa : Option Addr) (sc : Nat), e = .returned (.tuple #[.agg #[.slice a' R.1.fs.length cap', .int .i64 R.1.c, .int .i64 R.1.k, .int .i64 R.1.cr, .int .i64 R.1.fl, .bool R.1.dn], .agg #[.int .i64 R.2.1.first, .int .i64 R.2.1.last, .int .i64 R.2.1.size], .slice sa R.2.2.1.length sc, .int .i64 (R.2.2.2 : Nat)]) ∧
    Owned w' w.heap.size a' R.1.fs ∧ StrsOwn w' w.heap.size sa R.2.2.1 ∧ Apart2 a' R.1.fs sa R.2.2.1 ∧ Below w.heap.size w w'

set_option maxRecDepth 100000 in
set_option maxHeartbeats 4000000 in
theorem implOpen_any (a : Option Addr) (cap : Nat) (K : DiskD) (w : World) (hpow : PowTab w) (hert : ErrTab w) (hf : FilesIn w a K.fs) (hfit : Fit K.fs) :
    Calls Tryz.prog 8 #[.agg #[.slice a K.fs.length cap, .int .i64 K.c, .int .i64 K.k, .int .i64 K.cr, .int .i64 K.fl, .bool K.dn]] w fun e w' => OpenOut w (openD K) e w' := by
  have HF : Hid (FilesIn w a K.fs) := hf
  have hlen := hfit.len
  have HS : Hid (Fit K.fs) := hfit
  have HPW : Hid (PowTab w ∧ ErrTab w) := ⟨hpow, hert⟩
  have hlm : K.fs.length ≤ maxLen := by unfold maxLen; omega
  obtain ⟨⟨KR, LR, ys, code⟩, hR⟩ : ∃ R, openD K = R := ⟨_, rfl⟩
  have HR := hid hR
  have HCO : Hid ((code ≤ 6 ∨ code = 20 ∨ code = 21) ∧ (code ≠ 0 → LR = noLog ∧ ys = [])) := by
    have := openD_code K
    rw [hR] at this
    exact this
  rw [hR]
  clear hf hfit hpow hert hR
  go_enter Tryz.func8, Tryz.ntmps8
  go_upto_region 1 with fail
  obtain ⟨hA, hRs, hR2, hb3⟩ := three_boxes (w := w) (x := #[.slice a K.fs.length cap, .int .i64 K.c, .int .i64 K.k, .int .i64 K.cr, .int .i64 K.fl, .bool K.dn]) (tx := 28) (y := #[.slice none 0 0, .int .i64 0, .int .i64 0, .int .i64 0, .int .i64 0, .bool false]) (ty := 28) (z := #[.int .i64 0, .int .i64 0, .int .i64 0]) (tz := 30) (Below.refl _ _)
  have hsz : (((w.alloc (.cells #[.slice a K.fs.length cap, .int .i64 K.c, .int .i64 K.k, .int .i64 K.cr, .int .i64 K.fl, .bool K.dn] 28)).alloc (.cells #[.slice none 0 0, .int .i64 0, .int .i64 0, .int .i64 0, .int .i64 0, .bool false] 28)).alloc (.cells #[.int .i64 0, .int .i64 0, .int .i64 0] 30)).heap.size = w.heap.size + 3 := by simp
  generalize (((w.alloc (.cells #[.slice a K.fs.length cap, .int .i64 K.c, .int .i64 K.k, .int .i64 K.cr, .int .i64 K.fl, .bool K.dn] 28)).alloc (.cells #[.slice none 0 0, .int .i64 0, .int .i64 0, .int .i64 0, .int .i64 0, .bool false] 28)).alloc (.cells #[.int .i64 0, .int .i64 0, .int .i64 0] 30)) = W3 at *
  have HBX : Hid (∀ wx, Below W3.heap.size W3 wx → Blk wx w.heap.size #[.slice a K.fs.length cap, .int .i64 K.c, .int .i64 K.k, .int .i64 K.cr, .int .i64 K.fl, .bool K.dn] 28 ∧ Blk wx (w.heap.size + 1) #[.slice none 0 0, .int .i64 0, .int .i64 0, .int .i64 0, .int .i64 0, .bool false] 28 ∧ Blk wx (w.heap.size + 1 + 1) #[.int .i64 0, .int .i64 0, .int .i64 0] 30 ∧ Below w.heap.size w wx ∧ FilesIn wx a K.fs) := fun wx h => ⟨hA.later h, hRs.later h, hR2.later h, bto hb3 h, HF.out.later (bto hb3 h)⟩
  have HSZ : Hid (W3.heap.size = w.heap.size + 3) := hsz
  clear hA hRs hR2 hb3 hsz
  obtain ⟨k0, k1, k2, k3, k4, k5⟩ := (HBX.out W3 (Below.refl _ _)).1.six
  cases hdv : diskB K.fs K.c K.k K.cr K.fl with
  | false =>
    have E : Hid ((KR, LR, ys, code) = (⟨[], 0, 0, 0, 0, false⟩, noLog, [], 6)) := by show _ = _; rw [← HR.out]; unfold openD; rw [if_pos hdv]
    have HV : Hid (∀ W, FilesIn W a K.fs → Calls Tryz.prog 33 #[.agg #[.slice a K.fs.length cap, .int .i64 K.c, .int .i64 K.k, .int .i64 K.cr, .int .i64 K.fl, .bool K.dn]] W fun e w' => e = .returned (.bool false) ∧ Below W.heap.size W w') := fun W h => implValid_is hdv W h HS.out.short hlm HS.out.sum
    clear hdv
    go_wp2_with fail
    refine (HV.out _ (HBX.out _ (Below.refl _ _)).2.2.2.2).mono ?_
    rintro e w7 ⟨rfl, hb7⟩
    obtain ⟨_, hz, hy, h7, _⟩ := HBX.out _ hb7
    have H7 := hid h7
    obtain ⟨r0, r1, r2, r3, r4, r5⟩ := hz.six
    obtain ⟨y0, y1, y2⟩ := hy.three
    have f0 := hz.free 0
    have f1 := hz.free 1
    have f2 := hz.free 2
    have f3 := hz.free 3
    have f4 := hz.free 4
    have f5 := hz.free 5
    have g0 := hy.free 0
    have g1 := hy.free 1
    have g2 := hy.free 2
    clear hb7 k0 k1 k2 k3 k4 k5 h7
    obtain ⟨hzF, hyF⟩ := fillPQ_blks (v0 := .slice none 0 0) (v1 := .int .i64 0) (v2 := .int .i64 0) (v3 := .int .i64 0) (v4 := .int .i64 0) (v5 := .bool false) (x0 := .int .i64 0) (x1 := .int .i64 0) (x2 := .int .i64 0) (show w.heap.size + 1 ≠ w.heap.size + 1 + 1 by omega) hz hy
    have HFB := hid (fillPQ_below (P := w.heap.size + 1) (Q := w.heap.size + 1 + 1) (v0 := .slice none 0 0) (v1 := .int .i64 0) (v2 := .int .i64 0) (v3 := .int .i64 0) (v4 := .int .i64 0) (v5 := .bool false) (x0 := .int .i64 0) (x1 := .int .i64 0) (x2 := .int .i64 0) H7.out (by omega) (by omega))
    have HZF := hid hzF
    have HYF := hid hyF
    clear hzF hyF hz hy
    go_wp2
    obtain ⟨s0, s1, s2, s3, s4, s5⟩ := HZF.out.six
    obtain ⟨t0, t1, t2⟩ := HYF.out.three
    change bodyPost _ _ _ _ _ (fillPQ (w.heap.size + 1) (w.heap.size + 1 + 1) w7 (.slice none 0 0) (.int .i64 0) (.int .i64 0) (.int .i64 0) (.int .i64 0) (.bool false) (.int .i64 0) (.int .i64 0) (.int .i64 0))
    generalize fillPQ (w.heap.size + 1) (w.heap.size + 1 + 1) w7 (.slice none 0 0) (.int .i64 0) (.int .i64 0) (.int .i64 0) (.int .i64 0) (.bool false) (.int .i64 0) (.int .i64 0) (.int .i64 0) = W9 at *
    refine bodyPost_ret (v := .tuple #[.agg #[.slice none 0 0, .int .i64 0, .int .i64 0, .int .i64 0, .int .i64 0, .bool false], .agg #[.int .i64 0, .int .i64 0, .int .i64 0], .slice none 0 0, .int .i64 6]) (by simp [results, Tryz.results8, go_sem, s0, s1, s2, s3, s4, s5, t0, t1, t2]) rfl ?_
    rw [E.out]
    exact ⟨none, 0, none, 0, rfl, Or.inl rfl, Or.inl rfl, Or.inr (Or.inl rfl), HFB.out⟩
  | true =>
    have HV : Hid (∀ W, FilesIn W a K.fs → Calls Tryz.prog 33 #[.agg #[.slice a K.fs.length cap, .int .i64 K.c, .int .i64 K.k, .int .i64 K.cr, .int .i64 K.fl, .bool K.dn]] W fun e w' => e = .returned (.bool true) ∧ Below W.heap.size W w') := fun W h => implValid_is hdv W h HS.out.short hlm HS.out.sum
    have HDV := hid hdv
    clear hdv
    go_wp2_with fail
    refine (HV.out _ (HBX.out _ (Below.refl _ _)).2.2.2.2).mono ?_
    rintro e W4 ⟨rfl, hb4⟩
    have HB4 := hid hb4
    obtain ⟨l0, l1, l2, l3, l4, l5⟩ := (HBX.out _ hb4).1.six
    clear hb4 k0 k1 k2 k3 k4 k5
    go_wp2_with fail
    refine (mount_any a cap K.fs K.c K.k K.cr K.fl K.dn _ (HBX.out _ HB4.out).2.2.2.2 (by omega)).mono ?_
    rintro e w7 ⟨D, v, rfl, hd7, hb7⟩
    have hb47 : Below W3.heap.size W3 w7 := bto HB4.out hb7
    have HST : Hid (WSt W3 (w7.alloc (.cells #[.pointer (some ⟨D, 0, none⟩), .int .i64 0, .int .i64 0, .int .i64 0] 68)) W4.heap.size w7.heap.size D K noLog) := ⟨HPW.out.1.later (HBX.out W3 (Below.refl _ _)).2.2.2.1, bto hb47 (bnew _ _), HB4.out.size, hb47.size, heap_alloc_new _ _, ⟨v, hd7.later (bnew _ _)⟩, HDV.out⟩
    have HER : Hid (ErrTab W3) := HPW.out.2.later (HBX.out W3 (Below.refl _ _)).2.2.2.1
    have hP7 := hb47.size
    clear hd7 hb7 hb47 l0 l1 l2 l3 l4 l5
    go_upto_region 4 with fail
    have hW5 : w7.heap.size < (w7.alloc (.cells #[.pointer (some ⟨D, 0, none⟩), .int .i64 0, .int .i64 0, .int .i64 0] 68)).heap.size := by simp
    generalize w7.alloc (.cells #[.pointer (some ⟨D, 0, none⟩), .int .i64 0, .int .i64 0, .int .i64 0] 68) = W5 at *
    generalize w7.heap.size = P at *
    have HB4s := HB4.out.size
    generalize W4.heap.size = B at *
    have HOP := hid (open_any HST.out HER.out)
    rw [HR.out] at HOP
    clear w7
    go_wp2_with fail
    refine HOP.out.mono ?_
    rintro e w6 ⟨sl, Lw, rfl, hst, hok⟩
    simp only at hst hok
    obtain ⟨v9, hv9⟩ := hst.drive
    obtain ⟨a9, cap9, rfl, hown9⟩ := owned_of_row hv9.row
    obtain ⟨_, hR9, hR29, hb9, _⟩ := HBX.out _ hst.below
    have H9 : Hid (DriveAt w6 B D KR.fs KR.c KR.k KR.cr KR.fl KR.dn (.slice a9 KR.fs.length cap9) ∧ Blk w6 (w.heap.size + 1) #[.slice none 0 0, .int .i64 0, .int .i64 0, .int .i64 0, .int .i64 0, .bool false] 28 ∧ Blk w6 (w.heap.size + 1 + 1) #[.int .i64 0, .int .i64 0, .int .i64 0] 30 ∧ Below w.heap.size w w6 ∧ Owned w6 B a9 KR.fs ∧ WrAt w6 P D Lw) := ⟨hv9, hR9, hR29, hb9, hown9, hst.wr⟩
    have HUN : Hid (∀ W, DriveAt W B D KR.fs KR.c KR.k KR.cr KR.fl KR.dn (.slice a9 KR.fs.length cap9) → Calls Tryz.prog 36 #[.pointer (some ⟨D, 0, none⟩)] W fun e w' => e = .returned (.agg #[.slice a9 KR.fs.length cap9, .int .i64 KR.c, .int .i64 KR.k, .int .i64 KR.cr, .int .i64 KR.fl, .bool KR.dn]) ∧ Below W.heap.size W w') := fun W h => unmount_any D _ a9 _ cap9 _ _ _ _ _ W h.blk
    obtain ⟨p0, p1, p2, p3⟩ := hst.wr.cells
    clear hst hv9 hown9 hR9 hR29 hb9 HOP HST HV HER
    by_cases hc : code = 0
    · subst hc
      obtain ⟨rfl, sa, sc, rfl, hrow⟩ := hok rfl
      have HROW := hid hrow
      have HAP2 := hid (apart2_of H9.out.1.row HROW.out)
      simp only [errW, errV]
      clear hok hrow
      have hsz3 := HSZ.out
      have hP1 : P ≠ w.heap.size + 1 := by omega
      have hP2 : P ≠ w.heap.size + 1 + 1 := by omega
      go_wp2_with fail
      go_region_held3 (fun wx => wx.cell? ⟨P, 0, none⟩ = some (.pointer (some ⟨D, 0, none⟩)) ∧ wx.cell? ⟨P, 1, none⟩ = some (.int .i64 Lw.first) ∧ wx.cell? ⟨P, 2, none⟩ = some (.int .i64 Lw.last) ∧ wx.cell? ⟨P, 3, none⟩ = some (.int .i64 Lw.size))
        (exact WrAt.cells (by repeat (first | with_reducible refine WrAt.set ?_ hP1 | with_reducible refine WrAt.set ?_ hP2 | exact H9.out.2.2.2.2.2.later (Below.refl _ _).drew | exact HKP8.out)))
        (first
        | (go_at_call 36; refine (HUN.out _ (H9.out.1.later (Below.refl _ _).drew)).mono ?_; rintro e w8 ⟨rfl, hb8⟩; have HKP8 : Hid (WrAt w8 P D Lw) := (H9.out.2.2.2.2.2.later (Below.refl _ _).drew).later hb8; have hz := (H9.out.2.1.later (Below.refl _ _).drew).later hb8; have hy := (H9.out.2.2.1.later (Below.refl _ _).drew).later hb8; obtain ⟨r0, r1, r2, r3, r4, r5⟩ := hz.six; obtain ⟨y0, y1, y2⟩ := hy.three; have f0 := hz.free 0; have f1 := hz.free 1; have f2 := hz.free 2; have f3 := hz.free 3; have f4 := hz.free 4; have f5 := hz.free 5; have g0 := hy.free 0; have g1 := hy.free 1; have g2 := hy.free 2))
      have hs3 := HSZ.out
      have H8 : Hid (Below w.heap.size w w8 ∧ Owned w8 B a9 KR.fs) := ⟨bto (bto H9.out.2.2.2.1 (Below.refl _ _).drew) hb8, (H9.out.2.2.2.2.1.later (Below.refl _ _).drew).later hb8⟩
      obtain ⟨hzF, hyF⟩ := fillPQ_blks (v0 := .slice a9 KR.fs.length cap9) (v1 := .int .i64 KR.c) (v2 := .int .i64 KR.k) (v3 := .int .i64 KR.cr) (v4 := .int .i64 KR.fl) (v5 := .bool KR.dn) (x0 := .int .i64 Lw.first) (x1 := .int .i64 Lw.last) (x2 := .int .i64 Lw.size) (show w.heap.size + 1 ≠ w.heap.size + 1 + 1 by omega) hz hy
      have HFB : Hid (Below w.heap.size w (fillPQ (w.heap.size + 1) (w.heap.size + 1 + 1) w8 (.slice a9 KR.fs.length cap9) (.int .i64 KR.c) (.int .i64 KR.k) (.int .i64 KR.cr) (.int .i64 KR.fl) (.bool KR.dn) (.int .i64 Lw.first) (.int .i64 Lw.last) (.int .i64 Lw.size))) := fillPQ_below H8.out.1 (by omega) (by omega)
      have HFO : Hid (Owned (fillPQ (w.heap.size + 1) (w.heap.size + 1 + 1) w8 (.slice a9 KR.fs.length cap9) (.int .i64 KR.c) (.int .i64 KR.k) (.int .i64 KR.cr) (.int .i64 KR.fl) (.bool KR.dn) (.int .i64 Lw.first) (.int .i64 Lw.last) (.int .i64 Lw.size)) B a9 KR.fs) := fillPQ_owned H8.out.2 (by omega) (by omega)
      have HRWF : Hid ((fillPQ (w.heap.size + 1) (w.heap.size + 1 + 1) w8 (.slice a9 KR.fs.length cap9) (.int .i64 KR.c) (.int .i64 KR.k) (.int .i64 KR.cr) (.int .i64 KR.fl) (.bool KR.dn) (.int .i64 Lw.first) (.int .i64 Lw.last) (.int .i64 Lw.size)).ownsRow w.heap.size 9 1 (.slice sa ys.length sc) ys.length (ys.map Value.string)) := row_mono (fillPQ_row (row_later (row_later HROW.out (Below.refl _ _).drew) hb8) (by omega) (by omega)) (by omega)
      obtain ⟨s0, s1, s2, s3, s4, s5⟩ := hzF.six
      obtain ⟨t0, t1, t2⟩ := hyF.three
      clear hz hy r0 r1 r2 r3 r4 r5 y0 y1 y2 f0 f1 f2 f3 f4 f5 g0 g1 g2 hzF hyF
      change Exit.then _ _ Exit.normal _ (fillPQ (w.heap.size + 1) (w.heap.size + 1 + 1) w8 (.slice a9 KR.fs.length cap9) (.int .i64 KR.c) (.int .i64 KR.k) (.int .i64 KR.cr) (.int .i64 KR.fl) (.bool KR.dn) (.int .i64 Lw.first) (.int .i64 Lw.last) (.int .i64 Lw.size))
      generalize fillPQ (w.heap.size + 1) (w.heap.size + 1 + 1) w8 (.slice a9 KR.fs.length cap9) (.int .i64 KR.c) (.int .i64 KR.k) (.int .i64 KR.cr) (.int .i64 KR.fl) (.bool KR.dn) (.int .i64 Lw.first) (.int .i64 Lw.last) (.int .i64 Lw.size) = W9 at *
      go_wp2
      refine bodyPost_ret (v := .tuple #[.agg #[.slice a9 KR.fs.length cap9, .int .i64 KR.c, .int .i64 KR.k, .int .i64 KR.cr, .int .i64 KR.fl, .bool KR.dn], .agg #[.int .i64 Lw.first, .int .i64 Lw.last, .int .i64 Lw.size], .slice sa ys.length sc, .int .i64 0]) (by simp [results, Tryz.results8, go_sem, s0, s1, s2, s3, s4, s5, t0, t1, t2]) rfl ?_
      exact ⟨a9, cap9, sa, sc, rfl, HFO.out.mono (by omega), strs_of_row HRWF.out, HAP2.out, HFB.out⟩
    · obtain ⟨rfl, rfl⟩ := HCO.out.2 hc
      obtain ⟨t, ht⟩ : ∃ t, errW code = .iface 103 (.string t) := by
        rcases HCO.out.1 with h | rfl | rfl
        · match code, hc, h with
          | 1, _, _ => exact ⟨_, rfl⟩
          | 2, _, _ => exact ⟨_, rfl⟩
          | 3, _, _ => exact ⟨_, rfl⟩
          | 4, _, _ => exact ⟨_, rfl⟩
          | 5, _, _ => exact ⟨_, rfl⟩
          | 6, _, _ => exact ⟨_, rfl⟩
        · exact ⟨_, rfl⟩
        · exact ⟨_, rfl⟩
      have HCD : Hid (∀ W, Calls Tryz.prog 37 #[.iface 103 (.string t)] W fun e w' => e = .returned (.int .i64 (code : Nat)) ∧ w' = W) := fun W => by
        rw [← ht]
        refine logCode_any _ ?_ W
        rcases HCO.out.1 with h | h | h
        · exact Or.inl h
        · exact Or.inr (Or.inl h)
        · exact Or.inr (Or.inr (Or.inl h))
      rw [ht]
      clear ht hok
      have hsz3 := HSZ.out
      have hP1 : P ≠ w.heap.size + 1 := by omega
      have hP2 : P ≠ w.heap.size + 1 + 1 := by omega
      go_wp2_with fail
      refine (HUN.out _ H9.out.1).mono ?_
      rintro e w8 ⟨rfl, hb8⟩
      have hz := H9.out.2.1.later hb8
      have hy := H9.out.2.2.1.later hb8
      obtain ⟨r0, r1, r2, r3, r4, r5⟩ := hz.six
      obtain ⟨y0, y1, y2⟩ := hy.three
      have f0 := hz.free 0
      have f1 := hz.free 1
      have f2 := hz.free 2
      have f3 := hz.free 3
      have f4 := hz.free 4
      have f5 := hz.free 5
      have g0 := hy.free 0
      have g1 := hy.free 1
      have g2 := hy.free 2
      go_wp2_with fail
      refine (HCD.out _).mono ?_
      rintro e w' ⟨rfl, hw⟩
      replace hw := hw.symm
      subst hw
      have hs3 := HSZ.out
      have H8 : Hid (Below w.heap.size w w8 ∧ Owned w8 B a9 KR.fs) := ⟨bto H9.out.2.2.2.1 hb8, H9.out.2.2.2.2.1.later hb8⟩
      obtain ⟨hzF, hyF⟩ := fillPQ_blks (v0 := .slice a9 KR.fs.length cap9) (v1 := .int .i64 KR.c) (v2 := .int .i64 KR.k) (v3 := .int .i64 KR.cr) (v4 := .int .i64 KR.fl) (v5 := .bool KR.dn) (x0 := .int .i64 0) (x1 := .int .i64 0) (x2 := .int .i64 0) (show w.heap.size + 1 ≠ w.heap.size + 1 + 1 by omega) hz hy
      have HFB : Hid (Below w.heap.size w (fillPQ (w.heap.size + 1) (w.heap.size + 1 + 1) w8 (.slice a9 KR.fs.length cap9) (.int .i64 KR.c) (.int .i64 KR.k) (.int .i64 KR.cr) (.int .i64 KR.fl) (.bool KR.dn) (.int .i64 0) (.int .i64 0) (.int .i64 0))) := fillPQ_below H8.out.1 (by omega) (by omega)
      have HFO : Hid (Owned (fillPQ (w.heap.size + 1) (w.heap.size + 1 + 1) w8 (.slice a9 KR.fs.length cap9) (.int .i64 KR.c) (.int .i64 KR.k) (.int .i64 KR.cr) (.int .i64 KR.fl) (.bool KR.dn) (.int .i64 0) (.int .i64 0) (.int .i64 0)) B a9 KR.fs) := fillPQ_owned H8.out.2 (by omega) (by omega)
      obtain ⟨s0, s1, s2, s3, s4, s5⟩ := hzF.six
      obtain ⟨t0, t1, t2⟩ := hyF.three
      have HZF := hid hzF
      have HYF := hid hyF
      clear hzF hyF s0 s1 s2 s3 s4 s5 t0 t1 t2 hz hy
      go_wp2
      obtain ⟨s0, s1, s2, s3, s4, s5⟩ := HZF.out.six
      obtain ⟨t0, t1, t2⟩ := HYF.out.three
      change bodyPost _ _ _ _ _ (fillPQ (w.heap.size + 1) (w.heap.size + 1 + 1) w8 (.slice a9 KR.fs.length cap9) (.int .i64 KR.c) (.int .i64 KR.k) (.int .i64 KR.cr) (.int .i64 KR.fl) (.bool KR.dn) (.int .i64 0) (.int .i64 0) (.int .i64 0))
      generalize fillPQ (w.heap.size + 1) (w.heap.size + 1 + 1) w8 (.slice a9 KR.fs.length cap9) (.int .i64 KR.c) (.int .i64 KR.k) (.int .i64 KR.cr) (.int .i64 KR.fl) (.bool KR.dn) (.int .i64 0) (.int .i64 0) (.int .i64 0) = W9 at *
      refine bodyPost_ret (v := .tuple #[.agg #[.slice a9 KR.fs.length cap9, .int .i64 KR.c, .int .i64 KR.k, .int .i64 KR.cr, .int .i64 KR.fl, .bool KR.dn], .agg #[.int .i64 0, .int .i64 0, .int .i64 0], .slice none 0 0, .int .i64 code]) (by simp [results, Tryz.results8, go_sem, s0, s1, s2, s3, s4, s5, t0, t1, t2]) rfl ?_
      exact ⟨a9, cap9, none, 0, rfl, HFO.out.mono (by omega), Or.inl rfl, Or.inr (Or.inl rfl), HFB.out⟩
end Go.Proofs.YtflfopienjjlbaaGreatDoor

namespace Go.Proofs.YtflfopienjjlbaaGreatDoor
open Go.RowKit

/-- What is left to do once the segments are read and a torn end is cut. -/
def finD (K : DiskD) (x y : Int) (sz : Nat) (all : List ByteArray) : DiskD × LogD × List ByteArray × Nat :=
  if (syncD K y).2 ≠ 0 then ((syncD K y).1, noLog, [], (syncD K y).2) else ((syncD K y).1, ⟨x, y, sz⟩, all, 0)
/-- What is left to do once the segments are read. -/
def goR (K : DiskD) (x y : Int) : Option (List ByteArray × Nat) → DiskD × LogD × List ByteArray × Nat
  | none => (K, noLog, [], 20)
  | some (all, sz) =>
    if (sz : Int) < ((fileAt K.fs y).data.size : Int) then
      (if (stepD K (opTrunc y sz)).2 ≠ 0 then ((stepD K (opTrunc y sz)).1, noLog, [], (stepD K (opTrunc y sz)).2) else finD (stepD K (opTrunc y sz)).1 x y sz all)
    else finD K x y sz all
theorem openG_go {K : DiskD} {x y : Int} {n : Nat} (h : ¬ (n : Int) ≤ y - x) : openG K x y n = goR K x y (readR K.fs y ((y - x).toNat + 1) x [] 0) := by
  unfold openG
  rw [if_neg h]
  cases readR K.fs y ((y - x).toNat + 1) x [] 0 with
  | none => rfl
  | some q =>
    obtain ⟨all, sz⟩ := q
    show (if (mendD K y sz).2 ≠ 0 then ((mendD K y sz).1, noLog, [], (mendD K y sz).2) else ((mendD K y sz).1, (⟨x, y, sz⟩ : LogD), all, 0)) = _
    have hg : goR K x y (some (all, sz)) = if (sz : Int) < ((fileAt K.fs y).data.size : Int) then
      (if (stepD K (opTrunc y sz)).2 ≠ 0 then ((stepD K (opTrunc y sz)).1, noLog, [], (stepD K (opTrunc y sz)).2) else finD (stepD K (opTrunc y sz)).1 x y sz all)
      else finD K x y sz all := rfl
    rw [hg]
    unfold mendD finD
    by_cases h1 : (sz : Int) < ((fileAt K.fs y).data.size : Int)
    · rw [if_pos h1, if_pos h1]
      by_cases h2 : (stepD K (opTrunc y sz)).2 ≠ 0
      · rw [if_pos h2, if_pos h2, if_pos h2]
      · rw [if_neg h2, if_neg h2]
    · rw [if_neg h1, if_neg h1]
theorem read_at {K : DiskD} {i : Nat} {n : Int} (hv : diskB K.fs K.c K.k K.cr K.fl = true) (hd : K.dn = false) (ha : Asc K.fs) (hi : i < K.fs.length) (hn : K.fs[i].name = segS n) : readOut K.fs (diskB K.fs K.c K.k K.cr K.fl) K.dn (segS n) = (K.fs[i].data, true) := by
  have hp : PosIs K.fs (segS n) i := by rw [← hn]; exact pos_at ha hi
  have hh : hasB K.fs (segS n) i = true := by
    unfold hasB
    rw [List.getElem?_eq_getElem hi]
    simp only [hn]
    simp
  unfold readOut
  rw [if_pos ⟨hv, hd⟩, find_pos ha hp, if_pos hh, if_pos (Int.natCast_nonneg i), Int.toNat_natCast, List.getElem?_eq_getElem hi]
theorem find_at {K : DiskD} {i : Nat} {n : Int} (ha : Asc K.fs) (hi : i < K.fs.length) (hn : K.fs[i].name = segS n) : findFrom (segS n) K.fs 0 = (i : Int) := by
  have hp : PosIs K.fs (segS n) i := by rw [← hn]; exact pos_at ha hi
  have hh : hasB K.fs (segS n) i = true := by
    unfold hasB
    rw [List.getElem?_eq_getElem hi]
    simp only [hn]
    simp
  rw [find_pos ha hp, if_pos hh]
/-- The boxes of spec.LogOpen: the disk at hand, the two answers. -/
structure SO (n : Nat) (w wx : World) (K : DiskD) (a : Option Addr) (cap : Nat) : Prop where
  dk : Blk wx n #[.slice a K.fs.length cap, .int .i64 K.c, .int .i64 K.k, .int .i64 K.cr, .int .i64 K.fl, .bool K.dn] 28
  rd : Blk wx (n + 1) #[.slice none 0 0, .int .i64 0, .int .i64 0, .int .i64 0, .int .i64 0, .bool false] 28
  rl : Blk wx (n + 1 + 1) #[.int .i64 0, .int .i64 0, .int .i64 0] 30
  fi : FilesIn wx a K.fs
  be : Below n w wx
theorem SO.later {n : Nat} {w wx wy : World} {K : DiskD} {a : Option Addr} {cap : Nat} (h : SO n w wx K a cap) (hb : Below wx.heap.size wx wy) : SO n w wy K a cap := ⟨h.dk.later hb, h.rd.later hb, h.rl.later hb, h.fi.later hb, h.be.trans (hb.mono (Nat.le_of_lt (lt_of_block h.dk)))⟩
theorem FilesIn.setA {w : World} {a : Option Addr} {fs : List FileD} {p : Addr} (h : FilesIn w a fs) (ha : Apart a fs p.block) (v : Value) : FilesIn (w.setCell p v) a fs := by
  rcases ha with hn | ⟨b, o, rfl, hne⟩
  · exact Or.inl hn
  · exact h.setCell (Ne.symm hne) v
theorem fillPQ_files {P Q : Nat} {w8 : World} {a : Option Addr} {fs : List FileD} {v0 v1 v2 v3 v4 v5 x0 x1 x2 : Value} (h : FilesIn w8 a fs) (hP : Apart a fs P) (hQ : Apart a fs Q) : FilesIn (fillPQ P Q w8 v0 v1 v2 v3 v4 v5 x0 x1 x2) a fs := by
  unfold fillPQ
  exact ((((((((h.setA (p := ⟨P, 0, none⟩) hP v0).setA (p := ⟨P, 1, none⟩) hP v1).setA (p := ⟨P, 2, none⟩) hP v2).setA (p := ⟨P, 3, none⟩) hP v3).setA (p := ⟨P, 4, none⟩) hP v4).setA (p := ⟨P, 5, none⟩) hP v5).setA (p := ⟨Q, 0, none⟩) hQ x0).setA (p := ⟨Q, 1, none⟩) hQ x1).setA (p := ⟨Q, 2, none⟩) hQ x2
theorem SO.fill {n : Nat} {w wx : World} {K : DiskD} {a a' : Option Addr} {cap : Nat} {fs : List FileD} {v0 v1 v2 v3 v4 v5 x0 x1 x2 : Value} (h : SO n w wx K a cap) (hf : FilesIn wx a' fs) : FilesIn (fillPQ (n + 1) (n + 1 + 1) wx v0 v1 v2 v3 v4 v5 x0 x1 x2) a' fs := fillPQ_files hf (apart_disk hf h.rd) (apart_log hf h.rl)
/-- The disk at hand becomes another. -/
theorem SO.take {n : Nat} {w wx : World} {K K1 : DiskD} {a a2 : Option Addr} {cap cap2 : Nat} (h : SO n w wx K a cap) (hf : FilesIn wx a2 K1.fs) : SO n w ((((((wx.setCell ⟨n, 0, none⟩ (.slice a2 K1.fs.length cap2)).setCell ⟨n, 1, none⟩ (.int .i64 K1.c)).setCell ⟨n, 2, none⟩ (.int .i64 K1.k)).setCell ⟨n, 3, none⟩ (.int .i64 K1.cr)).setCell ⟨n, 4, none⟩ (.int .i64 K1.fl)).setCell ⟨n, 5, none⟩ (.bool K1.dn)) K1 a2 cap2 := by
  refine ⟨blk_fill h.dk, h.rd.but (but_fill _ _ _ _ _ _) (by omega), h.rl.but (but_fill _ _ _ _ _ _) (by omega), hf.apart (apart_disk hf h.dk) (but_fill _ _ _ _ _ _), ?_⟩
  exact (((((h.be.setCell (Nat.le_refl _) _).setCell (Nat.le_refl _) _).setCell (Nat.le_refl _) _).setCell (Nat.le_refl _) _).setCell (Nat.le_refl _) _).setCell (Nat.le_refl _) _
theorem row_six {n B : Nat} {wx : World} {v : Value} {k : Nat} {xs : List Value} {v0 v1 v2 v3 v4 v5 : Value} (h : wx.ownsRow B 9 1 v k xs) (hn : n < B) : ((((((wx.setCell ⟨n, 0, none⟩ v0).setCell ⟨n, 1, none⟩ v1).setCell ⟨n, 2, none⟩ v2).setCell ⟨n, 3, none⟩ v3).setCell ⟨n, 4, none⟩ v4).setCell ⟨n, 5, none⟩ v5).ownsRow B 9 1 v k xs := by
  iterate 6 (refine row_set_below (p := ⟨n, _, none⟩) ?_ (by show n < B; exact hn) _)
  exact h
theorem blk_six {n g : Nat} {wx : World} {cur : Array Value} {t : TypeId} {v0 v1 v2 v3 v4 v5 : Value} (h : Blk wx g cur t) (hn : g ≠ n) : Blk ((((((wx.setCell ⟨n, 0, none⟩ v0).setCell ⟨n, 1, none⟩ v1).setCell ⟨n, 2, none⟩ v2).setCell ⟨n, 3, none⟩ v3).setCell ⟨n, 4, none⟩ v4).setCell ⟨n, 5, none⟩ v5) g cur t :=
  blk_other (blk_other (blk_other (blk_other (blk_other (blk_other h hn) hn) hn) hn) hn) hn
/-- Where the reading of the segments stands. -/
def Phase (n : Nat) (w WB wr : World) (K : DiskD) (R : DiskD × LogD × List ByteArray × Nat) (x : Int) (m j sz : Nat) (zs : List ByteArray) : Prop :=
  (j ≤ m ∧ Below WB.heap.size WB wr ∧ R = goR K x (x + m) (readR K.fs (x + m) (m + 1 - j) (x + j) zs sz)) ∨
  (j = m + 1 ∧ ∃ Kc ac cc, SO n w wr Kc ac cc ∧ diskB Kc.fs Kc.c Kc.k Kc.cr Kc.fl = true ∧ Fit Kc.fs ∧ (∃ i, ∃ h : i < Kc.fs.length, Kc.fs[i].name = segS (x + m)) ∧ R = finD Kc x (x + m) sz zs)
theorem blk_grownO {w w' : World} {row : Option Nat} {g : Nat} {cur : Array Value} {t : TypeId} (h : Blk w g cur t) (hg : w.grownBy w' row) (hne : row ≠ some g) : Blk w' g cur t := (hg.block g (lt_of_block h) (fun e => hne e.symm)).trans h
theorem row_neO {w : World} {B : Nat} {v : Value} {n : Nat} {xs : List Value} {g : Nat} {cur : Array Value} {t : TypeId} (h : w.ownsRow B 9 1 v n xs) (hb : Blk w g cur t) (ht : t ≠ 9) : v.ownBlock ≠ some g := by
  intro e
  rcases h.2 with ⟨he, _⟩ | ⟨g', cap, cur', he, _, hg', _⟩
  · rw [he] at e; simp [Value.ownBlock] at e
  · rw [he] at e
    simp only [Value.ownBlock, Option.some.injEq] at e
    subst e
    have h2 := hg'.symm.trans hb
    simp only [Option.some.injEq, Obj.cells.injEq] at h2
    exact ht h2.2.1.symm
theorem row_set_ne {w : World} {B : Nat} {v : Value} {n : Nat} {xs : List Value} {g j : Nat} {cur : Array Value} {t : TypeId} {u : Value} (h : w.ownsRow B 9 1 v n xs) (hb : Blk w g cur t) (ht : t ≠ 9) : (w.setCell ⟨g, j, none⟩ u).ownsRow B 9 1 v n xs := row_set_apart h (fun q hq e => row_neO h hb ht (by rw [hq, e])) j u
/-- What spec.LogOpen answers. -/
def OpenSpec (w : World) (R : DiskD × LogD × List ByteArray × Nat) (e : Ending) (w' : World) : Prop :=
  ∃ (a' : Option Addr) (cap' : Nat) (sa : Option Addr) (sc : Nat), e = .returned (.tuple #[.agg #[.slice a' R.1.fs.length cap', .int .i64 R.1.c, .int .i64 R.1.k, .int .i64 R.1.cr, .int .i64 R.1.fl, .bool R.1.dn], .agg #[.int .i64 R.2.1.first, .int .i64 R.2.1.last, .int .i64 R.2.1.size], .slice sa R.2.2.1.length sc, .int .i64 (R.2.2.2 : Nat)]) ∧
    FilesIn w' a' R.1.fs ∧ StrsIn w' sa R.2.2.1 ∧ Below w.heap.size w w'
end Go.Proofs.YtflfopienjjlbaaGreatDoor

