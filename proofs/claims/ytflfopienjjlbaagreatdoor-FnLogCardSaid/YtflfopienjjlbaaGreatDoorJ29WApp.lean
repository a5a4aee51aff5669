import Derived.Test.YtflfopienjjlbaaGreatDoorProg
import Derived.Test.YtflfopienjjlbaaGreatDoorJ28IRead
import Derived.Deep.RegionHeld3
import Derived.Deep.DeepCutAuto
import Derived.Test.YtflfopienjjlbaaGreatDoorJ18Mark2
import Derived.Test.YtflfopienjjlbaaGreatDoorJ27QTail
import Derived.Test.YtflfopienjjlbaaGreatDoorJ06Valid
namespace Go.Proofs.YtflfopienjjlbaaGreatDoor
open Go.RowKit

/-- What open answers. -/
def OpnPost (w0 w : World) (B P D : Nat) (R : DiskD × LogD × List ByteArray × Nat) (e : Ending) (w' : World) : Prop :=
  ∃ (sl : Value) (Lw : LogD), e = .returned (.tuple #[sl, errW R.2.2.2]) ∧ WSt w0 w' B P D R.1 Lw ∧ (R.2.2.2 = 0 → Lw = R.2.1 ∧ ∃ a cap, sl = .slice a R.2.2.1.length cap ∧ w'.ownsRow w.heap.size 9 1 sl R.2.2.1.length (R.2.2.1.map Value.string))

theorem WSt.dp {w0 w : World} {B P D : Nat} {K : DiskD} {L : LogD} (h : WSt w0 w B P D K L) : D ≠ P ∧ ∀ v, DriveAt w B D K.fs K.c K.k K.cr K.fl K.dn v → ∀ g, v.ownBlock = some g → g ≠ P := by
  constructor
  · intro e
    obtain ⟨v, hv⟩ := h.drive
    have e4 := hv.blk
    rw [e] at e4
    have e3 := (show w.heap[P]? = _ from e4).symm.trans h.wr
    simp at e3
  · intro v hv g hg e
    obtain ⟨cur, hc⟩ := own_file hv.row g hg
    rw [e] at hc
    have e3 := (show w.heap[P]? = _ from hc).symm.trans h.wr
    simp at e3
theorem WSt.but {w0 w w' : World} {B P D : Nat} {K : DiskD} {L L' : LogD} (h : WSt w0 w B P D K L) (hb : But P w w') (hw : WrAt w' P D L') : WSt w0 w' B P D K L' := by
  obtain ⟨v, hv⟩ := h.drive
  obtain ⟨h1, h2⟩ := h.dp
  refine ⟨h.pow, h.below.trans (hb.below h.hP h.below.size), h.hB, h.hP, hw, ⟨v, hv.from', ?_, ?_, hv.apart⟩, h.valid⟩
  · exact (hb.block D (lt_of_block hv.blk) h1).trans hv.blk
  · exact row_keeps (S := fun k => k = P) hv.row (Keeps.but hb) (fun g hg e => h2 v hv g hg e)
theorem row_ko {w w' : World} {B size : Nat} {v : Value} {n : Nat} {xs : List Value} (h : w.ownsRow B 9 size v n xs) (hk : KeepO w w') : w'.ownsRow B 9 size v n xs := by
  obtain ⟨h0, h1⟩ := h
  refine ⟨h0, ?_⟩
  rcases h1 with h1 | ⟨g, cap, cur, e1, hB, hg, h2⟩
  · exact Or.inl h1
  · exact Or.inr ⟨g, cap, cur, e1, hB, hk g cur 9 hg (by decide) (by decide), h2⟩
theorem name_short {fs : List FileD} (h : filesB fs = true) {i : Nat} (hi : i < fs.length) : fs[i].name.size ≤ 64 := by
  have h1 := fileB_of h fs[i] (List.getElem_mem hi)
  simp only [fileB, nameB, Bool.and_eq_true, decide_eq_true_eq] at h1
  omega
theorem datAt_le {fs : List FileD} (h : sumLen fs ≤ 1000000000) (n : Int) : (datAt fs n).size ≤ 1000000000 := by
  unfold datAt
  cases hq : fs[posOf (segS n) fs]? with
  | none => simp
  | some f =>
    obtain ⟨hi, rfl⟩ := List.getElem?_eq_some_iff.1 hq
    exact Nat.le_trans (sumLen_mem _ hi) h
theorem WSt.read {w0 w : World} {B P D : Nat} {K : DiskD} {x : Int} {cnt : Nat} (h : WSt w0 w B P D K ⟨x, x + cnt, 0⟩) (ha : Asc K.fs) (hl : K.fs.length ≤ 1000) (hs : sumLen K.fs ≤ 1000000000) (hc : cnt < 1000) (hx : 1 ≤ x) (hx2 : x ≤ 999999)
    (hix : ∀ j : Nat, j ≤ cnt → ∃ i, ∃ h : i < K.fs.length, K.fs[i].name = segS (x + j)) :
    Calls Tryz.prog 66 #[.pointer (some ⟨P, 0, none⟩)] w fun e w' => ReadPost P D x (x + cnt) w (readR K.fs (x + cnt) (cnt + 1) x [] 0) e w' := by
  obtain ⟨v, hv⟩ := h.drive
  obtain ⟨h1, h2⟩ := h.dp
  obtain ⟨a, cap, rfl, hf⟩ := hv.files
  exact readAll_any P D a cap cnt K.fs x w h.wr hv.cell4 (lt_of_block hv.blk) h1 hf (fun b o e => h2 _ hv b (by rw [e]; rfl)) ha (by omega) (fun W hW => h.pow.later (h.below.trans (hW.below h.hP h.below.size))) hc hx hx2 hix (datAt_le hs)

set_option maxRecDepth 100000 in
set_option maxHeartbeats 4000000 in
theorem open_any {w0 w : World} {B P D : Nat} {K : DiskD} (h : WSt w0 w B P D K noLog) (he : ErrTab w0) :
    Calls Tryz.prog 35 #[.pointer (some ⟨P, 0, none⟩)] w fun e w' => OpnPost w0 w B P D (openD K) e w' := by
  obtain ⟨v, hv⟩ := h.drive
  obtain ⟨a, cap, rfl, hf⟩ := hv.files
  obtain ⟨f1, f2, f3, f4, f5, f6, f7, _⟩ := files_of_disk h.valid
  have hasc : Asc K.fs := asc_of f1
  have HW := hid h
  have HV := hid hv
  have hvd := h.valid
  obtain ⟨c0, c1, c2, c3⟩ := h.wr.cells
  have d3 := hv.blk.cell 3
  by_cases hdn : K.dn = true
  · have E : Hid (openD K = (K, noLog, [], 1)) := by show _ = _; unfold openD; rw [if_neg (by rw [hvd]; decide), if_pos hdn]
    rw [E.out]
    rw [hdn] at d3
    clear h hv hdn
    go_enter Tryz.func35, Tryz.ntmps35
    go_wp2
    refine bodyPost_ret (v := .tuple #[.slice none 0 0, errW 1]) (by simp [results, Tryz.results35, go_sem, errW, errV, tDown]) rfl ⟨_, _, rfl, HW.out, fun h => absurd (show (1 : Nat) = 0 from h) (by decide)⟩
  have hdn' : K.dn = false := by simpa using hdn
  rw [hdn'] at d3
  have HSG : Hid (Calls Tryz.prog 65 #[.pointer (some ⟨P, 0, none⟩)] w fun e w' => ∃ a' cap', e = .returned (.slice a' (numsL K.fs).length cap') ∧ NumsIn w' a' (numsL K.fs) ∧ Below w.heap.size w w') :=
    segs_any P D a cap K.fs w c0 hv.cell4 hf (fun i hi => by have := name_short f1 hi; omega) (by omega) h.tab (he.later h.below)
  have hnl : (numsL K.fs).length ≤ 1000 := Nat.le_trans (numsL_length K.fs) (by omega)
  cases hq : numsL K.fs with
  | nil =>
    obtain ⟨⟨K1, x1⟩, hS⟩ : ∃ R, stepD K (opCreate 1) = R := ⟨_, rfl⟩
    have E : Hid (openD K = if x1 ≠ 0 then (K1, noLog, [], x1) else (K1, ⟨1, 1, 0⟩, [], 0)) := by
      show _ = _
      unfold openD
      rw [if_neg (by rw [hvd]; decide), if_neg hdn]
      simp only [hq, hS]
    rw [hq] at HSG
    generalize openD K = R at *
    clear h hv hdn hf
    go_enter Tryz.func35, Tryz.ntmps35
    go_wp2_with fail
    refine HSG.out.mono ?_
    rintro e w1 ⟨a', cap', rfl, _, hb1⟩
    have HW1 := hid (HW.out.later hb1)
    obtain ⟨v0, hv0⟩ := HW.out.drive
    have f1' := Blk.free HW1.out.wr 1
    have f2' := Blk.free HW1.out.wr 2
    have f3' := Blk.free HW1.out.wr 3
    obtain ⟨e0, e1, e2, e3⟩ := HW1.out.wr.cells
    clear c0 c1 c2 c3 d3 hb1
    go_upto_region 6 with fail
    have HWA : Hid (WSt w0 (((w1.setCell ⟨P, 1, none⟩ (.int .i64 1)).setCell ⟨P, 2, none⟩ (.int .i64 1)).setCell ⟨P, 3, none⟩ (.int .i64 0)) B P D K ⟨1, 1, 0⟩) := ((HW1.out.set (L' := ⟨1, 0, 0⟩) 1 _ (by simp [noLog])).set (L' := ⟨1, 1, 0⟩) 2 _ (by simp)).set (L' := ⟨1, 1, 0⟩) 3 _ (by simp)
    clear e0 e1 e2 e3 f1' f2' f3' HW1
    generalize ((w1.setCell ⟨P, 1, none⟩ (.int .i64 1)).setCell ⟨P, 2, none⟩ (.int .i64 1)).setCell ⟨P, 3, none⟩ (.int .i64 0) = WA at *
    obtain ⟨c0, _, _, _⟩ := HWA.out.wr.cells
    have HC0 : Hid (∀ W, WSt w0 W B P D K ⟨1, 1, 0⟩ → Calls Tryz.prog 49 #[.pointer (some ⟨D, 0, none⟩), .agg #[.int .i64 1, .string (segS 1), .string ⟨#[]⟩, .string ⟨#[]⟩, .int .i64 0]] W fun e w' => e = .returned (errV x1) ∧ x1 ≤ 6 ∧ WSt w0 w' B P D K1 ⟨1, 1, 0⟩) := fun W hW => stepOf (opCreate 1) hW (opB_mk (by omega) (by omega) (by omega)) (by show (1 : Int) ≤ 4; omega) hS
    go_region_held3 (fun w' => w'.cell? ⟨P, 0, none⟩ = some (.pointer (some ⟨D, 0, none⟩)))
      (first | exact HW8.out.wr.cells.1 | exact HW7.out.wr.cells.1 | exact (HWA.out.later (Below.refl _ _).drew).wr.cells.1)
      (first
      | (go_at_call 22; refine (implSeg_any 1 _ (HWA.out.later (Below.refl _ _).drew).tab).mono ?_; rintro e w7 ⟨rfl, hb7⟩; have HW7 : Hid (WSt w0 w7 B P D K ⟨1, 1, 0⟩) := (HWA.out.later (Below.refl _ _).drew).later hb7)
      | (go_at_call 49; refine (HC0.out _ HW7.out).mono ?_; rintro e w8 ⟨rfl, h6, hw8⟩; have HW8 : Hid (WSt w0 w8 B P D K1 ⟨1, 1, 0⟩) := hw8))
    all_goals (
      go_wp2
      have hE : errW x1 = errV x1 := by
        match x1, h6 with
        | 0, _ => rfl
        | 1, _ => rfl
        | 2, _ => rfl
        | 3, _ => rfl
        | 4, _ => rfl
        | 5, _ => rfl
        | 6, _ => rfl
      by_cases hx : x1 = 0
      · subst hx
        refine bodyPost_ret (v := .tuple #[.slice none 0 0, errV 0]) (by simp [results, Tryz.results35, go_sem]) rfl ?_
        rw [E.out, if_neg (by simp)]
        exact ⟨_, _, rfl, HW8.out, fun _ => ⟨rfl, none, 0, rfl, rfl, Or.inl ⟨rfl, rfl⟩⟩⟩
      · refine bodyPost_ret (v := .tuple #[.slice none 0 0, errV x1]) (by simp [results, Tryz.results35, go_sem]) rfl ?_
        rw [E.out, if_pos hx]
        exact ⟨_, _, by rw [hE], HW8.out, fun h => absurd h hx⟩)
  | cons x l =>
    have hlast : (x :: l).getLast (by simp) = (x :: l)[l.length] := List.getLast_eq_getElem _
    obtain ⟨y, hy⟩ : ∃ y, (x :: l)[l.length] = y := ⟨_, rfl⟩
    have E : Hid (openD K = openG K x y (l.length + 1)) := by
      show _ = _
      unfold openD
      rw [if_neg (by rw [hvd]; decide), if_neg hdn]
      simp only [hq, hlast, hy]
    have HNA : Hid (¬ ((l.length + 1 : Nat) : Int) ≤ y - x → ∃ cnt : Nat, y = x + cnt ∧ cnt + 1 = l.length + 1 ∧ 1 ≤ x ∧ x + cnt ≤ 999999 ∧ ∀ j : Nat, j ≤ cnt → ∃ i, ∃ h : i < K.fs.length, K.fs[i].name = segS (x + j)) := fun hg => by
      have := nums_at hasc hq (by rw [hlast, hy]; exact hg)
      rw [hlast, hy] at this
      exact this
    have hxb : 1 ≤ x ∧ x ≤ 999999 := by have := nums_mem (fs := K.fs) (n := x) (by rw [hq]; simp); exact ⟨this.1, this.2.1⟩
    have hyb : 1 ≤ y ∧ y ≤ 999999 := by have := nums_mem (fs := K.fs) (n := y) (by rw [hq, ← hy]; exact List.getElem_mem _); exact ⟨this.1, this.2.1⟩
    obtain ⟨hx1, hx2⟩ := hxb
    obtain ⟨hy1, hy2⟩ := hyb
    rw [hq] at HSG hnl
    rw [List.length_cons] at hnl
    have HSG2 : Hid (Calls Tryz.prog 65 #[.pointer (some ⟨P, 0, none⟩)] w fun e w' => ∃ nb no cap', e = .returned (.slice (some ⟨nb, no, none⟩) (l.length + 1) cap') ∧ nb < w'.heap.size ∧ w'.cell? ⟨nb, no, none⟩ = some (.int .i64 x) ∧ w'.cell? ⟨nb, no + l.length, none⟩ = some (.int .i64 y) ∧ Below w.heap.size w w') := by
      refine HSG.out.mono ?_
      rintro e w' ⟨a', cap', rfl, hn, hb⟩
      rcases hn with hn | ⟨nb, no, rfl, hlt, hc⟩
      · cases hn
      · refine ⟨nb, no, cap', rfl, hlt, hc 0 (by simp), ?_, hb⟩
        rw [hc l.length (by simp), hy]
    have HEX := hid (show ErrTab w0 ∧ Asc K.fs ∧ K.fs.length ≤ 1000 ∧ sumLen K.fs ≤ 1000000000 from ⟨he, hasc, f2, by omega⟩)
    generalize openD K = R at *
    clear hlast hy hq
    generalize l.length = m at *
    clear h hv hdn hf HSG f1 f2 f3 f4 f5 f6 f7 he hasc hvd
    go_enter Tryz.func35, Tryz.ntmps35
    go_wp2_with fail
    refine HSG2.out.mono ?_
    rintro e w1 ⟨nb, no, cap', rfl, hnb, n0, n1, hb1⟩
    have HW1 := hid (HW.out.later hb1)
    have HV1 := hid (HV.out.later hb1)
    have hb1s := hb1.size
    have f1' := Blk.free HW1.out.wr 1
    have f2' := Blk.free HW1.out.wr 2
    have f3' := Blk.free HW1.out.wr 3
    obtain ⟨e0, e1, e2, e3⟩ := HW1.out.wr.cells
    clear c0 c1 c2 c3 d3 hb1
    go_wp2_with fail
    go_region
    have HWA : Hid (WSt w0 ((((w1.setCell ⟨P, 1, none⟩ (.int .i64 x)).setCell ⟨P, 2, none⟩ (.int .i64 y)).setCell ⟨P, 3, none⟩ (.int .i64 0)).drew) B P D K ⟨x, y, 0⟩) := (((HW1.out.set (L' := ⟨x, 0, 0⟩) 1 _ (by simp [noLog])).set (L' := ⟨x, y, 0⟩) 2 _ (by simp)).set (L' := ⟨x, y, 0⟩) 3 _ (by simp)).later (Below.refl _ _).drew
    have hsA : w.heap.size ≤ ((((w1.setCell ⟨P, 1, none⟩ (.int .i64 x)).setCell ⟨P, 2, none⟩ (.int .i64 y)).setCell ⟨P, 3, none⟩ (.int .i64 0)).drew).heap.size := by simpa using hb1s
    clear e0 e1 e2 e3 f1' f2' f3' HW1 HV1 n0 n1 HSG2 hb1s
    generalize (((w1.setCell ⟨P, 1, none⟩ (.int .i64 x)).setCell ⟨P, 2, none⟩ (.int .i64 y)).setCell ⟨P, 3, none⟩ (.int .i64 0)).drew = WA at *
    obtain ⟨a0, a1, a2, a3⟩ := HWA.out.wr.cells
    simp only at a1 a2 a3
    by_cases hgap : ((m + 1 : Nat) : Int) ≤ y - x
    · have HE : Hid (R = (K, noLog, [], 21)) := E.out.trans (openG_gap hgap)
      have hg2 : (m : Int) + 1 ≤ y - x := by omega
      go_wp2_with fail
      go_region
      go_wp2
      refine bodyPost_ret (v := .tuple #[.slice none 0 0, errW 21]) (by simp [results, Tryz.results35, go_sem, errW, tGap]) rfl ?_
      rw [HE.out]
      exact ⟨_, _, rfl, HWA.out.later (Below.refl _ _).drew, fun h => absurd (show (21 : Nat) = 0 from h) (by decide)⟩
    · obtain ⟨cnt, rfl, hcm, _, hcx, hix⟩ := HNA.out (by omega)
      have hg2 : ¬ (m : Int) + 1 ≤ x + (cnt : Int) - x := by omega
      have hto : (x + (cnt : Int) - x).toNat = cnt := by omega
      have HRD : Hid (∀ W, Below WA.heap.size WA W → Calls Tryz.prog 66 #[.pointer (some ⟨P, 0, none⟩)] W fun e w' => ReadPost P D x (x + cnt) W (readR K.fs (x + cnt) (cnt + 1) x [] 0) e w') := fun W hW => (HWA.out.later hW).read HEX.out.2.1 HEX.out.2.2.1 HEX.out.2.2.2 (by omega) hx1 hx2 hix
      have HIX := hid hix
      have HGP := hid hgap
      have HTO := hid hto
      clear hix hgap hto HNA
      go_wp2_with fail
      go_region
      go_wp2_with fail
      refine (HRD.out _ (Below.refl _ _).drew).mono ?_
      intro e w3 hrp
      cases hRR : readR K.fs (x + cnt) (cnt + 1) x [] 0 with
      | none =>
        rw [hRR] at hrp
        obtain ⟨hbt, rfl, sz, hbl⟩ := hrp
        have HE : Hid (R = (K, noLog, [], 20)) := E.out.trans (openG_torn (by have := HGP.out; omega) (by rw [HTO.out]; exact hRR))
        have HW3 : Hid (WSt w0 w3 B P D K ⟨x, x + cnt, sz⟩) := (HWA.out.later (Below.refl _ _).drew).but hbt hbl
        clear hbt hbl
        unfold errW
        go_wp2
        refine bodyPost_ret (v := .tuple #[.slice none 0 0, errW 20]) (by simp [results, Tryz.results35, go_sem, errW]) rfl ?_
        rw [HE.out]
        exact ⟨_, _, rfl, HW3.out, fun h => absurd (show (20 : Nat) = 0 from h) (by decide)⟩
      | some q =>
        obtain ⟨all, sz⟩ := q
        rw [hRR] at hrp
        obtain ⟨hbt, ⟨a4, cap4, rfl, hrow⟩, hbl⟩ := hrp
        obtain ⟨⟨KM, xm⟩, hM⟩ : ∃ R, mendD K (x + cnt) sz = R := ⟨_, rfl⟩
        have HE : Hid (R = if xm ≠ 0 then (KM, noLog, [], xm) else (KM, ⟨x, x + cnt, sz⟩, all, 0)) := E.out.trans (openG_read (by have := HGP.out; omega) (by rw [HTO.out]; exact hRR) hM)
        have HW3 : Hid (WSt w0 w3 B P D K ⟨x, x + cnt, sz⟩) := (HWA.out.later (Below.refl _ _).drew).but hbt hbl
        have HROW : Hid (w3.ownsRow w.heap.size 9 1 (.slice a4 all.length cap4) all.length (all.map Value.string)) := row_mono hrow (by simpa using hsA)
        have HMD : Hid (Calls Tryz.prog 67 #[.pointer (some ⟨P, 0, none⟩)] w3 fun e w' => e = .returned (errV xm) ∧ xm ≤ 6 ∧ WSt w0 w' B P D KM ⟨x, x + cnt, sz⟩ ∧ KeepO w3 w') := by
          obtain ⟨i, hi, hn⟩ := HIX.out cnt (Nat.le_refl _)
          have := mend_any HW3.out (by show 1 ≤ x + (cnt : Int); omega) hcx hi hn
          simp only [hM] at this
          exact this
        clear hbt hbl hrow
        go_wp2_with fail
        refine HMD.out.mono ?_
        rintro e w5 ⟨rfl, hx6, hw5, hk5⟩
        go_wp2
        have hEE : errW xm = errV xm := by
          match xm, hx6 with
          | 0, _ => rfl
          | 1, _ => rfl
          | 2, _ => rfl
          | 3, _ => rfl
          | 4, _ => rfl
          | 5, _ => rfl
          | 6, _ => rfl
        refine bodyPost_ret (v := .tuple #[.slice a4 all.length cap4, errV xm]) (by simp [results, Tryz.results35, go_sem]) rfl ?_
        rw [HE.out]
        by_cases hx : xm = 0
        · subst hx
          rw [if_neg (by simp)]
          exact ⟨_, _, rfl, hw5, fun _ => ⟨rfl, a4, cap4, rfl, row_ko HROW.out hk5⟩⟩
        · rw [if_pos hx]
          exact ⟨_, _, by rw [hEE], hw5, fun h => absurd h hx⟩
end Go.Proofs.YtflfopienjjlbaaGreatDoor

namespace Go.Proofs.YtflfopienjjlbaaGreatDoor
open Go.RowKit

/-- appendD by its two parts. -/
theorem appendD_ref {K : DiskD} {L : LogD} {p : ByteArray} {most : Int} (h : refR L p most ≠ 0) : appendD K L p most = (K, L, refR L p most) := by
  have hfe : frameS p = ByteArray.empty ↔ btwB p.size 1 60000 = false := by
    constructor
    · intro e
      rw [Bool.eq_false_iff]
      intro hb
      have hz : 1 ≤ p.size ∧ p.size ≤ 60000 := by simp only [btwB, Bool.and_eq_true, decide_eq_true_eq] at hb; omega
      have := frameS_size hz
      rw [e, ByteArray.size_empty] at this
      omega
    · intro hb
      rw [frameS, if_neg]
      intro hz
      have : btwB p.size 1 60000 = true := by simp [btwB]; omega
      rw [this] at hb
      cases hb
  unfold refR at h ⊢
  unfold appendD
  split
  · rfl
  · rename_i h1
    rw [if_neg h1] at h
    by_cases h2 : btwB p.size 1 60000 = false
    · rw [if_pos h2, if_pos (hfe.2 h2)]
    · rw [if_neg h2, if_neg (fun e => h2 (hfe.1 e))]
      rw [if_neg h2] at h
      by_cases h3 : L.last = 999999 ∧ fullB L (8 + p.size) most = true
      · rw [if_pos h3]
        have hz : 1 ≤ p.size ∧ p.size ≤ 60000 := by
          have : btwB p.size 1 60000 = true := by simpa using h2
          simp only [btwB, Bool.and_eq_true, decide_eq_true_eq] at this; omega
        have hs := frameS_size hz
        have h4 := h3.2
        simp only [fullB, Bool.and_eq_true, decide_eq_true_eq] at h4
        rw [if_pos ⟨h4.1, by rw [hs]; have := h4.2; simp only [Int.natCast_add]; omega⟩, if_pos h3.1]
      · rw [if_neg h3] at h
        exact absurd rfl h
theorem appendD_add {K : DiskD} {L : LogD} {p : ByteArray} {most : Int} (h : refR L p most = 0) : appendD K L p most = addR K L (frameS p) most ∧ logB L = true ∧ (frameS p).size ≤ 60008 ∧ (fullB L (frameS p).size most = true → L.last ≠ 999999) := by
  unfold refR at h
  split at h
  · cases h
  · rename_i h1
    split at h
    · cases h
    · rename_i h2
      split at h
      · cases h
      · rename_i h3
        have hz : 1 ≤ p.size ∧ p.size ≤ 60000 := by
          have : btwB p.size 1 60000 = true := by simpa using h2
          simp only [btwB, Bool.and_eq_true, decide_eq_true_eq] at this; omega
        have hs := frameS_size hz
        have hl : (logB L && btwB most 1 1000000000) = true := by simpa using h1
        simp only [Bool.and_eq_true] at hl
        have hne : ¬ frameS p = ByteArray.empty := fun e => by rw [e, ByteArray.size_empty] at hs; omega
        have e8 : (((frameS p).size : Nat) : Int) = 8 + (p.size : Int) := by rw [hs]; omega
        refine ⟨?_, hl.1, by omega, fun hf h9 => h3 ⟨h9, by rw [← e8]; exact hf⟩⟩
        unfold appendD addR
        rw [if_neg h1, if_neg hne]
        by_cases hf : fullB L (frameS p).size most = true
        · rw [if_pos hf]
          have h4 := hf
          simp only [fullB, Bool.and_eq_true, decide_eq_true_eq] at h4
          rw [if_pos h4, if_neg (fun h9 => h3 ⟨h9, by rw [← e8]; exact hf⟩)]
        · rw [if_neg hf, if_neg]
          intro h4
          apply hf
          simp [fullB, h4.1, h4.2]
/-- An invalid disk: the first operation answers so. -/
theorem addR_bad {K : DiskD} {L : LogD} {f : ByteArray} {most : Int} (h : diskB K.fs K.c K.k K.cr K.fl = false) : addR K L f most = (⟨[], 0, 0, 0, 0, false⟩, L, 6) := by
  have hs : ∀ op, stepD K op = (⟨[], 0, 0, 0, 0, false⟩, 6) := fun op => by
    unfold stepD outR
    rw [if_neg (by simp [h])]
  unfold addR
  split
  · rw [hs, if_pos (by simp)]
  · unfold appendT
    rw [hs, if_pos (by simp)]
end Go.Proofs.YtflfopienjjlbaaGreatDoor

