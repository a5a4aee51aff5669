import Derived.Test.YtndaihhjhllfcadProg
import Derived.Test.YtndaihhjhllfcadOps3
import Derived.Deep.RegionWith
namespace Go.Proofs.Ytndaihhjhllfcad
open Go.RowKit

theorem rows_put3 {cur : Array Value} {fs : List FileD} {i : Nat} (hi : i < fs.length) (h : ∀ m (hm : m < fs.length), RowFile cur 0 m fs[m]) (f : FileD) :
    ∀ m (hm : m < fs.length), RowFile (((cur.setIfInBounds (i * 3) (.string f.name)).setIfInBounds (i * 3 + 1) (.string f.data)).setIfInBounds (i * 3 + 2) (.int .i64 f.synced)) 0 m (if m = i then f else fs[m]) := by
  intro m hm
  by_cases e : m = i
  · subst e
    rw [if_pos rfl]
    have l3 := (Array.getElem?_eq_some_iff.1 (h m hm).2.2).1
    have := RowFile.made cur 0 m f l3
    simpa only [Nat.zero_add] using this
  · rw [if_neg e]
    exact (((h m hm).set (by omega) _).set (by omega) _).set (by omega) _

set_option maxRecDepth 100000 in
set_option maxHeartbeats 2000000 in
theorem rename_any (B D i : Nat) (fs : List FileD) (c k cr fl : Int) (dn : Bool) (v : Value) (to : ByteArray) (w : World) (h : DriveAt w B D fs c k cr fl dn v) (hi : i < fs.length) (hasc : Asc (fs.eraseIdx i)) (hlen : fs.length ≤ 1048576) :
    Calls Try.prog 45 #[.pointer (some ⟨D, 0, none⟩), .int .i64 i, .string to] w fun e w' => e = .returned (.tuple #[]) ∧ ∃ j v', PosIs (fs.eraseIdx i) to j ∧ Below B w w' ∧
      ((hasB (fs.eraseIdx i) to j = true ∧ DriveAt w' B D ((fs.eraseIdx i).set j ⟨to, fs[i].data, fs[i].synced⟩) c k cr fl dn v') ∨ (hasB (fs.eraseIdx i) to j = false ∧ DriveAt w' B D (insL (fs.eraseIdx i) j ⟨to, fs[i].data, fs[i].synced⟩) c k cr fl dn v')) := by
  obtain ⟨g, cap, rfl, hgD, hBg⟩ := h.slice (by omega)
  obtain ⟨cur, _, hblk, hnc, hcm, hcs, hrows⟩ := files_of_row h.row
  obtain ⟨r0, r1, r2⟩ := hrows i hi
  rw [Nat.zero_add] at r0 r1 r2
  have c0 := hblk.cell (i * 3)
  have c1 := hblk.cell (i * 3 + 1)
  have c2 := hblk.cell (i * 3 + 2)
  rw [r0] at c0
  rw [r1] at c1
  rw [r2] at c2
  have d4 := h.cell4
  have HD : Hid (DriveAt w B D fs c k cr fl dn (.slice (some ⟨g, 0, none⟩) fs.length cap)) := h
  have HA : Hid (Asc (fs.eraseIdx i)) := hasc
  have hgl : g < w.heap.size := lt_of_block hblk
  have hDl : D < w.heap.size := lt_of_block h.blk
  clear h hasc hblk hrows r0 r1 r2
  go_enter Try.func45, Try.ntmps45
  go_wp2_with fail
  refine (remove_any B D i fs c k cr fl dn _ _ (HD.out.later (bnew w (.cells #[.string to, .string fs[i].data, .int .i64 fs[i].synced] 61))) hi hlen).mono ?_
  rintro e w1 ⟨rfl, v1, hdr, hob, hk⟩
  have HF1 : Hid (Blk w1 w.heap.size #[.string to, .string fs[i].data, .int .i64 fs[i].synced] 61) := Blk.keeps (heap_alloc_new _ _) hk (fun e => by
    rcases e with e | e
    · omega
    · simp [Value.ownBlock] at e; omega)
  have HB1 : Hid (Below B w w1) := ((bnew _ _).mono HD.out.size).trans (hk.below (fun k e => by
    rcases e with e | e
    · have := HD.out.from'; omega
    · simp [Value.ownBlock] at e; omega) (by have := HD.out.size; simp; omega))
  have hl1 : (fs.eraseIdx i).length ≤ 1048576 := by rw [List.length_eraseIdx, if_pos hi]; omega
  have hv1 : v1.ownBlock = some g := hob
  obtain ⟨a1, cap1, rfl, hfin⟩ := hdr.files
  have HV1 : Hid ((Value.slice a1 (fs.eraseIdx i).length cap1).ownBlock = some g) := hv1
  have HD1 : Hid (DriveAt w1 B D (fs.eraseIdx i) c k cr fl dn (.slice a1 (fs.eraseIdx i).length cap1)) := hdr
  have HFI : Hid (FilesIn w1 a1 (fs.eraseIdx i)) := hfin
  have e4 := hdr.cell4
  clear c0 c1 c2 d4 hdr hk hfin hob hv1
  generalize hes : fs.eraseIdx i = es at *
  go_wp2_with fail
  refine (findFile_any a1 cap1 es to _ HFI.out HA.out hl1).mono ?_
  rintro e w2 ⟨j, hp, rfl, hb2⟩
  have HP : Hid (PosIs es to j) := hp
  have hjle : j ≤ es.length := hp.1
  have HD2 : Hid (DriveAt w2 B D es c k cr fl dn (.slice a1 es.length cap1)) := HD1.out.later hb2
  have HB2 : Hid (Below B w w2) := HB1.out.trans (hb2.mono HD1.out.size)
  have HF2 : Hid (Blk w2 w.heap.size #[.string to, .string fs[i].data, .int .i64 fs[i].synced] 61) := HF1.out.later hb2
  have g4 := HD2.out.cell4
  have x0 := HF2.out.cell 0
  have x1 := HF2.out.cell 1
  have x2 := HF2.out.cell 2
  simp only [List.getElem?_toArray, List.getElem?_cons_zero, List.getElem?_cons_succ] at x0 x1 x2
  clear e4 hb2 hp HFI HD1 HB1 HF1
  cases hq : hasB es to j with
  | true =>
    have HQ : Hid (hasB es to j = true) := hq
    have hjl : j < es.length := by
      rcases Nat.lt_or_ge j es.length with h | h
      · exact h
      · rw [hasB, List.getElem?_eq_none h] at hq; exact absurd hq (by simp)
    obtain ⟨g', cap', ev, _, _⟩ := HD2.out.slice (by omega)
    obtain rfl : g' = g := by have := HV1.out; rw [ev] at this; simpa [Value.ownBlock] using this
    simp only [Value.slice.injEq] at ev
    obtain ⟨rfl, _, rfl⟩ := ev
    obtain ⟨cur2, _, hblk, hnc2, hcm2, hcs2, hrows⟩ := files_of_row HD2.out.row
    have hsz2 : j * 3 + 2 < cur2.size := by omega
    obtain ⟨y0, z0⟩ := hblk.there (j := j * 3) (by omega)
    obtain ⟨y1, z1⟩ := hblk.there (j := j * 3 + 1) (by omega)
    obtain ⟨y2, z2⟩ := hblk.there (j := j * 3 + 2) (by omega)
    have k0 := hblk.free (j * 3)
    have k1 := hblk.free (j * 3 + 1)
    have k2 := hblk.free (j * 3 + 2)
    have hbut3 : But g' w2 (((w2.setCell ⟨g', j * 3, none⟩ (.string to)).setCell ⟨g', j * 3 + 1, none⟩ (.string fs[i].data)).setCell ⟨g', j * 3 + 2, none⟩ (.int .i64 fs[i].synced)) := (((But.refl _ _).setCell _ _).setCell _ _).setCell _ _
    have HPUT : Hid (DriveAt (((w2.setCell ⟨g', j * 3, none⟩ (.string to)).setCell ⟨g', j * 3 + 1, none⟩ (.string fs[i].data)).setCell ⟨g', j * 3 + 2, none⟩ (.int .i64 fs[i].synced)) B D (es.set j ⟨to, fs[i].data, fs[i].synced⟩) c k cr fl dn (.slice (some ⟨g', 0, none⟩) es.length cap1)) :=
      HD2.out.put hbut3 (((hblk.set (j * 3) (.string to)).set (j * 3 + 1) (.string fs[i].data)).set (j * 3 + 2) (.int .i64 fs[i].synced)) (by simp [hcs2]) (rows_put3 hjl hrows ⟨to, fs[i].data, fs[i].synced⟩)
    have HBL : Hid (Below B w (((w2.setCell ⟨g', j * 3, none⟩ (.string to)).setCell ⟨g', j * 3 + 1, none⟩ (.string fs[i].data)).setCell ⟨g', j * 3 + 2, none⟩ (.int .i64 fs[i].synced))) := HB2.out.trans (hbut3.below hBg HD2.out.size)
    clear hq hblk hrows hbut3
    go_wp2_with fail
    go_region
    go_wp2
    refine bodyPost_ret (results_none rfl _ _ _) rfl ?_
    subst hes
    exact ⟨rfl, j, _, HP.out, HBL.out.drew, Or.inl ⟨HQ.out, HPUT.out.later (Below.refl _ _).drew⟩⟩
  | false =>
    have HQ : Hid (hasB es to j = false) := hq
    have hap2 : (Value.slice a1 es.length cap1).ownBlock ≠ some D := fun e => HD2.out.apart D e rfl
    have hap3 : (Value.slice a1 es.length cap1).ownBlock ≠ some w.heap.size := fun e => by rw [HV1.out] at e; simp at e; omega
    have HDD : Hid (DriveAt (w2.drew.alloc (.cells #[.string to, .string fs[i].data, .int .i64 fs[i].synced] 61)) B D es c k cr fl dn (.slice a1 es.length cap1)) := (HD2.out.later (Below.refl _ _).drew).later (bnew _ _)
    clear hq
    go_wp2_with fail
    have hDl2 : D < w2.heap.size := lt_of_block HD2.out.blk
    have hFl2 : w.heap.size < w2.heap.size := lt_of_block HF2.out
    have hne1 : ¬ (D = w2.heap.size) := by omega
    have hne2 : ¬ (w.heap.size = w2.heap.size) := by omega
    go_region_with (go_at_call 52; refine (insert_any B w2.heap.size j (.slice a1 es.length cap1) es ⟨to, fs[i].data, fs[i].synced⟩ _ HDD.out.row (heap_alloc_new _ _) (fun e => by have := row_block_lt HD2.out.row _ e; omega) hjle hl1 HDD.out.size).mono ?_; rintro e w7 ⟨v', rfl, hrow, hk7, hat⟩; obtain ⟨a7, cap7, rfl⟩ := row_form hrow; have q4 := (HDD.out.blk.keeps hk7 hap2).cell 4; have q5 := (HDD.out.blk.keeps hk7 hap2).free 4; simp only [List.getElem?_toArray, List.getElem?_cons_zero, List.getElem?_cons_succ] at q4)
    all_goals (
      go_wp2
      go_end0
      subst hes
      obtain ⟨hdr, hbel⟩ := HDD.out.inserted hjle hrow hk7 hat
      exact ⟨rfl, j, _, HP.out, HB2.out.trans ((((Below.refl _ _).drew.trans (bnew _ _)).mono HD2.out.size).trans hbel.below), Or.inr ⟨HQ.out, hdr⟩⟩)
end Go.Proofs.Ytndaihhjhllfcad
