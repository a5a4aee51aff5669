import Derived.Test.YtflfopienjjlbaaGreatDoorProg
import Derived.Test.YtflfopienjjlbaaGreatDoorJ02Drive2
import Derived.Test.YtflfopienjjlbaaGreatDoorJ03Btw
import Derived.Test.YtflfopienjjlbaaGreatDoorJ06Valid
namespace Go.Proofs.YtflfopienjjlbaaGreatDoor
open Go.RowKit

def keepAt (zs : List Int) (i : Nat) : Int := match zs[i]? with
  | some z => z
  | none => 0
def crashF (zs : List Int) (i : Nat) (f : FileD) : FileD := ⟨f.name, f.data.extract 0 (keptN f.data f.synced (keepAt zs i)).toNat, keptN f.data f.synced (keepAt zs i)⟩
def crashL (fs : List FileD) (zs : List Int) : List FileD := fs.mapIdx (crashF zs)

theorem crashL_length (fs : List FileD) (zs : List Int) : (crashL fs zs).length = fs.length := by simp [crashL]
theorem crashL_get (fs : List FileD) (zs : List Int) (i : Nat) (h : i < (crashL fs zs).length) : (crashL fs zs)[i] = crashF zs i (fs[i]'(by rw [crashL_length] at h; exact h)) := by simp [crashL]


set_option maxHeartbeats 1000000 in
theorem implCrash_bad (a ak : Option Addr) (cap ck : Nat) (fs : List FileD) (zs : List Int) (c k cr fl : Int) (dn : Bool) (w : World) (hf : FilesIn w a fs) (hs : Short fs) (hlen : fs.length ≤ maxLen) (hsum : sumLen fs ≤ 1000000000) (hd : diskB fs c k cr fl = false) :
    Calls Tryz.prog 23 #[.agg #[.slice a fs.length cap, .int .i64 c, .int .i64 k, .int .i64 cr, .int .i64 fl, .bool dn], .slice ak zs.length ck] w fun e w' =>
      e = .returned (.agg #[.slice none 0 0, .int .i64 0, .int .i64 0, .int .i64 0, .int .i64 0, .bool false]) ∧ Below w.heap.size w w' := by
  have HF : Hid (FilesIn w a fs) := hf
  have HD : Hid (diskB fs c k cr fl = false) := hd
  clear hf hd
  go_enter Tryz.func23, Tryz.ntmps23
  go_wp2_with fail
  refine (implValid_is HD.out _ ((HF.out.later (bnew _ _)).later (bnew _ _)) hs hlen hsum).mono ?_
  rintro e w1 ⟨rfl, hb1⟩
  obtain ⟨hc, hz⟩ := bcell hb1
  have HB : Hid (Below w.heap.size w w1) := bto (bto (bnew _ _) (bnew _ _)) hb1
  clear hb1
  go_wp2
  refine bodyPost_ret (v := .agg #[.slice none 0 0, .int .i64 0, .int .i64 0, .int .i64 0, .int .i64 0, .bool false]) (by simp [results, Tryz.results23, go_sem, hc]) rfl ⟨rfl, ?_⟩
  have h := HB.out
  iterate 6 (refine Below.setCell ?_ (by first | (simp; done) | (simp; omega)) _)
  exact h


theorem file_of_files {fs : List FileD} (h : filesB fs = true) (i : Nat) (hi : i < fs.length) : 0 ≤ fs[i].synced ∧ fs[i].synced ≤ fs[i].data.size := by
  simp only [filesB, okTo, List.all_eq_true, List.mem_range] at h
  have := h i hi
  simp only [okAt, List.getElem?_eq_getElem hi, Bool.and_eq_true, fileB, btwB, decide_eq_true_eq] at this
  exact this.1.2

theorem data_le_sum {fs : List FileD} (i : Nat) (hi : i < fs.length) : fs[i].data.size ≤ sumLen fs := by
  have h1 := sumLen_take_succ fs i hi
  have h2 := sumLen_take_le fs (i + 1)
  omega

/-- The row of a drive whose files are there. -/
theorem row_open {w : World} {B : Nat} {e : TypeId} {a : Option Addr} {n cap : Nat} {fs : List FileD} (h : w.ownsRow B e 3 (.slice a n cap) fs.length (flat fs)) (hn : 0 < fs.length) :
    ∃ g cur, a = some ⟨g, 0, none⟩ ∧ n = fs.length ∧ B ≤ g ∧ Blk w g cur e ∧ ∀ j (hj : j < fs.length), RowFile cur 0 j fs[j] := by
  rcases h.2 with ⟨_, h0⟩ | ⟨g, cap', cur, hv, hB, hg, _, _, _, ht⟩
  · omega
  · simp only [Value.slice.injEq] at hv
    obtain ⟨rfl, rfl, rfl⟩ := hv
    refine ⟨g, cur, rfl, rfl, hB, hg, ?_⟩
    obtain ⟨a2, c2, e2, ho⟩ := owned_of_row h
    simp only [Value.slice.injEq] at e2
    obtain ⟨rfl, _⟩ := e2
    rcases ho with rfl | ⟨g', o', cur', t', e', _, hg', hf⟩
    · simp at hn
    · simp only [Option.some.injEq, Addr.mk.injEq, and_true] at e'
      obtain ⟨rfl, rfl⟩ := e'
      rw [hg] at hg'
      simp only [Option.some.injEq, Obj.cells.injEq] at hg'
      obtain ⟨rfl, rfl, _⟩ := hg'
      exact rows_of_filesAt hg hf

theorem Blk.butC {w w' : World} {g D : Nat} {cur : Array Value} {t : TypeId} (h : Blk w D cur t) (hb : But g w w') (hne : D ≠ g) : Blk w' D cur t := (hb.block D (lt_of_block h) hne).trans h

theorem crash_rows {cu : Array Value} {fs : List FileD} {zs : List Int} {j : Nat} (hlt : j < fs.length) (h : ∀ m (hm : m < fs.length), RowFile cu 0 m (if m < j then crashF zs m fs[m] else fs[m])) {keep : Int} (hk : keepAt zs j = keep) :
    ∀ m (hm : m < fs.length), RowFile ((cu.setIfInBounds (j * 3 + 1) (.string (fs[j].data.extract 0 (keptN fs[j].data fs[j].synced keep).toNat))).setIfInBounds (j * 3 + 2) (.int .i64 (keptN fs[j].data fs[j].synced keep))) 0 m (if m < j + 1 then crashF zs m fs[m] else fs[m]) := by
  subst hk
  intro m hm
  by_cases e : m = j
  · subst e
    have h0 := h m hm
    rw [if_neg (by omega)] at h0
    rw [if_pos (by omega)]
    obtain ⟨a1, a2, a3⟩ := h0
    have l2 := (Array.getElem?_eq_some_iff.1 a2).1
    have l3 := (Array.getElem?_eq_some_iff.1 a3).1
    rw [Nat.zero_add] at l2 l3
    refine ⟨?_, ?_, ?_⟩
    · rw [Array.getElem?_setIfInBounds_ne (by omega), Array.getElem?_setIfInBounds_ne (by omega)]; exact a1
    · rw [Nat.zero_add, Array.getElem?_setIfInBounds_ne (by omega)]
      simp [l2, crashF]
    · rw [Nat.zero_add]
      simp [l3, crashF]
  · have h0 := h m hm
    have e2 : (m < j + 1) = (m < j) := by simp; omega
    simp only [e2]
    exact (h0.set (by omega) _).set (by omega) _

set_option maxRecDepth 100000 in
set_option maxHeartbeats 2000000 in
theorem implCrash_ok (a ak : Option Addr) (cap ck : Nat) (fs : List FileD) (zs : List Int) (c k cr fl : Int) (dn : Bool) (w : World) (hf : FilesIn w a fs) (hz : IntsIn w ak zs) (hs : Short fs) (hlen : fs.length ≤ maxLen) (hsum : sumLen fs ≤ 1000000000) (hd : diskB fs c k cr fl = true) (hpos : 0 < fs.length) :
    Calls Tryz.prog 23 #[.agg #[.slice a fs.length cap, .int .i64 c, .int .i64 k, .int .i64 cr, .int .i64 fl, .bool dn], .slice ak zs.length ck] w fun e w' =>
      ∃ a' cap', e = .returned (.agg #[.slice a' fs.length cap', .int .i64 c, .int .i64 k, .int .i64 0, .int .i64 0, .bool false]) ∧ Owned w' w.heap.size a' (crashL fs zs) ∧ Below w.heap.size w w' := by
  have hfd := files_of_disk hd
  have HFB : Hid (filesB fs = true) := hfd.1
  have hl1000 : fs.length ≤ 1000 := hfd.2.1
  have HF : Hid (FilesIn w a fs) := hf
  have HZ : Hid (IntsIn w ak zs) := hz
  have HD : Hid (diskB fs c k cr fl = true) := hd
  clear hf hd hfd hz
  go_enter Tryz.func23, Tryz.ntmps23
  go_wp2_with fail
  refine (implValid_is HD.out _ ((HF.out.later (bnew _ _)).later (bnew _ _)) hs hlen hsum).mono ?_
  rintro e w1 ⟨rfl, hb1⟩
  obtain ⟨x0, x1, x2, x3, x4, x5⟩ := ((BoxAt.new w (.slice a fs.length cap) (.int .i64 c) (.int .i64 k) (.int .i64 cr) (.int .i64 fl) (.bool dn) 28).later (bnew _ _)).later hb1
  have HB1 : Hid (Below w.heap.size w w1) := bto (bto (bnew _ _) (bnew _ _)) hb1
  have hR : Blk w1 (w.heap.size + 1) #[.slice none 0 0, .int .i64 0, .int .i64 0, .int .i64 0, .int .i64 0, .bool false] 28 := by
    have h := Blk.later (w := (w.alloc (.cells #[.slice a fs.length cap, .int .i64 c, .int .i64 k, .int .i64 cr, .int .i64 fl, .bool dn] 28)).alloc (.cells #[.slice none 0 0, .int .i64 0, .int .i64 0, .int .i64 0, .int .i64 0, .bool false] 28)) (g := (w.alloc (.cells #[.slice a fs.length cap, .int .i64 c, .int .i64 k, .int .i64 cr, .int .i64 fl, .bool dn] 28)).heap.size) (heap_alloc_new _ _) hb1
    simpa using h
  have HR1 : Hid (Blk w1 (w.heap.size + 1) #[.slice none 0 0, .int .i64 0, .int .i64 0, .int .i64 0, .int .i64 0, .bool false] 28) := hR
  clear hR hb1
  go_wp2_with fail
  refine (mount_any a cap fs c k cr fl dn _ (HF.out.later HB1.out) (by omega)).mono ?_
  rintro e w2 ⟨D, v, rfl, hdr, hb2⟩
  obtain ⟨a7, cap7, rfl⟩ := row_form hdr.row
  obtain ⟨g, cur, rfl, _, hgB, hblk, hrows⟩ := row_open hdr.row hpos
  have hgD : g ≠ D := hdr.apart g rfl
  have hRlt : w.heap.size + 1 < w1.heap.size := lt_of_block HR1.out
  have hRD : w.heap.size + 1 ≠ D := by have := hdr.from'; omega
  have hRg : w.heap.size + 1 ≠ g := by omega
  have HG : Hid (w.heap.size ≤ g ∧ w.heap.size ≤ D) := ⟨by omega, by have := hdr.from'; omega⟩
  have HR2 : Hid (Blk w2 (w.heap.size + 1) #[.slice none 0 0, .int .i64 0, .int .i64 0, .int .i64 0, .int .i64 0, .bool false] 28) := HR1.out.later hb2
  have HB2 : Hid (Below w.heap.size w w2) := bto HB1.out hb2
  have HDB : Hid (Blk w2 D #[.int .i64 k, .int .i64 cr, .int .i64 fl, .bool dn, .slice (some ⟨g, 0, none⟩) fs.length cap7, .int .i64 c] 88) := hdr.blk
  have HGB : Hid (Blk w2 g cur 59) := hblk
  have HRW : Hid (∀ j (hj : j < fs.length), RowFile cur 0 j fs[j]) := hrows
  have d4 := hdr.blk.cell 4
  simp only [List.getElem?_toArray, List.getElem?_cons_zero, List.getElem?_cons_succ] at d4
  clear x0 x1 x2 x3 x4 x5 HR1 HB1 hdr hb2 hblk hrows hgB hRlt
  go_wp2
  go_loopw [6, 7, 19] (fun _ _ i wr => ∃ (j : Nat) (cu : Array Value), j ≤ fs.length ∧ i = .int .i64 j ∧ Blk wr D #[.int .i64 k, .int .i64 cr, .int .i64 fl, .bool dn, .slice (some ⟨g, 0, none⟩) fs.length cap7, .int .i64 c] 88 ∧ Blk wr g cu 59 ∧
      (∀ m (hm : m < fs.length), RowFile cu 0 m (if m < j then crashF zs m fs[m] else fs[m])) ∧ Blk wr (w.heap.size + 1) #[.slice none 0 0, .int .i64 0, .int .i64 0, .int .i64 0, .int .i64 0, .bool false] 28 ∧ Below w.heap.size w wr) (fun _ _ i _ => fs.length - (intOf i).toNat)
  case atStart => exact ⟨0, cur, Nat.zero_le _, rfl, HDB.out, HGB.out, fun m hm => by rw [if_neg (by omega)]; exact HRW.out m hm, HR2.out, HB2.out⟩
  case round =>
    obtain ⟨j, cu, hj, rfl, hdb, hgb, hrw, hrb, hbel⟩ := hrel
    have H1 : Hid (Blk wr D #[.int .i64 k, .int .i64 cr, .int .i64 fl, .bool dn, .slice (some ⟨g, 0, none⟩) fs.length cap7, .int .i64 c] 88) := hdb
    have H2 : Hid (Blk wr g cu 59) := hgb
    have H3 : Hid (∀ m (hm : m < fs.length), RowFile cu 0 m (if m < j then crashF zs m fs[m] else fs[m])) := hrw
    have H4 : Hid (Blk wr (w.heap.size + 1) #[.slice none 0 0, .int .i64 0, .int .i64 0, .int .i64 0, .int .i64 0, .bool false] 28) := hrb
    have q4 := hdb.cell 4
    simp only [List.getElem?_toArray, List.getElem?_cons_zero, List.getElem?_cons_succ] at q4
    clear hdb hgb hrw hrb d4 HDB HGB HRW HR2 HB2
    by_cases hlt : j < fs.length
    · obtain ⟨_, r1, r2⟩ := H3.out j hlt
      rw [if_neg (by omega), Nat.zero_add] at r1 r2
      obtain ⟨s0, s1⟩ := file_of_files HFB.out j hlt
      have hdz : fs[j].data.size ≤ 1000000000 := by have := data_le_sum (fs := fs) j hlt; omega
      have HCR : Hid (∀ keep, Calls Tryz.prog 52 #[.pointer (some ⟨g, j * 3, none⟩), .int .i64 keep] wr fun e w' => e = .returned (.tuple #[]) ∧ But g wr w' ∧
        Blk w' g ((cu.setIfInBounds (j * 3 + 1) (.string (fs[j].data.extract 0 (keptN fs[j].data fs[j].synced keep).toNat))).setIfInBounds (j * 3 + 2) (.int .i64 (keptN fs[j].data fs[j].synced keep))) 59) :=
        fun keep => crash_any g (j * 3) cu 59 fs[j].data fs[j].synced keep wr H2.out r1 r2 s0 s1 hdz
      clear r1 r2 s0 s1 hdz
      by_cases hk : j < zs.length
      · obtain ⟨bz, oz, rfl, hbz, cz⟩ := (HZ.out.later hbel).at hk
        have EK : Hid (keepAt zs j = zs[j]) := by show _ = _; simp [keepAt, List.getElem?_eq_getElem hk]
        go_wp2_with fail
        refine (HCR.out _).mono ?_
        rintro e w3 ⟨rfl, hbut, hb3⟩
        have HB5 : Hid (Blk w3 D #[.int .i64 k, .int .i64 cr, .int .i64 fl, .bool dn, .slice (some ⟨g, 0, none⟩) fs.length cap7, .int .i64 c] 88) := H1.out.butC hbut (Ne.symm hgD)
        have HB6 : Hid (Blk w3 (w.heap.size + 1) #[.slice none 0 0, .int .i64 0, .int .i64 0, .int .i64 0, .int .i64 0, .bool false] 28) := H4.out.butC hbut hRg
        have HB7 : Hid (Below w.heap.size w w3) := hbel.trans (hbut.below HG.out.1 hbel.size)
        have HB8 := hb3
        clear hbut hb3
        go_wp2
        exact ⟨⟨j + 1, _, by omega, by go_num, HB5.out, HB8, crash_rows hlt H3.out EK.out, HB6.out, HB7.out⟩, by simp [intOf]; omega⟩
      · have EK : Hid (keepAt zs j = 0) := by show _ = _; simp [keepAt, List.getElem?_eq_none (Nat.not_lt.1 hk)]
        go_wp2_with fail
        refine (HCR.out _).mono ?_
        rintro e w3 ⟨rfl, hbut, hb3⟩
        have HB5 : Hid (Blk w3 D #[.int .i64 k, .int .i64 cr, .int .i64 fl, .bool dn, .slice (some ⟨g, 0, none⟩) fs.length cap7, .int .i64 c] 88) := H1.out.butC hbut (Ne.symm hgD)
        have HB6 : Hid (Blk w3 (w.heap.size + 1) #[.slice none 0 0, .int .i64 0, .int .i64 0, .int .i64 0, .int .i64 0, .bool false] 28) := H4.out.butC hbut hRg
        have HB7 : Hid (Below w.heap.size w w3) := hbel.trans (hbut.below HG.out.1 hbel.size)
        have HB8 := hb3
        clear hbut hb3
        go_wp2
        exact ⟨⟨j + 1, _, by omega, by go_num, HB5.out, HB8, crash_rows hlt H3.out EK.out, HB6.out, HB7.out⟩, by simp [intOf]; omega⟩
    · have ej : j = fs.length := by omega
      have HOWN : Hid (∀ w', Blk w' g cu 59 → Owned w' w.heap.size (some ⟨g, 0, none⟩) (crashL fs zs)) := fun w' hb => by
        refine Or.inr ⟨g, 0, cu, 59, rfl, HG.out.1, hb, filesAt_of_rows hb fun m hm => ?_⟩
        rw [crashL_get]
        have := H3.out m (by rw [crashL_length] at hm; exact hm)
        rw [if_pos (by rw [crashL_length] at hm; omega)] at this
        exact this
      go_wp2_with fail
      refine (restart_any D 88 _ _ _ _ _ _ _ H1.out).mono ?_
      rintro e w3 ⟨rfl, hbut, hb3⟩
      have H5 : Hid (Blk w3 g cu 59) := H2.out.butC hbut hgD
      have H6 : Hid (Blk w3 (w.heap.size + 1) #[.slice none 0 0, .int .i64 0, .int .i64 0, .int .i64 0, .int .i64 0, .bool false] 28) := H4.out.butC hbut hRD
      have H7 : Hid (Below w.heap.size w w3) := hbel.trans (hbut.below HG.out.2 hbel.size)
      have H8 : Hid (Blk w3 D #[.int .i64 k, .int .i64 0, .int .i64 0, .bool false, .slice (some ⟨g, 0, none⟩) fs.length cap7, .int .i64 c] 88) := hb3
      clear hbut hb3 q4
      go_wp2_with fail
      refine (unmount_any D 88 (some ⟨g, 0, none⟩) fs.length cap7 c k 0 0 false _ H8.out).mono ?_
      rintro e w4 ⟨rfl, hb4⟩
      have hR4 := H6.out.later hb4
      have r0 := hR4.cell 0
      have r1 := hR4.cell 1
      have r2 := hR4.cell 2
      have r3 := hR4.cell 3
      have r4 := hR4.cell 4
      have r5 := hR4.cell 5
      simp only [List.getElem?_toArray, List.getElem?_cons_zero, List.getElem?_cons_succ] at r0 r1 r2 r3 r4 r5
      have q0 := hR4.free 0
      have q1 := hR4.free 1
      have q2 := hR4.free 2
      have q3 := hR4.free 3
      have q4 := hR4.free 4
      have q5 := hR4.free 5
      have H9 : Hid (Blk w4 g cu 59) := H5.out.later hb4
      have H10 : Hid (Below w.heap.size w w4) := bto H7.out hb4
      clear hR4 hb4
      go_wp2
      refine bodyPost_ret (v := .agg #[.slice (some ⟨g, 0, none⟩) fs.length cap7, .int .i64 c, .int .i64 k, .int .i64 0, .int .i64 0, .bool false]) (by simp [results, Tryz.results23, go_sem, r0, r1, r2, r3, r4, r5]) rfl ⟨_, _, rfl, ?_, ?_⟩
      · refine HOWN.out _ ?_
        have h := H9.out
        iterate 6 (refine Blk.butC ?_ ((But.refl (w.heap.size + 1) _).setCell _ _) (Ne.symm hRg))
        exact h
      · have h := H10.out
        iterate 6 (refine Below.setCell ?_ (by first | (simp; done) | (simp; omega)) _)
        exact h

set_option maxRecDepth 100000 in
set_option maxHeartbeats 2000000 in
theorem implCrash_nil (a ak : Option Addr) (cap ck : Nat) (zs : List Int) (c k cr fl : Int) (dn : Bool) (w : World) (hd : diskB [] c k cr fl = true) :
    Calls Tryz.prog 23 #[.agg #[.slice a 0 cap, .int .i64 c, .int .i64 k, .int .i64 cr, .int .i64 fl, .bool dn], .slice ak zs.length ck] w fun e w' =>
      ∃ a' cap', e = .returned (.agg #[.slice a' 0 cap', .int .i64 c, .int .i64 k, .int .i64 0, .int .i64 0, .bool false]) ∧ Below w.heap.size w w' := by
  have HD : Hid (diskB [] c k cr fl = true) := hd
  clear hd
  have HV : Hid (∀ w', Calls Tryz.prog 33 #[.agg #[.slice a 0 cap, .int .i64 c, .int .i64 k, .int .i64 cr, .int .i64 fl, .bool dn]] w' fun e w'' => e = .returned (.bool true) ∧ Below w'.heap.size w' w'') := fun w' =>
    implValid_is (fs := []) HD.out w' (Or.inl rfl) (fun i h => absurd h (by simp)) (by simp) (by simp [sumLen])
  have HM : Hid (∀ w', Calls Tryz.prog 34 #[.agg #[.slice a 0 cap, .int .i64 c, .int .i64 k, .int .i64 cr, .int .i64 fl, .bool dn]] w' fun e w'' => ∃ D v, e = .returned (.pointer (some ⟨D, 0, none⟩)) ∧ DriveAt w'' w'.heap.size D [] c k cr fl dn v ∧ Below w'.heap.size w' w'') := fun w' =>
    mount_any a cap [] c k cr fl dn w' (Or.inl rfl) (by simp)
  go_enter Tryz.func23, Tryz.ntmps23
  go_wp2_with fail
  refine (HV.out _).mono ?_
  rintro e w1 ⟨rfl, hb1⟩
  obtain ⟨x0, x1, x2, x3, x4, x5⟩ := ((BoxAt.new w (.slice a 0 cap) (.int .i64 c) (.int .i64 k) (.int .i64 cr) (.int .i64 fl) (.bool dn) 28).later (bnew _ _)).later hb1
  have HB1 : Hid (Below w.heap.size w w1) := bto (bto (bnew _ _) (bnew _ _)) hb1
  have hR : Blk w1 (w.heap.size + 1) #[.slice none 0 0, .int .i64 0, .int .i64 0, .int .i64 0, .int .i64 0, .bool false] 28 := by
    have h := Blk.later (w := (w.alloc (.cells #[.slice a 0 cap, .int .i64 c, .int .i64 k, .int .i64 cr, .int .i64 fl, .bool dn] 28)).alloc (.cells #[.slice none 0 0, .int .i64 0, .int .i64 0, .int .i64 0, .int .i64 0, .bool false] 28)) (g := (w.alloc (.cells #[.slice a 0 cap, .int .i64 c, .int .i64 k, .int .i64 cr, .int .i64 fl, .bool dn] 28)).heap.size) (heap_alloc_new _ _) hb1
    simpa using h
  have HR1 : Hid (Blk w1 (w.heap.size + 1) #[.slice none 0 0, .int .i64 0, .int .i64 0, .int .i64 0, .int .i64 0, .bool false] 28) := hR
  clear hR hb1
  go_wp2_with fail
  refine (HM.out _).mono ?_
  rintro e w2 ⟨D, v, rfl, hdr, hb2⟩
  obtain ⟨a7, cap7, rfl⟩ := row_form hdr.row
  have hRlt : w.heap.size + 1 < w1.heap.size := lt_of_block HR1.out
  have hRD : w.heap.size + 1 ≠ D := by have := hdr.from'; omega
  have HG : Hid (w.heap.size ≤ D) := by have := hdr.from'; show _ ≤ _; omega
  have HR2 : Hid (Blk w2 (w.heap.size + 1) #[.slice none 0 0, .int .i64 0, .int .i64 0, .int .i64 0, .int .i64 0, .bool false] 28) := HR1.out.later hb2
  have HB2 : Hid (Below w.heap.size w w2) := bto HB1.out hb2
  have HDB : Hid (Blk w2 D #[.int .i64 k, .int .i64 cr, .int .i64 fl, .bool dn, .slice a7 0 cap7, .int .i64 c] 88) := hdr.blk
  have d4 := hdr.blk.cell 4
  simp only [List.getElem?_toArray, List.getElem?_cons_zero, List.getElem?_cons_succ, List.length_nil] at d4
  clear x0 x1 x2 x3 x4 x5 HR1 HB1 hdr hb2 hRlt HV HM
  go_wp2
  go_loopw [6, 7, 19] (fun _ _ i wr => i = .int .i64 0 ∧ wr = w2) (fun _ _ i _ => 0)
  case atStart => exact ⟨rfl, rfl⟩
  case round =>
    obtain ⟨rfl, rfl⟩ := hrel
    go_wp2_with fail
    refine (restart_any D 88 _ _ _ _ _ _ _ HDB.out).mono ?_
    rintro e w3 ⟨rfl, hbut, hb3⟩
    have H6 : Hid (Blk w3 (w.heap.size + 1) #[.slice none 0 0, .int .i64 0, .int .i64 0, .int .i64 0, .int .i64 0, .bool false] 28) := HR2.out.butC hbut hRD
    have H7 : Hid (Below w.heap.size w w3) := HB2.out.trans (hbut.below HG.out HB2.out.size)
    have H8 : Hid (Blk w3 D #[.int .i64 k, .int .i64 0, .int .i64 0, .bool false, .slice a7 0 cap7, .int .i64 c] 88) := hb3
    clear hbut hb3 d4
    go_wp2_with fail
    refine (unmount_any D 88 a7 0 cap7 c k 0 0 false _ H8.out).mono ?_
    rintro e w4 ⟨rfl, hb4⟩
    have hR4 := H6.out.later hb4
    have r0 := hR4.cell 0
    have r1 := hR4.cell 1
    have r2 := hR4.cell 2
    have r3 := hR4.cell 3
    have r4 := hR4.cell 4
    have r5 := hR4.cell 5
    simp only [List.getElem?_toArray, List.getElem?_cons_zero, List.getElem?_cons_succ] at r0 r1 r2 r3 r4 r5
    have q0 := hR4.free 0
    have q1 := hR4.free 1
    have q2 := hR4.free 2
    have q3 := hR4.free 3
    have q4 := hR4.free 4
    have q5 := hR4.free 5
    have H10 : Hid (Below w.heap.size w w4) := bto H7.out hb4
    clear hR4 hb4
    go_wp2
    refine bodyPost_ret (v := .agg #[.slice a7 0 cap7, .int .i64 c, .int .i64 k, .int .i64 0, .int .i64 0, .bool false]) (by simp [results, Tryz.results23, go_sem, r0, r1, r2, r3, r4, r5]) rfl ⟨_, _, rfl, ?_⟩
    have h := H10.out
    iterate 6 (refine Below.setCell ?_ (by first | (simp; done) | (simp; omega)) _)
    exact h

/-- What a crash leaves. -/
def crashFs (fs : List FileD) (zs : List Int) (b : Bool) : List FileD := if b = true then crashL fs zs else []
def pick0 (b : Bool) (x : Int) : Int := if b = true then x else 0

theorem implCrash_any (a ak : Option Addr) (cap ck : Nat) (fs : List FileD) (zs : List Int) (c k cr fl : Int) (dn : Bool) (w : World) (hf : FilesIn w a fs) (hz : IntsIn w ak zs) (hs : Short fs) (hlen : fs.length ≤ maxLen) (hsum : sumLen fs ≤ 1000000000) :
    Calls Tryz.prog 23 #[.agg #[.slice a fs.length cap, .int .i64 c, .int .i64 k, .int .i64 cr, .int .i64 fl, .bool dn], .slice ak zs.length ck] w fun e w' =>
      ∃ a' cap', e = .returned (.agg #[.slice a' (crashFs fs zs (diskB fs c k cr fl)).length cap', .int .i64 (pick0 (diskB fs c k cr fl) c), .int .i64 (pick0 (diskB fs c k cr fl) k), .int .i64 0, .int .i64 0, .bool false]) ∧
        Owned w' w.heap.size a' (crashFs fs zs (diskB fs c k cr fl)) ∧ Below w.heap.size w w' := by
  by_cases hd : diskB fs c k cr fl = true
  · rw [hd]
    simp only [crashFs, pick0, if_true, crashL_length]
    by_cases hp : 0 < fs.length
    · exact implCrash_ok a ak cap ck fs zs c k cr fl dn w hf hz hs hlen hsum hd hp
    · have h0 : fs = [] := List.length_eq_zero_iff.1 (by omega)
      subst h0
      refine (implCrash_nil a ak cap ck zs c k cr fl dn w hd).mono ?_
      rintro e w' ⟨a', cap', rfl, hb⟩
      exact ⟨a', cap', rfl, Or.inl rfl, hb⟩
  · have hd' : diskB fs c k cr fl = false := by simpa using hd
    rw [hd']
    refine (implCrash_bad a ak cap ck fs zs c k cr fl dn w hf hs hlen hsum hd').mono ?_
    rintro e w' ⟨rfl, hb⟩
    exact ⟨none, 0, rfl, Or.inl rfl, hb⟩
end Go.Proofs.YtflfopienjjlbaaGreatDoor

