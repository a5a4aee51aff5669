import Derived.Test.YtboofidegpnkaaaGreatDoorProg
import Derived.Test.YtboofidegpnkaaaGreatDoorJ14SDo
namespace Go.Proofs.YtboofidegpnkaaaGreatDoor
open Go.RowKit
set_option maxRecDepth 100000 in
set_option maxHeartbeats 2000000 in
theorem do_append (w : World) (a : Option Addr) (cap : Nat) (fs : List FileD) (c k cr fl : Int) (dn : Bool) (op : OpD) (h : Asked w a fs c op) (hk : op.kind = 2) (hq : hasB fs op.name (posOf op.name fs) = true) : Does w a cap fs c k cr fl dn op := by
  unfold Does
  have HF : Hid (FilesIn w a fs) := h.files
  have HA : Hid (Asc fs) := h.asc
  have hlen := h.len
  have hsum := h.sum
  have hcap := h.cap
  have hdata := h.data
  have hml : fs.length ≤ maxLen := by simp [maxLen]; omega
  have hl2 : fs.length ≤ 1048576 := by omega
  obtain ⟨hi, hnm⟩ := hasB_lt hq
  have HFD : Hid (findFrom op.name fs 0 = (posOf op.name fs : Int)) := by show _ = _; rw [find_pos h.asc (posOf_is op.name h.asc), if_pos hq]
  have HKD : Hid (op.kind = 2) := hk
  have ED : Hid (doR fs c op = if c < sumLen fs + op.data.size then (3, fs) else (0, withL fs ⟨fs[posOf op.name fs].name, fs[posOf op.name fs].data ++ op.data, fs[posOf op.name fs].synced⟩)) := by
    show _ = _
    rw [with_old (f := ⟨fs[posOf op.name fs].name, fs[posOf op.name fs].data ++ op.data, fs[posOf op.name fs].synced⟩) h.asc hi rfl, doR_there (by omega) hq hi]; simp [hk]
  have hdz : fs[posOf op.name fs].data.size ≤ 1000000000 := by
    have h1 := sumLen_take_succ fs _ hi
    have h2 := sumLen_take_le fs (posOf op.name fs + 1)
    omega
  clear hk
  obtain ⟨f0, hff⟩ : ∃ f0, fs[posOf op.name fs] = f0 := ⟨_, rfl⟩
  have HFF : Hid (fs[posOf op.name fs] = f0) := hff
  have ED2 : Hid (doR fs c op = if c < sumLen fs + op.data.size then (3, fs) else (0, withL fs ⟨f0.name, f0.data ++ op.data, f0.synced⟩)) := by have h := ED.out; rw [hff] at h; exact h
  rw [hff] at hdz
  clear ED hff
  clear h hq
  go_enter Tryz.func35, Tryz.ntmps35
  go_wp2_with fail
  refine (l1Find_is HFD.out _ ((HF.out.later (bnew _ _)).later (bnew _ _)) hml).mono ?_
  rintro e w1 ⟨rfl, hb1⟩
  obtain ⟨hdk, hop, hbel⟩ := two_boxes hb1
  have HDK : Hid (DiskAt w1 w.heap.size a fs.length cap c k cr fl dn) := hdk
  have HOP : Hid (OpAt w1 (w.heap.size + 1) op 48) := hop
  have HB1 : Hid (Below w.heap.size w w1) := hbel
  have HF1 : Hid (FilesIn w1 a fs) := HF.out.later hbel
  obtain ⟨o0, o1, o2, o3, o4⟩ := HOP.out.cells
  have d0 := hdk.cell 0
  simp only [List.getElem?_toArray, List.getElem?_cons_zero] at d0
  have hk := HKD.out
  clear hb1 hdk hop hbel
  obtain ⟨b, o, rfl, hb, c0, c1, c2⟩ := HF1.out.at hi
  rw [HFF.out] at c0 c1 c2
  have hnb : ¬ b = w1.heap.size := by omega
  have hdl : w.heap.size + 1 < w1.heap.size := lt_of_block HOP.out
  have hnd : ¬ w.heap.size = w1.heap.size := by omega
  have hnd1 : ¬ w.heap.size + 1 = w1.heap.size := by omega
  have hdl2 : w.heap.size < w1.heap.size := by omega
  have HWT : Hid (∀ W, FilesIn W (some ⟨b, o, none⟩) fs → Calls Tryz.prog 54 #[.slice (some ⟨b, o, none⟩) fs.length cap, .agg #[.string f0.name, .string (f0.data ++ op.data), .int .i64 f0.synced]] W fun e w' => ∃ v, e = .returned v ∧ w'.ownsRow W.heap.size 71 3 v (withL fs ⟨f0.name, f0.data ++ op.data, f0.synced⟩).length (flat (withL fs ⟨f0.name, f0.data ++ op.data, f0.synced⟩)) ∧ Below W.heap.size W w') := fun W h => l1With_any _ cap fs ⟨f0.name, f0.data ++ op.data, f0.synced⟩ W h hl2
  have hsl : sumLen fs ≤ 1000000000 := by omega
  go_wp2_with fail
  have hbn : Below w1.heap.size w1 (w1.alloc (.cells #[.string f0.name, .string f0.data, .int .i64 f0.synced] 71)) := bnew _ _
  have hfb : Blk (w1.alloc (.cells #[.string f0.name, .string f0.data, .int .i64 f0.synced] 71)) w1.heap.size #[.string f0.name, .string f0.data, .int .i64 f0.synced] 71 := heap_alloc_new _ _
  generalize w1.alloc (.cells #[.string f0.name, .string f0.data, .int .i64 f0.synced] 71) = W2 at *
  have HB2 : Hid (Below w.heap.size w W2) := bto HB1.out hbn
  have HFx : Hid (∀ x : Later W2, FilesIn x.w' (some ⟨b, o, none⟩) fs) := fun x => (HF1.out.later hbn).later x.h
  have HDx : Hid (∀ x : Later W2, DiskAt x.w' w.heap.size (some ⟨b, o, none⟩) fs.length cap c k cr fl dn) := fun x => Blk.later (Blk.later HDK.out hbn) x.h
  have HOx : Hid (∀ x : Later W2, OpAt x.w' (w.heap.size + 1) op 48) := fun x => Blk.later (Blk.later HOP.out hbn) x.h
  have HGx : Hid (∀ x : Later W2, Blk x.w' w1.heap.size #[.string f0.name, .string f0.data, .int .i64 f0.synced] 71) := fun x => hfb.later x.h
  have hdk2 := HDx.out ⟨W2, Below.refl _ _⟩
  have p0 := Later.cells (w := W2) (by have h := hdk2.cell 0; simpa using h)
  have p1 := Later.cells (w := W2) (by have h := hdk2.cell 1; simpa using h)
  have p2 := Later.cells (w := W2) (by have h := hdk2.cell 2; simpa using h)
  have p3 := Later.cells (w := W2) (by have h := hdk2.cell 3; simpa using h)
  have p4 := Later.cells (w := W2) (by have h := hdk2.cell 4; simpa using h)
  have p5 := Later.cells (w := W2) (by have h := hdk2.cell 5; simpa using h)
  have po := Later.cells (w := W2) (HOx.out ⟨W2, Below.refl _ _⟩).cells.2.2.2.1
  have hne := Later.there W2
  clear hdk2 hfb hbn c0 c1 c2 o0 o1 o2 o3 o4 d0 hnb hnd hnd1
  by_cases hfull : c < (sumLen fs : Int) + (op.data.size : Int)
  · have EQ : Hid (doR fs c op = (3, fs)) := by show _ = _; rw [ED2.out, if_pos hfull]
    refine wp_region_later (by kernel_rfl) (by kernel_rfl) ?_
    repeat (go_big_quiet_step (first | (go_at_call 52; exact calls_later (l1Bytes_any _ _ _ _ _ _ _ _ _ (HFx.out _) hml hsl))))
    refine wpQuiet_nil ?_
    rintro _ ⟨y, rfl⟩
    have d0 := p0 y
    have HFy : Hid (FilesIn y.w' (some ⟨b, o, none⟩) fs) := HFx.out y
    have HBy : Hid (Below w.heap.size w y.w') := bto HB2.out y.h
    clear p0 p1 p2 p3 p4 p5 po hne HDx HFx HOx HGx
    generalize y.w' = W at *
    clear y
    go_wp2
    go_ret2
    rw [EQ.out]
    exact ⟨_, cap, rfl, HFy.out, HBy.out⟩
  · have EQ : Hid (doR fs c op = (0, withL fs ⟨f0.name, f0.data ++ op.data, f0.synced⟩)) := by show _ = _; rw [ED2.out, if_neg hfull]
    refine wp_region_later (by kernel_rfl) (by kernel_rfl) ?_
    repeat (go_big_quiet_step (first | (go_at_call 52; exact calls_later (l1Bytes_any _ _ _ _ _ _ _ _ _ (HFx.out _) hml hsl))))
    refine wpQuiet_nil ?_
    rintro _ ⟨y, rfl⟩
    have d0 := p0 y
    have o3 := po y
    have HGy := HGx.out y
    have HFy : Hid (FilesIn y.w' (some ⟨b, o, none⟩) fs) := HFx.out y
    have HBy : Hid (Below w.heap.size w y.w') := bto HB2.out y.h
    have q0 := HGy.cell 0
    have q1 := HGy.cell 1
    have q2 := HGy.cell 2
    simp only [List.getElem?_toArray, List.getElem?_cons_zero, List.getElem?_cons_succ] at q0 q1 q2
    have r1 := HGy.free 1
    clear p0 p1 p2 p3 p4 p5 po hne HDx HFx HOx HGx HGy
    generalize y.w' = W at *
    clear y
    have hbw1 : b ≠ w1.heap.size := by omega
    have HFS : Hid (FilesIn (W.setCell ⟨w1.heap.size, 1, none⟩ (.string (f0.data ++ op.data))) (some ⟨b, o, none⟩) fs) := HFy.out.setCell (by exact Ne.symm hbw1) _
    have HBS : Hid (Below w.heap.size w (W.setCell ⟨w1.heap.size, 1, none⟩ (.string (f0.data ++ op.data)))) := HBy.out.setCell (by show w.heap.size ≤ w1.heap.size; omega) _
    have hne1 : ¬ w1.heap.size = w.heap.size := by omega
    go_wp2_with fail
    refine (HWT.out _ HFS.out).mono ?_
    rintro e w5 ⟨v5, rfl, hrow5, hb5⟩
    obtain ⟨a5, cap5, rfl, hown5⟩ := owned_of_row hrow5
    have HF5 : Hid (FilesIn w5 a5 (withL fs ⟨f0.name, f0.data ++ op.data, f0.synced⟩)) := hown5.files
    have HB5 : Hid (Below w.heap.size w w5) := bto HBS.out hb5
    clear hrow5 hb5 hown5
    go_wp2
    go_ret2
    rw [EQ.out]
    exact ⟨a5, cap5, rfl, HF5.out, HB5.out⟩
set_option maxRecDepth 100000 in
set_option maxHeartbeats 2000000 in
theorem do_rename (w : World) (a : Option Addr) (cap : Nat) (fs : List FileD) (c k cr fl : Int) (dn : Bool) (op : OpD) (h : Asked w a fs c op) (hk : op.kind = 5) (hq : hasB fs op.name (posOf op.name fs) = true) : Does w a cap fs c k cr fl dn op := by
  unfold Does
  have HF : Hid (FilesIn w a fs) := h.files
  have HA : Hid (Asc fs) := h.asc
  have hlen := h.len
  have hsum := h.sum
  have hcap := h.cap
  have hdata := h.data
  have hml : fs.length ≤ maxLen := by simp [maxLen]; omega
  have hl2 : fs.length ≤ 1048576 := by omega
  obtain ⟨hi, hnm⟩ := hasB_lt hq
  have HFD : Hid (findFrom op.name fs 0 = (posOf op.name fs : Int)) := by show _ = _; rw [find_pos h.asc (posOf_is op.name h.asc), if_pos hq]
  have HKD : Hid (op.kind = 5) := hk
  have EQ : Hid (doR fs c op = (0, withL (withoutL fs op.name) ⟨op.to, fs[posOf op.name fs].data, fs[posOf op.name fs].synced⟩)) := by
    show _ = _
    have e1 : fs.eraseIdx (posOf op.name fs) = withoutL fs op.name := by rw [← without_erase h.asc hi, hnm]
    rw [doR_there (by omega) hq hi, e1]; simp [hk]
  clear hsum hcap hdata hk
  obtain ⟨f0, hff⟩ : ∃ f0, fs[posOf op.name fs] = f0 := ⟨_, rfl⟩
  have HFF : Hid (fs[posOf op.name fs] = f0) := hff
  have EQ2 : Hid (doR fs c op = (0, withL (withoutL fs op.name) ⟨op.to, f0.data, f0.synced⟩)) := by have h := EQ.out; rw [hff] at h; exact h
  clear EQ hff
  clear h hq
  go_enter Tryz.func35, Tryz.ntmps35
  go_wp2_with fail
  refine (l1Find_is HFD.out _ ((HF.out.later (bnew _ _)).later (bnew _ _)) hml).mono ?_
  rintro e w1 ⟨rfl, hb1⟩
  obtain ⟨hdk, hop, hbel⟩ := two_boxes hb1
  have HDK : Hid (DiskAt w1 w.heap.size a fs.length cap c k cr fl dn) := hdk
  have HOP : Hid (OpAt w1 (w.heap.size + 1) op 48) := hop
  have HB1 : Hid (Below w.heap.size w w1) := hbel
  have HF1 : Hid (FilesIn w1 a fs) := HF.out.later hbel
  obtain ⟨o0, o1, o2, o3, o4⟩ := HOP.out.cells
  have d0 := hdk.cell 0
  simp only [List.getElem?_toArray, List.getElem?_cons_zero] at d0
  have hk := HKD.out
  clear hb1 hdk hop hbel
  obtain ⟨b, o, rfl, hb, c0, c1, c2⟩ := HF1.out.at hi
  rw [HFF.out] at c0 c1 c2
  have hnb : ¬ b = w1.heap.size := by omega
  have hdl : w.heap.size + 1 < w1.heap.size := lt_of_block HOP.out
  have hnd : ¬ w.heap.size = w1.heap.size := by omega
  have hnd1 : ¬ w.heap.size + 1 = w1.heap.size := by omega
  have hdl2 : w.heap.size < w1.heap.size := by omega
  have HWO : Hid (∀ W, Below w1.heap.size w1 W → Calls Tryz.prog 55 #[.slice (some ⟨b, o, none⟩) fs.length cap, .string op.name] W fun e w' => ∃ v, e = .returned v ∧ w'.ownsRow W.heap.size 71 3 v (withoutL fs op.name).length (flat (withoutL fs op.name)) ∧ Below W.heap.size W w') := fun W h => l1Without_any _ cap fs op.name W (HF1.out.later h) hl2
  have hesl : (withoutL fs op.name).length ≤ 1048576 := by have := without_length fs op.name; omega
  generalize withoutL fs op.name = es at *
  have HWT : Hid (∀ W a' cap', FilesIn W a' es → Calls Tryz.prog 54 #[.slice a' es.length cap', .agg #[.string op.to, .string f0.data, .int .i64 f0.synced]] W fun e w' => ∃ v, e = .returned v ∧ w'.ownsRow W.heap.size 71 3 v (withL es ⟨op.to, f0.data, f0.synced⟩).length (flat (withL es ⟨op.to, f0.data, f0.synced⟩)) ∧ Below W.heap.size W w') := fun W a' cap' h => l1With_any a' cap' es ⟨op.to, f0.data, f0.synced⟩ W h hesl
  go_wp2_with fail
  have hbn : Below w1.heap.size w1 (w1.alloc (.cells #[.string op.to, .string f0.data, .int .i64 f0.synced] 71)) := bnew _ _
  have hfb : Blk (w1.alloc (.cells #[.string op.to, .string f0.data, .int .i64 f0.synced] 71)) w1.heap.size #[.string op.to, .string f0.data, .int .i64 f0.synced] 71 := heap_alloc_new _ _
  generalize w1.alloc (.cells #[.string op.to, .string f0.data, .int .i64 f0.synced] 71) = W2 at *
  have HB2 : Hid (Below w1.heap.size w1 W2) := hbn
  have HG2 : Hid (Blk W2 w1.heap.size #[.string op.to, .string f0.data, .int .i64 f0.synced] 71) := hfb
  have e0 := (Blk.later HDK.out hbn).cell 0
  have e1 := (Blk.later HOP.out hbn).cell 1
  have g0 := hfb.cell 0
  have g1 := hfb.cell 1
  have g2 := hfb.cell 2
  simp only [List.getElem?_toArray, List.getElem?_cons_zero, List.getElem?_cons_succ] at e0 e1 g0 g1 g2
  clear hfb hbn c0 c1 c2 o0 o1 o2 o3 o4 d0 hnb hnd hnd1
  go_region_with (first
    | (go_at_call 55; refine (HWO.out _ (bto HB2.out (Below.refl _ _).drew)).mono ?_; rintro e w5 ⟨v5, rfl, hrow5, hb5⟩; obtain ⟨a5, cap5, rfl, hown5⟩ := owned_of_row hrow5; have HF5 : Hid (FilesIn w5 a5 es) := hown5.files; have k0 := (HG2.out.later (bto (Below.refl _ _).drew hb5)).cell 0; have k1 := (HG2.out.later (bto (Below.refl _ _).drew hb5)).cell 1; have k2 := (HG2.out.later (bto (Below.refl _ _).drew hb5)).cell 2; simp only [List.getElem?_toArray, List.getElem?_cons_zero, List.getElem?_cons_succ] at k0 k1 k2; clear hrow5 hown5)
    | (go_at_call 54; refine (HWT.out _ _ _ HF5.out).mono ?_; rintro e w6 ⟨v6, rfl, hrow6, hb6⟩; obtain ⟨a6, cap6, rfl, hown6⟩ := owned_of_row hrow6; have HF6 : Hid (FilesIn w6 a6 (withL es ⟨op.to, f0.data, f0.synced⟩)) := hown6.files; clear hrow6 hown6))
  all_goals (
    go_wp2
    go_ret2
    rw [EQ2.out]
    exact ⟨a6, cap6, rfl, HF6.out, bto (bto HB1.out HB2.out) (bto (bto (Below.refl _ _).drew hb5) hb6)⟩)
theorem l1Do_any (w : World) (a : Option Addr) (cap : Nat) (fs : List FileD) (c k cr fl : Int) (dn : Bool) (op : OpD) (h : Asked w a fs c op) (hop : btwB op.kind 1 6 = true) : Does w a cap fs c k cr fl dn op := by
  have hb : 1 ≤ op.kind ∧ op.kind ≤ 6 := by simpa [btwB] using hop
  by_cases h1 : op.kind = 1
  · cases hq : hasB fs op.name (posOf op.name fs) with
    | true => exact do_exists w a cap fs c k cr fl dn op h h1 hq
    | false =>
      by_cases hl : fs.length = 1000
      · exact do_full w a cap fs c k cr fl dn op h h1 hq hl
      · exact do_new w a cap fs c k cr fl dn op h h1 hq hl
  · cases hq : hasB fs op.name (posOf op.name fs) with
    | false => exact do_missing w a cap fs c k cr fl dn op h h1 hq
    | true =>
      obtain ⟨hi, _⟩ := hasB_lt hq
      by_cases h2 : op.kind = 2
      · exact do_append w a cap fs c k cr fl dn op h h2 hq
      by_cases h3 : op.kind = 3
      · exact do_sync w a cap fs c k cr fl dn op h h3 hq
      by_cases h4 : op.kind = 4
      · cases hs : btwB op.size 0 fs[posOf op.name fs].data.size with
        | false => exact do_trunc_bad w a cap fs c k cr fl dn op h h4 hq hi hs
        | true => exact do_trunc w a cap fs c k cr fl dn op h h4 hq hi hs
      by_cases h5 : op.kind = 5
      · exact do_rename w a cap fs c k cr fl dn op h h5 hq
      · exact do_delete w a cap fs c k cr fl dn op h (by omega) hq
end Go.Proofs.YtboofidegpnkaaaGreatDoor
