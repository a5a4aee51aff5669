import Derived.Test.YtboofidegpnkaaaGreatDoorProg
import Derived.Test.YtboofidegpnkaaaGreatDoorJ13SWith2
import Derived.Test.YtboofidegpnkaaaGreatDoorJ09Dv
import Derived.Test.YtboofidegpnkaaaGreatDoorJ11Step
import Derived.Deep.RegionWith
namespace Go.Proofs.YtboofidegpnkaaaGreatDoor
open Go.RowKit
theorem two_boxes {w w1 : World} {x y : Array Value} {tx ty : TypeId} (hb : Below ((w.alloc (.cells x tx)).alloc (.cells y ty)).heap.size ((w.alloc (.cells x tx)).alloc (.cells y ty)) w1) :
    Blk w1 w.heap.size x tx ∧ Blk w1 (w.heap.size + 1) y ty ∧ Below w.heap.size w w1 := by
  refine ⟨?_, ?_, bto (bto (bnew _ _) (bnew _ _)) hb⟩
  · exact (Blk.later (Blk.later (g := w.heap.size) (heap_alloc_new w (.cells x tx)) (Below.refl _ _)) (bnew _ _)).later hb
  · have h := Blk.later (g := (w.alloc (.cells x tx)).heap.size) (heap_alloc_new (w.alloc (.cells x tx)) (.cells y ty)) hb
    simpa using h
def DiskAt (w : World) (b : Nat) (a : Option Addr) (n cap : Nat) (c k cr fl : Int) (dn : Bool) : Prop := Blk w b #[.slice a n cap, .int .i64 c, .int .i64 k, .int .i64 cr, .int .i64 fl, .bool dn] 30
structure Asked (w : World) (a : Option Addr) (fs : List FileD) (c : Int) (op : OpD) : Prop where
  files : FilesIn w a fs
  asc : Asc fs
  len : fs.length ≤ 1000
  sum : (sumLen fs : Int) ≤ c
  cap : c ≤ 1000000000
  data : op.data.size ≤ 1048576
def Does (w : World) (a : Option Addr) (cap : Nat) (fs : List FileD) (c k cr fl : Int) (dn : Bool) (op : OpD) : Prop :=
  Calls Tryz.prog 35 #[.agg #[.slice a fs.length cap, .int .i64 c, .int .i64 k, .int .i64 cr, .int .i64 fl, .bool dn], .agg #[.int .i64 op.kind, .string op.name, .string op.to, .string op.data, .int .i64 op.size]] w fun e w' =>
    ∃ a' cap', e = .returned (.tuple #[.slice a' (doR fs c op).2.length cap', .int .i64 (doR fs c op).1]) ∧ FilesIn w' a' (doR fs c op).2 ∧ Below w.heap.size w w'
theorem l1Find_is {a : Option Addr} {cap : Nat} {fs : List FileD} {c k0 cr fl : Int} {dn : Bool} {t : ByteArray} {x : Int} (h : findFrom t fs 0 = x) (w : World) (hf : FilesIn w a fs) (hlen : fs.length ≤ maxLen) :
    Calls Tryz.prog 53 #[.agg #[.slice a fs.length cap, .int .i64 c, .int .i64 k0, .int .i64 cr, .int .i64 fl, .bool dn], .string t] w fun e w' => e = .returned (.int .i64 x) ∧ Below w.heap.size w w' := h ▸ l1Find_any a cap fs c k0 cr fl dn t w hf hlen
set_option maxRecDepth 100000 in
set_option maxHeartbeats 2000000 in
theorem do_exists (w : World) (a : Option Addr) (cap : Nat) (fs : List FileD) (c k cr fl : Int) (dn : Bool) (op : OpD) (h : Asked w a fs c op) (hk : op.kind = 1) (hq : hasB fs op.name (posOf op.name fs) = true) : Does w a cap fs c k cr fl dn op := by
  unfold Does
  have HF : Hid (FilesIn w a fs) := h.files
  have HA : Hid (Asc fs) := h.asc
  have hlen := h.len
  have hsum := h.sum
  have hcap := h.cap
  have hdata := h.data
  have hml : fs.length ≤ maxLen := by simp [maxLen]; omega
  have hl2 : fs.length ≤ 1048576 := by omega
  obtain ⟨hi, hnm⟩ := hasB_lt hq
  have HFD : Hid (findFrom op.name fs 0 = (posOf op.name fs : Int)) := by show _ = _; rw [find_pos h.asc (posOf_is op.name h.asc), if_pos hq]
  have HKD : Hid (op.kind = 1) := hk
  have EQ : Hid (doR fs c op = (5, fs)) := by show _ = _; simp [doR, hk, hq]
  clear hsum hcap hdata hl2 hk hnm
  clear h hq
  go_enter Tryz.func35, Tryz.ntmps35
  go_wp2_with fail
  refine (l1Find_is HFD.out _ ((HF.out.later (bnew _ _)).later (bnew _ _)) hml).mono ?_
  rintro e w1 ⟨rfl, hb1⟩
  obtain ⟨hdk, hop, hbel⟩ := two_boxes hb1
  have HDK : Hid (DiskAt w1 w.heap.size a fs.length cap c k cr fl dn) := hdk
  have HOP : Hid (OpAt w1 (w.heap.size + 1) op 48) := hop
  have HB1 : Hid (Below w.heap.size w w1) := hbel
  have HF1 : Hid (FilesIn w1 a fs) := HF.out.later hbel
  obtain ⟨o0, o1, o2, o3, o4⟩ := HOP.out.cells
  have d0 := hdk.cell 0
  simp only [List.getElem?_toArray, List.getElem?_cons_zero] at d0
  have hk := HKD.out
  clear hb1 hdk hop hbel
  clear o1 o2 o3 o4
  go_wp2
  go_ret2
  rw [EQ.out]
  exact ⟨a, cap, rfl, HF1.out, HB1.out⟩
set_option maxRecDepth 100000 in
set_option maxHeartbeats 2000000 in
theorem do_full (w : World) (a : Option Addr) (cap : Nat) (fs : List FileD) (c k cr fl : Int) (dn : Bool) (op : OpD) (h : Asked w a fs c op) (hk : op.kind = 1) (hq : hasB fs op.name (posOf op.name fs) = false) (hl : fs.length = 1000) : Does w a cap fs c k cr fl dn op := by
  unfold Does
  have HF : Hid (FilesIn w a fs) := h.files
  have HA : Hid (Asc fs) := h.asc
  have hlen := h.len
  have hsum := h.sum
  have hcap := h.cap
  have hdata := h.data
  have hml : fs.length ≤ maxLen := by simp [maxLen]; omega
  have hl2 : fs.length ≤ 1048576 := by omega
  have HFD : Hid (findFrom op.name fs 0 = -1) := by show _ = _; rw [find_pos h.asc (posOf_is op.name h.asc), if_neg (by rw [hq]; simp)]
  have HKD : Hid (op.kind = 1) := hk
  have EQ : Hid (doR fs c op = (3, fs)) := by show _ = _; simp [doR, hk, hq, hl]
  have hl3 : (fs.length : Int) = 1000 := by omega
  clear hsum hcap hdata hl2 hk hl
  clear h hq
  go_enter Tryz.func35, Tryz.ntmps35
  go_wp2_with fail
  refine (l1Find_is HFD.out _ ((HF.out.later (bnew _ _)).later (bnew _ _)) hml).mono ?_
  rintro e w1 ⟨rfl, hb1⟩
  obtain ⟨hdk, hop, hbel⟩ := two_boxes hb1
  have HDK : Hid (DiskAt w1 w.heap.size a fs.length cap c k cr fl dn) := hdk
  have HOP : Hid (OpAt w1 (w.heap.size + 1) op 48) := hop
  have HB1 : Hid (Below w.heap.size w w1) := hbel
  have HF1 : Hid (FilesIn w1 a fs) := HF.out.later hbel
  obtain ⟨o0, o1, o2, o3, o4⟩ := HOP.out.cells
  have d0 := hdk.cell 0
  simp only [List.getElem?_toArray, List.getElem?_cons_zero] at d0
  have hk := HKD.out
  clear hb1 hdk hop hbel
  clear o1 o2 o3 o4
  go_wp2
  go_ret2
  rw [EQ.out]
  exact ⟨a, cap, rfl, HF1.out, HB1.out⟩
set_option maxRecDepth 100000 in
set_option maxHeartbeats 2000000 in
theorem do_new (w : World) (a : Option Addr) (cap : Nat) (fs : List FileD) (c k cr fl : Int) (dn : Bool) (op : OpD) (h : Asked w a fs c op) (hk : op.kind = 1) (hq : hasB fs op.name (posOf op.name fs) = false) (hl : fs.length ≠ 1000) : Does w a cap fs c k cr fl dn op := by
  unfold Does
  have HF : Hid (FilesIn w a fs) := h.files
  have HA : Hid (Asc fs) := h.asc
  have hlen := h.len
  have hsum := h.sum
  have hcap := h.cap
  have hdata := h.data
  have hml : fs.length ≤ maxLen := by simp [maxLen]; omega
  have hl2 : fs.length ≤ 1048576 := by omega
  have HFD : Hid (findFrom op.name fs 0 = -1) := by show _ = _; rw [find_pos h.asc (posOf_is op.name h.asc), if_neg (by rw [hq]; simp)]
  have HKD : Hid (op.kind = 1) := hk
  have EQ : Hid (doR fs c op = (0, withL fs ⟨op.name, ByteArray.empty, 0⟩)) := by
    show _ = _
    rw [with_new (f := ⟨op.name, ByteArray.empty, 0⟩) h.asc hq]
    simp only [doR, if_pos hk, hq, Bool.false_eq_true, if_false]
    rw [if_neg (by omega)]
  have hl3 : ¬ ((fs.length : Int) = 1000) := by omega
  clear hsum hcap hdata hk hl
  clear h hq
  go_enter Tryz.func35, Tryz.ntmps35
  go_wp2_with fail
  refine (l1Find_is HFD.out _ ((HF.out.later (bnew _ _)).later (bnew _ _)) hml).mono ?_
  rintro e w1 ⟨rfl, hb1⟩
  obtain ⟨hdk, hop, hbel⟩ := two_boxes hb1
  have HDK : Hid (DiskAt w1 w.heap.size a fs.length cap c k cr fl dn) := hdk
  have HOP : Hid (OpAt w1 (w.heap.size + 1) op 48) := hop
  have HB1 : Hid (Below w.heap.size w w1) := hbel
  have HF1 : Hid (FilesIn w1 a fs) := HF.out.later hbel
  obtain ⟨o0, o1, o2, o3, o4⟩ := HOP.out.cells
  have d0 := hdk.cell 0
  simp only [List.getElem?_toArray, List.getElem?_cons_zero] at d0
  have hk := HKD.out
  clear hb1 hdk hop hbel
  clear o2 o3 o4
  go_wp2_with fail
  refine (l1With_any a cap fs ⟨op.name, ByteArray.empty, 0⟩ _ HF1.out hl2).mono ?_
  rintro e w5 ⟨v5, rfl, hrow5, hb5⟩
  obtain ⟨a5, cap5, rfl, hown5⟩ := owned_of_row hrow5
  have HF5 : Hid (FilesIn w5 a5 (withL fs ⟨op.name, ByteArray.empty, 0⟩)) := hown5.files
  have HB5 : Hid (Below w.heap.size w w5) := bto HB1.out hb5
  clear hrow5 hb5 hown5
  go_wp2
  go_ret2
  rw [EQ.out]
  exact ⟨a5, cap5, rfl, HF5.out, HB5.out⟩
set_option maxRecDepth 100000 in
set_option maxHeartbeats 2000000 in
theorem do_missing (w : World) (a : Option Addr) (cap : Nat) (fs : List FileD) (c k cr fl : Int) (dn : Bool) (op : OpD) (h : Asked w a fs c op) (hk : op.kind ≠ 1) (hq : hasB fs op.name (posOf op.name fs) = false) : Does w a cap fs c k cr fl dn op := by
  unfold Does
  have HF : Hid (FilesIn w a fs) := h.files
  have HA : Hid (Asc fs) := h.asc
  have hlen := h.len
  have hsum := h.sum
  have hcap := h.cap
  have hdata := h.data
  have hml : fs.length ≤ maxLen := by simp [maxLen]; omega
  have hl2 : fs.length ≤ 1048576 := by omega
  have HFD : Hid (findFrom op.name fs 0 = -1) := by show _ = _; rw [find_pos h.asc (posOf_is op.name h.asc), if_neg (by rw [hq]; simp)]
  have HKD : Hid ((op.kind == 1) = false) := by show _ = _; simpa using hk
  have EQ : Hid (doR fs c op = (4, fs)) := doR_missing hk hq
  clear hsum hcap hdata hl2 hk
  clear h hq
  go_enter Tryz.func35, Tryz.ntmps35
  go_wp2_with fail
  refine (l1Find_is HFD.out _ ((HF.out.later (bnew _ _)).later (bnew _ _)) hml).mono ?_
  rintro e w1 ⟨rfl, hb1⟩
  obtain ⟨hdk, hop, hbel⟩ := two_boxes hb1
  have HDK : Hid (DiskAt w1 w.heap.size a fs.length cap c k cr fl dn) := hdk
  have HOP : Hid (OpAt w1 (w.heap.size + 1) op 48) := hop
  have HB1 : Hid (Below w.heap.size w w1) := hbel
  have HF1 : Hid (FilesIn w1 a fs) := HF.out.later hbel
  obtain ⟨o0, o1, o2, o3, o4⟩ := HOP.out.cells
  have d0 := hdk.cell 0
  simp only [List.getElem?_toArray, List.getElem?_cons_zero] at d0
  have hk := HKD.out
  clear hb1 hdk hop hbel
  clear o1 o2 o3 o4
  go_wp2
  go_ret2
  rw [EQ.out]
  exact ⟨a, cap, rfl, HF1.out, HB1.out⟩
set_option maxRecDepth 100000 in
set_option maxHeartbeats 2000000 in
theorem do_sync (w : World) (a : Option Addr) (cap : Nat) (fs : List FileD) (c k cr fl : Int) (dn : Bool) (op : OpD) (h : Asked w a fs c op) (hk : op.kind = 3) (hq : hasB fs op.name (posOf op.name fs) = true) : Does w a cap fs c k cr fl dn op := by
  unfold Does
  have HF : Hid (FilesIn w a fs) := h.files
  have HA : Hid (Asc fs) := h.asc
  have hlen := h.len
  have hsum := h.sum
  have hcap := h.cap
  have hdata := h.data
  have hml : fs.length ≤ maxLen := by simp [maxLen]; omega
  have hl2 : fs.length ≤ 1048576 := by omega
  obtain ⟨hi, hnm⟩ := hasB_lt hq
  have HFD : Hid (findFrom op.name fs 0 = (posOf op.name fs : Int)) := by show _ = _; rw [find_pos h.asc (posOf_is op.name h.asc), if_pos hq]
  have HKD : Hid (op.kind = 3) := hk
  have EQ : Hid (doR fs c op = (0, withL fs ⟨fs[posOf op.name fs].name, fs[posOf op.name fs].data, fs[posOf op.name fs].data.size⟩)) := by
    show _ = _
    rw [with_old (f := ⟨fs[posOf op.name fs].name, fs[posOf op.name fs].data, fs[posOf op.name fs].data.size⟩) h.asc hi rfl, doR_there (by omega) hq hi]; simp [hk]
  clear hsum hcap hdata hk
  obtain ⟨f0, hff⟩ : ∃ f0, fs[posOf op.name fs] = f0 := ⟨_, rfl⟩
  have HFF : Hid (fs[posOf op.name fs] = f0) := hff
  have EQ2 : Hid (doR fs c op = (0, withL fs ⟨f0.name, f0.data, f0.data.size⟩)) := by have h := EQ.out; rw [hff] at h; exact h
  clear EQ hff
  clear h hq
  go_enter Tryz.func35, Tryz.ntmps35
  go_wp2_with fail
  refine (l1Find_is HFD.out _ ((HF.out.later (bnew _ _)).later (bnew _ _)) hml).mono ?_
  rintro e w1 ⟨rfl, hb1⟩
  obtain ⟨hdk, hop, hbel⟩ := two_boxes hb1
  have HDK : Hid (DiskAt w1 w.heap.size a fs.length cap c k cr fl dn) := hdk
  have HOP : Hid (OpAt w1 (w.heap.size + 1) op 48) := hop
  have HB1 : Hid (Below w.heap.size w w1) := hbel
  have HF1 : Hid (FilesIn w1 a fs) := HF.out.later hbel
  obtain ⟨o0, o1, o2, o3, o4⟩ := HOP.out.cells
  have d0 := hdk.cell 0
  simp only [List.getElem?_toArray, List.getElem?_cons_zero] at d0
  have hk := HKD.out
  clear hb1 hdk hop hbel
  obtain ⟨b, o, rfl, hb, c0, c1, c2⟩ := HF1.out.at hi
  rw [HFF.out] at c0 c1 c2
  have hnb : ¬ b = w1.heap.size := by omega
  have hdl : w.heap.size + 1 < w1.heap.size := lt_of_block HOP.out
  have hnd : ¬ w.heap.size = w1.heap.size := by omega
  have hnd1 : ¬ w.heap.size + 1 = w1.heap.size := by omega
  have hdl2 : w.heap.size < w1.heap.size := by omega
  have HWT : Hid (∀ W, Below w1.heap.size w1 W → Calls Tryz.prog 54 #[.slice (some ⟨b, o, none⟩) fs.length cap, .agg #[.string f0.name, .string f0.data, .int .i64 f0.data.size]] W fun e w' => ∃ v, e = .returned v ∧ w'.ownsRow W.heap.size 71 3 v (withL fs ⟨f0.name, f0.data, f0.data.size⟩).length (flat (withL fs ⟨f0.name, f0.data, f0.data.size⟩)) ∧ Below W.heap.size W w') := fun W h => l1With_any _ cap fs ⟨f0.name, f0.data, f0.data.size⟩ W (HF1.out.later h) hl2
  go_wp2_with fail
  refine (HWT.out _ (bnew _ _)).mono ?_
  rintro e w5 ⟨v5, rfl, hrow5, hb5⟩
  obtain ⟨a5, cap5, rfl, hown5⟩ := owned_of_row hrow5
  have HF5 : Hid (FilesIn w5 a5 (withL fs ⟨f0.name, f0.data, f0.data.size⟩)) := hown5.files
  have HB5 : Hid (Below w.heap.size w w5) := bto HB1.out (bto (bnew _ _) hb5)
  clear hrow5 hb5 hown5
  go_wp2
  go_ret2
  rw [EQ2.out]
  exact ⟨a5, cap5, rfl, HF5.out, HB5.out⟩
set_option maxRecDepth 100000 in
set_option maxHeartbeats 2000000 in
theorem do_trunc (w : World) (a : Option Addr) (cap : Nat) (fs : List FileD) (c k cr fl : Int) (dn : Bool) (op : OpD) (h : Asked w a fs c op) (hk : op.kind = 4) (hq : hasB fs op.name (posOf op.name fs) = true) (hi : posOf op.name fs < fs.length) (hs : btwB op.size 0 fs[posOf op.name fs].data.size = true) : Does w a cap fs c k cr fl dn op := by
  unfold Does
  have HF : Hid (FilesIn w a fs) := h.files
  have HA : Hid (Asc fs) := h.asc
  have hlen := h.len
  have hsum := h.sum
  have hcap := h.cap
  have hdata := h.data
  have hml : fs.length ≤ maxLen := by simp [maxLen]; omega
  have hl2 : fs.length ≤ 1048576 := by omega
  obtain ⟨_, hnm⟩ := hasB_lt hq
  have HFD : Hid (findFrom op.name fs 0 = (posOf op.name fs : Int)) := by show _ = _; rw [find_pos h.asc (posOf_is op.name h.asc), if_pos hq]
  have HKD : Hid (op.kind = 4) := hk
  have EQ : Hid (doR fs c op = (0, withL fs ⟨fs[posOf op.name fs].name, fs[posOf op.name fs].data.extract 0 op.size.toNat, op.size⟩)) := by
    show _ = _
    rw [with_old (f := ⟨fs[posOf op.name fs].name, fs[posOf op.name fs].data.extract 0 op.size.toNat, op.size⟩) h.asc hi rfl, doR_there (by omega) hq hi]; simp [hk, hs]
  have HS : Hid (btwB op.size 0 fs[posOf op.name fs].data.size = true) := hs
  have hs0 : 0 ≤ op.size ∧ op.size ≤ fs[posOf op.name fs].data.size := by simpa [btwB] using hs
  obtain ⟨hs0, hs1⟩ := hs0
  clear hsum hcap hdata hk hs
  obtain ⟨f0, hff⟩ : ∃ f0, fs[posOf op.name fs] = f0 := ⟨_, rfl⟩
  have HFF : Hid (fs[posOf op.name fs] = f0) := hff
  rw [hff] at hs1
  have EQ2 : Hid (doR fs c op = (0, withL fs ⟨f0.name, f0.data.extract 0 op.size.toNat, op.size⟩)) := by have h := EQ.out; rw [hff] at h; exact h
  have HS2 : Hid (btwB op.size 0 f0.data.size = true) := by have h := HS.out; rw [hff] at h; exact h
  clear HS
  clear EQ hff
  clear h hq
  go_enter Tryz.func35, Tryz.ntmps35
  go_wp2_with fail
  refine (l1Find_is HFD.out _ ((HF.out.later (bnew _ _)).later (bnew _ _)) hml).mono ?_
  rintro e w1 ⟨rfl, hb1⟩
  obtain ⟨hdk, hop, hbel⟩ := two_boxes hb1
  have HDK : Hid (DiskAt w1 w.heap.size a fs.length cap c k cr fl dn) := hdk
  have HOP : Hid (OpAt w1 (w.heap.size + 1) op 48) := hop
  have HB1 : Hid (Below w.heap.size w w1) := hbel
  have HF1 : Hid (FilesIn w1 a fs) := HF.out.later hbel
  obtain ⟨o0, o1, o2, o3, o4⟩ := HOP.out.cells
  have d0 := hdk.cell 0
  simp only [List.getElem?_toArray, List.getElem?_cons_zero] at d0
  have hk := HKD.out
  clear hb1 hdk hop hbel
  obtain ⟨b, o, rfl, hb, c0, c1, c2⟩ := HF1.out.at hi
  rw [HFF.out] at c0 c1 c2
  have hnb : ¬ b = w1.heap.size := by omega
  have hdl : w.heap.size + 1 < w1.heap.size := lt_of_block HOP.out
  have hnd : ¬ w.heap.size = w1.heap.size := by omega
  have hnd1 : ¬ w.heap.size + 1 = w1.heap.size := by omega
  have hdl2 : w.heap.size < w1.heap.size := by omega
  have HWT : Hid (∀ W, Below w1.heap.size w1 W → Calls Tryz.prog 54 #[.slice (some ⟨b, o, none⟩) fs.length cap, .agg #[.string f0.name, .string (f0.data.extract 0 op.size.toNat), .int .i64 op.size]] W fun e w' => ∃ v, e = .returned v ∧ w'.ownsRow W.heap.size 71 3 v (withL fs ⟨f0.name, f0.data.extract 0 op.size.toNat, op.size⟩).length (flat (withL fs ⟨f0.name, f0.data.extract 0 op.size.toNat, op.size⟩)) ∧ Below W.heap.size W w') := fun W h => l1With_any _ cap fs ⟨f0.name, f0.data.extract 0 op.size.toNat, op.size⟩ W (HF1.out.later h) hl2
  go_wp2_with fail
  refine (between_is HS2.out _).mono ?_
  rintro e w2 ⟨rfl, rfl⟩
  go_wp2_with fail
  refine (HWT.out _ (bnew _ _)).mono ?_
  rintro e w5 ⟨v5, rfl, hrow5, hb5⟩
  obtain ⟨a5, cap5, rfl, hown5⟩ := owned_of_row hrow5
  have HF5 : Hid (FilesIn w5 a5 (withL fs ⟨f0.name, f0.data.extract 0 op.size.toNat, op.size⟩)) := hown5.files
  have HB5 : Hid (Below w.heap.size w w5) := bto HB1.out (bto (bnew _ _) hb5)
  clear hrow5 hb5 hown5
  go_wp2
  go_ret2
  rw [EQ2.out]
  exact ⟨a5, cap5, rfl, HF5.out, HB5.out⟩
set_option maxRecDepth 100000 in
set_option maxHeartbeats 2000000 in
theorem do_trunc_bad (w : World) (a : Option Addr) (cap : Nat) (fs : List FileD) (c k cr fl : Int) (dn : Bool) (op : OpD) (h : Asked w a fs c op) (hk : op.kind = 4) (hq : hasB fs op.name (posOf op.name fs) = true) (hi : posOf op.name fs < fs.length) (hs : btwB op.size 0 fs[posOf op.name fs].data.size = false) : Does w a cap fs c k cr fl dn op := by
  unfold Does
  have HF : Hid (FilesIn w a fs) := h.files
  have HA : Hid (Asc fs) := h.asc
  have hlen := h.len
  have hsum := h.sum
  have hcap := h.cap
  have hdata := h.data
  have hml : fs.length ≤ maxLen := by simp [maxLen]; omega
  have hl2 : fs.length ≤ 1048576 := by omega
  obtain ⟨_, hnm⟩ := hasB_lt hq
  have HFD : Hid (findFrom op.name fs 0 = (posOf op.name fs : Int)) := by show _ = _; rw [find_pos h.asc (posOf_is op.name h.asc), if_pos hq]
  have HKD : Hid (op.kind = 4) := hk
  have EQ : Hid (doR fs c op = (6, fs)) := by show _ = _; rw [doR_there (by omega) hq hi]; simp [hk, hs]
  have HS : Hid (btwB op.size 0 fs[posOf op.name fs].data.size = false) := hs
  clear hsum hcap hdata hk hs hl2
  clear h hq
  go_enter Tryz.func35, Tryz.ntmps35
  go_wp2_with fail
  refine (l1Find_is HFD.out _ ((HF.out.later (bnew _ _)).later (bnew _ _)) hml).mono ?_
  rintro e w1 ⟨rfl, hb1⟩
  obtain ⟨hdk, hop, hbel⟩ := two_boxes hb1
  have HDK : Hid (DiskAt w1 w.heap.size a fs.length cap c k cr fl dn) := hdk
  have HOP : Hid (OpAt w1 (w.heap.size + 1) op 48) := hop
  have HB1 : Hid (Below w.heap.size w w1) := hbel
  have HF1 : Hid (FilesIn w1 a fs) := HF.out.later hbel
  obtain ⟨o0, o1, o2, o3, o4⟩ := HOP.out.cells
  have d0 := hdk.cell 0
  simp only [List.getElem?_toArray, List.getElem?_cons_zero] at d0
  have hk := HKD.out
  clear hb1 hdk hop hbel
  obtain ⟨b, o, rfl, hb, c0, c1, c2⟩ := HF1.out.at hi
  have hnb : ¬ b = w1.heap.size := by omega
  have hdl : w.heap.size + 1 < w1.heap.size := lt_of_block HOP.out
  have hnd : ¬ w.heap.size = w1.heap.size := by omega
  have hnd1 : ¬ w.heap.size + 1 = w1.heap.size := by omega
  have hdl2 : w.heap.size < w1.heap.size := by omega
  go_wp2_with fail
  refine (between_is HS.out _).mono ?_
  rintro e w2 ⟨rfl, rfl⟩
  go_wp2
  go_ret2
  rw [EQ.out]
  exact ⟨_, cap, rfl, HF1.out.later (bnew _ _), bto HB1.out (bnew _ _)⟩
set_option maxRecDepth 100000 in
set_option maxHeartbeats 2000000 in
theorem do_delete (w : World) (a : Option Addr) (cap : Nat) (fs : List FileD) (c k cr fl : Int) (dn : Bool) (op : OpD) (h : Asked w a fs c op) (hk : op.kind = 6) (hq : hasB fs op.name (posOf op.name fs) = true) : Does w a cap fs c k cr fl dn op := by
  unfold Does
  have HF : Hid (FilesIn w a fs) := h.files
  have HA : Hid (Asc fs) := h.asc
  have hlen := h.len
  have hsum := h.sum
  have hcap := h.cap
  have hdata := h.data
  have hml : fs.length ≤ maxLen := by simp [maxLen]; omega
  have hl2 : fs.length ≤ 1048576 := by omega
  obtain ⟨hi, hnm⟩ := hasB_lt hq
  have HFD : Hid (findFrom op.name fs 0 = (posOf op.name fs : Int)) := by show _ = _; rw [find_pos h.asc (posOf_is op.name h.asc), if_pos hq]
  have HKD : Hid (op.kind = 6) := hk
  have EQ : Hid (doR fs c op = (0, withoutL fs op.name)) := by
    show _ = _
    rw [doR_there (by omega) hq hi, ← without_erase h.asc hi, hnm]; simp [hk]
  clear hsum hcap hdata hk
  clear h hq
  go_enter Tryz.func35, Tryz.ntmps35
  go_wp2_with fail
  refine (l1Find_is HFD.out _ ((HF.out.later (bnew _ _)).later (bnew _ _)) hml).mono ?_
  rintro e w1 ⟨rfl, hb1⟩
  obtain ⟨hdk, hop, hbel⟩ := two_boxes hb1
  have HDK : Hid (DiskAt w1 w.heap.size a fs.length cap c k cr fl dn) := hdk
  have HOP : Hid (OpAt w1 (w.heap.size + 1) op 48) := hop
  have HB1 : Hid (Below w.heap.size w w1) := hbel
  have HF1 : Hid (FilesIn w1 a fs) := HF.out.later hbel
  obtain ⟨o0, o1, o2, o3, o4⟩ := HOP.out.cells
  have d0 := hdk.cell 0
  simp only [List.getElem?_toArray, List.getElem?_cons_zero] at d0
  have hk := HKD.out
  clear hb1 hdk hop hbel
  obtain ⟨b, o, rfl, hb, c0, c1, c2⟩ := HF1.out.at hi
  have hnb : ¬ b = w1.heap.size := by omega
  have hdl : w.heap.size + 1 < w1.heap.size := lt_of_block HOP.out
  have hnd : ¬ w.heap.size = w1.heap.size := by omega
  have hnd1 : ¬ w.heap.size + 1 = w1.heap.size := by omega
  have hdl2 : w.heap.size < w1.heap.size := by omega
  go_wp2_with fail
  refine (l1Without_any (some ⟨b, o, none⟩) cap fs op.name _ (HF1.out.later (bnew _ _)) hl2).mono ?_
  rintro e w5 ⟨v5, rfl, hrow5, hb5⟩
  obtain ⟨a5, cap5, rfl, hown5⟩ := owned_of_row hrow5
  have HF5 : Hid (FilesIn w5 a5 (withoutL fs op.name)) := hown5.files
  have HB5 : Hid (Below w.heap.size w w5) := bto HB1.out (bto (bnew _ _) hb5)
  clear hrow5 hb5 hown5
  go_wp2
  go_ret2
  rw [EQ.out]
  exact ⟨a5, cap5, rfl, HF5.out, HB5.out⟩
end Go.Proofs.YtboofidegpnkaaaGreatDoor
