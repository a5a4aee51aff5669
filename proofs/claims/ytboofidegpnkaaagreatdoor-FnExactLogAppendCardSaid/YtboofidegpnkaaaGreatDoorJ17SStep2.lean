import Derived.Test.YtboofidegpnkaaaGreatDoorProg
import Derived.Test.YtboofidegpnkaaaGreatDoorJ16SStep
namespace Go.Proofs.YtboofidegpnkaaaGreatDoor
open Go.RowKit
theorem files_set {w : World} {a : Option Addr} {fs : List FileD} (h : FilesIn w a fs) {p : Addr} (hp : ∀ b o, a = some ⟨b, o, none⟩ → p.block < b) (v : Value) : FilesIn (w.setCell p v) a fs := by
  rcases h with h | ⟨b, o, rfl, hlt, h⟩
  · exact Or.inl h
  · have hb := Below.heap_setCell w p v b (by have := hp b o rfl; omega)
    have hk : ∀ j, (w.setCell p v).cell? ⟨b, j, none⟩ = w.cell? ⟨b, j, none⟩ := fun j => World.cell?_of_block hb
    exact Or.inr ⟨b, o, rfl, by simpa [World.setCell] using hlt, fun i hi => by simp only [hk]; exact h i hi⟩
theorem out_refused {fs : List FileD} {c k cr fl : Int} {dn : Bool} {op : OpD} {code : Nat} {k' : Int} {dn' : Bool} (hq : diskB fs c k cr fl = true) (ho : opB op = true) (hc : chargeR k cr fl dn = (code, k', dn')) (h0 : code ≠ 0) : outR fs c k cr fl dn op = (code, fs, c, k', cr, fl, dn') := by
  unfold outR
  rw [if_pos (by rw [hq, ho]; rfl)]
  unfold stepR
  rw [hc, if_neg h0]
theorem out_done {fs : List FileD} {c k cr fl : Int} {dn : Bool} {op : OpD} {k' : Int} {dn' : Bool} (hq : diskB fs c k cr fl = true) (ho : opB op = true) (hc : chargeR k cr fl dn = (0, k', dn')) : outR fs c k cr fl dn op = ((doR fs c op).1, (doR fs c op).2, c, k', cr, fl, dn') := by
  unfold outR
  rw [if_pos (by rw [hq, ho]; rfl)]
  unfold stepR
  rw [hc, if_pos rfl]
set_option maxRecDepth 100000 in
set_option maxHeartbeats 2000000 in
theorem sdown (w : World) (a : Option Addr) (cap : Nat) (fs : List FileD) (c k cr fl : Int) (dn : Bool) (op : OpD) (h : Given w a fs op) (hq : diskB fs c k cr fl = true) (hk : op.kind ≠ 5) (ho : opB op = true) (hdn : dn = true) : Specs w a cap fs c k cr fl dn op := by
  unfold Specs
  have HF : Hid (FilesIn w a fs) := h.files
  have hs := h.short
  have hlen := h.len
  have hsum := h.sum
  have hn := h.name
  have ht := h.to
  have hdata := h.data
  have hml : fs.length ≤ maxLen := by simp [maxLen]; omega
  have HQ : Hid (diskB fs c k cr fl = true) := hq
  have HNM : Hid (nameB op.name = true) := by show _ = _; simp only [opB, Bool.and_eq_true] at ho; exact ho.1.2
  obtain ⟨hfb, hl1000, hc0, hc1, hsc, hk0, hk1, _⟩ := files_of_disk hq
  have HKB : Hid (btwB op.kind 1 6 = true) := by show _ = _; simp only [opB, Bool.and_eq_true] at ho; exact ho.1.1
  have HK5 : Hid (¬ op.kind = 5) := hk
  subst hdn
  have EO : Hid (outR fs c k cr fl true op = (1, fs, c, k, cr, fl, true)) := out_refused hq ho (by simp [chargeR]) (by decide)
  clear h hq hk ho hdata hfb hc0 hc1 hsc
  go_enter Tryz.func17, Tryz.ntmps17
  go_wp2_with fail
  refine (specValid_is HQ.out _ (((HF.out.later (bnew _ _)).later (bnew _ _)).later (bnew _ _)) hs hml hsum).mono ?_
  rintro e w1 ⟨rfl, hb1⟩
  obtain ⟨hdk, hop, hR, hbel⟩ := three_boxes hb1
  obtain ⟨o0, o1, o2, o3, o4⟩ := OpAt.cells hop
  have x0 := hdk.cell 0
  simp only [List.getElem?_toArray, List.getElem?_cons_zero] at x0
  have hRlt : w.heap.size + 1 + 1 < w1.heap.size := lt_of_block hR
  have hn1 : w.heap.size < w1.heap.size := by omega
  have hn2 : ¬ w.heap.size = w1.heap.size := by omega
  obtain ⟨a1, cap1, W2, hrun, hfi, hb2, hap⟩ := copy_run w1 a cap fs (HF.out.later hbel) hlen
  have HRUN : Hid ((Builtin.append_ #[28, 28] 28 #[.slice (some ⟨w1.heap.size, 0, none⟩) 0 0, .slice a fs.length cap]).run Tryz.prog (w1.alloc (.cells #[] 71)) = .ok (.slice a1 fs.length cap1) W2) := hrun
  have HFI : Hid (FilesIn W2 a1 fs) := hfi
  have HAP : Hid (∀ b o, a1 = some ⟨b, o, none⟩ → w1.heap.size ≤ b) := hap
  have hdk2 : Blk W2 w.heap.size #[.slice a fs.length cap, .int .i64 c, .int .i64 k, .int .i64 cr, .int .i64 fl, .bool true] 30 := hdk.later hb2
  have HR2 : Hid (Blk W2 (w.heap.size + 1 + 1) #[.slice none 0 0, .int .i64 0, .int .i64 0, .int .i64 0, .int .i64 0, .bool false] 30) := hR.later hb2
  have HO2 : Hid (OpAt W2 (w.heap.size + 1) op 48) := Blk.later hop hb2
  have HB2 : Hid (Below w.heap.size w W2) := bto hbel hb2
  have d0 := hdk2.cell 0
  have d1 := hdk2.cell 1
  have d2 := hdk2.cell 2
  have d3 := hdk2.cell 3
  have d4 := hdk2.cell 4
  have d5 := hdk2.cell 5
  simp only [List.getElem?_toArray, List.getElem?_cons_zero, List.getElem?_cons_succ] at d0 d1 d2 d3 d4 d5
  have y0 := hdk2.free 0
  have y2 := hdk2.free 2
  have y5 := hdk2.free 5
  clear hb1 hdk hop hR hbel hrun hfi hb2 hap hdk2
  have r0 := HR2.out.cell 0
  have r1 := HR2.out.cell 1
  have r2 := HR2.out.cell 2
  have r3 := HR2.out.cell 3
  have r4 := HR2.out.cell 4
  have r5 := HR2.out.cell 5
  simp only [List.getElem?_toArray, List.getElem?_cons_zero, List.getElem?_cons_succ] at r0 r1 r2 r3 r4 r5
  have q0 := HR2.out.free 0
  have q1 := HR2.out.free 1
  have q2 := HR2.out.free 2
  have q3 := HR2.out.free 3
  have q4 := HR2.out.free 4
  have q5 := HR2.out.free 5
  have hk := HK5.out
  have hk5b : (op.kind == 5) = false := by simpa using hk
  go_wp2_with fail
  refine (between_is HKB.out _).mono ?_
  rintro e w3 ⟨rfl, rfl⟩
  go_wp2_with fail
  refine (l1FileName_is HNM.out _ hn).mono ?_
  rintro e w3 ⟨rfl, rfl⟩
  clear o1 o2 o3 o4
  go_wp2_with (at_builtin; refine Lib.wpList_append_run _ rfl _ _ _ _ rfl _ _ rfl rfl _ _ HRUN.out ?_)
  refine bodyPost_ret (v := .tuple #[.agg #[.slice a1 fs.length cap1, .int .i64 c, .int .i64 (k), .int .i64 (cr), .int .i64 (fl), .bool true], .int .i64 1]) (by simp [results, Tryz.results17, go_sem, r0, r1, r2, r3, r4, r5]) rfl ?_
  rw [EO.out]
  refine ⟨a1, cap1, rfl, ?_, ?_⟩
  · have h := HFI.out
    repeat (refine files_set ?_ (fun b o e => by have := HAP.out b o e; simp; omega) _)
    exact h
  · have h := HB2.out
    repeat (refine Below.setCell ?_ (by first | (simp; done) | (simp; omega)) _)
    exact h
set_option maxRecDepth 100000 in
set_option maxHeartbeats 2000000 in
theorem smax (w : World) (a : Option Addr) (cap : Nat) (fs : List FileD) (c k cr fl : Int) (dn : Bool) (op : OpD) (h : Given w a fs op) (hq : diskB fs c k cr fl = true) (hk : op.kind ≠ 5) (ho : opB op = true) (hdn : dn = false) (hm : k = 1000000000000000) : Specs w a cap fs c k cr fl dn op := by
  unfold Specs
  have HF : Hid (FilesIn w a fs) := h.files
  have hs := h.short
  have hlen := h.len
  have hsum := h.sum
  have hn := h.name
  have ht := h.to
  have hdata := h.data
  have hml : fs.length ≤ maxLen := by simp [maxLen]; omega
  have HQ : Hid (diskB fs c k cr fl = true) := hq
  have HNM : Hid (nameB op.name = true) := by show _ = _; simp only [opB, Bool.and_eq_true] at ho; exact ho.1.2
  obtain ⟨hfb, hl1000, hc0, hc1, hsc, hk0, hk1, _⟩ := files_of_disk hq
  have HKB : Hid (btwB op.kind 1 6 = true) := by show _ = _; simp only [opB, Bool.and_eq_true] at ho; exact ho.1.1
  have HK5 : Hid (¬ op.kind = 5) := hk
  subst hdn
  subst hm
  have EO : Hid (outR fs c 1000000000000000 cr fl false op = (2, fs, c, 1000000000000000, cr, fl, false)) := out_refused hq ho (by simp [chargeR]) (by decide)
  clear h hq hk ho hdata hfb hc0 hc1 hsc
  go_enter Tryz.func17, Tryz.ntmps17
  go_wp2_with fail
  refine (specValid_is HQ.out _ (((HF.out.later (bnew _ _)).later (bnew _ _)).later (bnew _ _)) hs hml hsum).mono ?_
  rintro e w1 ⟨rfl, hb1⟩
  obtain ⟨hdk, hop, hR, hbel⟩ := three_boxes hb1
  obtain ⟨o0, o1, o2, o3, o4⟩ := OpAt.cells hop
  have x0 := hdk.cell 0
  simp only [List.getElem?_toArray, List.getElem?_cons_zero] at x0
  have hRlt : w.heap.size + 1 + 1 < w1.heap.size := lt_of_block hR
  have hn1 : w.heap.size < w1.heap.size := by omega
  have hn2 : ¬ w.heap.size = w1.heap.size := by omega
  obtain ⟨a1, cap1, W2, hrun, hfi, hb2, hap⟩ := copy_run w1 a cap fs (HF.out.later hbel) hlen
  have HRUN : Hid ((Builtin.append_ #[28, 28] 28 #[.slice (some ⟨w1.heap.size, 0, none⟩) 0 0, .slice a fs.length cap]).run Tryz.prog (w1.alloc (.cells #[] 71)) = .ok (.slice a1 fs.length cap1) W2) := hrun
  have HFI : Hid (FilesIn W2 a1 fs) := hfi
  have HAP : Hid (∀ b o, a1 = some ⟨b, o, none⟩ → w1.heap.size ≤ b) := hap
  have hdk2 : Blk W2 w.heap.size #[.slice a fs.length cap, .int .i64 c, .int .i64 1000000000000000, .int .i64 cr, .int .i64 fl, .bool false] 30 := hdk.later hb2
  have HR2 : Hid (Blk W2 (w.heap.size + 1 + 1) #[.slice none 0 0, .int .i64 0, .int .i64 0, .int .i64 0, .int .i64 0, .bool false] 30) := hR.later hb2
  have HO2 : Hid (OpAt W2 (w.heap.size + 1) op 48) := Blk.later hop hb2
  have HB2 : Hid (Below w.heap.size w W2) := bto hbel hb2
  have d0 := hdk2.cell 0
  have d1 := hdk2.cell 1
  have d2 := hdk2.cell 2
  have d3 := hdk2.cell 3
  have d4 := hdk2.cell 4
  have d5 := hdk2.cell 5
  simp only [List.getElem?_toArray, List.getElem?_cons_zero, List.getElem?_cons_succ] at d0 d1 d2 d3 d4 d5
  have y0 := hdk2.free 0
  have y2 := hdk2.free 2
  have y5 := hdk2.free 5
  clear hb1 hdk hop hR hbel hrun hfi hb2 hap hdk2
  have r0 := HR2.out.cell 0
  have r1 := HR2.out.cell 1
  have r2 := HR2.out.cell 2
  have r3 := HR2.out.cell 3
  have r4 := HR2.out.cell 4
  have r5 := HR2.out.cell 5
  simp only [List.getElem?_toArray, List.getElem?_cons_zero, List.getElem?_cons_succ] at r0 r1 r2 r3 r4 r5
  have q0 := HR2.out.free 0
  have q1 := HR2.out.free 1
  have q2 := HR2.out.free 2
  have q3 := HR2.out.free 3
  have q4 := HR2.out.free 4
  have q5 := HR2.out.free 5
  have hk := HK5.out
  have hk5b : (op.kind == 5) = false := by simpa using hk
  go_wp2_with fail
  refine (between_is HKB.out _).mono ?_
  rintro e w3 ⟨rfl, rfl⟩
  go_wp2_with fail
  refine (l1FileName_is HNM.out _ hn).mono ?_
  rintro e w3 ⟨rfl, rfl⟩
  clear o1 o2 o3 o4
  go_wp2_with (at_builtin; refine Lib.wpList_append_run _ rfl _ _ _ _ rfl _ _ rfl rfl _ _ HRUN.out ?_)
  refine bodyPost_ret (v := .tuple #[.agg #[.slice a1 fs.length cap1, .int .i64 c, .int .i64 (1000000000000000), .int .i64 (cr), .int .i64 (fl), .bool false], .int .i64 2]) (by simp [results, Tryz.results17, go_sem, r0, r1, r2, r3, r4, r5]) rfl ?_
  rw [EO.out]
  refine ⟨a1, cap1, rfl, ?_, ?_⟩
  · have h := HFI.out
    repeat (refine files_set ?_ (fun b o e => by have := HAP.out b o e; simp; omega) _)
    exact h
  · have h := HB2.out
    repeat (refine Below.setCell ?_ (by first | (simp; done) | (simp; omega)) _)
    exact h
set_option maxRecDepth 100000 in
set_option maxHeartbeats 2000000 in
theorem sdown5 (w : World) (a : Option Addr) (cap : Nat) (fs : List FileD) (c k cr fl : Int) (dn : Bool) (op : OpD) (h : Given w a fs op) (hq : diskB fs c k cr fl = true) (hk : op.kind = 5) (ho : opB op = true) (hdn : dn = true) : Specs w a cap fs c k cr fl dn op := by
  unfold Specs
  have HF : Hid (FilesIn w a fs) := h.files
  have hs := h.short
  have hlen := h.len
  have hsum := h.sum
  have hn := h.name
  have ht := h.to
  have hdata := h.data
  have hml : fs.length ≤ maxLen := by simp [maxLen]; omega
  have HQ : Hid (diskB fs c k cr fl = true) := hq
  have HNM : Hid (nameB op.name = true) := by show _ = _; simp only [opB, Bool.and_eq_true] at ho; exact ho.1.2
  obtain ⟨hfb, hl1000, hc0, hc1, hsc, hk0, hk1, _⟩ := files_of_disk hq
  have HKB : Hid (btwB 5 1 6 = true) := by show _ = _; decide
  have HK5 : Hid (op.kind = 5) := hk
  have HTO : Hid (nameB op.to = true) := by show _ = _; simp only [opB, Bool.and_eq_true, Bool.or_eq_true, decide_eq_true_eq] at ho; exact ho.2.resolve_left (fun h => h hk)
  subst hdn
  have EO : Hid (outR fs c k cr fl true op = (1, fs, c, k, cr, fl, true)) := out_refused hq ho (by simp [chargeR]) (by decide)
  clear h hq hk ho hdata hfb hc0 hc1 hsc
  go_enter Tryz.func17, Tryz.ntmps17
  go_wp2_with fail
  refine (specValid_is HQ.out _ (((HF.out.later (bnew _ _)).later (bnew _ _)).later (bnew _ _)) hs hml hsum).mono ?_
  rintro e w1 ⟨rfl, hb1⟩
  obtain ⟨hdk, hop, hR, hbel⟩ := three_boxes hb1
  obtain ⟨o0, o1, o2, o3, o4⟩ := OpAt.cells hop
  have x0 := hdk.cell 0
  simp only [List.getElem?_toArray, List.getElem?_cons_zero] at x0
  have hRlt : w.heap.size + 1 + 1 < w1.heap.size := lt_of_block hR
  have hn1 : w.heap.size < w1.heap.size := by omega
  have hn2 : ¬ w.heap.size = w1.heap.size := by omega
  obtain ⟨a1, cap1, W2, hrun, hfi, hb2, hap⟩ := copy_run w1 a cap fs (HF.out.later hbel) hlen
  have HRUN : Hid ((Builtin.append_ #[28, 28] 28 #[.slice (some ⟨w1.heap.size, 0, none⟩) 0 0, .slice a fs.length cap]).run Tryz.prog (w1.alloc (.cells #[] 71)) = .ok (.slice a1 fs.length cap1) W2) := hrun
  have HFI : Hid (FilesIn W2 a1 fs) := hfi
  have HAP : Hid (∀ b o, a1 = some ⟨b, o, none⟩ → w1.heap.size ≤ b) := hap
  have hdk2 : Blk W2 w.heap.size #[.slice a fs.length cap, .int .i64 c, .int .i64 k, .int .i64 cr, .int .i64 fl, .bool true] 30 := hdk.later hb2
  have HR2 : Hid (Blk W2 (w.heap.size + 1 + 1) #[.slice none 0 0, .int .i64 0, .int .i64 0, .int .i64 0, .int .i64 0, .bool false] 30) := hR.later hb2
  have HO2 : Hid (OpAt W2 (w.heap.size + 1) op 48) := Blk.later hop hb2
  have HB2 : Hid (Below w.heap.size w W2) := bto hbel hb2
  have d0 := hdk2.cell 0
  have d1 := hdk2.cell 1
  have d2 := hdk2.cell 2
  have d3 := hdk2.cell 3
  have d4 := hdk2.cell 4
  have d5 := hdk2.cell 5
  simp only [List.getElem?_toArray, List.getElem?_cons_zero, List.getElem?_cons_succ] at d0 d1 d2 d3 d4 d5
  have y0 := hdk2.free 0
  have y2 := hdk2.free 2
  have y5 := hdk2.free 5
  clear hb1 hdk hop hR hbel hrun hfi hb2 hap hdk2
  have r0 := HR2.out.cell 0
  have r1 := HR2.out.cell 1
  have r2 := HR2.out.cell 2
  have r3 := HR2.out.cell 3
  have r4 := HR2.out.cell 4
  have r5 := HR2.out.cell 5
  simp only [List.getElem?_toArray, List.getElem?_cons_zero, List.getElem?_cons_succ] at r0 r1 r2 r3 r4 r5
  have q0 := HR2.out.free 0
  have q1 := HR2.out.free 1
  have q2 := HR2.out.free 2
  have q3 := HR2.out.free 3
  have q4 := HR2.out.free 4
  have q5 := HR2.out.free 5
  have hk := HK5.out
  go_wp2_with fail
  refine (between_is HKB.out _).mono ?_
  rintro e w3 ⟨rfl, rfl⟩
  go_wp2_with fail
  refine (l1FileName_is HNM.out _ hn).mono ?_
  rintro e w3 ⟨rfl, rfl⟩
  go_wp2_with fail
  refine (l1FileName_is HTO.out _ ht).mono ?_
  rintro e w3 ⟨rfl, rfl⟩
  clear o1 o2 o3 o4
  go_wp2_with (at_builtin; refine Lib.wpList_append_run _ rfl _ _ _ _ rfl _ _ rfl rfl _ _ HRUN.out ?_)
  refine bodyPost_ret (v := .tuple #[.agg #[.slice a1 fs.length cap1, .int .i64 c, .int .i64 (k), .int .i64 (cr), .int .i64 (fl), .bool true], .int .i64 1]) (by simp [results, Tryz.results17, go_sem, r0, r1, r2, r3, r4, r5]) rfl ?_
  rw [EO.out]
  refine ⟨a1, cap1, rfl, ?_, ?_⟩
  · have h := HFI.out
    repeat (refine files_set ?_ (fun b o e => by have := HAP.out b o e; simp; omega) _)
    exact h
  · have h := HB2.out
    repeat (refine Below.setCell ?_ (by first | (simp; done) | (simp; omega)) _)
    exact h
set_option maxRecDepth 100000 in
set_option maxHeartbeats 2000000 in
theorem smax5 (w : World) (a : Option Addr) (cap : Nat) (fs : List FileD) (c k cr fl : Int) (dn : Bool) (op : OpD) (h : Given w a fs op) (hq : diskB fs c k cr fl = true) (hk : op.kind = 5) (ho : opB op = true) (hdn : dn = false) (hm : k = 1000000000000000) : Specs w a cap fs c k cr fl dn op := by
  unfold Specs
  have HF : Hid (FilesIn w a fs) := h.files
  have hs := h.short
  have hlen := h.len
  have hsum := h.sum
  have hn := h.name
  have ht := h.to
  have hdata := h.data
  have hml : fs.length ≤ maxLen := by simp [maxLen]; omega
  have HQ : Hid (diskB fs c k cr fl = true) := hq
  have HNM : Hid (nameB op.name = true) := by show _ = _; simp only [opB, Bool.and_eq_true] at ho; exact ho.1.2
  obtain ⟨hfb, hl1000, hc0, hc1, hsc, hk0, hk1, _⟩ := files_of_disk hq
  have HKB : Hid (btwB 5 1 6 = true) := by show _ = _; decide
  have HK5 : Hid (op.kind = 5) := hk
  have HTO : Hid (nameB op.to = true) := by show _ = _; simp only [opB, Bool.and_eq_true, Bool.or_eq_true, decide_eq_true_eq] at ho; exact ho.2.resolve_left (fun h => h hk)
  subst hdn
  subst hm
  have EO : Hid (outR fs c 1000000000000000 cr fl false op = (2, fs, c, 1000000000000000, cr, fl, false)) := out_refused hq ho (by simp [chargeR]) (by decide)
  clear h hq hk ho hdata hfb hc0 hc1 hsc
  go_enter Tryz.func17, Tryz.ntmps17
  go_wp2_with fail
  refine (specValid_is HQ.out _ (((HF.out.later (bnew _ _)).later (bnew _ _)).later (bnew _ _)) hs hml hsum).mono ?_
  rintro e w1 ⟨rfl, hb1⟩
  obtain ⟨hdk, hop, hR, hbel⟩ := three_boxes hb1
  obtain ⟨o0, o1, o2, o3, o4⟩ := OpAt.cells hop
  have x0 := hdk.cell 0
  simp only [List.getElem?_toArray, List.getElem?_cons_zero] at x0
  have hRlt : w.heap.size + 1 + 1 < w1.heap.size := lt_of_block hR
  have hn1 : w.heap.size < w1.heap.size := by omega
  have hn2 : ¬ w.heap.size = w1.heap.size := by omega
  obtain ⟨a1, cap1, W2, hrun, hfi, hb2, hap⟩ := copy_run w1 a cap fs (HF.out.later hbel) hlen
  have HRUN : Hid ((Builtin.append_ #[28, 28] 28 #[.slice (some ⟨w1.heap.size, 0, none⟩) 0 0, .slice a fs.length cap]).run Tryz.prog (w1.alloc (.cells #[] 71)) = .ok (.slice a1 fs.length cap1) W2) := hrun
  have HFI : Hid (FilesIn W2 a1 fs) := hfi
  have HAP : Hid (∀ b o, a1 = some ⟨b, o, none⟩ → w1.heap.size ≤ b) := hap
  have hdk2 : Blk W2 w.heap.size #[.slice a fs.length cap, .int .i64 c, .int .i64 1000000000000000, .int .i64 cr, .int .i64 fl, .bool false] 30 := hdk.later hb2
  have HR2 : Hid (Blk W2 (w.heap.size + 1 + 1) #[.slice none 0 0, .int .i64 0, .int .i64 0, .int .i64 0, .int .i64 0, .bool false] 30) := hR.later hb2
  have HO2 : Hid (OpAt W2 (w.heap.size + 1) op 48) := Blk.later hop hb2
  have HB2 : Hid (Below w.heap.size w W2) := bto hbel hb2
  have d0 := hdk2.cell 0
  have d1 := hdk2.cell 1
  have d2 := hdk2.cell 2
  have d3 := hdk2.cell 3
  have d4 := hdk2.cell 4
  have d5 := hdk2.cell 5
  simp only [List.getElem?_toArray, List.getElem?_cons_zero, List.getElem?_cons_succ] at d0 d1 d2 d3 d4 d5
  have y0 := hdk2.free 0
  have y2 := hdk2.free 2
  have y5 := hdk2.free 5
  clear hb1 hdk hop hR hbel hrun hfi hb2 hap hdk2
  have r0 := HR2.out.cell 0
  have r1 := HR2.out.cell 1
  have r2 := HR2.out.cell 2
  have r3 := HR2.out.cell 3
  have r4 := HR2.out.cell 4
  have r5 := HR2.out.cell 5
  simp only [List.getElem?_toArray, List.getElem?_cons_zero, List.getElem?_cons_succ] at r0 r1 r2 r3 r4 r5
  have q0 := HR2.out.free 0
  have q1 := HR2.out.free 1
  have q2 := HR2.out.free 2
  have q3 := HR2.out.free 3
  have q4 := HR2.out.free 4
  have q5 := HR2.out.free 5
  have hk := HK5.out
  go_wp2_with fail
  refine (between_is HKB.out _).mono ?_
  rintro e w3 ⟨rfl, rfl⟩
  go_wp2_with fail
  refine (l1FileName_is HNM.out _ hn).mono ?_
  rintro e w3 ⟨rfl, rfl⟩
  go_wp2_with fail
  refine (l1FileName_is HTO.out _ ht).mono ?_
  rintro e w3 ⟨rfl, rfl⟩
  clear o1 o2 o3 o4
  go_wp2_with (at_builtin; refine Lib.wpList_append_run _ rfl _ _ _ _ rfl _ _ rfl rfl _ _ HRUN.out ?_)
  refine bodyPost_ret (v := .tuple #[.agg #[.slice a1 fs.length cap1, .int .i64 c, .int .i64 (1000000000000000), .int .i64 (cr), .int .i64 (fl), .bool false], .int .i64 2]) (by simp [results, Tryz.results17, go_sem, r0, r1, r2, r3, r4, r5]) rfl ?_
  rw [EO.out]
  refine ⟨a1, cap1, rfl, ?_, ?_⟩
  · have h := HFI.out
    repeat (refine files_set ?_ (fun b o e => by have := HAP.out b o e; simp; omega) _)
    exact h
  · have h := HB2.out
    repeat (refine Below.setCell ?_ (by first | (simp; done) | (simp; omega)) _)
    exact h
end Go.Proofs.YtboofidegpnkaaaGreatDoor
