import Derived.Test.YtboofidegpnkaaaGreatDoorProg
import Derived.Test.YtboofidegpnkaaaGreatDoorJ17SStep2
namespace Go.Proofs.YtboofidegpnkaaaGreatDoor
open Go.RowKit
theorem no_str (a : Option Addr) (n cap : Nat) (c k cr fl : Int) (dn : Bool) (j : Nat) (s : ByteArray) : (#[.slice a n cap, .int .i64 c, .int .i64 k, .int .i64 cr, .int .i64 fl, .bool dn] : Array Value)[j]? ≠ some (.string s) := by
  rcases j with _ | _ | _ | _ | _ | _ | j <;> simp
theorem files_off {w : World} {D : Nat} {a : Option Addr} {fs : List FileD} (h : FilesIn w a fs) {a' : Option Addr} {n cap : Nat} {c k cr fl : Int} {dn : Bool} (hb : DiskAt w D a' n cap c k cr fl dn) : fs = [] ∨ ∀ b o, a = some ⟨b, o, none⟩ → b ≠ D := by
  by_cases h0 : fs = []
  · exact Or.inl h0
  · right
    intro b o e hbD
    have hpos : 0 < fs.length := List.length_pos_iff.2 h0
    obtain ⟨b', o', e', _, c0, _, _⟩ := h.at hpos
    rw [e] at e'
    simp only [Option.some.injEq, Addr.mk.injEq, and_true] at e'
    obtain ⟨rfl, rfl⟩ := e'
    subst hbD
    rw [Blk.cell hb] at c0
    exact no_str _ _ _ _ _ _ _ _ _ _ c0
theorem files_set2 {w : World} {a : Option Addr} {fs : List FileD} (h : FilesIn w a fs) {p : Addr} (hp : fs = [] ∨ ∀ b o, a = some ⟨b, o, none⟩ → b ≠ p.block) (v : Value) : FilesIn (w.setCell p v) a fs := by
  rcases h with h | ⟨b, o, rfl, hlt, h⟩
  · exact Or.inl h
  · rcases hp with hp | hp
    · exact Or.inl hp
    · have hb := Below.heap_setCell w p v b (hp b o rfl)
      have hk : ∀ j, (w.setCell p v).cell? ⟨b, j, none⟩ = w.cell? ⟨b, j, none⟩ := fun j => World.cell?_of_block hb
      exact Or.inr ⟨b, o, rfl, by simpa [World.setCell] using hlt, fun i hi => by simp only [hk]; exact h i hi⟩
set_option maxRecDepth 100000 in
set_option maxHeartbeats 2000000 in
theorem scr (w : World) (a : Option Addr) (cap : Nat) (fs : List FileD) (c k cr fl : Int) (dn : Bool) (op : OpD) (h : Given w a fs op) (hq : diskB fs c k cr fl = true) (hk : op.kind ≠ 5) (ho : opB op = true) (hdn : dn = false) (hm : k ≠ 1000000000000000) (hcr : cr ≠ 0) (hcr2 : k + 1 = cr) : Specs w a cap fs c k cr fl dn op := by
  unfold Specs
  have HF : Hid (FilesIn w a fs) := h.files
  have hs := h.short
  have hlen := h.len
  have hsum := h.sum
  have hn := h.name
  have ht := h.to
  have hdata := h.data
  have hml : fs.length ≤ maxLen := by simp [maxLen]; omega
  have HQ : Hid (diskB fs c k cr fl = true) := hq
  have HNM : Hid (nameB op.name = true) := by show _ = _; simp only [opB, Bool.and_eq_true] at ho; exact ho.1.2
  obtain ⟨hfb, hl1000, hc0, hc1x, hsc, hk0, hk1, _⟩ := files_of_disk hq
  have HKB : Hid (btwB op.kind 1 6 = true) := by show _ = _; simp only [opB, Bool.and_eq_true] at ho; exact ho.1.1
  have HK5 : Hid (¬ op.kind = 5) := hk
  subst hdn
  have hm1 : (k == 1000000000000000) = false := by simpa using hm
  subst hcr2
  have EO : Hid (outR fs c k (k + 1) fl false op = (1, fs, c, k + 1, k + 1, fl, true)) := out_refused hq ho (by simp [chargeR, hm, hcr]) (by decide)
  have hc1 : decide (k + 1 = 0) = false := by simpa using hcr
  have hw1 : IntKind.i64.wrap (k + 1) = k + 1 := by rw [IntKind.wrap_i64]; omega
  clear h hq hk ho hdata hfb hc0 hc1x hsc
  go_enter Tryz.func17, Tryz.ntmps17
  go_wp2_with fail
  refine (specValid_is HQ.out _ (((HF.out.later (bnew _ _)).later (bnew _ _)).later (bnew _ _)) hs hml hsum).mono ?_
  rintro e w1 ⟨rfl, hb1⟩
  obtain ⟨hdk, hop, hR, hbel⟩ := three_boxes hb1
  obtain ⟨o0, o1, o2, o3, o4⟩ := OpAt.cells hop
  have x0 := hdk.cell 0
  simp only [List.getElem?_toArray, List.getElem?_cons_zero] at x0
  have hRlt : w.heap.size + 1 + 1 < w1.heap.size := lt_of_block hR
  have hn1 : w.heap.size < w1.heap.size := by omega
  have hn2 : ¬ w.heap.size = w1.heap.size := by omega
  obtain ⟨a1, cap1, W2, hrun, hfi, hb2, hap⟩ := copy_run w1 a cap fs (HF.out.later hbel) hlen
  have HRUN : Hid ((Builtin.append_ #[28, 28] 28 #[.slice (some ⟨w1.heap.size, 0, none⟩) 0 0, .slice a fs.length cap]).run Tryz.prog (w1.alloc (.cells #[] 71)) = .ok (.slice a1 fs.length cap1) W2) := hrun
  have HFI : Hid (FilesIn W2 a1 fs) := hfi
  have HAP : Hid (∀ b o, a1 = some ⟨b, o, none⟩ → w1.heap.size ≤ b) := hap
  have hdk2 : Blk W2 w.heap.size #[.slice a fs.length cap, .int .i64 c, .int .i64 k, .int .i64 (k + 1), .int .i64 fl, .bool false] 30 := hdk.later hb2
  have HR2 : Hid (Blk W2 (w.heap.size + 1 + 1) #[.slice none 0 0, .int .i64 0, .int .i64 0, .int .i64 0, .int .i64 0, .bool false] 30) := hR.later hb2
  have HO2 : Hid (OpAt W2 (w.heap.size + 1) op 48) := Blk.later hop hb2
  have HB2 : Hid (Below w.heap.size w W2) := bto hbel hb2
  have d0 := hdk2.cell 0
  have d1 := hdk2.cell 1
  have d2 := hdk2.cell 2
  have d3 := hdk2.cell 3
  have d4 := hdk2.cell 4
  have d5 := hdk2.cell 5
  simp only [List.getElem?_toArray, List.getElem?_cons_zero, List.getElem?_cons_succ] at d0 d1 d2 d3 d4 d5
  have y0 := hdk2.free 0
  have y2 := hdk2.free 2
  have y5 := hdk2.free 5
  clear hb1 hdk hop hR hbel hrun hfi hb2 hap hdk2
  have r0 := HR2.out.cell 0
  have r1 := HR2.out.cell 1
  have r2 := HR2.out.cell 2
  have r3 := HR2.out.cell 3
  have r4 := HR2.out.cell 4
  have r5 := HR2.out.cell 5
  simp only [List.getElem?_toArray, List.getElem?_cons_zero, List.getElem?_cons_succ] at r0 r1 r2 r3 r4 r5
  have q0 := HR2.out.free 0
  have q1 := HR2.out.free 1
  have q2 := HR2.out.free 2
  have q3 := HR2.out.free 3
  have q4 := HR2.out.free 4
  have q5 := HR2.out.free 5
  have hk := HK5.out
  have hk5b : (op.kind == 5) = false := by simpa using hk
  go_wp2_with fail
  refine (between_is HKB.out _).mono ?_
  rintro e w3 ⟨rfl, rfl⟩
  go_wp2_with fail
  refine (l1FileName_is HNM.out _ hn).mono ?_
  rintro e w3 ⟨rfl, rfl⟩
  clear o1 o2 o3 o4
  go_wp2_with (at_builtin; refine Lib.wpList_append_run _ rfl _ _ _ _ rfl _ _ rfl rfl _ _ HRUN.out ?_)
  refine bodyPost_ret (v := .tuple #[.agg #[.slice a1 fs.length cap1, .int .i64 c, .int .i64 (k + 1), .int .i64 (k + 1), .int .i64 (fl), .bool true], .int .i64 1]) (by simp [results, Tryz.results17, go_sem, r0, r1, r2, r3, r4, r5]) rfl ?_
  rw [EO.out]
  refine ⟨a1, cap1, rfl, ?_, ?_⟩
  · have h := HFI.out
    repeat (refine files_set ?_ (fun b o e => by have := HAP.out b o e; simp; omega) _)
    exact h
  · have h := HB2.out
    repeat (refine Below.setCell ?_ (by first | (simp; done) | (simp; omega)) _)
    exact h
set_option maxRecDepth 100000 in
set_option maxHeartbeats 2000000 in
theorem sfl0 (w : World) (a : Option Addr) (cap : Nat) (fs : List FileD) (c k cr fl : Int) (dn : Bool) (op : OpD) (h : Given w a fs op) (hq : diskB fs c k cr fl = true) (hk : op.kind ≠ 5) (ho : opB op = true) (hdn : dn = false) (hm : k ≠ 1000000000000000) (hcr : cr = 0) (hfl : fl ≠ 0) (hfl2 : k + 1 = fl) : Specs w a cap fs c k cr fl dn op := by
  unfold Specs
  have HF : Hid (FilesIn w a fs) := h.files
  have hs := h.short
  have hlen := h.len
  have hsum := h.sum
  have hn := h.name
  have ht := h.to
  have hdata := h.data
  have hml : fs.length ≤ maxLen := by simp [maxLen]; omega
  have HQ : Hid (diskB fs c k cr fl = true) := hq
  have HNM : Hid (nameB op.name = true) := by show _ = _; simp only [opB, Bool.and_eq_true] at ho; exact ho.1.2
  obtain ⟨hfb, hl1000, hc0, hc1x, hsc, hk0, hk1, _⟩ := files_of_disk hq
  have HKB : Hid (btwB op.kind 1 6 = true) := by show _ = _; simp only [opB, Bool.and_eq_true] at ho; exact ho.1.1
  have HK5 : Hid (¬ op.kind = 5) := hk
  subst hdn
  have hm1 : (k == 1000000000000000) = false := by simpa using hm
  subst hcr
  subst hfl2
  have hf1 : decide (k + 1 = 0) = false := by simpa using hfl
  have EO : Hid (outR fs c k 0 (k + 1) false op = (2, fs, c, k + 1, 0, (k + 1), false)) := out_refused hq ho (by simp [chargeR, hm, hfl]) (by decide)
  have hw1 : IntKind.i64.wrap (k + 1) = k + 1 := by rw [IntKind.wrap_i64]; omega
  clear h hq hk ho hdata hfb hc0 hc1x hsc
  go_enter Tryz.func17, Tryz.ntmps17
  go_wp2_with fail
  refine (specValid_is HQ.out _ (((HF.out.later (bnew _ _)).later (bnew _ _)).later (bnew _ _)) hs hml hsum).mono ?_
  rintro e w1 ⟨rfl, hb1⟩
  obtain ⟨hdk, hop, hR, hbel⟩ := three_boxes hb1
  obtain ⟨o0, o1, o2, o3, o4⟩ := OpAt.cells hop
  have x0 := hdk.cell 0
  simp only [List.getElem?_toArray, List.getElem?_cons_zero] at x0
  have hRlt : w.heap.size + 1 + 1 < w1.heap.size := lt_of_block hR
  have hn1 : w.heap.size < w1.heap.size := by omega
  have hn2 : ¬ w.heap.size = w1.heap.size := by omega
  obtain ⟨a1, cap1, W2, hrun, hfi, hb2, hap⟩ := copy_run w1 a cap fs (HF.out.later hbel) hlen
  have HRUN : Hid ((Builtin.append_ #[28, 28] 28 #[.slice (some ⟨w1.heap.size, 0, none⟩) 0 0, .slice a fs.length cap]).run Tryz.prog (w1.alloc (.cells #[] 71)) = .ok (.slice a1 fs.length cap1) W2) := hrun
  have HFI : Hid (FilesIn W2 a1 fs) := hfi
  have HAP : Hid (∀ b o, a1 = some ⟨b, o, none⟩ → w1.heap.size ≤ b) := hap
  have hdk2 : Blk W2 w.heap.size #[.slice a fs.length cap, .int .i64 c, .int .i64 k, .int .i64 0, .int .i64 (k + 1), .bool false] 30 := hdk.later hb2
  have HR2 : Hid (Blk W2 (w.heap.size + 1 + 1) #[.slice none 0 0, .int .i64 0, .int .i64 0, .int .i64 0, .int .i64 0, .bool false] 30) := hR.later hb2
  have HO2 : Hid (OpAt W2 (w.heap.size + 1) op 48) := Blk.later hop hb2
  have HB2 : Hid (Below w.heap.size w W2) := bto hbel hb2
  have d0 := hdk2.cell 0
  have d1 := hdk2.cell 1
  have d2 := hdk2.cell 2
  have d3 := hdk2.cell 3
  have d4 := hdk2.cell 4
  have d5 := hdk2.cell 5
  simp only [List.getElem?_toArray, List.getElem?_cons_zero, List.getElem?_cons_succ] at d0 d1 d2 d3 d4 d5
  have y0 := hdk2.free 0
  have y2 := hdk2.free 2
  have y5 := hdk2.free 5
  clear hb1 hdk hop hR hbel hrun hfi hb2 hap hdk2
  have r0 := HR2.out.cell 0
  have r1 := HR2.out.cell 1
  have r2 := HR2.out.cell 2
  have r3 := HR2.out.cell 3
  have r4 := HR2.out.cell 4
  have r5 := HR2.out.cell 5
  simp only [List.getElem?_toArray, List.getElem?_cons_zero, List.getElem?_cons_succ] at r0 r1 r2 r3 r4 r5
  have q0 := HR2.out.free 0
  have q1 := HR2.out.free 1
  have q2 := HR2.out.free 2
  have q3 := HR2.out.free 3
  have q4 := HR2.out.free 4
  have q5 := HR2.out.free 5
  have hk := HK5.out
  have hk5b : (op.kind == 5) = false := by simpa using hk
  go_wp2_with fail
  refine (between_is HKB.out _).mono ?_
  rintro e w3 ⟨rfl, rfl⟩
  go_wp2_with fail
  refine (l1FileName_is HNM.out _ hn).mono ?_
  rintro e w3 ⟨rfl, rfl⟩
  clear o1 o2 o3 o4
  go_wp2_with (at_builtin; refine Lib.wpList_append_run _ rfl _ _ _ _ rfl _ _ rfl rfl _ _ HRUN.out ?_)
  refine bodyPost_ret (v := .tuple #[.agg #[.slice a1 fs.length cap1, .int .i64 c, .int .i64 (k + 1), .int .i64 (0), .int .i64 ((k + 1)), .bool false], .int .i64 2]) (by simp [results, Tryz.results17, go_sem, r0, r1, r2, r3, r4, r5]) rfl ?_
  rw [EO.out]
  refine ⟨a1, cap1, rfl, ?_, ?_⟩
  · have h := HFI.out
    repeat (refine files_set ?_ (fun b o e => by have := HAP.out b o e; simp; omega) _)
    exact h
  · have h := HB2.out
    repeat (refine Below.setCell ?_ (by first | (simp; done) | (simp; omega)) _)
    exact h
set_option maxRecDepth 100000 in
set_option maxHeartbeats 2000000 in
theorem sdo00 (w : World) (a : Option Addr) (cap : Nat) (fs : List FileD) (c k cr fl : Int) (dn : Bool) (op : OpD) (h : Given w a fs op) (hq : diskB fs c k cr fl = true) (hk : op.kind ≠ 5) (ho : opB op = true) (hdn : dn = false) (hm : k ≠ 1000000000000000) (hcr : cr = 0) (hfl : fl = 0) : Specs w a cap fs c k cr fl dn op := by
  unfold Specs
  have HF : Hid (FilesIn w a fs) := h.files
  have hs := h.short
  have hlen := h.len
  have hsum := h.sum
  have hn := h.name
  have ht := h.to
  have hdata := h.data
  have hml : fs.length ≤ maxLen := by simp [maxLen]; omega
  have HQ : Hid (diskB fs c k cr fl = true) := hq
  have HNM : Hid (nameB op.name = true) := by show _ = _; simp only [opB, Bool.and_eq_true] at ho; exact ho.1.2
  obtain ⟨hfb, hl1000, hc0, hc1x, hsc, hk0, hk1, _⟩ := files_of_disk hq
  have HKB : Hid (btwB op.kind 1 6 = true) := by show _ = _; simp only [opB, Bool.and_eq_true] at ho; exact ho.1.1
  have HK5 : Hid (¬ op.kind = 5) := hk
  subst hdn
  have hm1 : (k == 1000000000000000) = false := by simpa using hm
  subst hcr
  subst hfl
  have EO : Hid (outR fs c k 0 0 false op = ((doR fs c op).1, (doR fs c op).2, c, k + 1, 0, 0, false)) := out_done hq ho (by simp [chargeR, hm])
  have hw1 : IntKind.i64.wrap (k + 1) = k + 1 := by rw [IntKind.wrap_i64]; omega
  have HASC : Hid (Asc fs) := asc_of hfb
  have HKB2 : Hid (btwB op.kind 1 6 = true) := by show _ = _; simp only [opB, Bool.and_eq_true] at ho; exact ho.1.1
  clear h hq hk ho hfb
  go_enter Tryz.func17, Tryz.ntmps17
  go_wp2_with fail
  refine (specValid_is HQ.out _ (((HF.out.later (bnew _ _)).later (bnew _ _)).later (bnew _ _)) hs hml hsum).mono ?_
  rintro e w1 ⟨rfl, hb1⟩
  obtain ⟨hdk, hop, hR, hbel⟩ := three_boxes hb1
  obtain ⟨o0, o1, o2, o3, o4⟩ := OpAt.cells hop
  have x0 := hdk.cell 0
  simp only [List.getElem?_toArray, List.getElem?_cons_zero] at x0
  have hRlt : w.heap.size + 1 + 1 < w1.heap.size := lt_of_block hR
  have hn1 : w.heap.size < w1.heap.size := by omega
  have hn2 : ¬ w.heap.size = w1.heap.size := by omega
  obtain ⟨a1, cap1, W2, hrun, hfi, hb2, hap⟩ := copy_run w1 a cap fs (HF.out.later hbel) hlen
  have HRUN : Hid ((Builtin.append_ #[28, 28] 28 #[.slice (some ⟨w1.heap.size, 0, none⟩) 0 0, .slice a fs.length cap]).run Tryz.prog (w1.alloc (.cells #[] 71)) = .ok (.slice a1 fs.length cap1) W2) := hrun
  have HFI : Hid (FilesIn W2 a1 fs) := hfi
  have HAP : Hid (∀ b o, a1 = some ⟨b, o, none⟩ → w1.heap.size ≤ b) := hap
  have hdk2 : Blk W2 w.heap.size #[.slice a fs.length cap, .int .i64 c, .int .i64 k, .int .i64 0, .int .i64 0, .bool false] 30 := hdk.later hb2
  have HR2 : Hid (Blk W2 (w.heap.size + 1 + 1) #[.slice none 0 0, .int .i64 0, .int .i64 0, .int .i64 0, .int .i64 0, .bool false] 30) := hR.later hb2
  have HO2 : Hid (OpAt W2 (w.heap.size + 1) op 48) := Blk.later hop hb2
  have HB2 : Hid (Below w.heap.size w W2) := bto hbel hb2
  have d0 := hdk2.cell 0
  have d1 := hdk2.cell 1
  have d2 := hdk2.cell 2
  have d3 := hdk2.cell 3
  have d4 := hdk2.cell 4
  have d5 := hdk2.cell 5
  simp only [List.getElem?_toArray, List.getElem?_cons_zero, List.getElem?_cons_succ] at d0 d1 d2 d3 d4 d5
  have y0 := hdk2.free 0
  have HD3 : Hid (DiskAt ((W2.setCell ⟨w.heap.size, 0, none⟩ (.slice a1 fs.length cap1)).setCell ⟨w.heap.size, 2, none⟩ (.int .i64 (k + 1))) w.heap.size a1 fs.length cap1 c (k + 1) 0 0 false) := by
    have h := (hdk2.set 0 (.slice a1 fs.length cap1)).set 2 (.int .i64 (k + 1))
    show Blk _ _ _ _
    simpa using h
  have HR3 : Hid (DiskAt ((W2.setCell ⟨w.heap.size, 0, none⟩ (.slice a1 fs.length cap1)).setCell ⟨w.heap.size, 2, none⟩ (.int .i64 (k + 1))) (w.heap.size + 1 + 1) none 0 0 0 0 0 0 false) := Blk.keeps (S := fun k => k = w.heap.size) HR2.out (Keeps.but (((But.refl w.heap.size W2).setCell _ _).setCell _ _)) (by show ¬ (w.heap.size + 1 + 1 = w.heap.size); omega)
  have HO3 : Hid (OpAt ((W2.setCell ⟨w.heap.size, 0, none⟩ (.slice a1 fs.length cap1)).setCell ⟨w.heap.size, 2, none⟩ (.int .i64 (k + 1))) (w.heap.size + 1) op 48) := Blk.keeps (S := fun k => k = w.heap.size) HO2.out (Keeps.but (((But.refl w.heap.size W2).setCell _ _).setCell _ _)) (by show ¬ (w.heap.size + 1 = w.heap.size); omega)
  have HF3 : Hid (FilesIn ((W2.setCell ⟨w.heap.size, 0, none⟩ (.slice a1 fs.length cap1)).setCell ⟨w.heap.size, 2, none⟩ (.int .i64 (k + 1))) a1 fs) := files_set (files_set HFI.out (fun b o e => by have := HAP.out b o e; show w.heap.size < b; omega) _) (fun b o e => by have := HAP.out b o e; show w.heap.size < b; omega) _
  have HB3 : Hid (Below w.heap.size w ((W2.setCell ⟨w.heap.size, 0, none⟩ (.slice a1 fs.length cap1)).setCell ⟨w.heap.size, 2, none⟩ (.int .i64 (k + 1)))) := (HB2.out.setCell (by simp) _).setCell (by simp) _
  obtain ⟨z0, z1, z2, z3, z4⟩ := HO2.out.cells
  have HDO : Hid (∀ W, Asked W a1 fs c op → Calls Tryz.prog 35 #[.agg #[.slice a1 fs.length cap1, .int .i64 c, .int .i64 (k + 1), .int .i64 0, .int .i64 0, .bool false], .agg #[.int .i64 op.kind, .string op.name, .string op.to, .string op.data, .int .i64 op.size]] W fun e w' => ∃ a' cap', e = .returned (.tuple #[.slice a' (doR fs c op).2.length cap', .int .i64 (doR fs c op).1]) ∧ FilesIn w' a' (doR fs c op).2 ∧ Below W.heap.size W w') := fun W h => by
    have h2 := l1Do_any W a1 cap1 fs c (k + 1) 0 0 false op h HKB2.out
    unfold Does at h2
    exact h2
  have y2 := hdk2.free 2
  have y5 := hdk2.free 5
  clear hb1 hdk hop hR hbel hrun hfi hb2 hap hdk2
  have hk := HK5.out
  have hk5b : (op.kind == 5) = false := by simpa using hk
  go_wp2_with fail
  refine (between_is HKB.out _).mono ?_
  rintro e w3 ⟨rfl, rfl⟩
  go_wp2_with fail
  refine (l1FileName_is HNM.out _ hn).mono ?_
  rintro e w3 ⟨rfl, rfl⟩
  clear o1 o2 o3 o4
  go_wp2_with (at_builtin; refine Lib.wpList_append_run _ rfl _ _ _ _ rfl _ _ rfl rfl _ _ HRUN.out ?_)
  refine (HDO.out _ ⟨HF3.out, HASC.out, hl1000, hsc, hc1x, hdata⟩).mono ?_
  rintro e w5 ⟨a5, cap5, rfl, hf5, hb5⟩
  have hdk5 := Blk.later HD3.out hb5
  have hr5 := Blk.later HR3.out hb5
  have HF5 : Hid (FilesIn w5 a5 (doR fs c op).2) := hf5
  have HB5 : Hid (Below w.heap.size w w5) := bto HB3.out hb5
  have HX1 : Hid ((doR fs c op).2 = [] ∨ ∀ b o, a5 = some ⟨b, o, none⟩ → b ≠ w.heap.size) := files_off hf5 hdk5
  have HX2 : Hid ((doR fs c op).2 = [] ∨ ∀ b o, a5 = some ⟨b, o, none⟩ → b ≠ w.heap.size + 1 + 1) := files_off hf5 hr5
  clear d0 d1 d2 d3 d4 d5 y0 y2 y5 z0 z1 z2 z3 z4
  have d0 := hdk5.cell 0
  have d1 := hdk5.cell 1
  have d2 := hdk5.cell 2
  have d3 := hdk5.cell 3
  have d4 := hdk5.cell 4
  have d5 := hdk5.cell 5
  have r0 := hr5.cell 0
  have r1 := hr5.cell 1
  have r2 := hr5.cell 2
  have r3 := hr5.cell 3
  have r4 := hr5.cell 4
  have r5 := hr5.cell 5
  simp only [List.getElem?_toArray, List.getElem?_cons_zero, List.getElem?_cons_succ] at d0 d1 d2 d3 d4 d5 r0 r1 r2 r3 r4 r5
  have y0 := hdk5.free 0
  have q0 := hr5.free 0
  have q1 := hr5.free 1
  have q2 := hr5.free 2
  have q3 := hr5.free 3
  have q4 := hr5.free 4
  have q5 := hr5.free 5
  clear hdk5 hr5 hf5 hb5
  generalize hdo : doR fs c op = R at *
  obtain ⟨code, fs'⟩ := R
  go_wp2
  refine bodyPost_ret (v := .tuple #[.agg #[.slice a5 fs'.length cap5, .int .i64 c, .int .i64 (k + 1), .int .i64 0, .int .i64 0, .bool false], .int .i64 code]) (by simp [results, Tryz.results17, go_sem, r0, r1, r2, r3, r4, r5]) rfl ?_
  rw [EO.out]
  refine ⟨a5, cap5, rfl, ?_, ?_⟩
  · have h := HF5.out
    repeat (refine files_set2 ?_ (by first | exact HX2.out | exact HX1.out) _)
    exact h
  · have h := HB5.out
    repeat (refine Below.setCell ?_ (by first | (simp; done) | (simp; omega)) _)
    exact h
set_option maxRecDepth 100000 in
set_option maxHeartbeats 2000000 in
theorem sdo10 (w : World) (a : Option Addr) (cap : Nat) (fs : List FileD) (c k cr fl : Int) (dn : Bool) (op : OpD) (h : Given w a fs op) (hq : diskB fs c k cr fl = true) (hk : op.kind ≠ 5) (ho : opB op = true) (hdn : dn = false) (hm : k ≠ 1000000000000000) (hcr : cr = 0) (hfl : fl ≠ 0) (hfl2 : ¬ k + 1 = fl) : Specs w a cap fs c k cr fl dn op := by
  unfold Specs
  have HF : Hid (FilesIn w a fs) := h.files
  have hs := h.short
  have hlen := h.len
  have hsum := h.sum
  have hn := h.name
  have ht := h.to
  have hdata := h.data
  have hml : fs.length ≤ maxLen := by simp [maxLen]; omega
  have HQ : Hid (diskB fs c k cr fl = true) := hq
  have HNM : Hid (nameB op.name = true) := by show _ = _; simp only [opB, Bool.and_eq_true] at ho; exact ho.1.2
  obtain ⟨hfb, hl1000, hc0, hc1x, hsc, hk0, hk1, _⟩ := files_of_disk hq
  have HKB : Hid (btwB op.kind 1 6 = true) := by show _ = _; simp only [opB, Bool.and_eq_true] at ho; exact ho.1.1
  have HK5 : Hid (¬ op.kind = 5) := hk
  subst hdn
  have hm1 : (k == 1000000000000000) = false := by simpa using hm
  subst hcr
  have hf1 : decide (fl = 0) = false := by simpa using hfl
  have hf3 : (k + 1 == fl) = false := by simpa using hfl2
  have EO : Hid (outR fs c k 0 fl false op = ((doR fs c op).1, (doR fs c op).2, c, k + 1, 0, fl, false)) := out_done hq ho (by simp [chargeR, hm, hfl, hfl2])
  have hw1 : IntKind.i64.wrap (k + 1) = k + 1 := by rw [IntKind.wrap_i64]; omega
  have HASC : Hid (Asc fs) := asc_of hfb
  have HKB2 : Hid (btwB op.kind 1 6 = true) := by show _ = _; simp only [opB, Bool.and_eq_true] at ho; exact ho.1.1
  clear h hq hk ho hfb
  go_enter Tryz.func17, Tryz.ntmps17
  go_wp2_with fail
  refine (specValid_is HQ.out _ (((HF.out.later (bnew _ _)).later (bnew _ _)).later (bnew _ _)) hs hml hsum).mono ?_
  rintro e w1 ⟨rfl, hb1⟩
  obtain ⟨hdk, hop, hR, hbel⟩ := three_boxes hb1
  obtain ⟨o0, o1, o2, o3, o4⟩ := OpAt.cells hop
  have x0 := hdk.cell 0
  simp only [List.getElem?_toArray, List.getElem?_cons_zero] at x0
  have hRlt : w.heap.size + 1 + 1 < w1.heap.size := lt_of_block hR
  have hn1 : w.heap.size < w1.heap.size := by omega
  have hn2 : ¬ w.heap.size = w1.heap.size := by omega
  obtain ⟨a1, cap1, W2, hrun, hfi, hb2, hap⟩ := copy_run w1 a cap fs (HF.out.later hbel) hlen
  have HRUN : Hid ((Builtin.append_ #[28, 28] 28 #[.slice (some ⟨w1.heap.size, 0, none⟩) 0 0, .slice a fs.length cap]).run Tryz.prog (w1.alloc (.cells #[] 71)) = .ok (.slice a1 fs.length cap1) W2) := hrun
  have HFI : Hid (FilesIn W2 a1 fs) := hfi
  have HAP : Hid (∀ b o, a1 = some ⟨b, o, none⟩ → w1.heap.size ≤ b) := hap
  have hdk2 : Blk W2 w.heap.size #[.slice a fs.length cap, .int .i64 c, .int .i64 k, .int .i64 0, .int .i64 fl, .bool false] 30 := hdk.later hb2
  have HR2 : Hid (Blk W2 (w.heap.size + 1 + 1) #[.slice none 0 0, .int .i64 0, .int .i64 0, .int .i64 0, .int .i64 0, .bool false] 30) := hR.later hb2
  have HO2 : Hid (OpAt W2 (w.heap.size + 1) op 48) := Blk.later hop hb2
  have HB2 : Hid (Below w.heap.size w W2) := bto hbel hb2
  have d0 := hdk2.cell 0
  have d1 := hdk2.cell 1
  have d2 := hdk2.cell 2
  have d3 := hdk2.cell 3
  have d4 := hdk2.cell 4
  have d5 := hdk2.cell 5
  simp only [List.getElem?_toArray, List.getElem?_cons_zero, List.getElem?_cons_succ] at d0 d1 d2 d3 d4 d5
  have y0 := hdk2.free 0
  have HD3 : Hid (DiskAt ((W2.setCell ⟨w.heap.size, 0, none⟩ (.slice a1 fs.length cap1)).setCell ⟨w.heap.size, 2, none⟩ (.int .i64 (k + 1))) w.heap.size a1 fs.length cap1 c (k + 1) 0 fl false) := by
    have h := (hdk2.set 0 (.slice a1 fs.length cap1)).set 2 (.int .i64 (k + 1))
    show Blk _ _ _ _
    simpa using h
  have HR3 : Hid (DiskAt ((W2.setCell ⟨w.heap.size, 0, none⟩ (.slice a1 fs.length cap1)).setCell ⟨w.heap.size, 2, none⟩ (.int .i64 (k + 1))) (w.heap.size + 1 + 1) none 0 0 0 0 0 0 false) := Blk.keeps (S := fun k => k = w.heap.size) HR2.out (Keeps.but (((But.refl w.heap.size W2).setCell _ _).setCell _ _)) (by show ¬ (w.heap.size + 1 + 1 = w.heap.size); omega)
  have HO3 : Hid (OpAt ((W2.setCell ⟨w.heap.size, 0, none⟩ (.slice a1 fs.length cap1)).setCell ⟨w.heap.size, 2, none⟩ (.int .i64 (k + 1))) (w.heap.size + 1) op 48) := Blk.keeps (S := fun k => k = w.heap.size) HO2.out (Keeps.but (((But.refl w.heap.size W2).setCell _ _).setCell _ _)) (by show ¬ (w.heap.size + 1 = w.heap.size); omega)
  have HF3 : Hid (FilesIn ((W2.setCell ⟨w.heap.size, 0, none⟩ (.slice a1 fs.length cap1)).setCell ⟨w.heap.size, 2, none⟩ (.int .i64 (k + 1))) a1 fs) := files_set (files_set HFI.out (fun b o e => by have := HAP.out b o e; show w.heap.size < b; omega) _) (fun b o e => by have := HAP.out b o e; show w.heap.size < b; omega) _
  have HB3 : Hid (Below w.heap.size w ((W2.setCell ⟨w.heap.size, 0, none⟩ (.slice a1 fs.length cap1)).setCell ⟨w.heap.size, 2, none⟩ (.int .i64 (k + 1)))) := (HB2.out.setCell (by simp) _).setCell (by simp) _
  obtain ⟨z0, z1, z2, z3, z4⟩ := HO2.out.cells
  have HDO : Hid (∀ W, Asked W a1 fs c op → Calls Tryz.prog 35 #[.agg #[.slice a1 fs.length cap1, .int .i64 c, .int .i64 (k + 1), .int .i64 0, .int .i64 fl, .bool false], .agg #[.int .i64 op.kind, .string op.name, .string op.to, .string op.data, .int .i64 op.size]] W fun e w' => ∃ a' cap', e = .returned (.tuple #[.slice a' (doR fs c op).2.length cap', .int .i64 (doR fs c op).1]) ∧ FilesIn w' a' (doR fs c op).2 ∧ Below W.heap.size W w') := fun W h => by
    have h2 := l1Do_any W a1 cap1 fs c (k + 1) 0 fl false op h HKB2.out
    unfold Does at h2
    exact h2
  have y2 := hdk2.free 2
  have y5 := hdk2.free 5
  clear hb1 hdk hop hR hbel hrun hfi hb2 hap hdk2
  have hk := HK5.out
  have hk5b : (op.kind == 5) = false := by simpa using hk
  go_wp2_with fail
  refine (between_is HKB.out _).mono ?_
  rintro e w3 ⟨rfl, rfl⟩
  go_wp2_with fail
  refine (l1FileName_is HNM.out _ hn).mono ?_
  rintro e w3 ⟨rfl, rfl⟩
  clear o1 o2 o3 o4
  go_wp2_with (at_builtin; refine Lib.wpList_append_run _ rfl _ _ _ _ rfl _ _ rfl rfl _ _ HRUN.out ?_)
  refine (HDO.out _ ⟨HF3.out, HASC.out, hl1000, hsc, hc1x, hdata⟩).mono ?_
  rintro e w5 ⟨a5, cap5, rfl, hf5, hb5⟩
  have hdk5 := Blk.later HD3.out hb5
  have hr5 := Blk.later HR3.out hb5
  have HF5 : Hid (FilesIn w5 a5 (doR fs c op).2) := hf5
  have HB5 : Hid (Below w.heap.size w w5) := bto HB3.out hb5
  have HX1 : Hid ((doR fs c op).2 = [] ∨ ∀ b o, a5 = some ⟨b, o, none⟩ → b ≠ w.heap.size) := files_off hf5 hdk5
  have HX2 : Hid ((doR fs c op).2 = [] ∨ ∀ b o, a5 = some ⟨b, o, none⟩ → b ≠ w.heap.size + 1 + 1) := files_off hf5 hr5
  clear d0 d1 d2 d3 d4 d5 y0 y2 y5 z0 z1 z2 z3 z4
  have d0 := hdk5.cell 0
  have d1 := hdk5.cell 1
  have d2 := hdk5.cell 2
  have d3 := hdk5.cell 3
  have d4 := hdk5.cell 4
  have d5 := hdk5.cell 5
  have r0 := hr5.cell 0
  have r1 := hr5.cell 1
  have r2 := hr5.cell 2
  have r3 := hr5.cell 3
  have r4 := hr5.cell 4
  have r5 := hr5.cell 5
  simp only [List.getElem?_toArray, List.getElem?_cons_zero, List.getElem?_cons_succ] at d0 d1 d2 d3 d4 d5 r0 r1 r2 r3 r4 r5
  have y0 := hdk5.free 0
  have q0 := hr5.free 0
  have q1 := hr5.free 1
  have q2 := hr5.free 2
  have q3 := hr5.free 3
  have q4 := hr5.free 4
  have q5 := hr5.free 5
  clear hdk5 hr5 hf5 hb5
  generalize hdo : doR fs c op = R at *
  obtain ⟨code, fs'⟩ := R
  go_wp2
  refine bodyPost_ret (v := .tuple #[.agg #[.slice a5 fs'.length cap5, .int .i64 c, .int .i64 (k + 1), .int .i64 0, .int .i64 fl, .bool false], .int .i64 code]) (by simp [results, Tryz.results17, go_sem, r0, r1, r2, r3, r4, r5]) rfl ?_
  rw [EO.out]
  refine ⟨a5, cap5, rfl, ?_, ?_⟩
  · have h := HF5.out
    repeat (refine files_set2 ?_ (by first | exact HX2.out | exact HX1.out) _)
    exact h
  · have h := HB5.out
    repeat (refine Below.setCell ?_ (by first | (simp; done) | (simp; omega)) _)
    exact h
set_option maxRecDepth 100000 in
set_option maxHeartbeats 2000000 in
theorem sflne (w : World) (a : Option Addr) (cap : Nat) (fs : List FileD) (c k cr fl : Int) (dn : Bool) (op : OpD) (h : Given w a fs op) (hq : diskB fs c k cr fl = true) (hk : op.kind ≠ 5) (ho : opB op = true) (hdn : dn = false) (hm : k ≠ 1000000000000000) (hcr : cr ≠ 0) (hcr2 : ¬ k + 1 = cr) (hfl : fl ≠ 0) (hfl2 : k + 1 = fl) : Specs w a cap fs c k cr fl dn op := by
  unfold Specs
  have HF : Hid (FilesIn w a fs) := h.files
  have hs := h.short
  have hlen := h.len
  have hsum := h.sum
  have hn := h.name
  have ht := h.to
  have hdata := h.data
  have hml : fs.length ≤ maxLen := by simp [maxLen]; omega
  have HQ : Hid (diskB fs c k cr fl = true) := hq
  have HNM : Hid (nameB op.name = true) := by show _ = _; simp only [opB, Bool.and_eq_true] at ho; exact ho.1.2
  obtain ⟨hfb, hl1000, hc0, hc1x, hsc, hk0, hk1, _⟩ := files_of_disk hq
  have HKB : Hid (btwB op.kind 1 6 = true) := by show _ = _; simp only [opB, Bool.and_eq_true] at ho; exact ho.1.1
  have HK5 : Hid (¬ op.kind = 5) := hk
  subst hdn
  have hm1 : (k == 1000000000000000) = false := by simpa using hm
  have hc1 : decide (cr = 0) = false := by simpa using hcr
  have hc3 : (k + 1 == cr) = false := by simpa using hcr2
  subst hfl2
  have hf1 : decide (k + 1 = 0) = false := by simpa using hfl
  have EO : Hid (outR fs c k cr (k + 1) false op = (2, fs, c, k + 1, cr, (k + 1), false)) := out_refused hq ho (by simp [chargeR, hm, hcr, hcr2, hfl]) (by decide)
  have hw1 : IntKind.i64.wrap (k + 1) = k + 1 := by rw [IntKind.wrap_i64]; omega
  clear h hq hk ho hdata hfb hc0 hc1x hsc
  go_enter Tryz.func17, Tryz.ntmps17
  go_wp2_with fail
  refine (specValid_is HQ.out _ (((HF.out.later (bnew _ _)).later (bnew _ _)).later (bnew _ _)) hs hml hsum).mono ?_
  rintro e w1 ⟨rfl, hb1⟩
  obtain ⟨hdk, hop, hR, hbel⟩ := three_boxes hb1
  obtain ⟨o0, o1, o2, o3, o4⟩ := OpAt.cells hop
  have x0 := hdk.cell 0
  simp only [List.getElem?_toArray, List.getElem?_cons_zero] at x0
  have hRlt : w.heap.size + 1 + 1 < w1.heap.size := lt_of_block hR
  have hn1 : w.heap.size < w1.heap.size := by omega
  have hn2 : ¬ w.heap.size = w1.heap.size := by omega
  obtain ⟨a1, cap1, W2, hrun, hfi, hb2, hap⟩ := copy_run w1 a cap fs (HF.out.later hbel) hlen
  have HRUN : Hid ((Builtin.append_ #[28, 28] 28 #[.slice (some ⟨w1.heap.size, 0, none⟩) 0 0, .slice a fs.length cap]).run Tryz.prog (w1.alloc (.cells #[] 71)) = .ok (.slice a1 fs.length cap1) W2) := hrun
  have HFI : Hid (FilesIn W2 a1 fs) := hfi
  have HAP : Hid (∀ b o, a1 = some ⟨b, o, none⟩ → w1.heap.size ≤ b) := hap
  have hdk2 : Blk W2 w.heap.size #[.slice a fs.length cap, .int .i64 c, .int .i64 k, .int .i64 cr, .int .i64 (k + 1), .bool false] 30 := hdk.later hb2
  have HR2 : Hid (Blk W2 (w.heap.size + 1 + 1) #[.slice none 0 0, .int .i64 0, .int .i64 0, .int .i64 0, .int .i64 0, .bool false] 30) := hR.later hb2
  have HO2 : Hid (OpAt W2 (w.heap.size + 1) op 48) := Blk.later hop hb2
  have HB2 : Hid (Below w.heap.size w W2) := bto hbel hb2
  have d0 := hdk2.cell 0
  have d1 := hdk2.cell 1
  have d2 := hdk2.cell 2
  have d3 := hdk2.cell 3
  have d4 := hdk2.cell 4
  have d5 := hdk2.cell 5
  simp only [List.getElem?_toArray, List.getElem?_cons_zero, List.getElem?_cons_succ] at d0 d1 d2 d3 d4 d5
  have y0 := hdk2.free 0
  have y2 := hdk2.free 2
  have y5 := hdk2.free 5
  clear hb1 hdk hop hR hbel hrun hfi hb2 hap hdk2
  have r0 := HR2.out.cell 0
  have r1 := HR2.out.cell 1
  have r2 := HR2.out.cell 2
  have r3 := HR2.out.cell 3
  have r4 := HR2.out.cell 4
  have r5 := HR2.out.cell 5
  simp only [List.getElem?_toArray, List.getElem?_cons_zero, List.getElem?_cons_succ] at r0 r1 r2 r3 r4 r5
  have q0 := HR2.out.free 0
  have q1 := HR2.out.free 1
  have q2 := HR2.out.free 2
  have q3 := HR2.out.free 3
  have q4 := HR2.out.free 4
  have q5 := HR2.out.free 5
  have hk := HK5.out
  have hk5b : (op.kind == 5) = false := by simpa using hk
  go_wp2_with fail
  refine (between_is HKB.out _).mono ?_
  rintro e w3 ⟨rfl, rfl⟩
  go_wp2_with fail
  refine (l1FileName_is HNM.out _ hn).mono ?_
  rintro e w3 ⟨rfl, rfl⟩
  clear o1 o2 o3 o4
  go_wp2_with (at_builtin; refine Lib.wpList_append_run _ rfl _ _ _ _ rfl _ _ rfl rfl _ _ HRUN.out ?_)
  refine bodyPost_ret (v := .tuple #[.agg #[.slice a1 fs.length cap1, .int .i64 c, .int .i64 (k + 1), .int .i64 (cr), .int .i64 ((k + 1)), .bool false], .int .i64 2]) (by simp [results, Tryz.results17, go_sem, r0, r1, r2, r3, r4, r5]) rfl ?_
  rw [EO.out]
  refine ⟨a1, cap1, rfl, ?_, ?_⟩
  · have h := HFI.out
    repeat (refine files_set ?_ (fun b o e => by have := HAP.out b o e; simp; omega) _)
    exact h
  · have h := HB2.out
    repeat (refine Below.setCell ?_ (by first | (simp; done) | (simp; omega)) _)
    exact h
set_option maxRecDepth 100000 in
set_option maxHeartbeats 2000000 in
theorem sdo0ne (w : World) (a : Option Addr) (cap : Nat) (fs : List FileD) (c k cr fl : Int) (dn : Bool) (op : OpD) (h : Given w a fs op) (hq : diskB fs c k cr fl = true) (hk : op.kind ≠ 5) (ho : opB op = true) (hdn : dn = false) (hm : k ≠ 1000000000000000) (hcr : cr ≠ 0) (hcr2 : ¬ k + 1 = cr) (hfl : fl = 0) : Specs w a cap fs c k cr fl dn op := by
  unfold Specs
  have HF : Hid (FilesIn w a fs) := h.files
  have hs := h.short
  have hlen := h.len
  have hsum := h.sum
  have hn := h.name
  have ht := h.to
  have hdata := h.data
  have hml : fs.length ≤ maxLen := by simp [maxLen]; omega
  have HQ : Hid (diskB fs c k cr fl = true) := hq
  have HNM : Hid (nameB op.name = true) := by show _ = _; simp only [opB, Bool.and_eq_true] at ho; exact ho.1.2
  obtain ⟨hfb, hl1000, hc0, hc1x, hsc, hk0, hk1, _⟩ := files_of_disk hq
  have HKB : Hid (btwB op.kind 1 6 = true) := by show _ = _; simp only [opB, Bool.and_eq_true] at ho; exact ho.1.1
  have HK5 : Hid (¬ op.kind = 5) := hk
  subst hdn
  have hm1 : (k == 1000000000000000) = false := by simpa using hm
  have hc1 : decide (cr = 0) = false := by simpa using hcr
  have hc3 : (k + 1 == cr) = false := by simpa using hcr2
  subst hfl
  have EO : Hid (outR fs c k cr 0 false op = ((doR fs c op).1, (doR fs c op).2, c, k + 1, cr, 0, false)) := out_done hq ho (by simp [chargeR, hm, hcr, hcr2])
  have hw1 : IntKind.i64.wrap (k + 1) = k + 1 := by rw [IntKind.wrap_i64]; omega
  have HASC : Hid (Asc fs) := asc_of hfb
  have HKB2 : Hid (btwB op.kind 1 6 = true) := by show _ = _; simp only [opB, Bool.and_eq_true] at ho; exact ho.1.1
  clear h hq hk ho hfb
  go_enter Tryz.func17, Tryz.ntmps17
  go_wp2_with fail
  refine (specValid_is HQ.out _ (((HF.out.later (bnew _ _)).later (bnew _ _)).later (bnew _ _)) hs hml hsum).mono ?_
  rintro e w1 ⟨rfl, hb1⟩
  obtain ⟨hdk, hop, hR, hbel⟩ := three_boxes hb1
  obtain ⟨o0, o1, o2, o3, o4⟩ := OpAt.cells hop
  have x0 := hdk.cell 0
  simp only [List.getElem?_toArray, List.getElem?_cons_zero] at x0
  have hRlt : w.heap.size + 1 + 1 < w1.heap.size := lt_of_block hR
  have hn1 : w.heap.size < w1.heap.size := by omega
  have hn2 : ¬ w.heap.size = w1.heap.size := by omega
  obtain ⟨a1, cap1, W2, hrun, hfi, hb2, hap⟩ := copy_run w1 a cap fs (HF.out.later hbel) hlen
  have HRUN : Hid ((Builtin.append_ #[28, 28] 28 #[.slice (some ⟨w1.heap.size, 0, none⟩) 0 0, .slice a fs.length cap]).run Tryz.prog (w1.alloc (.cells #[] 71)) = .ok (.slice a1 fs.length cap1) W2) := hrun
  have HFI : Hid (FilesIn W2 a1 fs) := hfi
  have HAP : Hid (∀ b o, a1 = some ⟨b, o, none⟩ → w1.heap.size ≤ b) := hap
  have hdk2 : Blk W2 w.heap.size #[.slice a fs.length cap, .int .i64 c, .int .i64 k, .int .i64 cr, .int .i64 0, .bool false] 30 := hdk.later hb2
  have HR2 : Hid (Blk W2 (w.heap.size + 1 + 1) #[.slice none 0 0, .int .i64 0, .int .i64 0, .int .i64 0, .int .i64 0, .bool false] 30) := hR.later hb2
  have HO2 : Hid (OpAt W2 (w.heap.size + 1) op 48) := Blk.later hop hb2
  have HB2 : Hid (Below w.heap.size w W2) := bto hbel hb2
  have d0 := hdk2.cell 0
  have d1 := hdk2.cell 1
  have d2 := hdk2.cell 2
  have d3 := hdk2.cell 3
  have d4 := hdk2.cell 4
  have d5 := hdk2.cell 5
  simp only [List.getElem?_toArray, List.getElem?_cons_zero, List.getElem?_cons_succ] at d0 d1 d2 d3 d4 d5
  have y0 := hdk2.free 0
  have HD3 : Hid (DiskAt ((W2.setCell ⟨w.heap.size, 0, none⟩ (.slice a1 fs.length cap1)).setCell ⟨w.heap.size, 2, none⟩ (.int .i64 (k + 1))) w.heap.size a1 fs.length cap1 c (k + 1) cr 0 false) := by
    have h := (hdk2.set 0 (.slice a1 fs.length cap1)).set 2 (.int .i64 (k + 1))
    show Blk _ _ _ _
    simpa using h
  have HR3 : Hid (DiskAt ((W2.setCell ⟨w.heap.size, 0, none⟩ (.slice a1 fs.length cap1)).setCell ⟨w.heap.size, 2, none⟩ (.int .i64 (k + 1))) (w.heap.size + 1 + 1) none 0 0 0 0 0 0 false) := Blk.keeps (S := fun k => k = w.heap.size) HR2.out (Keeps.but (((But.refl w.heap.size W2).setCell _ _).setCell _ _)) (by show ¬ (w.heap.size + 1 + 1 = w.heap.size); omega)
  have HO3 : Hid (OpAt ((W2.setCell ⟨w.heap.size, 0, none⟩ (.slice a1 fs.length cap1)).setCell ⟨w.heap.size, 2, none⟩ (.int .i64 (k + 1))) (w.heap.size + 1) op 48) := Blk.keeps (S := fun k => k = w.heap.size) HO2.out (Keeps.but (((But.refl w.heap.size W2).setCell _ _).setCell _ _)) (by show ¬ (w.heap.size + 1 = w.heap.size); omega)
  have HF3 : Hid (FilesIn ((W2.setCell ⟨w.heap.size, 0, none⟩ (.slice a1 fs.length cap1)).setCell ⟨w.heap.size, 2, none⟩ (.int .i64 (k + 1))) a1 fs) := files_set (files_set HFI.out (fun b o e => by have := HAP.out b o e; show w.heap.size < b; omega) _) (fun b o e => by have := HAP.out b o e; show w.heap.size < b; omega) _
  have HB3 : Hid (Below w.heap.size w ((W2.setCell ⟨w.heap.size, 0, none⟩ (.slice a1 fs.length cap1)).setCell ⟨w.heap.size, 2, none⟩ (.int .i64 (k + 1)))) := (HB2.out.setCell (by simp) _).setCell (by simp) _
  obtain ⟨z0, z1, z2, z3, z4⟩ := HO2.out.cells
  have HDO : Hid (∀ W, Asked W a1 fs c op → Calls Tryz.prog 35 #[.agg #[.slice a1 fs.length cap1, .int .i64 c, .int .i64 (k + 1), .int .i64 cr, .int .i64 0, .bool false], .agg #[.int .i64 op.kind, .string op.name, .string op.to, .string op.data, .int .i64 op.size]] W fun e w' => ∃ a' cap', e = .returned (.tuple #[.slice a' (doR fs c op).2.length cap', .int .i64 (doR fs c op).1]) ∧ FilesIn w' a' (doR fs c op).2 ∧ Below W.heap.size W w') := fun W h => by
    have h2 := l1Do_any W a1 cap1 fs c (k + 1) cr 0 false op h HKB2.out
    unfold Does at h2
    exact h2
  have y2 := hdk2.free 2
  have y5 := hdk2.free 5
  clear hb1 hdk hop hR hbel hrun hfi hb2 hap hdk2
  have hk := HK5.out
  have hk5b : (op.kind == 5) = false := by simpa using hk
  go_wp2_with fail
  refine (between_is HKB.out _).mono ?_
  rintro e w3 ⟨rfl, rfl⟩
  go_wp2_with fail
  refine (l1FileName_is HNM.out _ hn).mono ?_
  rintro e w3 ⟨rfl, rfl⟩
  clear o1 o2 o3 o4
  go_wp2_with (at_builtin; refine Lib.wpList_append_run _ rfl _ _ _ _ rfl _ _ rfl rfl _ _ HRUN.out ?_)
  refine (HDO.out _ ⟨HF3.out, HASC.out, hl1000, hsc, hc1x, hdata⟩).mono ?_
  rintro e w5 ⟨a5, cap5, rfl, hf5, hb5⟩
  have hdk5 := Blk.later HD3.out hb5
  have hr5 := Blk.later HR3.out hb5
  have HF5 : Hid (FilesIn w5 a5 (doR fs c op).2) := hf5
  have HB5 : Hid (Below w.heap.size w w5) := bto HB3.out hb5
  have HX1 : Hid ((doR fs c op).2 = [] ∨ ∀ b o, a5 = some ⟨b, o, none⟩ → b ≠ w.heap.size) := files_off hf5 hdk5
  have HX2 : Hid ((doR fs c op).2 = [] ∨ ∀ b o, a5 = some ⟨b, o, none⟩ → b ≠ w.heap.size + 1 + 1) := files_off hf5 hr5
  clear d0 d1 d2 d3 d4 d5 y0 y2 y5 z0 z1 z2 z3 z4
  have d0 := hdk5.cell 0
  have d1 := hdk5.cell 1
  have d2 := hdk5.cell 2
  have d3 := hdk5.cell 3
  have d4 := hdk5.cell 4
  have d5 := hdk5.cell 5
  have r0 := hr5.cell 0
  have r1 := hr5.cell 1
  have r2 := hr5.cell 2
  have r3 := hr5.cell 3
  have r4 := hr5.cell 4
  have r5 := hr5.cell 5
  simp only [List.getElem?_toArray, List.getElem?_cons_zero, List.getElem?_cons_succ] at d0 d1 d2 d3 d4 d5 r0 r1 r2 r3 r4 r5
  have y0 := hdk5.free 0
  have q0 := hr5.free 0
  have q1 := hr5.free 1
  have q2 := hr5.free 2
  have q3 := hr5.free 3
  have q4 := hr5.free 4
  have q5 := hr5.free 5
  clear hdk5 hr5 hf5 hb5
  generalize hdo : doR fs c op = R at *
  obtain ⟨code, fs'⟩ := R
  go_wp2
  refine bodyPost_ret (v := .tuple #[.agg #[.slice a5 fs'.length cap5, .int .i64 c, .int .i64 (k + 1), .int .i64 cr, .int .i64 0, .bool false], .int .i64 code]) (by simp [results, Tryz.results17, go_sem, r0, r1, r2, r3, r4, r5]) rfl ?_
  rw [EO.out]
  refine ⟨a5, cap5, rfl, ?_, ?_⟩
  · have h := HF5.out
    repeat (refine files_set2 ?_ (by first | exact HX2.out | exact HX1.out) _)
    exact h
  · have h := HB5.out
    repeat (refine Below.setCell ?_ (by first | (simp; done) | (simp; omega)) _)
    exact h
set_option maxRecDepth 100000 in
set_option maxHeartbeats 2000000 in
theorem sdo1ne (w : World) (a : Option Addr) (cap : Nat) (fs : List FileD) (c k cr fl : Int) (dn : Bool) (op : OpD) (h : Given w a fs op) (hq : diskB fs c k cr fl = true) (hk : op.kind ≠ 5) (ho : opB op = true) (hdn : dn = false) (hm : k ≠ 1000000000000000) (hcr : cr ≠ 0) (hcr2 : ¬ k + 1 = cr) (hfl : fl ≠ 0) (hfl2 : ¬ k + 1 = fl) : Specs w a cap fs c k cr fl dn op := by
  unfold Specs
  have HF : Hid (FilesIn w a fs) := h.files
  have hs := h.short
  have hlen := h.len
  have hsum := h.sum
  have hn := h.name
  have ht := h.to
  have hdata := h.data
  have hml : fs.length ≤ maxLen := by simp [maxLen]; omega
  have HQ : Hid (diskB fs c k cr fl = true) := hq
  have HNM : Hid (nameB op.name = true) := by show _ = _; simp only [opB, Bool.and_eq_true] at ho; exact ho.1.2
  obtain ⟨hfb, hl1000, hc0, hc1x, hsc, hk0, hk1, _⟩ := files_of_disk hq
  have HKB : Hid (btwB op.kind 1 6 = true) := by show _ = _; simp only [opB, Bool.and_eq_true] at ho; exact ho.1.1
  have HK5 : Hid (¬ op.kind = 5) := hk
  subst hdn
  have hm1 : (k == 1000000000000000) = false := by simpa using hm
  have hc1 : decide (cr = 0) = false := by simpa using hcr
  have hc3 : (k + 1 == cr) = false := by simpa using hcr2
  have hf1 : decide (fl = 0) = false := by simpa using hfl
  have hf3 : (k + 1 == fl) = false := by simpa using hfl2
  have EO : Hid (outR fs c k cr fl false op = ((doR fs c op).1, (doR fs c op).2, c, k + 1, cr, fl, false)) := out_done hq ho (by simp [chargeR, hm, hcr, hcr2, hfl, hfl2])
  have hw1 : IntKind.i64.wrap (k + 1) = k + 1 := by rw [IntKind.wrap_i64]; omega
  have HASC : Hid (Asc fs) := asc_of hfb
  have HKB2 : Hid (btwB op.kind 1 6 = true) := by show _ = _; simp only [opB, Bool.and_eq_true] at ho; exact ho.1.1
  clear h hq hk ho hfb
  go_enter Tryz.func17, Tryz.ntmps17
  go_wp2_with fail
  refine (specValid_is HQ.out _ (((HF.out.later (bnew _ _)).later (bnew _ _)).later (bnew _ _)) hs hml hsum).mono ?_
  rintro e w1 ⟨rfl, hb1⟩
  obtain ⟨hdk, hop, hR, hbel⟩ := three_boxes hb1
  obtain ⟨o0, o1, o2, o3, o4⟩ := OpAt.cells hop
  have x0 := hdk.cell 0
  simp only [List.getElem?_toArray, List.getElem?_cons_zero] at x0
  have hRlt : w.heap.size + 1 + 1 < w1.heap.size := lt_of_block hR
  have hn1 : w.heap.size < w1.heap.size := by omega
  have hn2 : ¬ w.heap.size = w1.heap.size := by omega
  obtain ⟨a1, cap1, W2, hrun, hfi, hb2, hap⟩ := copy_run w1 a cap fs (HF.out.later hbel) hlen
  have HRUN : Hid ((Builtin.append_ #[28, 28] 28 #[.slice (some ⟨w1.heap.size, 0, none⟩) 0 0, .slice a fs.length cap]).run Tryz.prog (w1.alloc (.cells #[] 71)) = .ok (.slice a1 fs.length cap1) W2) := hrun
  have HFI : Hid (FilesIn W2 a1 fs) := hfi
  have HAP : Hid (∀ b o, a1 = some ⟨b, o, none⟩ → w1.heap.size ≤ b) := hap
  have hdk2 : Blk W2 w.heap.size #[.slice a fs.length cap, .int .i64 c, .int .i64 k, .int .i64 cr, .int .i64 fl, .bool false] 30 := hdk.later hb2
  have HR2 : Hid (Blk W2 (w.heap.size + 1 + 1) #[.slice none 0 0, .int .i64 0, .int .i64 0, .int .i64 0, .int .i64 0, .bool false] 30) := hR.later hb2
  have HO2 : Hid (OpAt W2 (w.heap.size + 1) op 48) := Blk.later hop hb2
  have HB2 : Hid (Below w.heap.size w W2) := bto hbel hb2
  have d0 := hdk2.cell 0
  have d1 := hdk2.cell 1
  have d2 := hdk2.cell 2
  have d3 := hdk2.cell 3
  have d4 := hdk2.cell 4
  have d5 := hdk2.cell 5
  simp only [List.getElem?_toArray, List.getElem?_cons_zero, List.getElem?_cons_succ] at d0 d1 d2 d3 d4 d5
  have y0 := hdk2.free 0
  have HD3 : Hid (DiskAt ((W2.setCell ⟨w.heap.size, 0, none⟩ (.slice a1 fs.length cap1)).setCell ⟨w.heap.size, 2, none⟩ (.int .i64 (k + 1))) w.heap.size a1 fs.length cap1 c (k + 1) cr fl false) := by
    have h := (hdk2.set 0 (.slice a1 fs.length cap1)).set 2 (.int .i64 (k + 1))
    show Blk _ _ _ _
    simpa using h
  have HR3 : Hid (DiskAt ((W2.setCell ⟨w.heap.size, 0, none⟩ (.slice a1 fs.length cap1)).setCell ⟨w.heap.size, 2, none⟩ (.int .i64 (k + 1))) (w.heap.size + 1 + 1) none 0 0 0 0 0 0 false) := Blk.keeps (S := fun k => k = w.heap.size) HR2.out (Keeps.but (((But.refl w.heap.size W2).setCell _ _).setCell _ _)) (by show ¬ (w.heap.size + 1 + 1 = w.heap.size); omega)
  have HO3 : Hid (OpAt ((W2.setCell ⟨w.heap.size, 0, none⟩ (.slice a1 fs.length cap1)).setCell ⟨w.heap.size, 2, none⟩ (.int .i64 (k + 1))) (w.heap.size + 1) op 48) := Blk.keeps (S := fun k => k = w.heap.size) HO2.out (Keeps.but (((But.refl w.heap.size W2).setCell _ _).setCell _ _)) (by show ¬ (w.heap.size + 1 = w.heap.size); omega)
  have HF3 : Hid (FilesIn ((W2.setCell ⟨w.heap.size, 0, none⟩ (.slice a1 fs.length cap1)).setCell ⟨w.heap.size, 2, none⟩ (.int .i64 (k + 1))) a1 fs) := files_set (files_set HFI.out (fun b o e => by have := HAP.out b o e; show w.heap.size < b; omega) _) (fun b o e => by have := HAP.out b o e; show w.heap.size < b; omega) _
  have HB3 : Hid (Below w.heap.size w ((W2.setCell ⟨w.heap.size, 0, none⟩ (.slice a1 fs.length cap1)).setCell ⟨w.heap.size, 2, none⟩ (.int .i64 (k + 1)))) := (HB2.out.setCell (by simp) _).setCell (by simp) _
  obtain ⟨z0, z1, z2, z3, z4⟩ := HO2.out.cells
  have HDO : Hid (∀ W, Asked W a1 fs c op → Calls Tryz.prog 35 #[.agg #[.slice a1 fs.length cap1, .int .i64 c, .int .i64 (k + 1), .int .i64 cr, .int .i64 fl, .bool false], .agg #[.int .i64 op.kind, .string op.name, .string op.to, .string op.data, .int .i64 op.size]] W fun e w' => ∃ a' cap', e = .returned (.tuple #[.slice a' (doR fs c op).2.length cap', .int .i64 (doR fs c op).1]) ∧ FilesIn w' a' (doR fs c op).2 ∧ Below W.heap.size W w') := fun W h => by
    have h2 := l1Do_any W a1 cap1 fs c (k + 1) cr fl false op h HKB2.out
    unfold Does at h2
    exact h2
  have y2 := hdk2.free 2
  have y5 := hdk2.free 5
  clear hb1 hdk hop hR hbel hrun hfi hb2 hap hdk2
  have hk := HK5.out
  have hk5b : (op.kind == 5) = false := by simpa using hk
  go_wp2_with fail
  refine (between_is HKB.out _).mono ?_
  rintro e w3 ⟨rfl, rfl⟩
  go_wp2_with fail
  refine (l1FileName_is HNM.out _ hn).mono ?_
  rintro e w3 ⟨rfl, rfl⟩
  clear o1 o2 o3 o4
  go_wp2_with (at_builtin; refine Lib.wpList_append_run _ rfl _ _ _ _ rfl _ _ rfl rfl _ _ HRUN.out ?_)
  refine (HDO.out _ ⟨HF3.out, HASC.out, hl1000, hsc, hc1x, hdata⟩).mono ?_
  rintro e w5 ⟨a5, cap5, rfl, hf5, hb5⟩
  have hdk5 := Blk.later HD3.out hb5
  have hr5 := Blk.later HR3.out hb5
  have HF5 : Hid (FilesIn w5 a5 (doR fs c op).2) := hf5
  have HB5 : Hid (Below w.heap.size w w5) := bto HB3.out hb5
  have HX1 : Hid ((doR fs c op).2 = [] ∨ ∀ b o, a5 = some ⟨b, o, none⟩ → b ≠ w.heap.size) := files_off hf5 hdk5
  have HX2 : Hid ((doR fs c op).2 = [] ∨ ∀ b o, a5 = some ⟨b, o, none⟩ → b ≠ w.heap.size + 1 + 1) := files_off hf5 hr5
  clear d0 d1 d2 d3 d4 d5 y0 y2 y5 z0 z1 z2 z3 z4
  have d0 := hdk5.cell 0
  have d1 := hdk5.cell 1
  have d2 := hdk5.cell 2
  have d3 := hdk5.cell 3
  have d4 := hdk5.cell 4
  have d5 := hdk5.cell 5
  have r0 := hr5.cell 0
  have r1 := hr5.cell 1
  have r2 := hr5.cell 2
  have r3 := hr5.cell 3
  have r4 := hr5.cell 4
  have r5 := hr5.cell 5
  simp only [List.getElem?_toArray, List.getElem?_cons_zero, List.getElem?_cons_succ] at d0 d1 d2 d3 d4 d5 r0 r1 r2 r3 r4 r5
  have y0 := hdk5.free 0
  have q0 := hr5.free 0
  have q1 := hr5.free 1
  have q2 := hr5.free 2
  have q3 := hr5.free 3
  have q4 := hr5.free 4
  have q5 := hr5.free 5
  clear hdk5 hr5 hf5 hb5
  generalize hdo : doR fs c op = R at *
  obtain ⟨code, fs'⟩ := R
  go_wp2
  refine bodyPost_ret (v := .tuple #[.agg #[.slice a5 fs'.length cap5, .int .i64 c, .int .i64 (k + 1), .int .i64 cr, .int .i64 fl, .bool false], .int .i64 code]) (by simp [results, Tryz.results17, go_sem, r0, r1, r2, r3, r4, r5]) rfl ?_
  rw [EO.out]
  refine ⟨a5, cap5, rfl, ?_, ?_⟩
  · have h := HF5.out
    repeat (refine files_set2 ?_ (by first | exact HX2.out | exact HX1.out) _)
    exact h
  · have h := HB5.out
    repeat (refine Below.setCell ?_ (by first | (simp; done) | (simp; omega)) _)
    exact h
end Go.Proofs.YtboofidegpnkaaaGreatDoor
