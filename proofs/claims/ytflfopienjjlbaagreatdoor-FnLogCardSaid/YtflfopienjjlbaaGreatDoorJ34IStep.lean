import Derived.Test.YtflfopienjjlbaaGreatDoorProg
import Derived.Test.YtflfopienjjlbaaGreatDoorJ16StepL
import Derived.Test.YtflfopienjjlbaaGreatDoorJ33Prop
namespace Go.Proofs.YtflfopienjjlbaaGreatDoor
open Go.RowKit

theorem opProper_is {op : OpD} {b : Bool} (h : opB op = b) (w : World) (hn : op.name.size ≤ maxLen) (ht : op.to.size ≤ maxLen) :
    Calls Tryz.prog 48 #[.agg #[.int .i64 op.kind, .string op.name, .string op.to, .string op.data, .int .i64 op.size]] w fun e w' => e = .returned (.bool b) ∧ Below w.heap.size w w' := h ▸ opProper_any op w hn ht

set_option maxRecDepth 100000 in
set_option maxHeartbeats 1000000 in
theorem implStep_bad (a : Option Addr) (cap : Nat) (fs : List FileD) (c k cr fl : Int) (dn : Bool) (op : OpD) (w : World) (hf : FilesIn w a fs) (hs : Short fs) (hlen : fs.length ≤ maxLen) (hsum : sumLen fs ≤ 1000000000) (hn : op.name.size ≤ maxLen) (ht : op.to.size ≤ maxLen) (hd : (diskB fs c k cr fl && opB op) = false) :
    Calls Tryz.prog 21 #[.agg #[.slice a fs.length cap, .int .i64 c, .int .i64 k, .int .i64 cr, .int .i64 fl, .bool dn], .agg #[.int .i64 op.kind, .string op.name, .string op.to, .string op.data, .int .i64 op.size]] w fun e w' =>
      e = .returned (.tuple #[.agg #[.slice none 0 0, .int .i64 0, .int .i64 0, .int .i64 0, .int .i64 0, .bool false], .int .i64 6]) ∧ Below w.heap.size w w' := by
  have HF : Hid (FilesIn w a fs) := hf
  clear hf
  cases hq : diskB fs c k cr fl with
  | false =>
    have HQ : Hid (diskB fs c k cr fl = false) := hq
    clear hd hq
    go_enter Tryz.func21, Tryz.ntmps21
    go_wp2_with fail
    refine (implValid_is HQ.out _ (((HF.out.later (bnew _ _)).later (bnew _ _)).later (bnew _ _)) hs hlen hsum).mono ?_
    rintro e w1 ⟨rfl, hb1⟩
    obtain ⟨_, _, hR, hbel⟩ := three_boxes hb1
    have r0 := hR.cell 0
    have r1 := hR.cell 1
    have r2 := hR.cell 2
    have r3 := hR.cell 3
    have r4 := hR.cell 4
    have r5 := hR.cell 5
    simp only [List.getElem?_toArray, List.getElem?_cons_zero, List.getElem?_cons_succ] at r0 r1 r2 r3 r4 r5
    have q0 := hR.free 0
    have q1 := hR.free 1
    have q2 := hR.free 2
    have q3 := hR.free 3
    have q4 := hR.free 4
    have q5 := hR.free 5
    have HB : Hid (Below w.heap.size w w1) := hbel
    clear hb1 hbel hR
    go_wp2
    refine bodyPost_ret (v := .tuple #[.agg #[.slice none 0 0, .int .i64 0, .int .i64 0, .int .i64 0, .int .i64 0, .bool false], .int .i64 6]) (by simp [results, Tryz.results21, go_sem, r0, r1, r2, r3, r4, r5]) rfl ⟨rfl, ?_⟩
    have h := HB.out
    iterate 6 (refine Below.setCell ?_ (by first | (simp; done) | (simp; omega)) _)
    exact h
  | true =>
    have HQ : Hid (diskB fs c k cr fl = true) := hq
    have HO : Hid (opB op = false) := by show _ = _; rw [hq] at hd; simpa using hd
    clear hd hq
    go_enter Tryz.func21, Tryz.ntmps21
    go_wp2_with fail
    refine (implValid_is HQ.out _ (((HF.out.later (bnew _ _)).later (bnew _ _)).later (bnew _ _)) hs hlen hsum).mono ?_
    rintro e w1 ⟨rfl, hb1⟩
    obtain ⟨_, hO, hR, hbel⟩ := three_boxes hb1
    have o0 := hO.cell 0
    have o1 := hO.cell 1
    have o2 := hO.cell 2
    have o3 := hO.cell 3
    have o4 := hO.cell 4
    simp only [List.getElem?_toArray, List.getElem?_cons_zero, List.getElem?_cons_succ] at o0 o1 o2 o3 o4
    have HR : Hid (Blk w1 (w.heap.size + 1 + 1) #[.slice none 0 0, .int .i64 0, .int .i64 0, .int .i64 0, .int .i64 0, .bool false] 28) := hR
    have HB : Hid (Below w.heap.size w w1) := hbel
    clear hb1 hbel hR hO
    go_wp2_with fail
    refine (opProper_is HO.out _ hn ht).mono ?_
    rintro e w2 ⟨rfl, hb2⟩
    have hR := HR.out.later hb2
    have r0 := hR.cell 0
    have r1 := hR.cell 1
    have r2 := hR.cell 2
    have r3 := hR.cell 3
    have r4 := hR.cell 4
    have r5 := hR.cell 5
    simp only [List.getElem?_toArray, List.getElem?_cons_zero, List.getElem?_cons_succ] at r0 r1 r2 r3 r4 r5
    have q0 := hR.free 0
    have q1 := hR.free 1
    have q2 := hR.free 2
    have q3 := hR.free 3
    have q4 := hR.free 4
    have q5 := hR.free 5
    have HB2 : Hid (Below w.heap.size w w2) := bto HB.out hb2
    clear hb2 hR o0 o1 o2 o3 o4
    go_wp2
    refine bodyPost_ret (v := .tuple #[.agg #[.slice none 0 0, .int .i64 0, .int .i64 0, .int .i64 0, .int .i64 0, .bool false], .int .i64 6]) (by simp [results, Tryz.results21, go_sem, r0, r1, r2, r3, r4, r5]) rfl ⟨rfl, ?_⟩
    have h := HB2.out
    iterate 6 (refine Below.setCell ?_ (by first | (simp; done) | (simp; omega)) _)
    exact h

set_option maxRecDepth 100000 in
set_option maxHeartbeats 2000000 in
theorem implStep_ok (a : Option Addr) (cap : Nat) (fs : List FileD) (c k cr fl : Int) (dn : Bool) (op : OpD) (w : World) (hf : FilesIn w a fs) (hs : Short fs) (hlen : fs.length ≤ maxLen) (hsum : sumLen fs ≤ 1000000000) (hn : op.name.size ≤ maxLen) (ht : op.to.size ≤ maxLen) (hd : diskB fs c k cr fl = true) (ho : opB op = true) :
    Calls Tryz.prog 21 #[.agg #[.slice a fs.length cap, .int .i64 c, .int .i64 k, .int .i64 cr, .int .i64 fl, .bool dn], .agg #[.int .i64 op.kind, .string op.name, .string op.to, .string op.data, .int .i64 op.size]] w fun e w' =>
      ∃ a' cap', e = .returned (.tuple #[.agg #[.slice a' (stepR fs c k cr fl dn op).2.1.length cap', .int .i64 c, .int .i64 (stepR fs c k cr fl dn op).2.2.1, .int .i64 cr, .int .i64 fl, .bool (stepR fs c k cr fl dn op).2.2.2], .int .i64 (stepR fs c k cr fl dn op).1]) ∧
        Owned w' w.heap.size a' (stepR fs c k cr fl dn op).2.1 ∧ Below w.heap.size w w' := by
  obtain ⟨hfb, hl1000, hc0, hc1, hsc, hk0, hk1, _⟩ := files_of_disk hd
  have HF : Hid (FilesIn w a fs) := hf
  have HQ : Hid (diskB fs c k cr fl = true) := hd
  have HO : Hid (opB op = true) := ho
  have HA : Hid (Asc fs) := asc_of hfb
  have HKB : Hid (btwB op.kind 1 6 = true) := by show _ = _; simp only [opB, Bool.and_eq_true] at ho; exact ho.1.1
  clear hf hd ho hfb
  go_enter Tryz.func21, Tryz.ntmps21
  go_wp2_with fail
  refine (implValid_is HQ.out _ (((HF.out.later (bnew _ _)).later (bnew _ _)).later (bnew _ _)) hs hlen hsum).mono ?_
  rintro e w1 ⟨rfl, hb1⟩
  obtain ⟨hDk, hOp, hR, hbel⟩ := three_boxes hb1
  have o0 := hOp.cell 0
  have o1 := hOp.cell 1
  have o2 := hOp.cell 2
  have o3 := hOp.cell 3
  have o4 := hOp.cell 4
  simp only [List.getElem?_toArray, List.getElem?_cons_zero, List.getElem?_cons_succ] at o0 o1 o2 o3 o4
  have H1 : Hid (Blk w1 w.heap.size #[.slice a fs.length cap, .int .i64 c, .int .i64 k, .int .i64 cr, .int .i64 fl, .bool dn] 28 ∧ Blk w1 (w.heap.size + 1) #[.int .i64 op.kind, .string op.name, .string op.to, .string op.data, .int .i64 op.size] 52 ∧ Blk w1 (w.heap.size + 1 + 1) #[.slice none 0 0, .int .i64 0, .int .i64 0, .int .i64 0, .int .i64 0, .bool false] 28 ∧ Below w.heap.size w w1) := ⟨hDk, hOp, hR, hbel⟩
  clear hb1 hbel hR hOp hDk
  go_wp2_with fail
  refine (opProper_is HO.out _ hn ht).mono ?_
  rintro e w2 ⟨rfl, hb2⟩
  have H2 : Hid (Blk w2 w.heap.size #[.slice a fs.length cap, .int .i64 c, .int .i64 k, .int .i64 cr, .int .i64 fl, .bool dn] 28 ∧ Blk w2 (w.heap.size + 1) #[.int .i64 op.kind, .string op.name, .string op.to, .string op.data, .int .i64 op.size] 52 ∧ Blk w2 (w.heap.size + 1 + 1) #[.slice none 0 0, .int .i64 0, .int .i64 0, .int .i64 0, .int .i64 0, .bool false] 28 ∧ Below w.heap.size w w2) := ⟨H1.out.1.later hb2, H1.out.2.1.later hb2, H1.out.2.2.1.later hb2, bto H1.out.2.2.2 hb2⟩
  have x0 := H2.out.1.cell 0
  have x1 := H2.out.1.cell 1
  have x2 := H2.out.1.cell 2
  have x3 := H2.out.1.cell 3
  have x4 := H2.out.1.cell 4
  have x5 := H2.out.1.cell 5
  simp only [List.getElem?_toArray, List.getElem?_cons_zero, List.getElem?_cons_succ] at x0 x1 x2 x3 x4 x5
  clear hb2 H1 o0 o1 o2 o3 o4
  go_wp2_with fail
  refine (mount_any a cap fs c k cr fl dn _ (HF.out.later H2.out.2.2.2) (by omega)).mono ?_
  rintro e w3 ⟨D, v, rfl, hdr, hb3⟩
  have H3 : Hid (Blk w3 (w.heap.size + 1) #[.int .i64 op.kind, .string op.name, .string op.to, .string op.data, .int .i64 op.size] 52 ∧ Blk w3 (w.heap.size + 1 + 1) #[.slice none 0 0, .int .i64 0, .int .i64 0, .int .i64 0, .int .i64 0, .bool false] 28 ∧ Below w.heap.size w w3) := ⟨H2.out.2.1.later hb3, H2.out.2.2.1.later hb3, bto H2.out.2.2.2 hb3⟩
  have hRlt : w.heap.size + 1 + 1 < w2.heap.size := lt_of_block H2.out.2.2.1
  have HRD : Hid (Ready w3 w2.heap.size D fs c k cr fl dn v op) := ⟨hdr, HA.out, hl1000, hsc, hc1, hk0, hk1⟩
  have o0 := H3.out.1.cell 0
  have o1 := H3.out.1.cell 1
  have o2 := H3.out.1.cell 2
  have o3 := H3.out.1.cell 3
  have o4 := H3.out.1.cell 4
  simp only [List.getElem?_toArray, List.getElem?_cons_zero, List.getElem?_cons_succ] at o0 o1 o2 o3 o4
  clear x0 x1 x2 x3 x4 x5 hdr hb3 H2
  go_wp2_with fail
  refine (step_any w3 w2.heap.size D fs c k cr fl dn v op HRD.out HKB.out).mono ?_
  rintro e w4 ⟨rfl, hb4, _, v4, hdr4, _⟩
  have hcode := stepR_code fs c k cr fl dn op
  generalize hSR : stepR fs c k cr fl dn op = R at *
  obtain ⟨code, fs', k', dn'⟩ := R
  have HSR : Hid (stepR fs c k cr fl dn op = (code, fs', k', dn')) := hSR
  clear hSR
  have H4 : Hid (Blk w4 (w.heap.size + 1 + 1) #[.slice none 0 0, .int .i64 0, .int .i64 0, .int .i64 0, .int .i64 0, .bool false] 28 ∧ Below w.heap.size w w4) := ⟨(hb4.block _ hRlt).trans H3.out.2.1, H3.out.2.2.trans (hb4.mono (by omega))⟩
  have hcd : code ≤ 6 := hcode
  obtain ⟨a4, cap4, rfl, hown4⟩ := owned_of_row hdr4.row
  have H5 : Hid (Owned w4 w2.heap.size a4 fs') := hown4
  have H6 : Hid (Blk w4 D #[.int .i64 k', .int .i64 cr, .int .i64 fl, .bool dn', .slice a4 fs'.length cap4, .int .i64 c] 88) := hdr4.blk
  clear hb4 hdr4 hown4 o0 o1 o2 o3 o4 H3 HRD hcode
  go_wp2_with fail
  refine (unmount_any D 88 a4 fs'.length cap4 c k' cr fl dn' _ H6.out).mono ?_
  rintro e w5 ⟨rfl, hb5⟩
  have H7 : Hid (Blk w5 (w.heap.size + 1 + 1) #[.slice none 0 0, .int .i64 0, .int .i64 0, .int .i64 0, .int .i64 0, .bool false] 28 ∧ Below w.heap.size w w5 ∧ Owned w5 w2.heap.size a4 fs') := ⟨H4.out.1.later hb5, bto H4.out.2 hb5, H5.out.later hb5⟩
  clear hb5 H4 H5 H6
  go_wp2_with fail
  refine (code_any code hcd _).mono ?_
  rintro e w6 ⟨rfl, rfl⟩
  have hR := H7.out.1
  have r0 := hR.cell 0
  have r1 := hR.cell 1
  have r2 := hR.cell 2
  have r3 := hR.cell 3
  have r4 := hR.cell 4
  have r5 := hR.cell 5
  simp only [List.getElem?_toArray, List.getElem?_cons_zero, List.getElem?_cons_succ] at r0 r1 r2 r3 r4 r5
  have q0 := hR.free 0
  have q1 := hR.free 1
  have q2 := hR.free 2
  have q3 := hR.free 3
  have q4 := hR.free 4
  have q5 := hR.free 5
  clear hR
  go_wp2
  refine bodyPost_ret (v := .tuple #[.agg #[.slice a4 fs'.length cap4, .int .i64 c, .int .i64 k', .int .i64 cr, .int .i64 fl, .bool dn'], .int .i64 code]) (by simp [results, Tryz.results21, go_sem, r0, r1, r2, r3, r4, r5]) rfl ?_
  rw [HSR.out]
  refine ⟨a4, cap4, rfl, ?_, ?_⟩
  · have h := H7.out.2.2
    refine Owned.mono (B := w2.heap.size) ?_ (by omega)
    iterate 6 (refine Owned.set_below ?_ (by exact hRlt) _)
    exact h
  · have h := H7.out.2.1
    iterate 6 (refine Below.setCell ?_ (by first | (simp; done) | (simp; omega)) _)
    exact h

theorem implStep_any (a : Option Addr) (cap : Nat) (fs : List FileD) (c k cr fl : Int) (dn : Bool) (op : OpD) (w : World) (hf : FilesIn w a fs) (hs : Short fs) (hlen : fs.length ≤ maxLen) (hsum : sumLen fs ≤ 1000000000) (hn : op.name.size ≤ maxLen) (ht : op.to.size ≤ maxLen) :
    Calls Tryz.prog 21 #[.agg #[.slice a fs.length cap, .int .i64 c, .int .i64 k, .int .i64 cr, .int .i64 fl, .bool dn], .agg #[.int .i64 op.kind, .string op.name, .string op.to, .string op.data, .int .i64 op.size]] w fun e w' =>
      ∃ a' cap', e = .returned (outV (outR fs c k cr fl dn op) a' cap') ∧ Owned w' w.heap.size a' (outR fs c k cr fl dn op).2.1 ∧ Below w.heap.size w w' := by
  by_cases hq : (diskB fs c k cr fl && opB op) = true
  · have E : outR fs c k cr fl dn op = ((stepR fs c k cr fl dn op).1, (stepR fs c k cr fl dn op).2.1, c, (stepR fs c k cr fl dn op).2.2.1, cr, fl, (stepR fs c k cr fl dn op).2.2.2) := if_pos hq
    rw [E]
    simp only [Bool.and_eq_true] at hq
    exact implStep_ok a cap fs c k cr fl dn op w hf hs hlen hsum hn ht hq.1 hq.2
  · have E : outR fs c k cr fl dn op = (6, [], 0, 0, 0, 0, false) := if_neg hq
    rw [E]
    refine (implStep_bad a cap fs c k cr fl dn op w hf hs hlen hsum hn ht (by simpa using hq)).mono ?_
    rintro e w' ⟨rfl, hb⟩
    exact ⟨none, 0, rfl, Or.inl rfl, hb⟩
end Go.Proofs.YtflfopienjjlbaaGreatDoor

