import Derived.Test.YtboofidegpnkaaaProg
import Derived.Test.YtboofidegpnkaaaJ22SStep4
import Derived.Test.YtboofidegpnkaaaJ08Del
import Derived.Test.YtboofidegpnkaaaJ18StepL
import Derived.Test.YtboofidegpnkaaaJ05Clone
namespace Go.Proofs.Ytboofidegpnkaaa
open Go.RowKit

theorem specStep_any (w : World) (a : Option Addr) (cap : Nat) (fs : List FileD) (c k cr fl : Int) (dn : Bool) (op : OpD) (h : Given w a fs op) : Specs w a cap fs c k cr fl dn op := by
  cases hq : diskB fs c k cr fl with
  | false => exact sbad_disk w a cap fs c k cr fl dn op h hq
  | true =>
    by_cases ho : opB op = true
    · by_cases hk : op.kind = 5
      · cases hdn : dn with
        | true => exact sdown5 w a cap fs c k cr fl true op h hq hk ho rfl
        | false =>
          by_cases hm : k = 1000000000000000
          · exact smax5 w a cap fs c k cr fl false op h hq hk ho rfl hm
          by_cases hc : cr = 0
          · by_cases hf : fl = 0
            · exact sdo005 w a cap fs c k cr fl false op h hq hk ho rfl hm hc hf
            by_cases hf2 : k + 1 = fl
            · exact sfl05 w a cap fs c k cr fl false op h hq hk ho rfl hm hc hf hf2
            · exact sdo105 w a cap fs c k cr fl false op h hq hk ho rfl hm hc hf hf2
          by_cases hc2 : k + 1 = cr
          · exact scr5 w a cap fs c k cr fl false op h hq hk ho rfl hm hc hc2
          by_cases hf : fl = 0
          · exact sdo0ne5 w a cap fs c k cr fl false op h hq hk ho rfl hm hc hc2 hf
          by_cases hf2 : k + 1 = fl
          · exact sflne5 w a cap fs c k cr fl false op h hq hk ho rfl hm hc hc2 hf hf2
          · exact sdo1ne5 w a cap fs c k cr fl false op h hq hk ho rfl hm hc hc2 hf hf2
      · cases hdn : dn with
        | true => exact sdown w a cap fs c k cr fl true op h hq hk ho rfl
        | false =>
          by_cases hm : k = 1000000000000000
          · exact smax w a cap fs c k cr fl false op h hq hk ho rfl hm
          by_cases hc : cr = 0
          · by_cases hf : fl = 0
            · exact sdo00 w a cap fs c k cr fl false op h hq hk ho rfl hm hc hf
            by_cases hf2 : k + 1 = fl
            · exact sfl0 w a cap fs c k cr fl false op h hq hk ho rfl hm hc hf hf2
            · exact sdo10 w a cap fs c k cr fl false op h hq hk ho rfl hm hc hf hf2
          by_cases hc2 : k + 1 = cr
          · exact scr w a cap fs c k cr fl false op h hq hk ho rfl hm hc hc2
          by_cases hf : fl = 0
          · exact sdo0ne w a cap fs c k cr fl false op h hq hk ho rfl hm hc hc2 hf
          by_cases hf2 : k + 1 = fl
          · exact sflne w a cap fs c k cr fl false op h hq hk ho rfl hm hc hc2 hf hf2
          · exact sdo1ne w a cap fs c k cr fl false op h hq hk ho rfl hm hc hc2 hf hf2
    · cases hb : btwB op.kind 1 6 with
      | false => exact sbad_kind w a cap fs c k cr fl dn op h hq hb
      | true =>
        cases hn : nameB op.name with
        | false => exact sbad_name w a cap fs c k cr fl dn op h hq hb hn
        | true =>
          have hx : op.kind = 5 ∧ nameB op.to = false := by
            unfold opB at ho
            rw [hb, hn] at ho
            simp at ho
            exact ho
          exact sbad_to w a cap fs c k cr fl dn op h hq hx.1 hn hx.2
end Go.Proofs.Ytboofidegpnkaaa

namespace Go.Proofs.Ytboofidegpnkaaa
open Go.RowKit

set_option maxRecDepth 100000 in
set_option maxHeartbeats 1000000 in
theorem opProper_any (op : OpD) (w : World) (hn : op.name.size ≤ maxLen) (ht : op.to.size ≤ maxLen) :
    Calls Try.prog 20 #[.agg #[.int .i64 op.kind, .string op.name, .string op.to, .string op.data, .int .i64 op.size]] w fun e w' => e = .returned (.bool (opB op)) ∧ Below w.heap.size w w' := by
  have HB : Hid (Below w.heap.size w (w.alloc (.cells #[.int .i64 op.kind, .string op.name, .string op.to, .string op.data, .int .i64 op.size] 35))) := bnew _ _
  by_cases h1 : op.kind < 1
  · have E : Hid (opB op = false) := by show _ = _; simp [opB, btwB]; omega
    go_enter Try.func20, Try.ntmps20
    go_wp2
    go_ret
    exact ⟨ret_bool E.out.symm, HB.out⟩
  · by_cases h2 : 6 < op.kind
    · have E : Hid (opB op = false) := by show _ = _; simp [opB, btwB]; omega
      go_enter Try.func20, Try.ntmps20
      go_wp2
      go_ret
      exact ⟨ret_bool E.out.symm, HB.out⟩
    · cases hq : nameB op.name with
      | false =>
        have HQ : Hid (nameB op.name = false) := hq
        have E : Hid (opB op = false) := by show _ = _; simp [opB, hq]
        clear hq
        go_enter Try.func20, Try.ntmps20
        go_wp2_with fail
        refine (isFileName_is HQ.out _ hn).mono ?_
        rintro e w' ⟨rfl, rfl⟩
        go_wp2
        go_ret
        exact ⟨ret_bool E.out.symm, HB.out⟩
      | true =>
        have HQ : Hid (nameB op.name = true) := hq
        have hbt : btwB op.kind 1 6 = true := by simp [btwB]; omega
        by_cases h5 : op.kind = 5
        · have E : Hid (opB op = nameB op.to) := by show _ = _; unfold opB; rw [hbt, hq]; simp [h5]
          clear hq hbt
          go_enter Try.func20, Try.ntmps20
          go_wp2_with fail
          refine (isFileName_is HQ.out _ hn).mono ?_
          rintro e w' ⟨rfl, rfl⟩
          go_wp2_with fail
          refine (isFileName_any op.to _ ht).mono ?_
          rintro e w' ⟨rfl, rfl⟩
          go_wp2
          go_ret
          exact ⟨ret_bool E.out.symm, bnew _ _⟩
        · have E : Hid (opB op = true) := by show _ = _; simp [opB, hq, hbt, h5]
          have h5' : (op.kind == 5) = false := by simpa using h5
          clear hq hbt
          go_enter Try.func20, Try.ntmps20
          go_wp2_with fail
          refine (isFileName_is HQ.out _ hn).mono ?_
          rintro e w' ⟨rfl, rfl⟩
          go_wp2
          go_ret
          exact ⟨ret_bool E.out.symm, HB.out⟩
end Go.Proofs.Ytboofidegpnkaaa

namespace Go.Proofs.Ytboofidegpnkaaa
open Go.RowKit

theorem opProper_is {op : OpD} {b : Bool} (h : opB op = b) (w : World) (hn : op.name.size ≤ maxLen) (ht : op.to.size ≤ maxLen) :
    Calls Try.prog 20 #[.agg #[.int .i64 op.kind, .string op.name, .string op.to, .string op.data, .int .i64 op.size]] w fun e w' => e = .returned (.bool b) ∧ Below w.heap.size w w' := h ▸ opProper_any op w hn ht

set_option maxRecDepth 100000 in
set_option maxHeartbeats 1000000 in
theorem implStep_bad (a : Option Addr) (cap : Nat) (fs : List FileD) (c k cr fl : Int) (dn : Bool) (op : OpD) (w : World) (hf : FilesIn w a fs) (hs : Short fs) (hlen : fs.length ≤ maxLen) (hsum : sumLen fs ≤ 1000000000) (hn : op.name.size ≤ maxLen) (ht : op.to.size ≤ maxLen) (hd : (diskB fs c k cr fl && opB op) = false) :
    Calls Try.prog 9 #[.agg #[.slice a fs.length cap, .int .i64 c, .int .i64 k, .int .i64 cr, .int .i64 fl, .bool dn], .agg #[.int .i64 op.kind, .string op.name, .string op.to, .string op.data, .int .i64 op.size]] w fun e w' =>
      e = .returned (.tuple #[.agg #[.slice none 0 0, .int .i64 0, .int .i64 0, .int .i64 0, .int .i64 0, .bool false], .int .i64 6]) ∧ Below w.heap.size w w' := by
  have HF : Hid (FilesIn w a fs) := hf
  clear hf
  cases hq : diskB fs c k cr fl with
  | false =>
    have HQ : Hid (diskB fs c k cr fl = false) := hq
    clear hd hq
    go_enter Try.func9, Try.ntmps9
    go_wp2_with fail
    refine (implValid_is HQ.out _ (((HF.out.later (bnew _ _)).later (bnew _ _)).later (bnew _ _)) hs hlen hsum).mono ?_
    rintro e w1 ⟨rfl, hb1⟩
    obtain ⟨_, _, hR, hbel⟩ := three_boxes hb1
    have r0 := hR.cell 0
    have r1 := hR.cell 1
    have r2 := hR.cell 2
    have r3 := hR.cell 3
    have r4 := hR.cell 4
    have r5 := hR.cell 5
    simp only [List.getElem?_toArray, List.getElem?_cons_zero, List.getElem?_cons_succ] at r0 r1 r2 r3 r4 r5
    have q0 := hR.free 0
    have q1 := hR.free 1
    have q2 := hR.free 2
    have q3 := hR.free 3
    have q4 := hR.free 4
    have q5 := hR.free 5
    have HB : Hid (Below w.heap.size w w1) := hbel
    clear hb1 hbel hR
    go_wp2
    refine bodyPost_ret (v := .tuple #[.agg #[.slice none 0 0, .int .i64 0, .int .i64 0, .int .i64 0, .int .i64 0, .bool false], .int .i64 6]) (by simp [results, Try.results9, go_sem, r0, r1, r2, r3, r4, r5]) rfl ⟨rfl, ?_⟩
    have h := HB.out
    iterate 6 (refine Below.setCell ?_ (by first | (simp; done) | (simp; omega)) _)
    exact h
  | true =>
    have HQ : Hid (diskB fs c k cr fl = true) := hq
    have HO : Hid (opB op = false) := by show _ = _; rw [hq] at hd; simpa using hd
    clear hd hq
    go_enter Try.func9, Try.ntmps9
    go_wp2_with fail
    refine (implValid_is HQ.out _ (((HF.out.later (bnew _ _)).later (bnew _ _)).later (bnew _ _)) hs hlen hsum).mono ?_
    rintro e w1 ⟨rfl, hb1⟩
    obtain ⟨_, hO, hR, hbel⟩ := three_boxes hb1
    have o0 := hO.cell 0
    have o1 := hO.cell 1
    have o2 := hO.cell 2
    have o3 := hO.cell 3
    have o4 := hO.cell 4
    simp only [List.getElem?_toArray, List.getElem?_cons_zero, List.getElem?_cons_succ] at o0 o1 o2 o3 o4
    have HR : Hid (Blk w1 (w.heap.size + 1 + 1) #[.slice none 0 0, .int .i64 0, .int .i64 0, .int .i64 0, .int .i64 0, .bool false] 31) := hR
    have HB : Hid (Below w.heap.size w w1) := hbel
    clear hb1 hbel hR hO
    go_wp2_with fail
    refine (opProper_is HO.out _ hn ht).mono ?_
    rintro e w2 ⟨rfl, hb2⟩
    have hR := HR.out.later hb2
    have r0 := hR.cell 0
    have r1 := hR.cell 1
    have r2 := hR.cell 2
    have r3 := hR.cell 3
    have r4 := hR.cell 4
    have r5 := hR.cell 5
    simp only [List.getElem?_toArray, List.getElem?_cons_zero, List.getElem?_cons_succ] at r0 r1 r2 r3 r4 r5
    have q0 := hR.free 0
    have q1 := hR.free 1
    have q2 := hR.free 2
    have q3 := hR.free 3
    have q4 := hR.free 4
    have q5 := hR.free 5
    have HB2 : Hid (Below w.heap.size w w2) := bto HB.out hb2
    clear hb2 hR o0 o1 o2 o3 o4
    go_wp2
    refine bodyPost_ret (v := .tuple #[.agg #[.slice none 0 0, .int .i64 0, .int .i64 0, .int .i64 0, .int .i64 0, .bool false], .int .i64 6]) (by simp [results, Try.results9, go_sem, r0, r1, r2, r3, r4, r5]) rfl ⟨rfl, ?_⟩
    have h := HB2.out
    iterate 6 (refine Below.setCell ?_ (by first | (simp; done) | (simp; omega)) _)
    exact h

set_option maxRecDepth 100000 in
set_option maxHeartbeats 2000000 in
theorem implStep_ok (a : Option Addr) (cap : Nat) (fs : List FileD) (c k cr fl : Int) (dn : Bool) (op : OpD) (w : World) (hf : FilesIn w a fs) (hs : Short fs) (hlen : fs.length ≤ maxLen) (hsum : sumLen fs ≤ 1000000000) (hn : op.name.size ≤ maxLen) (ht : op.to.size ≤ maxLen) (hd : diskB fs c k cr fl = true) (ho : opB op = true) :
    Calls Try.prog 9 #[.agg #[.slice a fs.length cap, .int .i64 c, .int .i64 k, .int .i64 cr, .int .i64 fl, .bool dn], .agg #[.int .i64 op.kind, .string op.name, .string op.to, .string op.data, .int .i64 op.size]] w fun e w' =>
      ∃ a' cap', e = .returned (.tuple #[.agg #[.slice a' (stepR fs c k cr fl dn op).2.1.length cap', .int .i64 c, .int .i64 (stepR fs c k cr fl dn op).2.2.1, .int .i64 cr, .int .i64 fl, .bool (stepR fs c k cr fl dn op).2.2.2], .int .i64 (stepR fs c k cr fl dn op).1]) ∧
        Owned w' w.heap.size a' (stepR fs c k cr fl dn op).2.1 ∧ Below w.heap.size w w' := by
  obtain ⟨hfb, hl1000, hc0, hc1, hsc, hk0, hk1, _⟩ := files_of_disk hd
  have HF : Hid (FilesIn w a fs) := hf
  have HQ : Hid (diskB fs c k cr fl = true) := hd
  have HO : Hid (opB op = true) := ho
  have HA : Hid (Asc fs) := asc_of hfb
  have HKB : Hid (btwB op.kind 1 6 = true) := by show _ = _; simp only [opB, Bool.and_eq_true] at ho; exact ho.1.1
  clear hf hd ho hfb
  go_enter Try.func9, Try.ntmps9
  go_wp2_with fail
  refine (implValid_is HQ.out _ (((HF.out.later (bnew _ _)).later (bnew _ _)).later (bnew _ _)) hs hlen hsum).mono ?_
  rintro e w1 ⟨rfl, hb1⟩
  obtain ⟨hDk, hOp, hR, hbel⟩ := three_boxes hb1
  have o0 := hOp.cell 0
  have o1 := hOp.cell 1
  have o2 := hOp.cell 2
  have o3 := hOp.cell 3
  have o4 := hOp.cell 4
  simp only [List.getElem?_toArray, List.getElem?_cons_zero, List.getElem?_cons_succ] at o0 o1 o2 o3 o4
  have H1 : Hid (Blk w1 w.heap.size #[.slice a fs.length cap, .int .i64 c, .int .i64 k, .int .i64 cr, .int .i64 fl, .bool dn] 31 ∧ Blk w1 (w.heap.size + 1) #[.int .i64 op.kind, .string op.name, .string op.to, .string op.data, .int .i64 op.size] 35 ∧ Blk w1 (w.heap.size + 1 + 1) #[.slice none 0 0, .int .i64 0, .int .i64 0, .int .i64 0, .int .i64 0, .bool false] 31 ∧ Below w.heap.size w w1) := ⟨hDk, hOp, hR, hbel⟩
  clear hb1 hbel hR hOp hDk
  go_wp2_with fail
  refine (opProper_is HO.out _ hn ht).mono ?_
  rintro e w2 ⟨rfl, hb2⟩
  have H2 : Hid (Blk w2 w.heap.size #[.slice a fs.length cap, .int .i64 c, .int .i64 k, .int .i64 cr, .int .i64 fl, .bool dn] 31 ∧ Blk w2 (w.heap.size + 1) #[.int .i64 op.kind, .string op.name, .string op.to, .string op.data, .int .i64 op.size] 35 ∧ Blk w2 (w.heap.size + 1 + 1) #[.slice none 0 0, .int .i64 0, .int .i64 0, .int .i64 0, .int .i64 0, .bool false] 31 ∧ Below w.heap.size w w2) := ⟨H1.out.1.later hb2, H1.out.2.1.later hb2, H1.out.2.2.1.later hb2, bto H1.out.2.2.2 hb2⟩
  have x0 := H2.out.1.cell 0
  have x1 := H2.out.1.cell 1
  have x2 := H2.out.1.cell 2
  have x3 := H2.out.1.cell 3
  have x4 := H2.out.1.cell 4
  have x5 := H2.out.1.cell 5
  simp only [List.getElem?_toArray, List.getElem?_cons_zero, List.getElem?_cons_succ] at x0 x1 x2 x3 x4 x5
  clear hb2 H1 o0 o1 o2 o3 o4
  go_wp2_with fail
  refine (mount_any a cap fs c k cr fl dn _ (HF.out.later H2.out.2.2.2) (by omega)).mono ?_
  rintro e w3 ⟨D, v, rfl, hdr, hb3⟩
  have H3 : Hid (Blk w3 (w.heap.size + 1) #[.int .i64 op.kind, .string op.name, .string op.to, .string op.data, .int .i64 op.size] 35 ∧ Blk w3 (w.heap.size + 1 + 1) #[.slice none 0 0, .int .i64 0, .int .i64 0, .int .i64 0, .int .i64 0, .bool false] 31 ∧ Below w.heap.size w w3) := ⟨H2.out.2.1.later hb3, H2.out.2.2.1.later hb3, bto H2.out.2.2.2 hb3⟩
  have hRlt : w.heap.size + 1 + 1 < w2.heap.size := lt_of_block H2.out.2.2.1
  have HRD : Hid (Ready w3 w2.heap.size D fs c k cr fl dn v op) := ⟨hdr, HA.out, hl1000, hsc, hc1, hk0, hk1⟩
  have o0 := H3.out.1.cell 0
  have o1 := H3.out.1.cell 1
  have o2 := H3.out.1.cell 2
  have o3 := H3.out.1.cell 3
  have o4 := H3.out.1.cell 4
  simp only [List.getElem?_toArray, List.getElem?_cons_zero, List.getElem?_cons_succ] at o0 o1 o2 o3 o4
  clear x0 x1 x2 x3 x4 x5 hdr hb3 H2
  go_wp2_with fail
  refine (step_any w3 w2.heap.size D fs c k cr fl dn v op HRD.out HKB.out).mono ?_
  rintro e w4 ⟨rfl, hb4, _, v4, hdr4, _⟩
  have hcode := stepR_code fs c k cr fl dn op
  generalize hSR : stepR fs c k cr fl dn op = R at *
  obtain ⟨code, fs', k', dn'⟩ := R
  have HSR : Hid (stepR fs c k cr fl dn op = (code, fs', k', dn')) := hSR
  clear hSR
  have H4 : Hid (Blk w4 (w.heap.size + 1 + 1) #[.slice none 0 0, .int .i64 0, .int .i64 0, .int .i64 0, .int .i64 0, .bool false] 31 ∧ Below w.heap.size w w4) := ⟨(hb4.block _ hRlt).trans H3.out.2.1, H3.out.2.2.trans (hb4.mono (by omega))⟩
  have hcd : code ≤ 6 := hcode
  obtain ⟨a4, cap4, rfl, hown4⟩ := owned_of_row hdr4.row
  have H5 : Hid (Owned w4 w2.heap.size a4 fs') := hown4
  have H6 : Hid (Blk w4 D #[.int .i64 k', .int .i64 cr, .int .i64 fl, .bool dn', .slice a4 fs'.length cap4, .int .i64 c] 73) := hdr4.blk
  clear hb4 hdr4 hown4 o0 o1 o2 o3 o4 H3 HRD hcode
  go_wp2_with fail
  refine (unmount_any D 73 a4 fs'.length cap4 c k' cr fl dn' _ H6.out).mono ?_
  rintro e w5 ⟨rfl, hb5⟩
  have H7 : Hid (Blk w5 (w.heap.size + 1 + 1) #[.slice none 0 0, .int .i64 0, .int .i64 0, .int .i64 0, .int .i64 0, .bool false] 31 ∧ Below w.heap.size w w5 ∧ Owned w5 w2.heap.size a4 fs') := ⟨H4.out.1.later hb5, bto H4.out.2 hb5, H5.out.later hb5⟩
  clear hb5 H4 H5 H6
  go_wp2_with fail
  refine (code_any code hcd _).mono ?_
  rintro e w6 ⟨rfl, rfl⟩
  have hR := H7.out.1
  have r0 := hR.cell 0
  have r1 := hR.cell 1
  have r2 := hR.cell 2
  have r3 := hR.cell 3
  have r4 := hR.cell 4
  have r5 := hR.cell 5
  simp only [List.getElem?_toArray, List.getElem?_cons_zero, List.getElem?_cons_succ] at r0 r1 r2 r3 r4 r5
  have q0 := hR.free 0
  have q1 := hR.free 1
  have q2 := hR.free 2
  have q3 := hR.free 3
  have q4 := hR.free 4
  have q5 := hR.free 5
  clear hR
  go_wp2
  refine bodyPost_ret (v := .tuple #[.agg #[.slice a4 fs'.length cap4, .int .i64 c, .int .i64 k', .int .i64 cr, .int .i64 fl, .bool dn'], .int .i64 code]) (by simp [results, Try.results9, go_sem, r0, r1, r2, r3, r4, r5]) rfl ?_
  rw [HSR.out]
  refine ⟨a4, cap4, rfl, ?_, ?_⟩
  · have h := H7.out.2.2
    refine Owned.mono (B := w2.heap.size) ?_ (by omega)
    iterate 6 (refine Owned.set_below ?_ (by exact hRlt) _)
    exact h
  · have h := H7.out.2.1
    iterate 6 (refine Below.setCell ?_ (by first | (simp; done) | (simp; omega)) _)
    exact h

theorem implStep_any (a : Option Addr) (cap : Nat) (fs : List FileD) (c k cr fl : Int) (dn : Bool) (op : OpD) (w : World) (hf : FilesIn w a fs) (hs : Short fs) (hlen : fs.length ≤ maxLen) (hsum : sumLen fs ≤ 1000000000) (hn : op.name.size ≤ maxLen) (ht : op.to.size ≤ maxLen) :
    Calls Try.prog 9 #[.agg #[.slice a fs.length cap, .int .i64 c, .int .i64 k, .int .i64 cr, .int .i64 fl, .bool dn], .agg #[.int .i64 op.kind, .string op.name, .string op.to, .string op.data, .int .i64 op.size]] w fun e w' =>
      ∃ a' cap', e = .returned (outV (outR fs c k cr fl dn op) a' cap') ∧ Owned w' w.heap.size a' (outR fs c k cr fl dn op).2.1 ∧ Below w.heap.size w w' := by
  by_cases hq : (diskB fs c k cr fl && opB op) = true
  · have E : outR fs c k cr fl dn op = ((stepR fs c k cr fl dn op).1, (stepR fs c k cr fl dn op).2.1, c, (stepR fs c k cr fl dn op).2.2.1, cr, fl, (stepR fs c k cr fl dn op).2.2.2) := if_pos hq
    rw [E]
    simp only [Bool.and_eq_true] at hq
    exact implStep_ok a cap fs c k cr fl dn op w hf hs hlen hsum hn ht hq.1 hq.2
  · have E : outR fs c k cr fl dn op = (6, [], 0, 0, 0, 0, false) := if_neg hq
    rw [E]
    refine (implStep_bad a cap fs c k cr fl dn op w hf hs hlen hsum hn ht (by simpa using hq)).mono ?_
    rintro e w' ⟨rfl, hb⟩
    exact ⟨none, 0, rfl, Or.inl rfl, hb⟩
end Go.Proofs.Ytboofidegpnkaaa

namespace Go.Proofs.Ytboofidegpnkaaa
open Go.RowKit

theorem conv_one (w : World) (n : Int) : (convert 100 9 (.slice (some ⟨w.heap.size, 0, none⟩) 1 1)).run Try.prog (w.alloc (.cells #[.int .u8 n] 5)) = .ok (.string ⟨#[UInt8.ofNat n.toNat]⟩) (w.alloc (.cells #[.int .u8 n] 5)) := by
  rw [run_convert_bytes_string _ 100 9 5 _ 1 1 Try.underlying100 Try.underlying5 Try.underlying9, run_bytesToString _ _ 1 1 [n] (by simp [go_sem, loadCells])]
  rfl

theorem str_one (c : UInt8) (s : ByteArray) : ((⟨#[c]⟩ : ByteArray) ++ s).data.toList = c :: s.data.toList := by
  simp

theorem str_one_size (c : UInt8) (s : ByteArray) : ((⟨#[c]⟩ : ByteArray) ++ s).size = s.size + 1 := by
  rw [ByteArray.size_append]; show 1 + s.size = _; omega

theorem mk_toList (s : ByteArray) (l : List UInt8) (h : s.data.toList = l) : s = ⟨l.toArray⟩ := by
  subst h; simp

end Go.Proofs.Ytboofidegpnkaaa

namespace Go.Proofs.Ytboofidegpnkaaa
open Go.RowKit

theorem digits_pos {n : Nat} (h : 0 < n) (acc : List UInt8) : digits n n acc = digits (n / 10) (n / 10) ((48 + UInt8.ofNat (n % 10)) :: acc) := by
  obtain ⟨m, rfl⟩ : ∃ m, n = m + 1 := ⟨n - 1, by omega⟩
  conv => lhs; rw [digits]
  rw [if_neg (by omega)]
  exact digits_fuel _ _ _ _ (by omega) (Nat.le_refl _)

set_option maxRecDepth 100000 in
set_option maxHeartbeats 1000000 in
theorem markText_any (k : Nat) (w : World) (h0 : 0 < k) (h1 : k ≤ 1000000000) :
    Calls Try.prog 49 #[.int .i64 (k : Int)] w fun e w' => e = .returned (.string (mt k)) ∧ Below w.heap.size w w' := by
  have hk : ¬ ((k : Int) ≤ 0) := by omega
  have hcv := conv_one
  go_enter Try.func49, Try.ntmps49
  go_wp2
  go_loopw [0, 3] (fun a s wr => ∃ (n : Nat) (st : ByteArray), st.size + n ≤ k ∧ a = .int .i64 n ∧ s = .string st ∧ digits n n st.data.toList = digits k k [] ∧ Below w.heap.size w wr) (fun a _ _ => (intOf a).toNat)
  case atStart => exact ⟨k, ByteArray.empty, by simp, rfl, rfl, rfl, Below.refl _ _⟩
  case round =>
    obtain ⟨n, st, hn, rfl, rfl, hd, hbel⟩ := hrel
    have HD : Hid (digits n n st.data.toList = digits k k []) := hd
    clear hd
    have hsz : (st.size : Int) ≤ 1000000000 := by omega
    by_cases hp : 0 < n
    · go_wp2
      refine ⟨⟨n / 10, _, ?_, by go_num, rfl, ?_, hbel.alloc hbel.size _⟩, by simp [intOf]; omega⟩
      · rw [str_one_size]; omega
      · rw [str_one, ← digits_pos hp]; exact HD.out
    · go_wp2
      go_ret
      refine ⟨?_, hbel⟩
      have e0 : n = 0 := by omega
      have hd := HD.out
      rw [e0] at hd
      have e : st.data.toList = digits k k [] := by rw [← hd]; rfl
      have e2 : ((⟨#[109]⟩ : ByteArray) ++ st) = mt k := by
        unfold mt
        exact mk_toList _ _ (by rw [str_one, e])
      exact congrArg (fun x => Ending.returned (.string x)) e2

theorem markText_int (k : Int) (n : Nat) (hk : k = (n : Int)) (w : World) (h0 : 0 < n) (h1 : n ≤ 1000000000) :
    Calls Try.prog 49 #[.int .i64 k] w fun e w' => e = .returned (.string (mt n)) ∧ Below w.heap.size w w' := hk ▸ markText_any n w h0 h1
end Go.Proofs.Ytboofidegpnkaaa

