import Derived.Test.YtboofidegpnkaaaProg
import Derived.Test.YtboofidegpnkaaaJ17SDo2
import Derived.Test.YtboofidegpnkaaaJ18StepL
import Derived.Lib.AppendZeros
namespace Go.Proofs.Ytboofidegpnkaaa
open Go.RowKit

/-- append([]File{}, files...). -/
theorem copy_run (W : World) (a : Option Addr) (cap : Nat) (fs : List FileD) (hf : FilesIn W a fs) (hlen : fs.length ≤ 1048576) :
    ∃ a1 cap1 w2, (Builtin.append_ #[29, 29] 29 #[.slice (some ⟨W.heap.size, 0, none⟩) 0 0, .slice a fs.length cap]).run Try.prog (W.alloc (.cells #[] 61)) = .ok (.slice a1 fs.length cap1) w2 ∧
      FilesIn w2 a1 fs ∧ Below W.heap.size W w2 ∧ ∀ b o, a1 = some ⟨b, o, none⟩ → W.heap.size ≤ b := by
  obtain ⟨i, hi, hz0, hz1, hz2⟩ := info_filex
  cases a with
  | none =>
    have h0 : fs = [] := by
      rcases hf with h | ⟨b, o, e, _⟩
      · exact h
      · exact absurd e (by simp)
    subst h0
    refine ⟨some ⟨W.heap.size, 0, none⟩, 0, W.alloc (.cells #[] 61), ?_, Or.inl rfl, bnew _ _, fun b o e => by simp at e; omega⟩
    simp [Builtin.append_, run_underlying Try.underlying29, sizeOf, typeInfo, hi, Builtin.lenOf, Builtin.firstCells, storeCells]
  | some ad =>
    have hown : (W.alloc (.cells #[] 61)).ownsRow W.heap.size 61 3 (.slice (some ⟨W.heap.size, 0, none⟩) 0 0) 0 [] :=
      ⟨rfl, Or.inr ⟨W.heap.size, 0, #[], rfl, Nat.le_refl _, heap_alloc_new _ _, Nat.le_refl _, Nat.zero_le _, rfl, rfl⟩⟩
    have hnews : ∀ j u, (flat fs)[j]? = some u → (W.alloc (.cells #[] 61)).cell? (ad.add j) = some u := by
      rcases hf.later (bnew W (.cells #[] 61)) with rfl | ⟨b, o, e, _, h⟩
      · intro j u h; simp [flat] at h
      · simp only [Option.some.injEq] at e
        subst e
        exact cells_of_files h
    obtain ⟨v', w', hr, h2, h3, _, _⟩ := run_append_own_at (P := Try.prog) (W.alloc (.cells #[] 61)) W.heap.size 29 29 61 i _ 3 40 Try.underlying29 hi hz0 hz1 hz2 rfl (by omega) (.slice (some ⟨W.heap.size, 0, none⟩) 0 0) 0 [] hown ad fs.length cap (flat fs) (flat_length fs) hnews (flat_one_cell fs) (by simp [maxLen]; omega) (by omega) (by simp)
    simp only [Nat.zero_add, List.nil_append] at h2
    obtain ⟨a1, cap1, rfl, ho⟩ := owned_of_row h2
    refine ⟨a1, cap1, w', hr, ho.files, (bnew _ _).grown h3 (by simp) (fun k hk => ?_), fun b o e => row_from h2 b (by rw [e]; rfl)⟩
    simp [Value.ownBlock] at hk
    omega

/-- The spec's contract at one input. -/
def Specs (w : World) (a : Option Addr) (cap : Nat) (fs : List FileD) (c k cr fl : Int) (dn : Bool) (op : OpD) : Prop :=
  Calls Try.prog 6 #[.agg #[.slice a fs.length cap, .int .i64 c, .int .i64 k, .int .i64 cr, .int .i64 fl, .bool dn], .agg #[.int .i64 op.kind, .string op.name, .string op.to, .string op.data, .int .i64 op.size]] w fun e w' =>
    ∃ a' cap', e = .returned (outV (outR fs c k cr fl dn op) a' cap') ∧ FilesIn w' a' (outR fs c k cr fl dn op).2.1 ∧ Below w.heap.size w w'

/-- What is known when the spec's DiskStep is called. -/
structure Given (w : World) (a : Option Addr) (fs : List FileD) (op : OpD) : Prop where
  files : FilesIn w a fs
  short : Short fs
  len : fs.length ≤ 1048576
  sum : sumLen fs ≤ 1000000000
  name : op.name.size ≤ maxLen
  to : op.to.size ≤ maxLen
  data : op.data.size ≤ 1048576

set_option maxRecDepth 100000 in
set_option maxHeartbeats 2000000 in
theorem sbad_disk (w : World) (a : Option Addr) (cap : Nat) (fs : List FileD) (c k cr fl : Int) (dn : Bool) (op : OpD) (h : Given w a fs op) (hq : diskB fs c k cr fl = false) : Specs w a cap fs c k cr fl dn op := by
  unfold Specs
  have HF : Hid (FilesIn w a fs) := h.files
  have hs := h.short
  have hlen := h.len
  have hsum := h.sum
  have hn := h.name
  have ht := h.to
  have hdata := h.data
  have hml : fs.length ≤ maxLen := by simp [maxLen]; omega
  have HQ : Hid (diskB fs c k cr fl = false) := hq
  have EO : Hid (outR fs c k cr fl dn op = (6, [], 0, 0, 0, 0, false)) := by show _ = _; unfold outR; rw [if_neg (by rw [hq]; simp)]
  clear h hq hn ht hdata
  go_enter Try.func6, Try.ntmps6
  go_wp2_with fail
  refine (specValid_is HQ.out _ (((HF.out.later (bnew _ _)).later (bnew _ _)).later (bnew _ _)) hs hml hsum).mono ?_
  rintro e w1 ⟨rfl, hb1⟩
  obtain ⟨hdk, hop, hR, hbel⟩ := three_boxes hb1
  have HDK : Hid (DiskAt w1 w.heap.size a fs.length cap c k cr fl dn) := hdk
  have HOP : Hid (OpAt w1 (w.heap.size + 1) op 35) := hop
  have HR : Hid (Blk w1 (w.heap.size + 1 + 1) #[.slice none 0 0, .int .i64 0, .int .i64 0, .int .i64 0, .int .i64 0, .bool false] 31) := hR
  have HB1 : Hid (Below w.heap.size w w1) := hbel
  obtain ⟨o0, o1, o2, o3, o4⟩ := HOP.out.cells
  clear hb1 hdk hop hR hbel
  clear o0 o1 o2 o3 o4
  have r0 := HR.out.cell 0
  have r1 := HR.out.cell 1
  have r2 := HR.out.cell 2
  have r3 := HR.out.cell 3
  have r4 := HR.out.cell 4
  have r5 := HR.out.cell 5
  simp only [List.getElem?_toArray, List.getElem?_cons_zero, List.getElem?_cons_succ] at r0 r1 r2 r3 r4 r5
  have q0 := HR.out.free 0
  have q1 := HR.out.free 1
  have q2 := HR.out.free 2
  have q3 := HR.out.free 3
  have q4 := HR.out.free 4
  have q5 := HR.out.free 5
  clear HDK
  go_wp2
  refine bodyPost_ret (v := .tuple #[.agg #[.slice none 0 0, .int .i64 0, .int .i64 0, .int .i64 0, .int .i64 0, .bool false], .int .i64 6]) (by simp [results, Try.results6, go_sem, r0, r1, r2, r3, r4, r5]) rfl ?_
  rw [EO.out]
  refine ⟨none, 0, rfl, Or.inl rfl, ?_⟩
  have h := HB1.out
  iterate 6 (refine Below.setCell ?_ (by first | (simp; done) | (simp; omega)) _)
  exact h

set_option maxRecDepth 100000 in
set_option maxHeartbeats 2000000 in
theorem sbad_kind (w : World) (a : Option Addr) (cap : Nat) (fs : List FileD) (c k cr fl : Int) (dn : Bool) (op : OpD) (h : Given w a fs op) (hq : diskB fs c k cr fl = true) (hk : btwB op.kind 1 6 = false) : Specs w a cap fs c k cr fl dn op := by
  unfold Specs
  have HF : Hid (FilesIn w a fs) := h.files
  have hs := h.short
  have hlen := h.len
  have hsum := h.sum
  have hn := h.name
  have ht := h.to
  have hdata := h.data
  have hml : fs.length ≤ maxLen := by simp [maxLen]; omega
  have HQ : Hid (diskB fs c k cr fl = true) := hq
  have HKB : Hid (btwB op.kind 1 6 = false) := hk
  have EO : Hid (outR fs c k cr fl dn op = (6, [], 0, 0, 0, 0, false)) := by show _ = _; unfold outR; rw [if_neg (by unfold opB; rw [hk]; simp)]
  clear h hq hk hn ht hdata
  go_enter Try.func6, Try.ntmps6
  go_wp2_with fail
  refine (specValid_is HQ.out _ (((HF.out.later (bnew _ _)).later (bnew _ _)).later (bnew _ _)) hs hml hsum).mono ?_
  rintro e w1 ⟨rfl, hb1⟩
  obtain ⟨hdk, hop, hR, hbel⟩ := three_boxes hb1
  have HDK : Hid (DiskAt w1 w.heap.size a fs.length cap c k cr fl dn) := hdk
  have HOP : Hid (OpAt w1 (w.heap.size + 1) op 35) := hop
  have HR : Hid (Blk w1 (w.heap.size + 1 + 1) #[.slice none 0 0, .int .i64 0, .int .i64 0, .int .i64 0, .int .i64 0, .bool false] 31) := hR
  have HB1 : Hid (Below w.heap.size w w1) := hbel
  obtain ⟨o0, o1, o2, o3, o4⟩ := HOP.out.cells
  clear hb1 hdk hop hR hbel
  go_wp2_with fail
  refine (between_is HKB.out _).mono ?_
  rintro e w2 ⟨rfl, rfl⟩
  clear o0 o1 o2 o3 o4
  have r0 := HR.out.cell 0
  have r1 := HR.out.cell 1
  have r2 := HR.out.cell 2
  have r3 := HR.out.cell 3
  have r4 := HR.out.cell 4
  have r5 := HR.out.cell 5
  simp only [List.getElem?_toArray, List.getElem?_cons_zero, List.getElem?_cons_succ] at r0 r1 r2 r3 r4 r5
  have q0 := HR.out.free 0
  have q1 := HR.out.free 1
  have q2 := HR.out.free 2
  have q3 := HR.out.free 3
  have q4 := HR.out.free 4
  have q5 := HR.out.free 5
  clear HDK
  go_wp2
  refine bodyPost_ret (v := .tuple #[.agg #[.slice none 0 0, .int .i64 0, .int .i64 0, .int .i64 0, .int .i64 0, .bool false], .int .i64 6]) (by simp [results, Try.results6, go_sem, r0, r1, r2, r3, r4, r5]) rfl ?_
  rw [EO.out]
  refine ⟨none, 0, rfl, Or.inl rfl, ?_⟩
  have h := HB1.out
  iterate 6 (refine Below.setCell ?_ (by first | (simp; done) | (simp; omega)) _)
  exact h

set_option maxRecDepth 100000 in
set_option maxHeartbeats 2000000 in
theorem sbad_name (w : World) (a : Option Addr) (cap : Nat) (fs : List FileD) (c k cr fl : Int) (dn : Bool) (op : OpD) (h : Given w a fs op) (hq : diskB fs c k cr fl = true) (hk : btwB op.kind 1 6 = true) (hnm : nameB op.name = false) : Specs w a cap fs c k cr fl dn op := by
  unfold Specs
  have HF : Hid (FilesIn w a fs) := h.files
  have hs := h.short
  have hlen := h.len
  have hsum := h.sum
  have hn := h.name
  have ht := h.to
  have hdata := h.data
  have hml : fs.length ≤ maxLen := by simp [maxLen]; omega
  have HQ : Hid (diskB fs c k cr fl = true) := hq
  have HKB : Hid (btwB op.kind 1 6 = true) := hk
  have HNM : Hid (nameB op.name = false) := hnm
  have EO : Hid (outR fs c k cr fl dn op = (6, [], 0, 0, 0, 0, false)) := by show _ = _; unfold outR; rw [if_neg (by unfold opB; rw [hnm]; simp)]
  clear h hq hk hnm ht hdata
  go_enter Try.func6, Try.ntmps6
  go_wp2_with fail
  refine (specValid_is HQ.out _ (((HF.out.later (bnew _ _)).later (bnew _ _)).later (bnew _ _)) hs hml hsum).mono ?_
  rintro e w1 ⟨rfl, hb1⟩
  obtain ⟨hdk, hop, hR, hbel⟩ := three_boxes hb1
  have HDK : Hid (DiskAt w1 w.heap.size a fs.length cap c k cr fl dn) := hdk
  have HOP : Hid (OpAt w1 (w.heap.size + 1) op 35) := hop
  have HR : Hid (Blk w1 (w.heap.size + 1 + 1) #[.slice none 0 0, .int .i64 0, .int .i64 0, .int .i64 0, .int .i64 0, .bool false] 31) := hR
  have HB1 : Hid (Below w.heap.size w w1) := hbel
  obtain ⟨o0, o1, o2, o3, o4⟩ := HOP.out.cells
  clear hb1 hdk hop hR hbel
  go_wp2_with fail
  refine (between_is HKB.out _).mono ?_
  rintro e w2 ⟨rfl, rfl⟩
  go_wp2_with fail
  refine (l1FileName_is HNM.out _ hn).mono ?_
  rintro e w2 ⟨rfl, rfl⟩
  clear o0 o1 o2 o3 o4
  have r0 := HR.out.cell 0
  have r1 := HR.out.cell 1
  have r2 := HR.out.cell 2
  have r3 := HR.out.cell 3
  have r4 := HR.out.cell 4
  have r5 := HR.out.cell 5
  simp only [List.getElem?_toArray, List.getElem?_cons_zero, List.getElem?_cons_succ] at r0 r1 r2 r3 r4 r5
  have q0 := HR.out.free 0
  have q1 := HR.out.free 1
  have q2 := HR.out.free 2
  have q3 := HR.out.free 3
  have q4 := HR.out.free 4
  have q5 := HR.out.free 5
  clear HDK
  go_wp2
  refine bodyPost_ret (v := .tuple #[.agg #[.slice none 0 0, .int .i64 0, .int .i64 0, .int .i64 0, .int .i64 0, .bool false], .int .i64 6]) (by simp [results, Try.results6, go_sem, r0, r1, r2, r3, r4, r5]) rfl ?_
  rw [EO.out]
  refine ⟨none, 0, rfl, Or.inl rfl, ?_⟩
  have h := HB1.out
  iterate 6 (refine Below.setCell ?_ (by first | (simp; done) | (simp; omega)) _)
  exact h

set_option maxRecDepth 100000 in
set_option maxHeartbeats 2000000 in
theorem sbad_to (w : World) (a : Option Addr) (cap : Nat) (fs : List FileD) (c k cr fl : Int) (dn : Bool) (op : OpD) (h : Given w a fs op) (hq : diskB fs c k cr fl = true) (hk : op.kind = 5) (hnm : nameB op.name = true) (hto : nameB op.to = false) : Specs w a cap fs c k cr fl dn op := by
  unfold Specs
  have HF : Hid (FilesIn w a fs) := h.files
  have hs := h.short
  have hlen := h.len
  have hsum := h.sum
  have hn := h.name
  have ht := h.to
  have hdata := h.data
  have hml : fs.length ≤ maxLen := by simp [maxLen]; omega
  have HQ : Hid (diskB fs c k cr fl = true) := hq
  have HKB : Hid (btwB 5 1 6 = true) := by show _ = _; decide
  have HK5 : Hid (op.kind = 5) := hk
  have HNM : Hid (nameB op.name = true) := hnm
  have HTO : Hid (nameB op.to = false) := hto
  have EO : Hid (outR fs c k cr fl dn op = (6, [], 0, 0, 0, 0, false)) := by show _ = _; unfold outR; rw [if_neg (by unfold opB; rw [hto, hk]; simp)]
  clear h hq hk hnm hto hdata
  go_enter Try.func6, Try.ntmps6
  go_wp2_with fail
  refine (specValid_is HQ.out _ (((HF.out.later (bnew _ _)).later (bnew _ _)).later (bnew _ _)) hs hml hsum).mono ?_
  rintro e w1 ⟨rfl, hb1⟩
  obtain ⟨hdk, hop, hR, hbel⟩ := three_boxes hb1
  have HDK : Hid (DiskAt w1 w.heap.size a fs.length cap c k cr fl dn) := hdk
  have HOP : Hid (OpAt w1 (w.heap.size + 1) op 35) := hop
  have HR : Hid (Blk w1 (w.heap.size + 1 + 1) #[.slice none 0 0, .int .i64 0, .int .i64 0, .int .i64 0, .int .i64 0, .bool false] 31) := hR
  have HB1 : Hid (Below w.heap.size w w1) := hbel
  obtain ⟨o0, o1, o2, o3, o4⟩ := HOP.out.cells
  clear hb1 hdk hop hR hbel
  have hk := HK5.out
  go_wp2_with fail
  refine (between_is HKB.out _).mono ?_
  rintro e w2 ⟨rfl, rfl⟩
  go_wp2_with fail
  refine (l1FileName_is HNM.out _ hn).mono ?_
  rintro e w2 ⟨rfl, rfl⟩
  go_wp2_with fail
  refine (l1FileName_is HTO.out _ ht).mono ?_
  rintro e w2 ⟨rfl, rfl⟩
  clear o0 o1 o2 o3 o4
  have r0 := HR.out.cell 0
  have r1 := HR.out.cell 1
  have r2 := HR.out.cell 2
  have r3 := HR.out.cell 3
  have r4 := HR.out.cell 4
  have r5 := HR.out.cell 5
  simp only [List.getElem?_toArray, List.getElem?_cons_zero, List.getElem?_cons_succ] at r0 r1 r2 r3 r4 r5
  have q0 := HR.out.free 0
  have q1 := HR.out.free 1
  have q2 := HR.out.free 2
  have q3 := HR.out.free 3
  have q4 := HR.out.free 4
  have q5 := HR.out.free 5
  clear HDK
  go_wp2
  refine bodyPost_ret (v := .tuple #[.agg #[.slice none 0 0, .int .i64 0, .int .i64 0, .int .i64 0, .int .i64 0, .bool false], .int .i64 6]) (by simp [results, Try.results6, go_sem, r0, r1, r2, r3, r4, r5]) rfl ?_
  rw [EO.out]
  refine ⟨none, 0, rfl, Or.inl rfl, ?_⟩
  have h := HB1.out
  iterate 6 (refine Below.setCell ?_ (by first | (simp; done) | (simp; omega)) _)
  exact h

end Go.Proofs.Ytboofidegpnkaaa

