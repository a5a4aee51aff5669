import Derived.Test.YtgnppdghjlnlhaaGreatDoorProg
import Derived.Test.YtgnppdghjlnlhaaGreatDoorJ30WLog
import Derived.ProofKit
import Derived.OpenShut
import Derived.Test.YtgnppdghjlnlhaaGreatDoorJ01Btw
import Derived.Deep.Slices
import Derived.Deep.Strs
import Derived.Test.YtgnppdghjlnlhaaGreatDoorJ29Win
import Derived.Test.YtgnppdghjlnlhaaGreatDoorJ20SNum
namespace Go.Proofs.YtgnppdghjlnlhaaGreatDoor
open Go.ChangeShapes Go.WideShapes Go.ChangeAt Go.RowKit
theorem cells_cfg : Tryz.prog.cellsOf 23 = 6 := by kernel_rfl
theorem cells_intD : Tryz.prog.cellsOf 3 = 1 := by kernel_rfl
set_option maxRecDepth 100000 in
theorem open_config {H : Type} {enc : TypeId × Value → H} {W : World} {r : Reach} {b0 : Nat} {v : Value} {d : DataW H} {p : List MemPlace} (hv : Value.okWide Tryz.prog W r b0 23 v) (h : DataW.Trod enc Tryz.prog W 0 (fun _ => true) true 23 v d p) :
    ∃ c : CfgD, v = cfgV c := by
  obtain ⟨cs, rfl, hsz⟩ := okWide_struct Tryz.underlying23 hv
  obtain ⟨fuel, hf⟩ := h
  obtain ⟨xs, n, _, _, _, hlen, hfl⟩ := DataW.trod_struct Tryz.underlying23 hf
  rw [cells_cfg] at hsz
  obtain ⟨l⟩ := cs
  simp at hsz
  match l, hsz with
  | [c0, c1, c2, c3, c4, c5], _ =>
    match xs, hlen with
    | [y0, y1, y2, y3, y4, y5], _ =>
      have h0 := hfl 0 _ rfl
      have h1 := hfl 1 _ rfl
      have h2 := hfl 2 _ rfl
      have h3 := hfl 3 _ rfl
      have h4 := hfl 4 _ rfl
      have h5 := hfl 5 _ rfl
      simp [Value.cells, cells_intD] at h0 h1 h2 h3 h4 h5
      obtain ⟨i0, e0, _, _⟩ := DataW.trod_int Tryz.underlying3 h0
      obtain ⟨i1, e1, _, _⟩ := DataW.trod_int Tryz.underlying3 h1
      obtain ⟨i2, e2, _, _⟩ := DataW.trod_int Tryz.underlying3 h2
      obtain ⟨i3, e3, _, _⟩ := DataW.trod_int Tryz.underlying3 h3
      obtain ⟨i4, e4, _, _⟩ := DataW.trod_int Tryz.underlying3 h4
      obtain ⟨i5, e5, _, _⟩ := DataW.trod_int Tryz.underlying3 h5
      simp at e0 e1 e2 e3 e4 e5
      exact ⟨⟨i0, i1, i2, i3, i4, i5⟩, by simp [cfgV, e0, e1, e2, e3, e4, e5]⟩
end Go.Proofs.YtgnppdghjlnlhaaGreatDoor
namespace Go.Proofs.YtgnppdghjlnlhaaGreatDoor
open Go.ChangeShapes Go.WideShapes Go.ChangeAt Go.RowKit Go.Deep
theorem cells_file : Tryz.prog.cellsOf 132 = 3 := by kernel_rfl
theorem cells_str : Tryz.prog.cellsOf 9 = 1 := by kernel_rfl
theorem cells_int : Tryz.prog.cellsOf 3 = 1 := by kernel_rfl
theorem cells_bool : Tryz.prog.cellsOf 4 = 1 := by kernel_rfl
theorem cells_fileS : Tryz.prog.cellsOf 24 = 1 := by kernel_rfl
theorem cells_disk : Tryz.prog.cellsOf 26 = 6 := by kernel_rfl
section
variable {H : Type} {enc : TypeId × Value → H} {W : World}
set_option maxRecDepth 100000 in
theorem open_file {fuel : Nat} {cs : List Value} {x : DataW H × List MemPlace} (h : DataW.trod enc Tryz.prog W 0 (fun _ => true) true fuel 132 cs = some x) :
    ∃ f : FileD, cs = [.string f.name, .string f.data, .int .i64 f.synced] ∧ f.name.size ≤ maxLen ∧ f.data.size ≤ maxLen := by
  obtain ⟨y0, y1, y2, n, _, hl, h0, h1, h2⟩ := trod_struct3 Tryz.underlying132 h
  rw [cells_file] at hl
  match cs, hl with
  | [c0, c1, c2], _ =>
    simp [cells_str, cells_int] at h0 h1 h2
    obtain ⟨s0, e0, _, z0⟩ := DataW.trod_string Tryz.underlying9 h0
    obtain ⟨s1, e1, _, z1⟩ := DataW.trod_string Tryz.underlying9 h1
    obtain ⟨i2, e2, _, _⟩ := DataW.trod_int Tryz.underlying3 h2
    simp at e0 e1 e2
    exact ⟨⟨s0, s1, i2⟩, by simp [e0, e1, e2], z0, z1⟩
set_option maxRecDepth 100000 in
theorem open_files {fuel : Nat} {v : Value} {x : DataW H × List MemPlace} (h : DataW.trod enc Tryz.prog W 0 (fun _ => true) true fuel 24 [v] = some x) :
    ∃ (a : Option Addr) (cap : Nat) (fs : List FileD), v = .slice a fs.length cap ∧ FilesIn W a fs ∧ Short fs ∧ fs.length ≤ maxLen := by
  rcases open_slice Tryz.underlying24 h with ⟨hc, _⟩ | ⟨a, len, cap, m, n, D, Pl, hc, _, hl, hm, hmm, _, hx⟩
  · simp at hc
    exact ⟨none, 0, [], by simpa using hc, Or.inl rfl, fun i h => absurd h (by simp), by simp⟩
  · simp at hc
    simp only [if_true] at hmm
    have hin : Inhabited FileD := ⟨⟨ByteArray.empty, ByteArray.empty, 0⟩⟩
    obtain ⟨b, o, spot⟩ := a
    rw [cells_file] at hx
    have hsp : 0 < len → spot = none := fun h0 => by
      obtain ⟨cs', h1, h2⟩ := hx 0 (by omega)
      obtain ⟨f, rfl, _, _⟩ := open_file h2
      obtain ⟨_, _, hcell⟩ := World.cells?_some h1
      have hc0 := hcell 0 (by omega)
      simp only [List.getElem?_cons_zero] at hc0
      have := World.cell?_spot hc0
      simpa [Addr.add] using this
    obtain ⟨F, hF⟩ := choose_lt (α := FileD) (n := len) (p := fun i f => W.cell? ⟨b, o + i * 3, none⟩ = some (.string f.name) ∧
        W.cell? ⟨b, o + i * 3 + 1, none⟩ = some (.string f.data) ∧ W.cell? ⟨b, o + i * 3 + 2, none⟩ = some (.int .i64 f.synced) ∧ f.name.size ≤ maxLen ∧ f.data.size ≤ maxLen) (fun i hi => by
      obtain ⟨cs', h1, h2⟩ := hx i (by omega)
      obtain ⟨f, rfl, z0, z1⟩ := open_file h2
      obtain ⟨_, _, hcell⟩ := World.cells?_some h1
      have hspot := hsp (by omega)
      subst hspot
      refine ⟨f, ?_, ?_, ?_, z0, z1⟩
      · simpa [add_plain] using hcell 0 (by omega)
      · simpa [add_plain] using hcell 1 (by omega)
      · simpa [add_plain] using hcell 2 (by omega))
    refine ⟨some ⟨b, o, spot⟩, cap, (List.range len).map F, by simp [hc], ?_, ?_, by simp; omega⟩
    · by_cases h0 : len = 0
      · subst h0; exact Or.inl rfl
      · have hs := hsp (by omega)
        subst hs
        have hlt : b < W.heap.size := by
          have hc0 := (hF 0 (by omega)).1
          rcases Nat.lt_or_ge b W.heap.size with hlt | hge
          · exact hlt
          · simp [World.cell?, Array.getElem?_eq_none hge] at hc0
        refine Or.inr ⟨b, o, rfl, hlt, fun i hi => ?_⟩
        simp only [List.length_map, List.length_range] at hi
        obtain ⟨q1, q2, q3, _⟩ := hF i hi
        simpa using ⟨q1, q2, q3⟩
    · intro i hi
      simp only [List.length_map, List.length_range] at hi
      obtain ⟨_, _, _, z0, z1⟩ := hF i hi
      simpa using ⟨z0, z1⟩
set_option maxRecDepth 100000 in
theorem open_disk {r : Reach} {b0 : Nat} {v : Value} {d : DataW H} {p : List MemPlace} (hv : Value.okWide Tryz.prog W r b0 26 v) (h : DataW.Trod enc Tryz.prog W 0 (fun _ => true) true 26 v d p) :
    ∃ (a : Option Addr) (cap : Nat) (fs : List FileD) (c k cr fl : Int) (dn : Bool), v = .agg #[.slice a fs.length cap, .int .i64 c, .int .i64 k, .int .i64 cr, .int .i64 fl, .bool dn] ∧ FilesIn W a fs ∧ Short fs ∧ fs.length ≤ maxLen ∧
      (Lit.int .i64 c).wf = true ∧ (Lit.int .i64 k).wf = true ∧ (Lit.int .i64 cr).wf = true ∧ (Lit.int .i64 fl).wf = true := by
  obtain ⟨cs, rfl, hsz⟩ := okWide_struct Tryz.underlying26 hv
  obtain ⟨fuel, hf⟩ := h
  obtain ⟨xs, n, _, _, _, hlen, hfl⟩ := DataW.trod_struct Tryz.underlying26 hf
  rw [cells_disk] at hsz
  obtain ⟨l⟩ := cs
  simp at hsz
  match l, hsz with
  | [c0, c1, c2, c3, c4, c5], _ =>
    match xs, hlen with
    | [y0, y1, y2, y3, y4, y5], _ =>
      have h0 := hfl 0 _ rfl
      have h1 := hfl 1 _ rfl
      have h2 := hfl 2 _ rfl
      have h3 := hfl 3 _ rfl
      have h4 := hfl 4 _ rfl
      have h5 := hfl 5 _ rfl
      simp [Value.cells, cells_fileS, cells_int, cells_bool] at h0 h1 h2 h3 h4 h5
      obtain ⟨a, cap, fs, e0, hF, hS, hL⟩ := open_files h0
      obtain ⟨i1, e1, _, w1⟩ := DataW.trod_int Tryz.underlying3 h1
      obtain ⟨i2, e2, _, w2⟩ := DataW.trod_int Tryz.underlying3 h2
      obtain ⟨i3, e3, _, w3⟩ := DataW.trod_int Tryz.underlying3 h3
      obtain ⟨i4, e4, _, w4⟩ := DataW.trod_int Tryz.underlying3 h4
      obtain ⟨b5, e5, _⟩ := DataW.trod_bool Tryz.underlying4 h5
      simp at e1 e2 e3 e4 e5
      exact ⟨a, cap, fs, i1, i2, i3, i4, b5, by simp [e0, e1, e2, e3, e4, e5], hF, hS, hL, w1, w2, w3, w4⟩
end
end Go.Proofs.YtgnppdghjlnlhaaGreatDoor
namespace Go.Proofs.YtgnppdghjlnlhaaGreatDoor
open Go.ChangeShapes Go.WideShapes Go.ChangeAt Go.RowKit Go.Deep
theorem cells_intC : Tryz.prog.cellsOf 3 = 1 := by kernel_rfl
theorem wf_i64p {n : Int} (h : (Lit.int .i64 n).wf = true) : I64p n := by
  simp only [Lit.wf, Bool.and_eq_true, decide_eq_true_eq] at h
  exact h
theorem cells_strT : Tryz.prog.cellsOf 9 = 1 := by kernel_rfl
theorem cells_ten : Tryz.prog.cellsOf 137 = 4 := by kernel_rfl
theorem cells_mlS : Tryz.prog.cellsOf 134 = 1 := by kernel_rfl
theorem cells_srS : Tryz.prog.cellsOf 135 = 1 := by kernel_rfl
theorem cells_tenS : Tryz.prog.cellsOf 29 = 1 := by kernel_rfl
theorem cells_sta : Tryz.prog.cellsOf 31 = 2 := by kernel_rfl
section
variable {H : Type} {enc : TypeId × Value → H} {W : World}
theorem cells_ml : Tryz.prog.cellsOf 198 = 2 := by kernel_rfl
set_option maxRecDepth 100000 in
theorem open_ml {fuel : Nat} {cs : List Value} {x : DataW H × List MemPlace} (h : DataW.trod enc Tryz.prog W 0 (fun _ => true) true fuel 198 cs = some x) :
    ∃ f : PairD, cs = [.string f.s, .int .i64 f.n] ∧ f.s.size ≤ maxLen ∧ I64p f.n := by
  obtain ⟨y0, y1, n, _, hl, h0, h1⟩ := trod_struct2 Tryz.underlying198 h
  rw [cells_ml] at hl
  match cs, hl with
  | [c0, c1], _ =>
    simp [cells_strT, cells_intC] at h0 h1
    obtain ⟨s0, e0, _, z0⟩ := DataW.trod_string Tryz.underlying9 h0
    obtain ⟨i1, e1, _, y1'⟩ := DataW.trod_int Tryz.underlying3 h1
    simp at e0 e1
    exact ⟨⟨s0, i1⟩, by simp [e0, e1], z0, wf_i64p y1'⟩
set_option maxRecDepth 100000 in
theorem open_mlS {fuel : Nat} {v : Value} {x : DataW H × List MemPlace} (h : DataW.trod enc Tryz.prog W 0 (fun _ => true) true fuel 134 [v] = some x) :
    ∃ (a : Option Addr) (cap : Nat) (fs : List PairD), v = .slice a fs.length cap ∧ PairsIn W a fs ∧ ShortP fs ∧ RngP fs ∧ fs.length ≤ maxLen := by
  rcases open_slice Tryz.underlying134 h with ⟨hc, _⟩ | ⟨a, len, cap, m, n, D, Pl, hc, _, hl, hm, hmm, _, hx⟩
  · simp at hc
    exact ⟨none, 0, [], by simpa using hc, Or.inl rfl, fun i h => absurd h (by simp), fun i h => absurd h (by simp), by simp⟩
  · simp at hc
    simp only [if_true] at hmm
    have hin : Inhabited PairD := ⟨⟨ByteArray.empty, 0⟩⟩
    obtain ⟨b, o, spot⟩ := a
    rw [cells_ml] at hx
    have hsp : 0 < len → spot = none := fun h0 => by
      obtain ⟨cs', h1, h2⟩ := hx 0 (by omega)
      obtain ⟨f, rfl, _⟩ := open_ml h2
      obtain ⟨_, _, hcell⟩ := World.cells?_some h1
      have hc0 := hcell 0 (by omega)
      simp only [List.getElem?_cons_zero] at hc0
      have := World.cell?_spot hc0
      simpa [Addr.add] using this
    obtain ⟨F, hF⟩ := choose_lt (α := PairD) (n := len) (p := fun i f => W.cell? ⟨b, o + i * 2, none⟩ = some (.string f.s) ∧
        W.cell? ⟨b, o + i * 2 + 1, none⟩ = some (.int .i64 f.n) ∧ f.s.size ≤ maxLen ∧ I64p f.n) (fun i hi => by
      obtain ⟨cs', h1, h2⟩ := hx i (by omega)
      obtain ⟨f, rfl, z0⟩ := open_ml h2
      obtain ⟨_, _, hcell⟩ := World.cells?_some h1
      have hspot := hsp (by omega)
      subst hspot
      refine ⟨f, ?_, ?_, z0⟩
      · simpa [add_plain] using hcell 0 (by omega)
      · simpa [add_plain] using hcell 1 (by omega))
    refine ⟨some ⟨b, o, spot⟩, cap, (List.range len).map F, by simp [hc], ?_, ?_, ?_, by simp; omega⟩
    · by_cases h0 : len = 0
      · subst h0; exact Or.inl rfl
      · have hs := hsp (by omega)
        subst hs
        have hlt : b < W.heap.size := by
          have hc0 := (hF 0 (by omega)).1
          rcases Nat.lt_or_ge b W.heap.size with hlt | hge
          · exact hlt
          · simp [World.cell?, Array.getElem?_eq_none hge] at hc0
        refine Or.inr ⟨b, o, rfl, hlt, fun i hi => ?_⟩
        simp only [List.length_map, List.length_range] at hi
        obtain ⟨q1, q2, _⟩ := hF i hi
        simpa using ⟨q1, q2⟩
    · intro i hi
      simp only [List.length_map, List.length_range] at hi
      obtain ⟨_, _, z0, _⟩ := hF i hi
      simpa using z0
    · intro i hi
      simp only [List.length_map, List.length_range] at hi
      obtain ⟨_, _, _, z0⟩ := hF i hi
      simpa using z0
theorem cells_sr : Tryz.prog.cellsOf 200 = 2 := by kernel_rfl
set_option maxRecDepth 100000 in
theorem open_sr {fuel : Nat} {cs : List Value} {x : DataW H × List MemPlace} (h : DataW.trod enc Tryz.prog W 0 (fun _ => true) true fuel 200 cs = some x) :
    ∃ f : PairD, cs = [.string f.s, .int .i64 f.n] ∧ f.s.size ≤ maxLen ∧ I64p f.n := by
  obtain ⟨y0, y1, n, _, hl, h0, h1⟩ := trod_struct2 Tryz.underlying200 h
  rw [cells_sr] at hl
  match cs, hl with
  | [c0, c1], _ =>
    simp [cells_strT, cells_intC] at h0 h1
    obtain ⟨s0, e0, _, z0⟩ := DataW.trod_string Tryz.underlying9 h0
    obtain ⟨i1, e1, _, y1'⟩ := DataW.trod_int Tryz.underlying3 h1
    simp at e0 e1
    exact ⟨⟨s0, i1⟩, by simp [e0, e1], z0, wf_i64p y1'⟩
set_option maxRecDepth 100000 in
theorem open_srS {fuel : Nat} {v : Value} {x : DataW H × List MemPlace} (h : DataW.trod enc Tryz.prog W 0 (fun _ => true) true fuel 135 [v] = some x) :
    ∃ (a : Option Addr) (cap : Nat) (fs : List PairD), v = .slice a fs.length cap ∧ PairsIn W a fs ∧ ShortP fs ∧ RngP fs ∧ fs.length ≤ maxLen := by
  rcases open_slice Tryz.underlying135 h with ⟨hc, _⟩ | ⟨a, len, cap, m, n, D, Pl, hc, _, hl, hm, hmm, _, hx⟩
  · simp at hc
    exact ⟨none, 0, [], by simpa using hc, Or.inl rfl, fun i h => absurd h (by simp), fun i h => absurd h (by simp), by simp⟩
  · simp at hc
    simp only [if_true] at hmm
    have hin : Inhabited PairD := ⟨⟨ByteArray.empty, 0⟩⟩
    obtain ⟨b, o, spot⟩ := a
    rw [cells_sr] at hx
    have hsp : 0 < len → spot = none := fun h0 => by
      obtain ⟨cs', h1, h2⟩ := hx 0 (by omega)
      obtain ⟨f, rfl, _⟩ := open_sr h2
      obtain ⟨_, _, hcell⟩ := World.cells?_some h1
      have hc0 := hcell 0 (by omega)
      simp only [List.getElem?_cons_zero] at hc0
      have := World.cell?_spot hc0
      simpa [Addr.add] using this
    obtain ⟨F, hF⟩ := choose_lt (α := PairD) (n := len) (p := fun i f => W.cell? ⟨b, o + i * 2, none⟩ = some (.string f.s) ∧
        W.cell? ⟨b, o + i * 2 + 1, none⟩ = some (.int .i64 f.n) ∧ f.s.size ≤ maxLen ∧ I64p f.n) (fun i hi => by
      obtain ⟨cs', h1, h2⟩ := hx i (by omega)
      obtain ⟨f, rfl, z0⟩ := open_sr h2
      obtain ⟨_, _, hcell⟩ := World.cells?_some h1
      have hspot := hsp (by omega)
      subst hspot
      refine ⟨f, ?_, ?_, z0⟩
      · simpa [add_plain] using hcell 0 (by omega)
      · simpa [add_plain] using hcell 1 (by omega))
    refine ⟨some ⟨b, o, spot⟩, cap, (List.range len).map F, by simp [hc], ?_, ?_, ?_, by simp; omega⟩
    · by_cases h0 : len = 0
      · subst h0; exact Or.inl rfl
      · have hs := hsp (by omega)
        subst hs
        have hlt : b < W.heap.size := by
          have hc0 := (hF 0 (by omega)).1
          rcases Nat.lt_or_ge b W.heap.size with hlt | hge
          · exact hlt
          · simp [World.cell?, Array.getElem?_eq_none hge] at hc0
        refine Or.inr ⟨b, o, rfl, hlt, fun i hi => ?_⟩
        simp only [List.length_map, List.length_range] at hi
        obtain ⟨q1, q2, _⟩ := hF i hi
        simpa using ⟨q1, q2⟩
    · intro i hi
      simp only [List.length_map, List.length_range] at hi
      obtain ⟨_, _, z0, _⟩ := hF i hi
      simpa using z0
    · intro i hi
      simp only [List.length_map, List.length_range] at hi
      obtain ⟨_, _, _, z0⟩ := hF i hi
      simpa using z0
set_option maxRecDepth 100000 in
theorem open_ten {fuel : Nat} {cs : List Value} {x : DataW H × List MemPlace} (h : DataW.trod enc Tryz.prog W 0 (fun _ => true) true fuel 137 cs = some x) :
    ∃ (t : TenD) (a1 a2 : Option Addr) (c1 c2 : Nat), cs = [.string t.name, .int .i64 t.limit, .slice a1 t.mets.length c1, .slice a2 t.sers.length c2] ∧ PairsIn W a1 t.mets ∧ PairsIn W a2 t.sers ∧ ShortTen t ∧ (I64p t.limit ∧ RngP t.mets ∧ RngP t.sers) := by
  obtain ⟨xs, n, _, _, hl, hlen, hfl⟩ := DataW.trod_struct Tryz.underlying137 h
  rw [cells_ten] at hl
  match cs, hl with
  | [c0, c1, c2, c3], _ =>
    match xs, hlen with
    | [y0, y1, y2, y3], _ =>
      have h0 := hfl 0 _ rfl
      have h1 := hfl 1 _ rfl
      have h2 := hfl 2 _ rfl
      have h3 := hfl 3 _ rfl
      simp [cells_strT, cells_intC, cells_mlS, cells_srS] at h0 h1 h2 h3
      obtain ⟨s0, e0, _, z0⟩ := DataW.trod_string Tryz.underlying9 h0
      obtain ⟨i1, e1, _, y1'⟩ := DataW.trod_int Tryz.underlying3 h1
      obtain ⟨a2, k2, f2, e2, p2, s2, g2, l2⟩ := open_mlS h2
      obtain ⟨a3, k3, f3, e3, p3, s3, g3, l3⟩ := open_srS h3
      simp at e0 e1
      exact ⟨⟨s0, i1, f2, f3⟩, a2, a3, k2, k3, by simp [e0, e1, e2, e3], p2, p3, ⟨z0, s2, l2, s3, l3⟩, wf_i64p y1', g2, g3⟩
set_option maxRecDepth 100000 in
theorem open_tens {fuel : Nat} {v : Value} {x : DataW H × List MemPlace} (h : DataW.trod enc Tryz.prog W 0 (fun _ => true) true fuel 29 [v] = some x) :
    ∃ (a : Option Addr) (cap : Nat) (fs : List TenD), v = .slice a fs.length cap ∧ TensIn W a fs ∧ ShortT fs ∧ RngT fs ∧ fs.length ≤ maxLen := by
  rcases open_slice Tryz.underlying29 h with ⟨hc, _⟩ | ⟨a, len, cap, m, n, D, Pl, hc, _, hl, hm, hmm, _, hx⟩
  · simp at hc
    exact ⟨none, 0, [], by simpa using hc, Or.inl rfl, fun i h => absurd h (by simp), fun i h => absurd h (by simp), by simp⟩
  · simp at hc
    simp only [if_true] at hmm
    have hin : Inhabited TenD := ⟨⟨ByteArray.empty, 0, [], []⟩⟩
    obtain ⟨b, o, spot⟩ := a
    rw [cells_ten] at hx
    have hsp : 0 < len → spot = none := fun h0 => by
      obtain ⟨cs', h1, h2⟩ := hx 0 (by omega)
      obtain ⟨f, _, _, _, _, rfl, _⟩ := open_ten h2
      obtain ⟨_, _, hcell⟩ := World.cells?_some h1
      have hc0 := hcell 0 (by omega)
      simp only [List.getElem?_cons_zero] at hc0
      have := World.cell?_spot hc0
      simpa [Addr.add] using this
    obtain ⟨F, hF⟩ := choose_lt (α := TenD) (n := len) (p := fun i f => (spot = none → TenAt W b (o + i * 4) f) ∧ (ShortTen f ∧ (I64p f.limit ∧ RngP f.mets ∧ RngP f.sers)) ∧ (spot = none → b < W.heap.size)) (fun i hi => by
      obtain ⟨cs', h1, h2⟩ := hx i (by omega)
      obtain ⟨f, a1, a2, c1, c2, rfl, p1, p2, z⟩ := open_ten h2
      obtain ⟨_, _, hcell⟩ := World.cells?_some h1
      have hspot := hsp (by omega)
      subst hspot
      have q0 : W.cell? ⟨b, o + i * 4, none⟩ = some (.string f.name) := by simpa [add_plain] using hcell 0 (by omega)
      refine ⟨f, fun _ => ⟨a1, c1, a2, c2, q0, ?_, ?_, ?_, p1, p2⟩, z, fun _ => ?_⟩
      · simpa [add_plain] using hcell 1 (by omega)
      · simpa [add_plain] using hcell 2 (by omega)
      · simpa [add_plain] using hcell 3 (by omega)
      · rcases Nat.lt_or_ge b W.heap.size with hlt | hge
        · exact hlt
        · simp [World.cell?, Array.getElem?_eq_none hge] at q0)
    refine ⟨some ⟨b, o, spot⟩, cap, (List.range len).map F, by simp [hc], ?_, ?_, ?_, by simp; omega⟩
    · by_cases h0 : len = 0
      · subst h0; exact Or.inl rfl
      · have hs := hsp (by omega)
        subst hs
        refine Or.inr ⟨b, o, rfl, (hF 0 (by omega)).2.2 rfl, fun i hi => ?_⟩
        simp only [List.length_map, List.length_range] at hi
        have := (hF i hi).1 rfl
        simpa using this
    · intro i hi
      simp only [List.length_map, List.length_range] at hi
      have := (hF i hi).2.1.1
      simpa using this
    · intro i hi
      simp only [List.length_map, List.length_range] at hi
      have := (hF i hi).2.1.2
      simpa using this
set_option maxRecDepth 100000 in
theorem open_state {r : Reach} {b0 : Nat} {v : Value} {d : DataW H} {p : List MemPlace} (hv : Value.okWide Tryz.prog W r b0 31 v) (h : DataW.Trod enc Tryz.prog W 0 (fun _ => true) true 31 v d p) :
    ∃ (now : Int) (a : Option Addr) (cap : Nat) (ts : List TenD), v = .agg #[.int .i64 now, .slice a ts.length cap] ∧ TensIn W a ts ∧ ShortT ts ∧ RngT ts ∧ I64p now ∧ ts.length ≤ maxLen := by
  obtain ⟨cs, rfl, hsz⟩ := okWide_struct Tryz.underlying31 hv
  obtain ⟨fuel, hf⟩ := h
  obtain ⟨xs, n, _, _, _, hlen, hfl⟩ := DataW.trod_struct Tryz.underlying31 hf
  rw [cells_sta] at hsz
  obtain ⟨l⟩ := cs
  simp at hsz
  match l, hsz with
  | [c0, c1], _ =>
    match xs, hlen with
    | [y0, y1], _ =>
      have h0 := hfl 0 _ rfl
      have h1 := hfl 1 _ rfl
      simp [Value.cells, cells_intC, cells_tenS] at h0 h1
      obtain ⟨i0, e0, _, y0'⟩ := DataW.trod_int Tryz.underlying3 h0
      obtain ⟨a, cap, ts, e1, q1, q2, q4, q3⟩ := open_tens h1
      simp at e0
      exact ⟨i0, a, cap, ts, by simp [e0, e1], q1, q2, q4, wf_i64p y0', q3⟩
end
end Go.Proofs.YtgnppdghjlnlhaaGreatDoor
namespace Go.Proofs.YtgnppdghjlnlhaaGreatDoor
open Go.ChangeShapes Go.WideShapes Go.ChangeAt Go.RowKit
theorem cells_diskN : Tryz.prog.cellsOf 26 = 6 := by kernel_rfl
theorem cells_logN : Tryz.prog.cellsOf 28 = 3 := by kernel_rfl
theorem cells_boolN : Tryz.prog.cellsOf 4 = 1 := by kernel_rfl
theorem cells_node : Tryz.prog.cellsOf 33 = 14 := by kernel_rfl
section
variable {H : Type} {enc : TypeId × Value → H} {W : World}
set_option maxRecDepth 100000 in
set_option maxHeartbeats 1000000 in
theorem open_node {r : Reach} {b0 : Nat} {v : Value} {d : DataW H} {p : List MemPlace} (hv : Value.okWide Tryz.prog W r b0 33 v) (h : DataW.Trod enc Tryz.prog W 0 (fun _ => true) true 33 v d p) :
    ∃ (a b : Option Addr) (ca cb : Nat) (N : NodeD), v = .agg #[.slice a N.d.fs.length ca, .int .i64 N.d.c, .int .i64 N.d.k, .int .i64 N.d.cr, .int .i64 N.d.fl, .bool N.d.dn, .int .i64 N.l.first, .int .i64 N.l.last, .int .i64 N.l.size, .int .i64 N.now, .slice b N.ts.length cb, .int .i64 N.lsn, .bool N.deg, .bool N.up] ∧ FilesIn W a N.d.fs ∧ Short N.d.fs ∧ N.d.fs.length ≤ maxLen ∧ TensIn W b N.ts ∧ ShortT N.ts ∧ RngT N.ts ∧ I64p N.lsn ∧ I64p N.now ∧ N.ts.length ≤ maxLen := by
  obtain ⟨cs, rfl, hsz⟩ := okWide_struct Tryz.underlying33 hv
  obtain ⟨fuel, hf⟩ := h
  obtain ⟨xs, n, _, _, _, hlen, hfl⟩ := DataW.trod_struct Tryz.underlying33 hf
  rw [cells_node] at hsz
  obtain ⟨l⟩ := cs
  simp at hsz
  match l, hsz with
  | [c0, c1, c2, c3, c4, c5, c6, c7, c8, c9, c10, c11, c12, c13], _ =>
    match xs, hlen with
    | [y0, y1, y2, y3, y4, y5], _ =>
      have h0 := hfl 0 _ rfl
      have h1 := hfl 1 _ rfl
      have h2 := hfl 2 _ rfl
      have h3 := hfl 3 _ rfl
      have h4 := hfl 4 _ rfl
      have h5 := hfl 5 _ rfl
      simp [Value.cells, cells_diskN, cells_logN, cells_sta, cells_intC, cells_boolN] at h0 h1 h2 h3 h4 h5
      obtain ⟨xd, nd, _, _, _, hld, hfd⟩ := DataW.trod_struct Tryz.underlying26 h0
      obtain ⟨xl, nl, _, _, _, hll, hfl2⟩ := DataW.trod_struct Tryz.underlying28 h1
      obtain ⟨xs, ns, _, _, _, hls, hfs⟩ := DataW.trod_struct Tryz.underlying31 h2
      match xd, hld with
      | [z0, z1, z2, z3, z4, z5], _ =>
        match xl, hll with
        | [l0, l1, l2], _ =>
          match xs, hls with
          | [s0, s1], _ =>
            have d0 := hfd 0 _ rfl
            have d1 := hfd 1 _ rfl
            have d2 := hfd 2 _ rfl
            have d3 := hfd 3 _ rfl
            have d4 := hfd 4 _ rfl
            have d5 := hfd 5 _ rfl
            have k0 := hfl2 0 _ rfl
            have k1 := hfl2 1 _ rfl
            have k2 := hfl2 2 _ rfl
            have t0 := hfs 0 _ rfl
            have t1 := hfs 1 _ rfl
            simp [cells_fileS, cells_intC, cells_boolN, cells_tenS] at d0 d1 d2 d3 d4 d5 k0 k1 k2 t0 t1
            obtain ⟨a, cap, fs, e0, hF, hS, hL⟩ := open_files d0
            obtain ⟨i1, e1, _, _⟩ := DataW.trod_int Tryz.underlying3 d1
            obtain ⟨i2, e2, _, _⟩ := DataW.trod_int Tryz.underlying3 d2
            obtain ⟨i3, e3, _, _⟩ := DataW.trod_int Tryz.underlying3 d3
            obtain ⟨i4, e4, _, _⟩ := DataW.trod_int Tryz.underlying3 d4
            obtain ⟨b5, e5, _⟩ := DataW.trod_bool Tryz.underlying4 d5
            obtain ⟨i6, e6, _, _⟩ := DataW.trod_int Tryz.underlying3 k0
            obtain ⟨i7, e7, _, _⟩ := DataW.trod_int Tryz.underlying3 k1
            obtain ⟨i8, e8, _, _⟩ := DataW.trod_int Tryz.underlying3 k2
            obtain ⟨i9, e9, _, w9⟩ := DataW.trod_int Tryz.underlying3 t0
            obtain ⟨b, cb, ts, e10, q1, q2, q4, q3⟩ := open_tens t1
            obtain ⟨i11, e11, _, w11⟩ := DataW.trod_int Tryz.underlying3 h3
            obtain ⟨b12, e12, _⟩ := DataW.trod_bool Tryz.underlying4 h4
            obtain ⟨b13, e13, _⟩ := DataW.trod_bool Tryz.underlying4 h5
            simp at e1 e2 e3 e4 e5 e6 e7 e8 e9 e11 e12 e13
            exact ⟨a, b, cap, cb, ⟨⟨fs, i1, i2, i3, i4, b5⟩, ⟨i6, i7, i8⟩, i9, ts, i11, b12, b13⟩, by simp [e0, e1, e2, e3, e4, e5, e6, e7, e8, e9, e10, e11, e12, e13], hF, hS, hL, q1, q2, q4, wf_i64p w11, wf_i64p w9, q3⟩
end
end Go.Proofs.YtgnppdghjlnlhaaGreatDoor
