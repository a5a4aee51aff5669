import Derived.Test.YtojeemogabhaoaaGreatDoorProg
import Derived.Test.YtojeemogabhaoaaGreatDoorJ05Cfg
import Derived.ProofKit
import Derived.OpenShut
import Derived.Test.YtojeemogabhaoaaGreatDoorJ02Ord
import Derived.Deep.Slices
import Derived.Deep.Strs
namespace Go.Proofs.YtojeemogabhaoaaGreatDoor
open Go.ChangeShapes Go.WideShapes Go.ChangeAt Go.RowKit
theorem cells_cfg : Tryz.prog.cellsOf 23 = 6 := by kernel_rfl
theorem cells_intC : Tryz.prog.cellsOf 3 = 1 := by kernel_rfl
set_option maxRecDepth 100000 in
theorem open_config {H : Type} {enc : TypeId × Value → H} {W : World} {r : Reach} {b0 : Nat} {v : Value} {d : DataW H} {p : List MemPlace} (hv : Value.okWide Tryz.prog W r b0 23 v) (h : DataW.Trod enc Tryz.prog W 0 (fun _ => true) true 23 v d p) :
    ∃ c : CfgD, v = cfgV c := by
  obtain ⟨cs, rfl, hsz⟩ := okWide_struct Tryz.underlying23 hv
  obtain ⟨fuel, hf⟩ := h
  obtain ⟨xs, n, _, _, _, hlen, hfl⟩ := DataW.trod_struct Tryz.underlying23 hf
  rw [cells_cfg] at hsz
  obtain ⟨l⟩ := cs
  simp at hsz
  match l, hsz with
  | [c0, c1, c2, c3, c4, c5], _ =>
    match xs, hlen with
    | [y0, y1, y2, y3, y4, y5], _ =>
      have h0 := hfl 0 _ rfl
      have h1 := hfl 1 _ rfl
      have h2 := hfl 2 _ rfl
      have h3 := hfl 3 _ rfl
      have h4 := hfl 4 _ rfl
      have h5 := hfl 5 _ rfl
      simp [Value.cells, cells_intC] at h0 h1 h2 h3 h4 h5
      obtain ⟨i0, e0, _, _⟩ := DataW.trod_int Tryz.underlying3 h0
      obtain ⟨i1, e1, _, _⟩ := DataW.trod_int Tryz.underlying3 h1
      obtain ⟨i2, e2, _, _⟩ := DataW.trod_int Tryz.underlying3 h2
      obtain ⟨i3, e3, _, _⟩ := DataW.trod_int Tryz.underlying3 h3
      obtain ⟨i4, e4, _, _⟩ := DataW.trod_int Tryz.underlying3 h4
      obtain ⟨i5, e5, _, _⟩ := DataW.trod_int Tryz.underlying3 h5
      simp at e0 e1 e2 e3 e4 e5
      exact ⟨⟨i0, i1, i2, i3, i4, i5⟩, by simp [cfgV, e0, e1, e2, e3, e4, e5]⟩
end Go.Proofs.YtojeemogabhaoaaGreatDoor
namespace Go.Proofs.YtojeemogabhaoaaGreatDoor
open Go.ChangeShapes Go.WideShapes Go.ChangeAt Go.RowKit Go.Deep
theorem cells_strT : Tryz.prog.cellsOf 9 = 1 := by kernel_rfl
theorem cells_ten : Tryz.prog.cellsOf 90 = 4 := by kernel_rfl
theorem cells_mlS : Tryz.prog.cellsOf 87 = 1 := by kernel_rfl
theorem cells_srS : Tryz.prog.cellsOf 88 = 1 := by kernel_rfl
theorem cells_tenS : Tryz.prog.cellsOf 24 = 1 := by kernel_rfl
theorem cells_sta : Tryz.prog.cellsOf 26 = 2 := by kernel_rfl
section
variable {H : Type} {enc : TypeId × Value → H} {W : World}
theorem cells_ml : Tryz.prog.cellsOf 149 = 2 := by kernel_rfl
set_option maxRecDepth 100000 in
theorem open_ml {fuel : Nat} {cs : List Value} {x : DataW H × List MemPlace} (h : DataW.trod enc Tryz.prog W 0 (fun _ => true) true fuel 149 cs = some x) :
    ∃ f : PairD, cs = [.string f.s, .int .i64 f.n] ∧ f.s.size ≤ maxLen := by
  obtain ⟨y0, y1, n, _, hl, h0, h1⟩ := trod_struct2 Tryz.underlying149 h
  rw [cells_ml] at hl
  match cs, hl with
  | [c0, c1], _ =>
    simp [cells_strT, cells_intC] at h0 h1
    obtain ⟨s0, e0, _, z0⟩ := DataW.trod_string Tryz.underlying9 h0
    obtain ⟨i1, e1, _, _⟩ := DataW.trod_int Tryz.underlying3 h1
    simp at e0 e1
    exact ⟨⟨s0, i1⟩, by simp [e0, e1], z0⟩
set_option maxRecDepth 100000 in
theorem open_mlS {fuel : Nat} {v : Value} {x : DataW H × List MemPlace} (h : DataW.trod enc Tryz.prog W 0 (fun _ => true) true fuel 87 [v] = some x) :
    ∃ (a : Option Addr) (cap : Nat) (fs : List PairD), v = .slice a fs.length cap ∧ PairsIn W a fs ∧ ShortP fs ∧ fs.length ≤ maxLen := by
  rcases open_slice Tryz.underlying87 h with ⟨hc, _⟩ | ⟨a, len, cap, m, n, D, Pl, hc, _, hl, hm, hmm, _, hx⟩
  · simp at hc
    exact ⟨none, 0, [], by simpa using hc, Or.inl rfl, fun i h => absurd h (by simp), by simp⟩
  · simp at hc
    simp only [if_true] at hmm
    have hin : Inhabited PairD := ⟨⟨ByteArray.empty, 0⟩⟩
    obtain ⟨b, o, spot⟩ := a
    rw [cells_ml] at hx
    have hsp : 0 < len → spot = none := fun h0 => by
      obtain ⟨cs', h1, h2⟩ := hx 0 (by omega)
      obtain ⟨f, rfl, _⟩ := open_ml h2
      obtain ⟨_, _, hcell⟩ := World.cells?_some h1
      have hc0 := hcell 0 (by omega)
      simp only [List.getElem?_cons_zero] at hc0
      have := World.cell?_spot hc0
      simpa [Addr.add] using this
    obtain ⟨F, hF⟩ := choose_lt (α := PairD) (n := len) (p := fun i f => W.cell? ⟨b, o + i * 2, none⟩ = some (.string f.s) ∧
        W.cell? ⟨b, o + i * 2 + 1, none⟩ = some (.int .i64 f.n) ∧ f.s.size ≤ maxLen) (fun i hi => by
      obtain ⟨cs', h1, h2⟩ := hx i (by omega)
      obtain ⟨f, rfl, z0⟩ := open_ml h2
      obtain ⟨_, _, hcell⟩ := World.cells?_some h1
      have hspot := hsp (by omega)
      subst hspot
      refine ⟨f, ?_, ?_, z0⟩
      · simpa [add_plain] using hcell 0 (by omega)
      · simpa [add_plain] using hcell 1 (by omega))
    refine ⟨some ⟨b, o, spot⟩, cap, (List.range len).map F, by simp [hc], ?_, ?_, by simp; omega⟩
    · by_cases h0 : len = 0
      · subst h0; exact Or.inl rfl
      · have hs := hsp (by omega)
        subst hs
        have hlt : b < W.heap.size := by
          have hc0 := (hF 0 (by omega)).1
          rcases Nat.lt_or_ge b W.heap.size with hlt | hge
          · exact hlt
          · simp [World.cell?, Array.getElem?_eq_none hge] at hc0
        refine Or.inr ⟨b, o, rfl, hlt, fun i hi => ?_⟩
        simp only [List.length_map, List.length_range] at hi
        obtain ⟨q1, q2, _⟩ := hF i hi
        simpa using ⟨q1, q2⟩
    · intro i hi
      simp only [List.length_map, List.length_range] at hi
      obtain ⟨_, _, z0⟩ := hF i hi
      simpa using z0
theorem cells_sr : Tryz.prog.cellsOf 151 = 2 := by kernel_rfl
set_option maxRecDepth 100000 in
theorem open_sr {fuel : Nat} {cs : List Value} {x : DataW H × List MemPlace} (h : DataW.trod enc Tryz.prog W 0 (fun _ => true) true fuel 151 cs = some x) :
    ∃ f : PairD, cs = [.string f.s, .int .i64 f.n] ∧ f.s.size ≤ maxLen := by
  obtain ⟨y0, y1, n, _, hl, h0, h1⟩ := trod_struct2 Tryz.underlying151 h
  rw [cells_sr] at hl
  match cs, hl with
  | [c0, c1], _ =>
    simp [cells_strT, cells_intC] at h0 h1
    obtain ⟨s0, e0, _, z0⟩ := DataW.trod_string Tryz.underlying9 h0
    obtain ⟨i1, e1, _, _⟩ := DataW.trod_int Tryz.underlying3 h1
    simp at e0 e1
    exact ⟨⟨s0, i1⟩, by simp [e0, e1], z0⟩
set_option maxRecDepth 100000 in
theorem open_srS {fuel : Nat} {v : Value} {x : DataW H × List MemPlace} (h : DataW.trod enc Tryz.prog W 0 (fun _ => true) true fuel 88 [v] = some x) :
    ∃ (a : Option Addr) (cap : Nat) (fs : List PairD), v = .slice a fs.length cap ∧ PairsIn W a fs ∧ ShortP fs ∧ fs.length ≤ maxLen := by
  rcases open_slice Tryz.underlying88 h with ⟨hc, _⟩ | ⟨a, len, cap, m, n, D, Pl, hc, _, hl, hm, hmm, _, hx⟩
  · simp at hc
    exact ⟨none, 0, [], by simpa using hc, Or.inl rfl, fun i h => absurd h (by simp), by simp⟩
  · simp at hc
    simp only [if_true] at hmm
    have hin : Inhabited PairD := ⟨⟨ByteArray.empty, 0⟩⟩
    obtain ⟨b, o, spot⟩ := a
    rw [cells_sr] at hx
    have hsp : 0 < len → spot = none := fun h0 => by
      obtain ⟨cs', h1, h2⟩ := hx 0 (by omega)
      obtain ⟨f, rfl, _⟩ := open_sr h2
      obtain ⟨_, _, hcell⟩ := World.cells?_some h1
      have hc0 := hcell 0 (by omega)
      simp only [List.getElem?_cons_zero] at hc0
      have := World.cell?_spot hc0
      simpa [Addr.add] using this
    obtain ⟨F, hF⟩ := choose_lt (α := PairD) (n := len) (p := fun i f => W.cell? ⟨b, o + i * 2, none⟩ = some (.string f.s) ∧
        W.cell? ⟨b, o + i * 2 + 1, none⟩ = some (.int .i64 f.n) ∧ f.s.size ≤ maxLen) (fun i hi => by
      obtain ⟨cs', h1, h2⟩ := hx i (by omega)
      obtain ⟨f, rfl, z0⟩ := open_sr h2
      obtain ⟨_, _, hcell⟩ := World.cells?_some h1
      have hspot := hsp (by omega)
      subst hspot
      refine ⟨f, ?_, ?_, z0⟩
      · simpa [add_plain] using hcell 0 (by omega)
      · simpa [add_plain] using hcell 1 (by omega))
    refine ⟨some ⟨b, o, spot⟩, cap, (List.range len).map F, by simp [hc], ?_, ?_, by simp; omega⟩
    · by_cases h0 : len = 0
      · subst h0; exact Or.inl rfl
      · have hs := hsp (by omega)
        subst hs
        have hlt : b < W.heap.size := by
          have hc0 := (hF 0 (by omega)).1
          rcases Nat.lt_or_ge b W.heap.size with hlt | hge
          · exact hlt
          · simp [World.cell?, Array.getElem?_eq_none hge] at hc0
        refine Or.inr ⟨b, o, rfl, hlt, fun i hi => ?_⟩
        simp only [List.length_map, List.length_range] at hi
        obtain ⟨q1, q2, _⟩ := hF i hi
        simpa using ⟨q1, q2⟩
    · intro i hi
      simp only [List.length_map, List.length_range] at hi
      obtain ⟨_, _, z0⟩ := hF i hi
      simpa using z0
set_option maxRecDepth 100000 in
theorem open_ten {fuel : Nat} {cs : List Value} {x : DataW H × List MemPlace} (h : DataW.trod enc Tryz.prog W 0 (fun _ => true) true fuel 90 cs = some x) :
    ∃ (t : TenD) (a1 a2 : Option Addr) (c1 c2 : Nat), cs = [.string t.name, .int .i64 t.limit, .slice a1 t.mets.length c1, .slice a2 t.sers.length c2] ∧ PairsIn W a1 t.mets ∧ PairsIn W a2 t.sers ∧ ShortTen t := by
  obtain ⟨xs, n, _, _, hl, hlen, hfl⟩ := DataW.trod_struct Tryz.underlying90 h
  rw [cells_ten] at hl
  match cs, hl with
  | [c0, c1, c2, c3], _ =>
    match xs, hlen with
    | [y0, y1, y2, y3], _ =>
      have h0 := hfl 0 _ rfl
      have h1 := hfl 1 _ rfl
      have h2 := hfl 2 _ rfl
      have h3 := hfl 3 _ rfl
      simp [cells_strT, cells_intC, cells_mlS, cells_srS] at h0 h1 h2 h3
      obtain ⟨s0, e0, _, z0⟩ := DataW.trod_string Tryz.underlying9 h0
      obtain ⟨i1, e1, _, _⟩ := DataW.trod_int Tryz.underlying3 h1
      obtain ⟨a2, k2, f2, e2, p2, s2, l2⟩ := open_mlS h2
      obtain ⟨a3, k3, f3, e3, p3, s3, l3⟩ := open_srS h3
      simp at e0 e1
      exact ⟨⟨s0, i1, f2, f3⟩, a2, a3, k2, k3, by simp [e0, e1, e2, e3], p2, p3, z0, s2, l2, s3, l3⟩
set_option maxRecDepth 100000 in
theorem open_tens {fuel : Nat} {v : Value} {x : DataW H × List MemPlace} (h : DataW.trod enc Tryz.prog W 0 (fun _ => true) true fuel 24 [v] = some x) :
    ∃ (a : Option Addr) (cap : Nat) (fs : List TenD), v = .slice a fs.length cap ∧ TensIn W a fs ∧ ShortT fs ∧ fs.length ≤ maxLen := by
  rcases open_slice Tryz.underlying24 h with ⟨hc, _⟩ | ⟨a, len, cap, m, n, D, Pl, hc, _, hl, hm, hmm, _, hx⟩
  · simp at hc
    exact ⟨none, 0, [], by simpa using hc, Or.inl rfl, fun i h => absurd h (by simp), by simp⟩
  · simp at hc
    simp only [if_true] at hmm
    have hin : Inhabited TenD := ⟨⟨ByteArray.empty, 0, [], []⟩⟩
    obtain ⟨b, o, spot⟩ := a
    rw [cells_ten] at hx
    have hsp : 0 < len → spot = none := fun h0 => by
      obtain ⟨cs', h1, h2⟩ := hx 0 (by omega)
      obtain ⟨f, _, _, _, _, rfl, _⟩ := open_ten h2
      obtain ⟨_, _, hcell⟩ := World.cells?_some h1
      have hc0 := hcell 0 (by omega)
      simp only [List.getElem?_cons_zero] at hc0
      have := World.cell?_spot hc0
      simpa [Addr.add] using this
    obtain ⟨F, hF⟩ := choose_lt (α := TenD) (n := len) (p := fun i f => (spot = none → TenAt W b (o + i * 4) f) ∧ ShortTen f ∧ (spot = none → b < W.heap.size)) (fun i hi => by
      obtain ⟨cs', h1, h2⟩ := hx i (by omega)
      obtain ⟨f, a1, a2, c1, c2, rfl, p1, p2, z⟩ := open_ten h2
      obtain ⟨_, _, hcell⟩ := World.cells?_some h1
      have hspot := hsp (by omega)
      subst hspot
      have q0 : W.cell? ⟨b, o + i * 4, none⟩ = some (.string f.name) := by simpa [add_plain] using hcell 0 (by omega)
      refine ⟨f, fun _ => ⟨a1, c1, a2, c2, q0, ?_, ?_, ?_, p1, p2⟩, z, fun _ => ?_⟩
      · simpa [add_plain] using hcell 1 (by omega)
      · simpa [add_plain] using hcell 2 (by omega)
      · simpa [add_plain] using hcell 3 (by omega)
      · rcases Nat.lt_or_ge b W.heap.size with hlt | hge
        · exact hlt
        · simp [World.cell?, Array.getElem?_eq_none hge] at q0)
    refine ⟨some ⟨b, o, spot⟩, cap, (List.range len).map F, by simp [hc], ?_, ?_, by simp; omega⟩
    · by_cases h0 : len = 0
      · subst h0; exact Or.inl rfl
      · have hs := hsp (by omega)
        subst hs
        refine Or.inr ⟨b, o, rfl, (hF 0 (by omega)).2.2 rfl, fun i hi => ?_⟩
        simp only [List.length_map, List.length_range] at hi
        have := (hF i hi).1 rfl
        simpa using this
    · intro i hi
      simp only [List.length_map, List.length_range] at hi
      have := (hF i hi).2.1
      simpa using this
set_option maxRecDepth 100000 in
theorem open_state {r : Reach} {b0 : Nat} {v : Value} {d : DataW H} {p : List MemPlace} (hv : Value.okWide Tryz.prog W r b0 26 v) (h : DataW.Trod enc Tryz.prog W 0 (fun _ => true) true 26 v d p) :
    ∃ (now : Int) (a : Option Addr) (cap : Nat) (ts : List TenD), v = .agg #[.int .i64 now, .slice a ts.length cap] ∧ TensIn W a ts ∧ ShortT ts ∧ ts.length ≤ maxLen := by
  obtain ⟨cs, rfl, hsz⟩ := okWide_struct Tryz.underlying26 hv
  obtain ⟨fuel, hf⟩ := h
  obtain ⟨xs, n, _, _, _, hlen, hfl⟩ := DataW.trod_struct Tryz.underlying26 hf
  rw [cells_sta] at hsz
  obtain ⟨l⟩ := cs
  simp at hsz
  match l, hsz with
  | [c0, c1], _ =>
    match xs, hlen with
    | [y0, y1], _ =>
      have h0 := hfl 0 _ rfl
      have h1 := hfl 1 _ rfl
      simp [Value.cells, cells_intC, cells_tenS] at h0 h1
      obtain ⟨i0, e0, _, _⟩ := DataW.trod_int Tryz.underlying3 h0
      obtain ⟨a, cap, ts, e1, q1, q2, q3⟩ := open_tens h1
      simp at e0
      exact ⟨i0, a, cap, ts, by simp [e0, e1], q1, q2, q3⟩
end
end Go.Proofs.YtojeemogabhaoaaGreatDoor
