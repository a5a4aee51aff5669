import Derived.Test.YtgpgacncmoiefaaProg
import Derived.Test.YtgpgacncmoiefaaStaB
import Derived.ProofKit
import Derived.OpenShut
import Derived.Deep.Slices
import Derived.Deep.Strs
namespace Go.Proofs.Ytgpgacncmoiefaa
open Go.ChangeShapes Go.WideShapes Go.ChangeAt Go.RowKit Go.Deep

theorem cells_intC : Try.prog.cellsOf 3 = 1 := by kernel_rfl
theorem wf_i64p {n : Int} (h : (Lit.int .i64 n).wf = true) : I64p n := by
  simp only [Lit.wf, Bool.and_eq_true, decide_eq_true_eq] at h
  exact h
theorem cells_strT : Try.prog.cellsOf 9 = 1 := by kernel_rfl
theorem cells_ten : Try.prog.cellsOf 121 = 4 := by kernel_rfl
theorem cells_mlS : Try.prog.cellsOf 118 = 1 := by kernel_rfl
theorem cells_srS : Try.prog.cellsOf 119 = 1 := by kernel_rfl
theorem cells_tenS : Try.prog.cellsOf 44 = 1 := by kernel_rfl
theorem cells_sta : Try.prog.cellsOf 46 = 2 := by kernel_rfl

section
variable {H : Type} {enc : TypeId × Value → H} {W : World}

theorem cells_ml : Try.prog.cellsOf 150 = 2 := by kernel_rfl
set_option maxRecDepth 100000 in
theorem open_ml {fuel : Nat} {cs : List Value} {x : DataW H × List MemPlace} (h : DataW.trod enc Try.prog W 0 (fun _ => true) true fuel 150 cs = some x) :
    ∃ f : PairD, cs = [.string f.s, .int .i64 f.n] ∧ f.s.size ≤ maxLen ∧ I64p f.n := by
  obtain ⟨y0, y1, n, _, hl, h0, h1⟩ := trod_struct2 Try.underlying150 h
  rw [cells_ml] at hl
  match cs, hl with
  | [c0, c1], _ =>
    simp [cells_strT, cells_intC] at h0 h1
    obtain ⟨s0, e0, _, z0⟩ := DataW.trod_string Try.underlying9 h0
    obtain ⟨i1, e1, _, y1'⟩ := DataW.trod_int Try.underlying3 h1
    simp at e0 e1
    exact ⟨⟨s0, i1⟩, by simp [e0, e1], z0, wf_i64p y1'⟩
set_option maxRecDepth 100000 in
theorem open_mlS {fuel : Nat} {v : Value} {x : DataW H × List MemPlace} (h : DataW.trod enc Try.prog W 0 (fun _ => true) true fuel 118 [v] = some x) :
    ∃ (a : Option Addr) (cap : Nat) (fs : List PairD), v = .slice a fs.length cap ∧ PairsIn W a fs ∧ ShortP fs ∧ RngP fs ∧ fs.length ≤ maxLen := by
  rcases open_slice Try.underlying118 h with ⟨hc, _⟩ | ⟨a, len, cap, m, n, D, Pl, hc, _, hl, hm, hmm, _, hx⟩
  · simp at hc
    exact ⟨none, 0, [], by simpa using hc, Or.inl rfl, fun i h => absurd h (by simp), fun i h => absurd h (by simp), by simp⟩
  · simp at hc
    simp only [if_true] at hmm
    have hin : Inhabited PairD := ⟨⟨ByteArray.empty, 0⟩⟩
    obtain ⟨b, o, spot⟩ := a
    rw [cells_ml] at hx
    have hsp : 0 < len → spot = none := fun h0 => by
      obtain ⟨cs', h1, h2⟩ := hx 0 (by omega)
      obtain ⟨f, rfl, _⟩ := open_ml h2
      obtain ⟨_, _, hcell⟩ := World.cells?_some h1
      have hc0 := hcell 0 (by omega)
      simp only [List.getElem?_cons_zero] at hc0
      have := World.cell?_spot hc0
      simpa [Addr.add] using this
    obtain ⟨F, hF⟩ := choose_lt (α := PairD) (n := len) (p := fun i f => W.cell? ⟨b, o + i * 2, none⟩ = some (.string f.s) ∧
        W.cell? ⟨b, o + i * 2 + 1, none⟩ = some (.int .i64 f.n) ∧ f.s.size ≤ maxLen ∧ I64p f.n) (fun i hi => by
      obtain ⟨cs', h1, h2⟩ := hx i (by omega)
      obtain ⟨f, rfl, z0⟩ := open_ml h2
      obtain ⟨_, _, hcell⟩ := World.cells?_some h1
      have hspot := hsp (by omega)
      subst hspot
      refine ⟨f, ?_, ?_, z0⟩
      · simpa [add_plain] using hcell 0 (by omega)
      · simpa [add_plain] using hcell 1 (by omega))
    refine ⟨some ⟨b, o, spot⟩, cap, (List.range len).map F, by simp [hc], ?_, ?_, ?_, by simp; omega⟩
    · by_cases h0 : len = 0
      · subst h0; exact Or.inl rfl
      · have hs := hsp (by omega)
        subst hs
        have hlt : b < W.heap.size := by
          have hc0 := (hF 0 (by omega)).1
          rcases Nat.lt_or_ge b W.heap.size with hlt | hge
          · exact hlt
          · simp [World.cell?, Array.getElem?_eq_none hge] at hc0
        refine Or.inr ⟨b, o, rfl, hlt, fun i hi => ?_⟩
        simp only [List.length_map, List.length_range] at hi
        obtain ⟨q1, q2, _⟩ := hF i hi
        simpa using ⟨q1, q2⟩
    · intro i hi
      simp only [List.length_map, List.length_range] at hi
      obtain ⟨_, _, z0, _⟩ := hF i hi
      simpa using z0
    · intro i hi
      simp only [List.length_map, List.length_range] at hi
      obtain ⟨_, _, _, z0⟩ := hF i hi
      simpa using z0

theorem cells_sr : Try.prog.cellsOf 152 = 2 := by kernel_rfl
set_option maxRecDepth 100000 in
theorem open_sr {fuel : Nat} {cs : List Value} {x : DataW H × List MemPlace} (h : DataW.trod enc Try.prog W 0 (fun _ => true) true fuel 152 cs = some x) :
    ∃ f : PairD, cs = [.string f.s, .int .i64 f.n] ∧ f.s.size ≤ maxLen ∧ I64p f.n := by
  obtain ⟨y0, y1, n, _, hl, h0, h1⟩ := trod_struct2 Try.underlying152 h
  rw [cells_sr] at hl
  match cs, hl with
  | [c0, c1], _ =>
    simp [cells_strT, cells_intC] at h0 h1
    obtain ⟨s0, e0, _, z0⟩ := DataW.trod_string Try.underlying9 h0
    obtain ⟨i1, e1, _, y1'⟩ := DataW.trod_int Try.underlying3 h1
    simp at e0 e1
    exact ⟨⟨s0, i1⟩, by simp [e0, e1], z0, wf_i64p y1'⟩
set_option maxRecDepth 100000 in
theorem open_srS {fuel : Nat} {v : Value} {x : DataW H × List MemPlace} (h : DataW.trod enc Try.prog W 0 (fun _ => true) true fuel 119 [v] = some x) :
    ∃ (a : Option Addr) (cap : Nat) (fs : List PairD), v = .slice a fs.length cap ∧ PairsIn W a fs ∧ ShortP fs ∧ RngP fs ∧ fs.length ≤ maxLen := by
  rcases open_slice Try.underlying119 h with ⟨hc, _⟩ | ⟨a, len, cap, m, n, D, Pl, hc, _, hl, hm, hmm, _, hx⟩
  · simp at hc
    exact ⟨none, 0, [], by simpa using hc, Or.inl rfl, fun i h => absurd h (by simp), fun i h => absurd h (by simp), by simp⟩
  · simp at hc
    simp only [if_true] at hmm
    have hin : Inhabited PairD := ⟨⟨ByteArray.empty, 0⟩⟩
    obtain ⟨b, o, spot⟩ := a
    rw [cells_sr] at hx
    have hsp : 0 < len → spot = none := fun h0 => by
      obtain ⟨cs', h1, h2⟩ := hx 0 (by omega)
      obtain ⟨f, rfl, _⟩ := open_sr h2
      obtain ⟨_, _, hcell⟩ := World.cells?_some h1
      have hc0 := hcell 0 (by omega)
      simp only [List.getElem?_cons_zero] at hc0
      have := World.cell?_spot hc0
      simpa [Addr.add] using this
    obtain ⟨F, hF⟩ := choose_lt (α := PairD) (n := len) (p := fun i f => W.cell? ⟨b, o + i * 2, none⟩ = some (.string f.s) ∧
        W.cell? ⟨b, o + i * 2 + 1, none⟩ = some (.int .i64 f.n) ∧ f.s.size ≤ maxLen ∧ I64p f.n) (fun i hi => by
      obtain ⟨cs', h1, h2⟩ := hx i (by omega)
      obtain ⟨f, rfl, z0⟩ := open_sr h2
      obtain ⟨_, _, hcell⟩ := World.cells?_some h1
      have hspot := hsp (by omega)
      subst hspot
      refine ⟨f, ?_, ?_, z0⟩
      · simpa [add_plain] using hcell 0 (by omega)
      · simpa [add_plain] using hcell 1 (by omega))
    refine ⟨some ⟨b, o, spot⟩, cap, (List.range len).map F, by simp [hc], ?_, ?_, ?_, by simp; omega⟩
    · by_cases h0 : len = 0
      · subst h0; exact Or.inl rfl
      · have hs := hsp (by omega)
        subst hs
        have hlt : b < W.heap.size := by
          have hc0 := (hF 0 (by omega)).1
          rcases Nat.lt_or_ge b W.heap.size with hlt | hge
          · exact hlt
          · simp [World.cell?, Array.getElem?_eq_none hge] at hc0
        refine Or.inr ⟨b, o, rfl, hlt, fun i hi => ?_⟩
        simp only [List.length_map, List.length_range] at hi
        obtain ⟨q1, q2, _⟩ := hF i hi
        simpa using ⟨q1, q2⟩
    · intro i hi
      simp only [List.length_map, List.length_range] at hi
      obtain ⟨_, _, z0, _⟩ := hF i hi
      simpa using z0
    · intro i hi
      simp only [List.length_map, List.length_range] at hi
      obtain ⟨_, _, _, z0⟩ := hF i hi
      simpa using z0

set_option maxRecDepth 100000 in
theorem open_ten {fuel : Nat} {cs : List Value} {x : DataW H × List MemPlace} (h : DataW.trod enc Try.prog W 0 (fun _ => true) true fuel 121 cs = some x) :
    ∃ (t : TenD) (a1 a2 : Option Addr) (c1 c2 : Nat), cs = [.string t.name, .int .i64 t.limit, .slice a1 t.mets.length c1, .slice a2 t.sers.length c2] ∧ PairsIn W a1 t.mets ∧ PairsIn W a2 t.sers ∧ ShortTen t ∧ (I64p t.limit ∧ RngP t.mets ∧ RngP t.sers) := by
  obtain ⟨xs, n, _, _, hl, hlen, hfl⟩ := DataW.trod_struct Try.underlying121 h
  rw [cells_ten] at hl
  match cs, hl with
  | [c0, c1, c2, c3], _ =>
    match xs, hlen with
    | [y0, y1, y2, y3], _ =>
      have h0 := hfl 0 _ rfl
      have h1 := hfl 1 _ rfl
      have h2 := hfl 2 _ rfl
      have h3 := hfl 3 _ rfl
      simp [cells_strT, cells_intC, cells_mlS, cells_srS] at h0 h1 h2 h3
      obtain ⟨s0, e0, _, z0⟩ := DataW.trod_string Try.underlying9 h0
      obtain ⟨i1, e1, _, y1'⟩ := DataW.trod_int Try.underlying3 h1
      obtain ⟨a2, k2, f2, e2, p2, s2, g2, l2⟩ := open_mlS h2
      obtain ⟨a3, k3, f3, e3, p3, s3, g3, l3⟩ := open_srS h3
      simp at e0 e1
      exact ⟨⟨s0, i1, f2, f3⟩, a2, a3, k2, k3, by simp [e0, e1, e2, e3], p2, p3, ⟨z0, s2, l2, s3, l3⟩, wf_i64p y1', g2, g3⟩

set_option maxRecDepth 100000 in
theorem open_tens {fuel : Nat} {v : Value} {x : DataW H × List MemPlace} (h : DataW.trod enc Try.prog W 0 (fun _ => true) true fuel 44 [v] = some x) :
    ∃ (a : Option Addr) (cap : Nat) (fs : List TenD), v = .slice a fs.length cap ∧ TensIn W a fs ∧ ShortT fs ∧ RngT fs ∧ fs.length ≤ maxLen := by
  rcases open_slice Try.underlying44 h with ⟨hc, _⟩ | ⟨a, len, cap, m, n, D, Pl, hc, _, hl, hm, hmm, _, hx⟩
  · simp at hc
    exact ⟨none, 0, [], by simpa using hc, Or.inl rfl, fun i h => absurd h (by simp), fun i h => absurd h (by simp), by simp⟩
  · simp at hc
    simp only [if_true] at hmm
    have hin : Inhabited TenD := ⟨⟨ByteArray.empty, 0, [], []⟩⟩
    obtain ⟨b, o, spot⟩ := a
    rw [cells_ten] at hx
    have hsp : 0 < len → spot = none := fun h0 => by
      obtain ⟨cs', h1, h2⟩ := hx 0 (by omega)
      obtain ⟨f, _, _, _, _, rfl, _⟩ := open_ten h2
      obtain ⟨_, _, hcell⟩ := World.cells?_some h1
      have hc0 := hcell 0 (by omega)
      simp only [List.getElem?_cons_zero] at hc0
      have := World.cell?_spot hc0
      simpa [Addr.add] using this
    obtain ⟨F, hF⟩ := choose_lt (α := TenD) (n := len) (p := fun i f => (spot = none → TenAt W b (o + i * 4) f) ∧ (ShortTen f ∧ (I64p f.limit ∧ RngP f.mets ∧ RngP f.sers)) ∧ (spot = none → b < W.heap.size)) (fun i hi => by
      obtain ⟨cs', h1, h2⟩ := hx i (by omega)
      obtain ⟨f, a1, a2, c1, c2, rfl, p1, p2, z⟩ := open_ten h2
      obtain ⟨_, _, hcell⟩ := World.cells?_some h1
      have hspot := hsp (by omega)
      subst hspot
      have q0 : W.cell? ⟨b, o + i * 4, none⟩ = some (.string f.name) := by simpa [add_plain] using hcell 0 (by omega)
      refine ⟨f, fun _ => ⟨a1, c1, a2, c2, q0, ?_, ?_, ?_, p1, p2⟩, z, fun _ => ?_⟩
      · simpa [add_plain] using hcell 1 (by omega)
      · simpa [add_plain] using hcell 2 (by omega)
      · simpa [add_plain] using hcell 3 (by omega)
      · rcases Nat.lt_or_ge b W.heap.size with hlt | hge
        · exact hlt
        · simp [World.cell?, Array.getElem?_eq_none hge] at q0)
    refine ⟨some ⟨b, o, spot⟩, cap, (List.range len).map F, by simp [hc], ?_, ?_, ?_, by simp; omega⟩
    · by_cases h0 : len = 0
      · subst h0; exact Or.inl rfl
      · have hs := hsp (by omega)
        subst hs
        refine Or.inr ⟨b, o, rfl, (hF 0 (by omega)).2.2 rfl, fun i hi => ?_⟩
        simp only [List.length_map, List.length_range] at hi
        have := (hF i hi).1 rfl
        simpa using this
    · intro i hi
      simp only [List.length_map, List.length_range] at hi
      have := (hF i hi).2.1.1
      simpa using this
    · intro i hi
      simp only [List.length_map, List.length_range] at hi
      have := (hF i hi).2.1.2
      simpa using this

set_option maxRecDepth 100000 in
theorem open_state {r : Reach} {b0 : Nat} {v : Value} {d : DataW H} {p : List MemPlace} (hv : Value.okWide Try.prog W r b0 46 v) (h : DataW.Trod enc Try.prog W 0 (fun _ => true) true 46 v d p) :
    ∃ (now : Int) (a : Option Addr) (cap : Nat) (ts : List TenD), v = .agg #[.int .i64 now, .slice a ts.length cap] ∧ TensIn W a ts ∧ ShortT ts ∧ RngT ts ∧ I64p now ∧ ts.length ≤ maxLen := by
  obtain ⟨cs, rfl, hsz⟩ := okWide_struct Try.underlying46 hv
  obtain ⟨fuel, hf⟩ := h
  obtain ⟨xs, n, _, _, _, hlen, hfl⟩ := DataW.trod_struct Try.underlying46 hf
  rw [cells_sta] at hsz
  obtain ⟨l⟩ := cs
  simp at hsz
  match l, hsz with
  | [c0, c1], _ =>
    match xs, hlen with
    | [y0, y1], _ =>
      have h0 := hfl 0 _ rfl
      have h1 := hfl 1 _ rfl
      simp [Value.cells, cells_intC, cells_tenS] at h0 h1
      obtain ⟨i0, e0, _, y0'⟩ := DataW.trod_int Try.underlying3 h0
      obtain ⟨a, cap, ts, e1, q1, q2, q4, q3⟩ := open_tens h1
      simp at e0
      exact ⟨i0, a, cap, ts, by simp [e0, e1], q1, q2, q4, wf_i64p y0', q3⟩
end
end Go.Proofs.Ytgpgacncmoiefaa
