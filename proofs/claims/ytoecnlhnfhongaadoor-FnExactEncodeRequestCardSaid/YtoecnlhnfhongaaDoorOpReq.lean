import Derived.Test.YtoecnlhnfhongaaDoorProg
import Derived.Test.YtoecnlhnfhongaaDoorSmpB
import Derived.Test.YtoecnlhnfhongaaDoorOpLab
namespace Go.Proofs.YtoecnlhnfhongaaDoor
open Go.ChangeShapes Go.WideShapes Go.ChangeAt Go.RowKit Go.Deep

theorem cells_intR : Tryd.prog.cellsOf 3 = 1 := by kernel_rfl
theorem cells_smp : Tryd.prog.cellsOf 67 = 2 := by kernel_rfl
theorem cells_labS : Tryd.prog.cellsOf 65 = 1 := by kernel_rfl
theorem cells_smpS : Tryd.prog.cellsOf 22 = 1 := by kernel_rfl
theorem cells_req : Tryd.prog.cellsOf 24 = 5 := by kernel_rfl
theorem wf_r {n : Int} (h : (Lit.int .i64 n).wf = true) : -9223372036854775808 ≤ n ∧ n ≤ 9223372036854775807 := by
  simp only [Lit.wf, Bool.and_eq_true, decide_eq_true_eq] at h
  exact h

section
variable {H : Type} {enc : TypeId × Value → H} {W : World}

set_option maxRecDepth 100000 in
theorem open_smp {fuel : Nat} {cs : List Value} {x : DataW H × List MemPlace} (h : DataW.trod enc Tryd.prog W 0 (fun _ => true) true fuel 67 cs = some x) :
    ∃ (f : SmpD) (a1 : Option Addr) (c1 : Nat), cs = [.slice a1 f.labs.length c1, .int .i64 f.bits] ∧ LabsIn W a1 f.labs ∧ ShortL f.labs ∧ f.labs.length ≤ maxLen ∧ (-9223372036854775808 ≤ f.bits ∧ f.bits ≤ 9223372036854775807) := by
  obtain ⟨y0, y1, n, _, hl, h0, h1⟩ := trod_struct2 Tryd.underlying67 h
  rw [cells_smp] at hl
  match cs, hl with
  | [c0, c1], _ =>
    simp [cells_labS, cells_intR] at h0 h1
    obtain ⟨a0, k0, f0, e0, p0, s0, l0⟩ := open_labels h0
    obtain ⟨i1, e1, _, y1'⟩ := DataW.trod_int Tryd.underlying3 h1
    simp at e1
    exact ⟨⟨f0, i1⟩, a0, k0, by simp [e0, e1], p0, s0, l0, wf_r y1'⟩

set_option maxRecDepth 100000 in
theorem open_smps {fuel : Nat} {v : Value} {x : DataW H × List MemPlace} (h : DataW.trod enc Tryd.prog W 0 (fun _ => true) true fuel 22 [v] = some x) :
    ∃ (a : Option Addr) (cap : Nat) (fs : List SmpD), v = .slice a fs.length cap ∧ SmpsIn W a fs ∧ ShortSm fs ∧ (∀ i (h : i < fs.length), -9223372036854775808 ≤ fs[i].bits ∧ fs[i].bits ≤ 9223372036854775807) ∧ fs.length ≤ maxLen := by
  rcases open_slice Tryd.underlying22 h with ⟨hc, _⟩ | ⟨a, len, cap, m, n, D, Pl, hc, _, hl, hm, hmm, _, hx⟩
  · simp at hc
    exact ⟨none, 0, [], by simpa using hc, Or.inl rfl, fun i h => absurd h (by simp), fun i h => absurd h (by simp), by simp⟩
  · simp at hc
    simp only [if_true] at hmm
    have hin : Inhabited SmpD := ⟨⟨[], 0⟩⟩
    obtain ⟨b, o, spot⟩ := a
    rw [cells_smp] at hx
    have hsp : 0 < len → spot = none := fun h0 => by
      obtain ⟨cs', h1, h2⟩ := hx 0 (by omega)
      obtain ⟨f, _, _, rfl, _⟩ := open_smp h2
      obtain ⟨_, _, hcell⟩ := World.cells?_some h1
      have hc0 := hcell 0 (by omega)
      simp only [List.getElem?_cons_zero] at hc0
      have := World.cell?_spot hc0
      simpa [Addr.add] using this
    obtain ⟨F, hF⟩ := choose_lt (α := SmpD) (n := len) (p := fun i f => (spot = none → SmpAt W b (o + i * 2) f) ∧ (ShortL f.labs ∧ f.labs.length ≤ maxLen ∧ (-9223372036854775808 ≤ f.bits ∧ f.bits ≤ 9223372036854775807)) ∧ (spot = none → b < W.heap.size)) (fun i hi => by
      obtain ⟨cs', h1, h2⟩ := hx i (by omega)
      obtain ⟨f, a1, c1, rfl, p1, z1, z2, z3⟩ := open_smp h2
      obtain ⟨_, _, hcell⟩ := World.cells?_some h1
      have hspot := hsp (by omega)
      subst hspot
      have q0 : W.cell? ⟨b, o + i * 2, none⟩ = some (.slice a1 f.labs.length c1) := by simpa [add_plain] using hcell 0 (by omega)
      refine ⟨f, fun _ => ⟨a1, c1, q0, ?_, p1⟩, ⟨z1, z2, z3⟩, fun _ => ?_⟩
      · simpa [add_plain] using hcell 1 (by omega)
      · rcases Nat.lt_or_ge b W.heap.size with hlt | hge
        · exact hlt
        · simp [World.cell?, Array.getElem?_eq_none hge] at q0)
    refine ⟨some ⟨b, o, spot⟩, cap, (List.range len).map F, by simp [hc], ?_, ?_, ?_, by simp; omega⟩
    · by_cases h0 : len = 0
      · subst h0; exact Or.inl rfl
      · have hs := hsp (by omega)
        subst hs
        refine Or.inr ⟨b, o, rfl, (hF 0 (by omega)).2.2 rfl, fun i hi => ?_⟩
        simp only [List.length_map, List.length_range] at hi
        have := (hF i hi).1 rfl
        simpa using this
    · intro i hi
      simp only [List.length_map, List.length_range] at hi
      have := (hF i hi).2.1
      simpa using ⟨this.1, this.2.1⟩
    · intro i hi
      simp only [List.length_map, List.length_range] at hi
      have := (hF i hi).2.1.2.2
      simpa using this

set_option maxRecDepth 100000 in
theorem open_request {r : Reach} {b0 : Nat} {v : Value} {d : DataW H} {p : List MemPlace} (hv : Value.okWide Tryd.prog W r b0 24 v) (h : DataW.Trod enc Tryd.prog W 0 (fun _ => true) true 24 v d p) :
    ∃ (q : ReqD) (a : Option Addr) (cap : Nat), v = .agg #[.int .i64 q.kind, .string q.tenant, .string q.metric, .int .i64 q.num, .slice a q.smps.length cap] ∧ SmpsIn W a q.smps ∧ ShortSm q.smps ∧ (∀ i (h : i < q.smps.length), -9223372036854775808 ≤ q.smps[i].bits ∧ q.smps[i].bits ≤ 9223372036854775807) ∧ (-9223372036854775808 ≤ q.num ∧ q.num ≤ 9223372036854775807) ∧ q.smps.length ≤ maxLen ∧ q.tenant.size ≤ maxLen ∧ q.metric.size ≤ maxLen := by
  obtain ⟨cs, rfl, hsz⟩ := okWide_struct Tryd.underlying24 hv
  obtain ⟨fuel, hf⟩ := h
  obtain ⟨xs, n, _, _, _, hlen, hfl⟩ := DataW.trod_struct Tryd.underlying24 hf
  rw [cells_req] at hsz
  obtain ⟨l⟩ := cs
  simp at hsz
  match l, hsz with
  | [c0, c1, c2, c3, c4], _ =>
    match xs, hlen with
    | [y0, y1, y2, y3, y4], _ =>
      have h0 := hfl 0 _ rfl
      have h1 := hfl 1 _ rfl
      have h2 := hfl 2 _ rfl
      have h3 := hfl 3 _ rfl
      have h4 := hfl 4 _ rfl
      simp [Value.cells, cells_intR, cells_strL, cells_smpS] at h0 h1 h2 h3 h4
      obtain ⟨i0, e0, _, _⟩ := DataW.trod_int Tryd.underlying3 h0
      obtain ⟨s1, e1, _, z1⟩ := DataW.trod_string Tryd.underlying9 h1
      obtain ⟨s2, e2, _, z2⟩ := DataW.trod_string Tryd.underlying9 h2
      obtain ⟨i3, e3, _, y3'⟩ := DataW.trod_int Tryd.underlying3 h3
      obtain ⟨a, cap, ts, e4, q1, q2, q4, q3⟩ := open_smps h4
      simp at e0 e1 e2 e3
      exact ⟨⟨i0, s1, s2, i3, ts⟩, a, cap, by simp [e0, e1, e2, e3, e4], q1, q2, q4, wf_r y3', q3, z1, z2⟩
end
end Go.Proofs.YtoecnlhnfhongaaDoor
