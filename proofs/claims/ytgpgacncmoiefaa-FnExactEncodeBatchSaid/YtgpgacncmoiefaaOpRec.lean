import Derived.Test.YtgpgacncmoiefaaProg
import Derived.Test.YtgpgacncmoiefaaRecB
import Derived.Test.YtgpgacncmoiefaaBatL
import Derived.ProofKit
import Derived.OpenShut
import Derived.Deep.Slices
import Derived.Deep.Strs
namespace Go.Proofs.Ytgpgacncmoiefaa
open Go.ChangeShapes Go.WideShapes Go.ChangeAt Go.RowKit Go.Deep

theorem cells_rec : Try.prog.cellsOf 105 = 4 := by kernel_rfl
theorem cells_strRc : Try.prog.cellsOf 9 = 1 := by kernel_rfl
theorem cells_intRc : Try.prog.cellsOf 3 = 1 := by kernel_rfl

theorem wf_i64 {n : Int} (h : (Lit.int .i64 n).wf = true) : I64 n := by
  simp only [Lit.wf, Bool.and_eq_true, decide_eq_true_eq] at h
  exact h

section
variable {H : Type} {enc : TypeId × Value → H} {W : World}

set_option maxRecDepth 100000 in
theorem open_rec {fuel : Nat} {cs : List Value} {x : DataW H × List MemPlace} (h : DataW.trod enc Try.prog W 0 (fun _ => true) true fuel 105 cs = some x) :
    ∃ f : RecD, cs = [.int .i64 f.kind, .string f.tenant, .string f.text, .int .i64 f.num] ∧ (f.tenant.size ≤ maxLen ∧ f.text.size ≤ maxLen) ∧ (I64 f.kind ∧ I64 f.num) := by
  obtain ⟨xs, n, _, _, hl, hlen, hfl⟩ := DataW.trod_struct Try.underlying105 h
  rw [cells_rec] at hl
  match cs, hl with
  | [c0, c1, c2, c3], _ =>
    match xs, hlen with
    | [y0, y1, y2, y3], _ =>
      have h0 := hfl 0 _ rfl
      have h1 := hfl 1 _ rfl
      have h2 := hfl 2 _ rfl
      have h3 := hfl 3 _ rfl
      simp [cells_strRc, cells_intRc] at h0 h1 h2 h3
      obtain ⟨i0, e0, _, y0⟩ := DataW.trod_int Try.underlying3 h0
      obtain ⟨s1, e1, _, z1⟩ := DataW.trod_string Try.underlying9 h1
      obtain ⟨s2, e2, _, z2⟩ := DataW.trod_string Try.underlying9 h2
      obtain ⟨i3, e3, _, y3⟩ := DataW.trod_int Try.underlying3 h3
      simp at e0 e1 e2 e3
      exact ⟨⟨i0, s1, s2, i3⟩, by simp [e0, e1, e2, e3], ⟨z1, z2⟩, wf_i64 y0, wf_i64 y3⟩

set_option maxRecDepth 100000 in
theorem open_recs {fuel : Nat} {v : Value} {x : DataW H × List MemPlace} (h : DataW.trod enc Try.prog W 0 (fun _ => true) true fuel 30 [v] = some x) :
    ∃ (a : Option Addr) (cap : Nat) (fs : List RecD), v = .slice a fs.length cap ∧ RecsIn W a fs ∧ ShortR fs ∧ RngR fs ∧ fs.length ≤ maxLen := by
  rcases open_slice Try.underlying30 h with ⟨hc, _⟩ | ⟨a, len, cap, m, n, D, Pl, hc, _, hl, hm, hmm, _, hx⟩
  · simp at hc
    exact ⟨none, 0, [], by simpa using hc, Or.inl rfl, fun i h => absurd h (by simp), fun i h => absurd h (by simp), by simp⟩
  · simp at hc
    simp only [if_true] at hmm
    have hin : Inhabited RecD := ⟨⟨0, ByteArray.empty, ByteArray.empty, 0⟩⟩
    obtain ⟨b, o, spot⟩ := a
    rw [cells_rec] at hx
    have hsp : 0 < len → spot = none := fun h0 => by
      obtain ⟨cs', h1, h2⟩ := hx 0 (by omega)
      obtain ⟨f, rfl, _, _⟩ := open_rec h2
      obtain ⟨_, _, hcell⟩ := World.cells?_some h1
      have hc0 := hcell 0 (by omega)
      simp only [List.getElem?_cons_zero] at hc0
      have := World.cell?_spot hc0
      simpa [Addr.add] using this
    obtain ⟨F, hF⟩ := choose_lt (α := RecD) (n := len) (p := fun i f => W.cell? ⟨b, o + i * 4, none⟩ = some (.int .i64 f.kind) ∧
        W.cell? ⟨b, o + i * 4 + 1, none⟩ = some (.string f.tenant) ∧ W.cell? ⟨b, o + i * 4 + 2, none⟩ = some (.string f.text) ∧ W.cell? ⟨b, o + i * 4 + 3, none⟩ = some (.int .i64 f.num) ∧ (f.tenant.size ≤ maxLen ∧ f.text.size ≤ maxLen) ∧ (I64 f.kind ∧ I64 f.num)) (fun i hi => by
      obtain ⟨cs', h1, h2⟩ := hx i (by omega)
      obtain ⟨f, rfl, z0, z1⟩ := open_rec h2
      obtain ⟨_, _, hcell⟩ := World.cells?_some h1
      have hspot := hsp (by omega)
      subst hspot
      refine ⟨f, ?_, ?_, ?_, ?_, z0, z1⟩
      · simpa [add_plain] using hcell 0 (by omega)
      · simpa [add_plain] using hcell 1 (by omega)
      · simpa [add_plain] using hcell 2 (by omega)
      · simpa [add_plain] using hcell 3 (by omega))
    refine ⟨some ⟨b, o, spot⟩, cap, (List.range len).map F, by simp [hc], ?_, ?_, ?_, by simp; omega⟩
    · by_cases h0 : len = 0
      · subst h0; exact Or.inl rfl
      · have hs := hsp (by omega)
        subst hs
        have hlt : b < W.heap.size := by
          have hc0 := (hF 0 (by omega)).1
          rcases Nat.lt_or_ge b W.heap.size with hlt | hge
          · exact hlt
          · simp [World.cell?, Array.getElem?_eq_none hge] at hc0
        refine Or.inr ⟨b, o, rfl, hlt, fun i hi => ?_⟩
        simp only [List.length_map, List.length_range] at hi
        obtain ⟨q1, q2, q3, q4, _⟩ := hF i hi
        simpa using ⟨q1, q2, q3, q4⟩
    · intro i hi
      simp only [List.length_map, List.length_range] at hi
      obtain ⟨_, _, _, _, z0, z1⟩ := hF i hi
      simpa using z0
    · intro i hi
      simp only [List.length_map, List.length_range] at hi
      obtain ⟨_, _, _, _, z0, z1⟩ := hF i hi
      simpa using z1

theorem cells_recS : Try.prog.cellsOf 30 = 1 := by kernel_rfl
theorem cells_bat : Try.prog.cellsOf 32 = 2 := by kernel_rfl
set_option maxRecDepth 100000 in
theorem open_batch {r : Reach} {b0 : Nat} {v : Value} {d : DataW H} {p : List MemPlace} (hv : Value.okWide Try.prog W r b0 32 v) (h : DataW.Trod enc Try.prog W 0 (fun _ => true) true 32 v d p) :
    ∃ (lsn : Int) (a : Option Addr) (cap : Nat) (rs : List RecD), v = .agg #[.int .i64 lsn, .slice a rs.length cap] ∧ RecsIn W a rs ∧ ShortR rs ∧ RngR rs ∧ I64 lsn ∧ rs.length ≤ maxLen := by
  obtain ⟨cs, rfl, hsz⟩ := okWide_struct Try.underlying32 hv
  obtain ⟨fuel, hf⟩ := h
  obtain ⟨xs, n, _, _, _, hlen, hfl⟩ := DataW.trod_struct Try.underlying32 hf
  rw [cells_bat] at hsz
  obtain ⟨l⟩ := cs
  simp at hsz
  match l, hsz with
  | [c0, c1], _ =>
    match xs, hlen with
    | [y0, y1], _ =>
      have h0 := hfl 0 _ rfl
      have h1 := hfl 1 _ rfl
      simp [Value.cells, cells_intRc, cells_recS] at h0 h1
      obtain ⟨i0, e0, _, w0⟩ := DataW.trod_int Try.underlying3 h0
      obtain ⟨a, cap, ts, e1, q1, q2, q3, q4⟩ := open_recs h1
      simp at e0
      exact ⟨i0, a, cap, ts, by simp [e0, e1], q1, q2, q3, wf_i64 w0, q4⟩
end
end Go.Proofs.Ytgpgacncmoiefaa
