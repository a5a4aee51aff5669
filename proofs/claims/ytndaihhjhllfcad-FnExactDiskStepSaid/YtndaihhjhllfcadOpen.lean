import Derived.Test.YtndaihhjhllfcadProg
import Derived.Test.YtndaihhjhllfcadBase
import Derived.ProofKit
import Derived.OpenShut
import Derived.Deep.Slices
import Derived.Deep.Strs
namespace Go.Proofs.Ytndaihhjhllfcad
open Go.ChangeShapes Go.WideShapes Go.ChangeAt Go.RowKit Go.Deep

theorem cells_file : Try.prog.cellsOf 59 = 3 := by kernel_rfl
theorem cells_str : Try.prog.cellsOf 9 = 1 := by kernel_rfl
theorem cells_int : Try.prog.cellsOf 3 = 1 := by kernel_rfl
theorem cells_bool : Try.prog.cellsOf 4 = 1 := by kernel_rfl
theorem cells_fileS : Try.prog.cellsOf 22 = 1 := by kernel_rfl
theorem cells_disk : Try.prog.cellsOf 24 = 6 := by kernel_rfl

section
variable {H : Type} {enc : TypeId × Value → H} {W : World}

set_option maxRecDepth 100000 in
theorem open_file {fuel : Nat} {cs : List Value} {x : DataW H × List MemPlace} (h : DataW.trod enc Try.prog W 0 (fun _ => true) true fuel 59 cs = some x) :
    ∃ f : FileD, cs = [.string f.name, .string f.data, .int .i64 f.synced] ∧ f.name.size ≤ maxLen ∧ f.data.size ≤ maxLen := by
  obtain ⟨y0, y1, y2, n, _, hl, h0, h1, h2⟩ := trod_struct3 Try.underlying59 h
  rw [cells_file] at hl
  match cs, hl with
  | [c0, c1, c2], _ =>
    simp [cells_str, cells_int] at h0 h1 h2
    obtain ⟨s0, e0, _, z0⟩ := DataW.trod_string Try.underlying9 h0
    obtain ⟨s1, e1, _, z1⟩ := DataW.trod_string Try.underlying9 h1
    obtain ⟨i2, e2, _, _⟩ := DataW.trod_int Try.underlying3 h2
    simp at e0 e1 e2
    exact ⟨⟨s0, s1, i2⟩, by simp [e0, e1, e2], z0, z1⟩

set_option maxRecDepth 100000 in
theorem open_files {fuel : Nat} {v : Value} {x : DataW H × List MemPlace} (h : DataW.trod enc Try.prog W 0 (fun _ => true) true fuel 22 [v] = some x) :
    ∃ (a : Option Addr) (cap : Nat) (fs : List FileD), v = .slice a fs.length cap ∧ FilesIn W a fs ∧ Short fs ∧ fs.length ≤ maxLen := by
  rcases open_slice Try.underlying22 h with ⟨hc, _⟩ | ⟨a, len, cap, m, n, D, Pl, hc, _, hl, hm, hmm, _, hx⟩
  · simp at hc
    exact ⟨none, 0, [], by simpa using hc, Or.inl rfl, fun i h => absurd h (by simp), by simp⟩
  · simp at hc
    simp only [if_true] at hmm
    have hin : Inhabited FileD := ⟨⟨ByteArray.empty, ByteArray.empty, 0⟩⟩
    obtain ⟨b, o, spot⟩ := a
    rw [cells_file] at hx
    have hsp : 0 < len → spot = none := fun h0 => by
      obtain ⟨cs', h1, h2⟩ := hx 0 (by omega)
      obtain ⟨f, rfl, _, _⟩ := open_file h2
      obtain ⟨_, _, hcell⟩ := World.cells?_some h1
      have hc0 := hcell 0 (by omega)
      simp only [List.getElem?_cons_zero] at hc0
      have := World.cell?_spot hc0
      simpa [Addr.add] using this
    obtain ⟨F, hF⟩ := choose_lt (α := FileD) (n := len) (p := fun i f => W.cell? ⟨b, o + i * 3, none⟩ = some (.string f.name) ∧
        W.cell? ⟨b, o + i * 3 + 1, none⟩ = some (.string f.data) ∧ W.cell? ⟨b, o + i * 3 + 2, none⟩ = some (.int .i64 f.synced) ∧ f.name.size ≤ maxLen ∧ f.data.size ≤ maxLen) (fun i hi => by
      obtain ⟨cs', h1, h2⟩ := hx i (by omega)
      obtain ⟨f, rfl, z0, z1⟩ := open_file h2
      obtain ⟨_, _, hcell⟩ := World.cells?_some h1
      have hspot := hsp (by omega)
      subst hspot
      refine ⟨f, ?_, ?_, ?_, z0, z1⟩
      · simpa [add_plain] using hcell 0 (by omega)
      · simpa [add_plain] using hcell 1 (by omega)
      · simpa [add_plain] using hcell 2 (by omega))
    refine ⟨some ⟨b, o, spot⟩, cap, (List.range len).map F, by simp [hc], ?_, ?_, by simp; omega⟩
    · by_cases h0 : len = 0
      · subst h0; exact Or.inl rfl
      · have hs := hsp (by omega)
        subst hs
        have hlt : b < W.heap.size := by
          have hc0 := (hF 0 (by omega)).1
          rcases Nat.lt_or_ge b W.heap.size with hlt | hge
          · exact hlt
          · simp [World.cell?, Array.getElem?_eq_none hge] at hc0
        refine Or.inr ⟨b, o, rfl, hlt, fun i hi => ?_⟩
        simp only [List.length_map, List.length_range] at hi
        obtain ⟨q1, q2, q3, _⟩ := hF i hi
        simpa using ⟨q1, q2, q3⟩
    · intro i hi
      simp only [List.length_map, List.length_range] at hi
      obtain ⟨_, _, _, z0, z1⟩ := hF i hi
      simpa using ⟨z0, z1⟩

set_option maxRecDepth 100000 in
theorem open_disk {r : Reach} {b0 : Nat} {v : Value} {d : DataW H} {p : List MemPlace} (hv : Value.okWide Try.prog W r b0 24 v) (h : DataW.Trod enc Try.prog W 0 (fun _ => true) true 24 v d p) :
    ∃ (a : Option Addr) (cap : Nat) (fs : List FileD) (c k cr fl : Int) (dn : Bool), v = .agg #[.slice a fs.length cap, .int .i64 c, .int .i64 k, .int .i64 cr, .int .i64 fl, .bool dn] ∧ FilesIn W a fs ∧ Short fs ∧ fs.length ≤ maxLen ∧
      (Lit.int .i64 c).wf = true ∧ (Lit.int .i64 k).wf = true ∧ (Lit.int .i64 cr).wf = true ∧ (Lit.int .i64 fl).wf = true := by
  obtain ⟨cs, rfl, hsz⟩ := okWide_struct Try.underlying24 hv
  obtain ⟨fuel, hf⟩ := h
  obtain ⟨xs, n, _, _, _, hlen, hfl⟩ := DataW.trod_struct Try.underlying24 hf
  rw [cells_disk] at hsz
  obtain ⟨l⟩ := cs
  simp at hsz
  match l, hsz with
  | [c0, c1, c2, c3, c4, c5], _ =>
    match xs, hlen with
    | [y0, y1, y2, y3, y4, y5], _ =>
      have h0 := hfl 0 _ rfl
      have h1 := hfl 1 _ rfl
      have h2 := hfl 2 _ rfl
      have h3 := hfl 3 _ rfl
      have h4 := hfl 4 _ rfl
      have h5 := hfl 5 _ rfl
      simp [Value.cells, cells_fileS, cells_int, cells_bool] at h0 h1 h2 h3 h4 h5
      obtain ⟨a, cap, fs, e0, hF, hS, hL⟩ := open_files h0
      obtain ⟨i1, e1, _, w1⟩ := DataW.trod_int Try.underlying3 h1
      obtain ⟨i2, e2, _, w2⟩ := DataW.trod_int Try.underlying3 h2
      obtain ⟨i3, e3, _, w3⟩ := DataW.trod_int Try.underlying3 h3
      obtain ⟨i4, e4, _, w4⟩ := DataW.trod_int Try.underlying3 h4
      obtain ⟨b5, e5, _⟩ := DataW.trod_bool Try.underlying4 h5
      simp at e1 e2 e3 e4 e5
      exact ⟨a, cap, fs, i1, i2, i3, i4, b5, by simp [e0, e1, e2, e3, e4, e5], hF, hS, hL, w1, w2, w3, w4⟩
end
end Go.Proofs.Ytndaihhjhllfcad
