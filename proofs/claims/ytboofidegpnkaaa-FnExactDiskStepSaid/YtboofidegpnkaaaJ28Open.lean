import Derived.Test.YtboofidegpnkaaaProg
import Derived.Test.YtboofidegpnkaaaJ23MarkT
import Derived.Test.YtboofidegpnkaaaJ27LawCore
import Derived.Test.YtboofidegpnkaaaJ01Btw
import Derived.ProofKit
import Derived.OpenShut
import Derived.Deep.Slices
import Derived.Deep.Strs
namespace Go.Proofs.Ytboofidegpnkaaa
open Go.RowKit

theorem with_length (es : List FileD) (f : FileD) : (withL es f).length ≤ es.length + 1 := by
  have hpl : ∀ (l : List FileD), (placeL l f).length = l.length + 1 := fun l => by
    induction l with
    | nil => rfl
    | cons g r ih => unfold placeL; split <;> simp [ih]
  unfold withL
  rw [hpl]
  have := without_length es f.name
  omega

theorem doR_length (fs : List FileD) (c : Int) (op : OpD) : (doR fs c op).2.length ≤ fs.length + 1 := by
  have he : (fs.eraseIdx (posOf op.name fs)).length ≤ fs.length := by rw [List.length_eraseIdx]; split <;> omega
  unfold doR
  simp only
  split
  · split
    · simp
    · split
      · simp
      · simp [insL]; omega
  · split
    · simp
    · rename_i f hf
      split
      · simp
      · split
        · split <;> simp
        · split
          · simp
          · split
            · split <;> simp
            · split
              · have := with_length (fs.eraseIdx (posOf op.name fs)) ⟨op.to, f.data, f.synced⟩
                show (withL _ _).length ≤ _
                omega
              · show (fs.eraseIdx _).length ≤ _
                omega

theorem outR_length (fs : List FileD) (c k cr fl : Int) (dn : Bool) (op : OpD) : (outR fs c k cr fl dn op).2.1.length ≤ fs.length + 1 := by
  unfold outR
  split
  · unfold stepR
    split
    · exact doR_length fs c op
    · show fs.length ≤ _; omega
  · simp

set_option maxRecDepth 100000 in
set_option maxHeartbeats 4000000 in
theorem lawDiskStep (a : Option Addr) (cap : Nat) (fs : List FileD) (c k cr fl : Int) (dn : Bool) (op : OpD) (w : World) (hf : FilesIn w a fs) (hs : Short fs) (hlen : fs.length ≤ maxLen) (hn : op.name.size ≤ maxLen) (ht : op.to.size ≤ maxLen) (hdt : op.data.size ≤ maxLen) :
    Calls Try.prog 3 #[.agg #[.slice a fs.length cap, .int .i64 c, .int .i64 k, .int .i64 cr, .int .i64 fl, .bool dn], .agg #[.int .i64 op.kind, .string op.name, .string op.to, .string op.data, .int .i64 op.size]] w fun e w' => e = .returned (.bool true) ∧ Below w.heap.size w w' := by
  have HF : Hid (FilesIn w a fs) := hf
  clear hf
  by_cases hneg : szFs 1048576 fs < 0
  · go_enter Try.func3, Try.ntmps3
    go_wp2_with fail
    refine (szDisk_any a cap fs c k cr fl dn 1048576 _ (by omega) (by omega) ((HF.out.later (bnew _ _)).later (bnew _ _)) hs hlen).mono ?_
    rintro e w1 ⟨rfl, hb1⟩
    have HB : Hid (Below w.heap.size w w1) := bto (bto (bnew _ _) (bnew _ _)) hb1
    clear hb1
    go_wp2
    go_ret
    exact ⟨rfl, HB.out⟩
  have hbd := szFs_bound (Int.not_lt.1 hneg)
  have hl20 : fs.length ≤ 1048576 := by omega
  have hsum : sumLen fs ≤ 1000000000 := by have := sumLen_le_bulk fs; omega
  have hsz1 : szFs 1048576 fs ≤ 1048576 := by unfold szFs; split <;> omega
  have hszn : 0 ≤ szFs 1048576 fs := by omega
  clear hbd
  by_cases hneg2 : szO (szFs 1048576 fs) op < 0
  · have HN2 : Hid (szO (szFs 1048576 fs) op < 0) := hneg2
    go_enter Try.func3, Try.ntmps3
    go_wp2_with fail
    refine (szDisk_any a cap fs c k cr fl dn 1048576 _ (by omega) (by omega) ((HF.out.later (bnew _ _)).later (bnew _ _)) hs hlen).mono ?_
    rintro e w1 ⟨rfl, hb1⟩
    obtain ⟨_, hO1, hbl1⟩ := twoBoxes hb1
    obtain ⟨o0, o1, o2, o3, o4⟩ := hO1.five
    have HB1 : Hid (Below w.heap.size w w1) := hbl1
    clear hb1 hO1 hbl1
    go_wp2_with fail
    refine (szDiskOp_any op (szFs 1048576 fs) _ hszn hsz1 hn ht hdt).mono ?_
    rintro e w2 ⟨rfl, hb2⟩
    have HB : Hid (Below w.heap.size w w2) := bto HB1.out hb2
    clear hb2 o0 o1 o2 o3 o4
    go_wp2
    go_ret
    exact ⟨rfl, HB.out⟩
  have hob := szO_bound hneg2
  have hdata : op.data.size ≤ 1048576 := by omega
  have hgiven : ∀ a' W, FilesIn W a' fs → Given W a' fs op := fun a' W h => ⟨h, hs, hl20, hsum, hn, ht, hdata⟩
  have hsp : ∀ a' cap' W, FilesIn W a' fs → Specs W a' cap' fs c k cr fl dn op := fun a' cap' W h => specStep_any W a' cap' fs c k cr fl dn op (hgiven a' W h)
  have him := fun a' cap' W h => implStep_any a' cap' fs c k cr fl dn op W h hs hlen hsum hn ht
  have hFl := outR_length fs c k cr fl dn op
  simp only [Specs] at hsp
  generalize outR fs c k cr fl dn op = R at *
  obtain ⟨code, F0, c0, k0, cr0, fl0, dn0⟩ := R
  simp only [outV] at hsp him
  have hFl2 : F0.length ≤ 1048577 := by have : F0.length ≤ fs.length + 1 := hFl; omega
  have HSP : Hid (∀ a' cap' W, FilesIn W a' fs → Calls Try.prog 6 #[.agg #[.slice a' fs.length cap', .int .i64 c, .int .i64 k, .int .i64 cr, .int .i64 fl, .bool dn], .agg #[.int .i64 op.kind, .string op.name, .string op.to, .string op.data, .int .i64 op.size]] W fun e w' => ∃ aw cw, e = .returned (.tuple #[.agg #[.slice aw F0.length cw, .int .i64 c0, .int .i64 k0, .int .i64 cr0, .int .i64 fl0, .bool dn0], .int .i64 code]) ∧ FilesIn w' aw F0 ∧ Below W.heap.size W w') := hsp
  have HIM : Hid (∀ a' cap' W, FilesIn W a' fs → Calls Try.prog 9 #[.agg #[.slice a' fs.length cap', .int .i64 c, .int .i64 k, .int .i64 cr, .int .i64 fl, .bool dn], .agg #[.int .i64 op.kind, .string op.name, .string op.to, .string op.data, .int .i64 op.size]] W fun e w' => ∃ ag cg, e = .returned (.tuple #[.agg #[.slice ag F0.length cg, .int .i64 c0, .int .i64 k0, .int .i64 cr0, .int .i64 fl0, .bool dn0], .int .i64 code]) ∧ Owned w' W.heap.size ag F0 ∧ Below W.heap.size W w') := him
  exact lawDiskStep_core a cap fs c k cr fl dn op w F0 code c0 k0 cr0 fl0 dn0 HF hs hlen hn ht hdt hneg hneg2 hl20 hFl2 HSP HIM
end Go.Proofs.Ytboofidegpnkaaa

namespace Go.Proofs.Ytboofidegpnkaaa
open Go.ChangeShapes Go.WideShapes Go.ChangeAt Go.RowKit Go.Deep

theorem cells_file : Try.prog.cellsOf 59 = 3 := by kernel_rfl
theorem cells_str : Try.prog.cellsOf 9 = 1 := by kernel_rfl
theorem cells_int : Try.prog.cellsOf 3 = 1 := by kernel_rfl
theorem cells_bool : Try.prog.cellsOf 4 = 1 := by kernel_rfl
theorem cells_fileS : Try.prog.cellsOf 22 = 1 := by kernel_rfl
theorem cells_disk : Try.prog.cellsOf 24 = 6 := by kernel_rfl

section
variable {H : Type} {enc : TypeId × Value → H} {W : World}

set_option maxRecDepth 100000 in
theorem open_file {fuel : Nat} {cs : List Value} {x : DataW H × List MemPlace} (h : DataW.trod enc Try.prog W 0 (fun _ => true) true fuel 59 cs = some x) :
    ∃ f : FileD, cs = [.string f.name, .string f.data, .int .i64 f.synced] ∧ f.name.size ≤ maxLen ∧ f.data.size ≤ maxLen := by
  obtain ⟨y0, y1, y2, n, _, hl, h0, h1, h2⟩ := trod_struct3 Try.underlying59 h
  rw [cells_file] at hl
  match cs, hl with
  | [c0, c1, c2], _ =>
    simp [cells_str, cells_int] at h0 h1 h2
    obtain ⟨s0, e0, _, z0⟩ := DataW.trod_string Try.underlying9 h0
    obtain ⟨s1, e1, _, z1⟩ := DataW.trod_string Try.underlying9 h1
    obtain ⟨i2, e2, _, _⟩ := DataW.trod_int Try.underlying3 h2
    simp at e0 e1 e2
    exact ⟨⟨s0, s1, i2⟩, by simp [e0, e1, e2], z0, z1⟩

set_option maxRecDepth 100000 in
theorem open_files {fuel : Nat} {v : Value} {x : DataW H × List MemPlace} (h : DataW.trod enc Try.prog W 0 (fun _ => true) true fuel 22 [v] = some x) :
    ∃ (a : Option Addr) (cap : Nat) (fs : List FileD), v = .slice a fs.length cap ∧ FilesIn W a fs ∧ Short fs ∧ fs.length ≤ maxLen := by
  rcases open_slice Try.underlying22 h with ⟨hc, _⟩ | ⟨a, len, cap, m, n, D, Pl, hc, _, hl, hm, hmm, _, hx⟩
  · simp at hc
    exact ⟨none, 0, [], by simpa using hc, Or.inl rfl, fun i h => absurd h (by simp), by simp⟩
  · simp at hc
    simp only [if_true] at hmm
    have hin : Inhabited FileD := ⟨⟨ByteArray.empty, ByteArray.empty, 0⟩⟩
    obtain ⟨b, o, spot⟩ := a
    rw [cells_file] at hx
    have hsp : 0 < len → spot = none := fun h0 => by
      obtain ⟨cs', h1, h2⟩ := hx 0 (by omega)
      obtain ⟨f, rfl, _, _⟩ := open_file h2
      obtain ⟨_, _, hcell⟩ := World.cells?_some h1
      have hc0 := hcell 0 (by omega)
      simp only [List.getElem?_cons_zero] at hc0
      have := World.cell?_spot hc0
      simpa [Addr.add] using this
    obtain ⟨F, hF⟩ := choose_lt (α := FileD) (n := len) (p := fun i f => W.cell? ⟨b, o + i * 3, none⟩ = some (.string f.name) ∧
        W.cell? ⟨b, o + i * 3 + 1, none⟩ = some (.string f.data) ∧ W.cell? ⟨b, o + i * 3 + 2, none⟩ = some (.int .i64 f.synced) ∧ f.name.size ≤ maxLen ∧ f.data.size ≤ maxLen) (fun i hi => by
      obtain ⟨cs', h1, h2⟩ := hx i (by omega)
      obtain ⟨f, rfl, z0, z1⟩ := open_file h2
      obtain ⟨_, _, hcell⟩ := World.cells?_some h1
      have hspot := hsp (by omega)
      subst hspot
      refine ⟨f, ?_, ?_, ?_, z0, z1⟩
      · simpa [add_plain] using hcell 0 (by omega)
      · simpa [add_plain] using hcell 1 (by omega)
      · simpa [add_plain] using hcell 2 (by omega))
    refine ⟨some ⟨b, o, spot⟩, cap, (List.range len).map F, by simp [hc], ?_, ?_, by simp; omega⟩
    · by_cases h0 : len = 0
      · subst h0; exact Or.inl rfl
      · have hs := hsp (by omega)
        subst hs
        have hlt : b < W.heap.size := by
          have hc0 := (hF 0 (by omega)).1
          rcases Nat.lt_or_ge b W.heap.size with hlt | hge
          · exact hlt
          · simp [World.cell?, Array.getElem?_eq_none hge] at hc0
        refine Or.inr ⟨b, o, rfl, hlt, fun i hi => ?_⟩
        simp only [List.length_map, List.length_range] at hi
        obtain ⟨q1, q2, q3, _⟩ := hF i hi
        simpa using ⟨q1, q2, q3⟩
    · intro i hi
      simp only [List.length_map, List.length_range] at hi
      obtain ⟨_, _, _, z0, z1⟩ := hF i hi
      simpa using ⟨z0, z1⟩

set_option maxRecDepth 100000 in
theorem open_disk {r : Reach} {b0 : Nat} {v : Value} {d : DataW H} {p : List MemPlace} (hv : Value.okWide Try.prog W r b0 24 v) (h : DataW.Trod enc Try.prog W 0 (fun _ => true) true 24 v d p) :
    ∃ (a : Option Addr) (cap : Nat) (fs : List FileD) (c k cr fl : Int) (dn : Bool), v = .agg #[.slice a fs.length cap, .int .i64 c, .int .i64 k, .int .i64 cr, .int .i64 fl, .bool dn] ∧ FilesIn W a fs ∧ Short fs ∧ fs.length ≤ maxLen ∧
      (Lit.int .i64 c).wf = true ∧ (Lit.int .i64 k).wf = true ∧ (Lit.int .i64 cr).wf = true ∧ (Lit.int .i64 fl).wf = true := by
  obtain ⟨cs, rfl, hsz⟩ := okWide_struct Try.underlying24 hv
  obtain ⟨fuel, hf⟩ := h
  obtain ⟨xs, n, _, _, _, hlen, hfl⟩ := DataW.trod_struct Try.underlying24 hf
  rw [cells_disk] at hsz
  obtain ⟨l⟩ := cs
  simp at hsz
  match l, hsz with
  | [c0, c1, c2, c3, c4, c5], _ =>
    match xs, hlen with
    | [y0, y1, y2, y3, y4, y5], _ =>
      have h0 := hfl 0 _ rfl
      have h1 := hfl 1 _ rfl
      have h2 := hfl 2 _ rfl
      have h3 := hfl 3 _ rfl
      have h4 := hfl 4 _ rfl
      have h5 := hfl 5 _ rfl
      simp [Value.cells, cells_fileS, cells_int, cells_bool] at h0 h1 h2 h3 h4 h5
      obtain ⟨a, cap, fs, e0, hF, hS, hL⟩ := open_files h0
      obtain ⟨i1, e1, _, w1⟩ := DataW.trod_int Try.underlying3 h1
      obtain ⟨i2, e2, _, w2⟩ := DataW.trod_int Try.underlying3 h2
      obtain ⟨i3, e3, _, w3⟩ := DataW.trod_int Try.underlying3 h3
      obtain ⟨i4, e4, _, w4⟩ := DataW.trod_int Try.underlying3 h4
      obtain ⟨b5, e5, _⟩ := DataW.trod_bool Try.underlying4 h5
      simp at e1 e2 e3 e4 e5
      exact ⟨a, cap, fs, i1, i2, i3, i4, b5, by simp [e0, e1, e2, e3, e4, e5], hF, hS, hL, w1, w2, w3, w4⟩
end
end Go.Proofs.Ytboofidegpnkaaa

