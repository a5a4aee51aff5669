import Derived.Test.YtbeamodlgjlhiadGreatDoorProg
import Derived.Test.YtbeamodlgjlhiadGreatDoorJ21SApp
import Derived.Test.YtbeamodlgjlhiadGreatDoorJ26LogTo
import Derived.Test.YtbeamodlgjlhiadGreatDoorJ02Nm
import Derived.Test.YtbeamodlgjlhiadGreatDoorJ31LawApp
import Derived.Test.YtbeamodlgjlhiadGreatDoorJ01Sz
import Derived.ProofKit
import Derived.OpenShut
import Derived.Deep.Slices
import Derived.Deep.Strs
namespace Go.Proofs.YtbeamodlgjlhiadGreatDoor
open Go.RowKit

theorem fit_appendT {D : DiskD} {L : LogD} {f : ByteArray} (h : Fit D.fs) : Fit (appendT D L f).1.fs := by
  have h1 : Fit (stepD D (opAppend L.last f)).1.fs := fit_step h (by have := segS_size (L.last); unfold maxLen; show (segS (L.last)).size ≤ _; omega) (by show (0 : Nat) ≤ _; omega)
  have h2 : Fit (stepD (stepD D (opAppend L.last f)).1 (opSync L.last)).1.fs := fit_step h1 (by have := segS_size (L.last); unfold maxLen; show (segS (L.last)).size ≤ _; omega) (by show (0 : Nat) ≤ _; omega)
  unfold appendT
  split
  · exact h1
  · split <;> exact h2
theorem fit_appendD {D : DiskD} {L : LogD} {p : ByteArray} {most : Int} (h : Fit D.fs) : Fit (appendD D L p most).1.fs := by
  have h1 : Fit (stepD D (opCreate (L.last + 1))).1.fs := fit_step h (by have := segS_size (L.last + 1); unfold maxLen; show (segS (L.last + 1)).size ≤ _; omega) (by show (0 : Nat) ≤ _; omega)
  unfold appendD
  split
  · exact h
  · split
    · exact h
    · split
      · split
        · exact h
        · split
          · exact h1
          · exact fit_appendT h1
      · exact fit_appendT h

set_option maxRecDepth 100000 in
set_option maxHeartbeats 4000000 in
theorem lawApp (a : Option Addr) (cap : Nat) (K : DiskD) (L : LogD) (p : ByteArray) (most : Int) (w : World) (hpow : PowTab w) (hf : FilesIn w a K.fs) (hs : Short K.fs) (hlen : K.fs.length ≤ maxLen) :
    Calls Tryz.prog 3 #[.agg #[.slice a K.fs.length cap, .int .i64 K.c, .int .i64 K.k, .int .i64 K.cr, .int .i64 K.fl, .bool K.dn], .agg #[.int .i64 L.first, .int .i64 L.last, .int .i64 L.size], .string p, .int .i64 most] w fun e w' => e = .returned (.bool true) ∧ Below w.heap.size w w' := by
  have HF : Hid (FilesIn w a K.fs) := hf
  clear hf
  by_cases hbig : 1048576 < p.size
  · have hpi : (1048576 : Int) < (p.size : Int) := by omega
    go_enter Tryz.func3, Tryz.ntmps3
    go_wp2
    go_ret
    exact ⟨rfl, bto (bnew _ _) (bnew _ _)⟩
  have hpi : ¬ (1048576 : Int) < (p.size : Int) := by omega
  by_cases hneg : szFs 1048576 K.fs < 0
  · go_enter Tryz.func3, Tryz.ntmps3
    go_wp2_with fail
    refine (szDisk_any a cap K.fs K.c K.k K.cr K.fl K.dn 1048576 _ (by omega) (by omega) ((HF.out.later (bnew _ _)).later (bnew _ _)) hs hlen).mono ?_
    rintro e w1 ⟨rfl, hb1⟩
    have HB : Hid (Below w.heap.size w w1) := bto (bto (bnew _ _) (bnew _ _)) hb1
    clear hb1
    go_wp2
    go_ret
    exact ⟨rfl, HB.out⟩
  have hbd := szFs_bound (Int.not_lt.1 hneg)
  have hl20 : K.fs.length ≤ 1048576 := by omega
  have hsum : sumLen K.fs ≤ 1000000000 := by have := sumLen_le_bulk K.fs; omega
  have hfit : Fit K.fs := ⟨hs, hl20, hsum⟩
  have hp : p.size ≤ 1048576 := by omega
  have hsp : ∀ a' cap' W, FilesIn W a' K.fs → Calls Tryz.prog 5 #[.agg #[.slice a' K.fs.length cap', .int .i64 K.c, .int .i64 K.k, .int .i64 K.cr, .int .i64 K.fl, .bool K.dn], .agg #[.int .i64 L.first, .int .i64 L.last, .int .i64 L.size], .string p, .int .i64 most] W fun e w' => ∃ aw cw, e = .returned (appV (appendD K L p most) aw cw) ∧ FilesIn w' aw (appendD K L p most).1.fs ∧ Below W.heap.size W w' := fun a' cap' W h => specApp_any a' cap' K.fs K.c K.k K.cr K.fl K.dn L.first L.last L.size p most W h hfit hp
  have him : ∀ a' cap' W, Below w.heap.size w W → FilesIn W a' K.fs → Calls Tryz.prog 8 #[.agg #[.slice a' K.fs.length cap', .int .i64 K.c, .int .i64 K.k, .int .i64 K.cr, .int .i64 K.fl, .bool K.dn], .agg #[.int .i64 L.first, .int .i64 L.last, .int .i64 L.size], .string p, .int .i64 most] W fun e w' => ∃ ag cg, e = .returned (appV (appendD K L p most) ag cg) ∧ Owned w' W.heap.size ag (appendD K L p most).1.fs ∧ Below W.heap.size W w' := fun a' cap' W hb h => implApp_any a' cap' K L p most W (hpow.later hb) h hfit hp
  have hfl := (fit_appendD (L := L) (p := p) (most := most) hfit).len
  generalize appendD K L p most = R at hsp him hfl
  obtain ⟨K0, L0, code⟩ := R
  have hfl2 : K0.fs.length ≤ 1048580 := by have : K0.fs.length ≤ 1048576 := hfl; omega
  exact lawApp_core a cap K L p most w K0 L0 (code : Int) HF hs hlen hp hneg hl20 hfl2 hsp him
end Go.Proofs.YtbeamodlgjlhiadGreatDoor

namespace Go.Proofs.YtbeamodlgjlhiadGreatDoor
open Go.ChangeShapes Go.WideShapes Go.ChangeAt Go.RowKit Go.Deep

theorem cells_file : Tryz.prog.cellsOf 64 = 3 := by kernel_rfl
theorem cells_str : Tryz.prog.cellsOf 9 = 1 := by kernel_rfl
theorem cells_int : Tryz.prog.cellsOf 3 = 1 := by kernel_rfl
theorem cells_bool : Tryz.prog.cellsOf 4 = 1 := by kernel_rfl
theorem cells_fileS : Tryz.prog.cellsOf 22 = 1 := by kernel_rfl
theorem cells_disk : Tryz.prog.cellsOf 24 = 6 := by kernel_rfl

section
variable {H : Type} {enc : TypeId × Value → H} {W : World}

set_option maxRecDepth 100000 in
theorem open_file {fuel : Nat} {cs : List Value} {x : DataW H × List MemPlace} (h : DataW.trod enc Tryz.prog W 0 (fun _ => true) true fuel 64 cs = some x) :
    ∃ f : FileD, cs = [.string f.name, .string f.data, .int .i64 f.synced] ∧ f.name.size ≤ maxLen ∧ f.data.size ≤ maxLen := by
  obtain ⟨y0, y1, y2, n, _, hl, h0, h1, h2⟩ := trod_struct3 Tryz.underlying64 h
  rw [cells_file] at hl
  match cs, hl with
  | [c0, c1, c2], _ =>
    simp [cells_str, cells_int] at h0 h1 h2
    obtain ⟨s0, e0, _, z0⟩ := DataW.trod_string Tryz.underlying9 h0
    obtain ⟨s1, e1, _, z1⟩ := DataW.trod_string Tryz.underlying9 h1
    obtain ⟨i2, e2, _, _⟩ := DataW.trod_int Tryz.underlying3 h2
    simp at e0 e1 e2
    exact ⟨⟨s0, s1, i2⟩, by simp [e0, e1, e2], z0, z1⟩

set_option maxRecDepth 100000 in
theorem open_files {fuel : Nat} {v : Value} {x : DataW H × List MemPlace} (h : DataW.trod enc Tryz.prog W 0 (fun _ => true) true fuel 22 [v] = some x) :
    ∃ (a : Option Addr) (cap : Nat) (fs : List FileD), v = .slice a fs.length cap ∧ FilesIn W a fs ∧ Short fs ∧ fs.length ≤ maxLen := by
  rcases open_slice Tryz.underlying22 h with ⟨hc, _⟩ | ⟨a, len, cap, m, n, D, Pl, hc, _, hl, hm, hmm, _, hx⟩
  · simp at hc
    exact ⟨none, 0, [], by simpa using hc, Or.inl rfl, fun i h => absurd h (by simp), by simp⟩
  · simp at hc
    simp only [if_true] at hmm
    have hin : Inhabited FileD := ⟨⟨ByteArray.empty, ByteArray.empty, 0⟩⟩
    obtain ⟨b, o, spot⟩ := a
    rw [cells_file] at hx
    have hsp : 0 < len → spot = none := fun h0 => by
      obtain ⟨cs', h1, h2⟩ := hx 0 (by omega)
      obtain ⟨f, rfl, _, _⟩ := open_file h2
      obtain ⟨_, _, hcell⟩ := World.cells?_some h1
      have hc0 := hcell 0 (by omega)
      simp only [List.getElem?_cons_zero] at hc0
      have := World.cell?_spot hc0
      simpa [Addr.add] using this
    obtain ⟨F, hF⟩ := choose_lt (α := FileD) (n := len) (p := fun i f => W.cell? ⟨b, o + i * 3, none⟩ = some (.string f.name) ∧
        W.cell? ⟨b, o + i * 3 + 1, none⟩ = some (.string f.data) ∧ W.cell? ⟨b, o + i * 3 + 2, none⟩ = some (.int .i64 f.synced) ∧ f.name.size ≤ maxLen ∧ f.data.size ≤ maxLen) (fun i hi => by
      obtain ⟨cs', h1, h2⟩ := hx i (by omega)
      obtain ⟨f, rfl, z0, z1⟩ := open_file h2
      obtain ⟨_, _, hcell⟩ := World.cells?_some h1
      have hspot := hsp (by omega)
      subst hspot
      refine ⟨f, ?_, ?_, ?_, z0, z1⟩
      · simpa [add_plain] using hcell 0 (by omega)
      · simpa [add_plain] using hcell 1 (by omega)
      · simpa [add_plain] using hcell 2 (by omega))
    refine ⟨some ⟨b, o, spot⟩, cap, (List.range len).map F, by simp [hc], ?_, ?_, by simp; omega⟩
    · by_cases h0 : len = 0
      · subst h0; exact Or.inl rfl
      · have hs := hsp (by omega)
        subst hs
        have hlt : b < W.heap.size := by
          have hc0 := (hF 0 (by omega)).1
          rcases Nat.lt_or_ge b W.heap.size with hlt | hge
          · exact hlt
          · simp [World.cell?, Array.getElem?_eq_none hge] at hc0
        refine Or.inr ⟨b, o, rfl, hlt, fun i hi => ?_⟩
        simp only [List.length_map, List.length_range] at hi
        obtain ⟨q1, q2, q3, _⟩ := hF i hi
        simpa using ⟨q1, q2, q3⟩
    · intro i hi
      simp only [List.length_map, List.length_range] at hi
      obtain ⟨_, _, _, z0, z1⟩ := hF i hi
      simpa using ⟨z0, z1⟩

set_option maxRecDepth 100000 in
theorem open_disk {r : Reach} {b0 : Nat} {v : Value} {d : DataW H} {p : List MemPlace} (hv : Value.okWide Tryz.prog W r b0 24 v) (h : DataW.Trod enc Tryz.prog W 0 (fun _ => true) true 24 v d p) :
    ∃ (a : Option Addr) (cap : Nat) (fs : List FileD) (c k cr fl : Int) (dn : Bool), v = .agg #[.slice a fs.length cap, .int .i64 c, .int .i64 k, .int .i64 cr, .int .i64 fl, .bool dn] ∧ FilesIn W a fs ∧ Short fs ∧ fs.length ≤ maxLen ∧
      (Lit.int .i64 c).wf = true ∧ (Lit.int .i64 k).wf = true ∧ (Lit.int .i64 cr).wf = true ∧ (Lit.int .i64 fl).wf = true := by
  obtain ⟨cs, rfl, hsz⟩ := okWide_struct Tryz.underlying24 hv
  obtain ⟨fuel, hf⟩ := h
  obtain ⟨xs, n, _, _, _, hlen, hfl⟩ := DataW.trod_struct Tryz.underlying24 hf
  rw [cells_disk] at hsz
  obtain ⟨l⟩ := cs
  simp at hsz
  match l, hsz with
  | [c0, c1, c2, c3, c4, c5], _ =>
    match xs, hlen with
    | [y0, y1, y2, y3, y4, y5], _ =>
      have h0 := hfl 0 _ rfl
      have h1 := hfl 1 _ rfl
      have h2 := hfl 2 _ rfl
      have h3 := hfl 3 _ rfl
      have h4 := hfl 4 _ rfl
      have h5 := hfl 5 _ rfl
      simp [Value.cells, cells_fileS, cells_int, cells_bool] at h0 h1 h2 h3 h4 h5
      obtain ⟨a, cap, fs, e0, hF, hS, hL⟩ := open_files h0
      obtain ⟨i1, e1, _, w1⟩ := DataW.trod_int Tryz.underlying3 h1
      obtain ⟨i2, e2, _, w2⟩ := DataW.trod_int Tryz.underlying3 h2
      obtain ⟨i3, e3, _, w3⟩ := DataW.trod_int Tryz.underlying3 h3
      obtain ⟨i4, e4, _, w4⟩ := DataW.trod_int Tryz.underlying3 h4
      obtain ⟨b5, e5, _⟩ := DataW.trod_bool Tryz.underlying4 h5
      simp at e1 e2 e3 e4 e5
      exact ⟨a, cap, fs, i1, i2, i3, i4, b5, by simp [e0, e1, e2, e3, e4, e5], hF, hS, hL, w1, w2, w3, w4⟩
end
end Go.Proofs.YtbeamodlgjlhiadGreatDoor

