import Derived.Test.YtflfopienjjlbaaGreatDoorProg
import Derived.Test.YtflfopienjjlbaaGreatDoorJ16Eq
import Derived.Test.YtflfopienjjlbaaGreatDoorJ09PropD
import Derived.Test.YtflfopienjjlbaaGreatDoorJ14WLog
import Derived.Test.YtflfopienjjlbaaGreatDoorJ29StrB
import Derived.Test.YtflfopienjjlbaaGreatDoorJ26SLgP
import Derived.Test.YtflfopienjjlbaaGreatDoorJ17SWith2
import Derived.Test.YtflfopienjjlbaaGreatDoorJ30LawOp
import Derived.Test.YtflfopienjjlbaaGreatDoorJ01SegOfL
import Derived.ProofKit
import Derived.OpenShut
import Derived.Deep.Slices
import Derived.Deep.Strs
namespace Go.Proofs.YtflfopienjjlbaaGreatDoor
open Go.RowKit

theorem sum_drop (l : List FileD) (k : Nat) : sumLen (l.drop k) ≤ sumLen l := by
  have h := sumLen_append (l.take k) (l.drop k)
  rw [List.take_append_drop] at h
  omega
theorem sum_drop2 (l : List FileD) {p q : Nat} (h : p ≤ q) : sumLen (l.drop q) ≤ sumLen (l.drop p) := by
  obtain ⟨d, rfl⟩ := Nat.le.dest h
  rw [← List.drop_drop]
  exact sum_drop _ _
theorem sum_at {l : List FileD} {i : Nat} (h : i < l.length) : sumLen (l.drop i) = l[i].data.size + sumLen (l.drop (i + 1)) := by
  rw [List.drop_eq_getElem_cons h]; rfl
/-- The bytes of so many segments, and one for each. -/
def dsum (fs : List FileD) : Nat → Int → Nat
  | 0, _ => 0
  | r + 1, n => (datAt fs n).size + 1 + dsum fs r (n + 1)
theorem seg_up {fs : List FileD} (ha : Asc fs) {n : Int} (h1 : 1 ≤ n) (h2 : n + 1 ≤ 999999) {i j : Nat} (hi : i < fs.length) (hj : j < fs.length) (ei : fs[i].name = segS n) (ej : fs[j].name = segS (n + 1)) : i < j := by
  rw [segS_is _ h1 (by omega)] at ei
  rw [segS_is _ (by omega) h2] at ej
  rcases Nat.lt_trichotomy i j with h | h | h
  · exact h
  · subst h
    rw [ei] at ej
    have h3 := congrArg segOf ej
    rw [segOf_segN (by omega), segOf_segN (by omega)] at h3
    omega
  · have hl := ha j i h hi
    rw [ei, ej] at hl
    have := segN_less (by omega) (by omega) hl
    omega
theorem dsum_le {fs : List FileD} (ha : Asc fs) : ∀ (r : Nat) (n : Int), 1 ≤ n → n + r ≤ 1000000 → (∀ j : Nat, j < r → ∃ i, ∃ h : i < fs.length, fs[i].name = segS (n + j)) → ∀ p, (∀ i (h : i < fs.length), 0 < r → fs[i].name = segS n → p ≤ i) → dsum fs r n ≤ sumLen (fs.drop p) + r
  | 0, _, _, _, _, _, _ => by simp [dsum]
  | r + 1, n, h1, h2, hx, p, hp => by
    obtain ⟨i, hi, ei⟩ := hx 0 (by omega)
    rw [show n + ((0 : Nat) : Int) = n by omega] at ei
    have hpi := hp i hi (by omega) ei
    have hd := datAt_eq ha hi ei
    have ih := dsum_le ha r (n + 1) (by omega) (by omega) (fun j hj => by
      obtain ⟨i', hi', e'⟩ := hx (j + 1) (by omega)
      exact ⟨i', hi', by rw [e']; congr 1; omega⟩) (i + 1) (fun j hj hr ej => seg_up ha h1 (by omega) hi hj ei ej)
    have s1 := sum_at hi
    have s2 := sum_drop2 fs hpi
    rw [dsum, hd]
    omega
theorem read_len {fs : List FileD} {last : Int} : ∀ (r : Nat) (n : Int) (all : List ByteArray) (sz : Nat) (all' : List ByteArray) (sz' : Nat), readR fs last r n all sz = some (all', sz') → all'.length ≤ all.length + dsum fs r n
  | 0, n, all, sz, all', sz', h => by
    rw [readR] at h
    simp only [Option.some.injEq, Prod.mk.injEq] at h
    rw [← h.1]
    omega
  | r + 1, n, all, sz, all', sz', h => by
    rw [readR] at h
    split at h
    · cases h
    · have h1 := read_len r (n + 1) _ _ _ _ h
      rw [List.length_append] at h1
      have h3 : (scanV (datAt fs n)).1.length ≤ (datAt fs n).size + 1 := scanR_len (datAt fs n) ((datAt fs n).size + 1) 0
      rw [dsum]
      omega
theorem openD_len {K : DiskD} : (openD K).2.2.1.length ≤ sumLen K.fs + K.fs.length + 1 := by
  unfold openD
  split
  · simp
  · rename_i hv
    have hv' : diskB K.fs K.c K.k K.cr K.fl = true := by simpa using hv
    have ha : Asc K.fs := asc_of (files_of_disk hv').1
    split
    · simp
    · split
      · split <;> simp
      · rename_i x l hq
        unfold openG
        split
        · simp
        · rename_i hg
          obtain ⟨cnt, e1, e2, h1, h2, hx⟩ := nums_at ha hq (by simpa using hg)
          split
          · simp
          · rename_i all sz hr
            split
            · simp
            · show all.length ≤ _
              rw [e1, show (x + (cnt : Int) - x).toNat = cnt by omega] at hr
              have r1 := read_len _ _ _ _ _ _ hr
              have r2 := dsum_le ha (cnt + 1) x h1 (by omega) (fun j hj => hx j (by omega)) 0 (fun _ _ _ _ => Nat.zero_le _)
              have r3 := numsL_length K.fs
              rw [hq, ← e2] at r3
              simp only [List.drop_zero, List.length_nil] at r1 r2
              omega
theorem fit_syncD {K : DiskD} {n : Int} (h : Fit K.fs) : Fit (syncD K n).1.fs := by
  unfold syncD
  split
  · exact fit_step h (by have := segS_size n; unfold maxLen; show (segS n).size ≤ _; omega) (by show (0 : Nat) ≤ _; omega)
  · exact h
theorem fit_mendD {K : DiskD} {n z : Int} (h : Fit K.fs) : Fit (mendD K n z).1.fs := by
  have h1 : Fit (stepD K (opTrunc n z)).1.fs := fit_step h (by have := segS_size n; unfold maxLen; show (segS n).size ≤ _; omega) (by show (0 : Nat) ≤ _; omega)
  unfold mendD
  split
  · split
    · exact h1
    · exact fit_syncD h1
  · exact fit_syncD h
theorem openD_files {K : DiskD} (h : Fit K.fs) : (openD K).1.fs.length ≤ 1048576 := by
  have h1 : Fit (stepD K (opCreate 1)).1.fs := fit_step h (by have := segS_size 1; unfold maxLen; show (segS 1).size ≤ _; omega) (by show (0 : Nat) ≤ _; omega)
  unfold openD
  split
  · simp
  · split
    · exact h.len
    · split
      · split
        · exact h1.len
        · exact h1.len
      · unfold openG
        split
        · exact h.len
        · split
          · exact h.len
          · split
            · exact (fit_mendD h).len
            · exact (fit_mendD h).len
end Go.Proofs.YtflfopienjjlbaaGreatDoor

namespace Go.Proofs.YtflfopienjjlbaaGreatDoor
open Go.RowKit

set_option maxRecDepth 100000 in
set_option maxHeartbeats 4000000 in
theorem lawOpen (a : Option Addr) (cap : Nat) (K : DiskD) (w : World) (hpow : PowTab w) (hert : ErrTab w) (hf : FilesIn w a K.fs) (hs : Short K.fs) (hlen : K.fs.length ≤ maxLen) :
    Calls Tryz.prog 3 #[.agg #[.slice a K.fs.length cap, .int .i64 K.c, .int .i64 K.k, .int .i64 K.cr, .int .i64 K.fl, .bool K.dn]] w fun e w' => e = .returned (.bool true) ∧ Below w.heap.size w w' := by
  have HF : Hid (FilesIn w a K.fs) := hf
  clear hf
  by_cases hneg : szFs 1048576 K.fs < 0
  · go_enter Tryz.func3, Tryz.ntmps3
    go_wp2_with fail
    refine (szDisk_any a cap K.fs K.c K.k K.cr K.fl K.dn 1048576 _ (by omega) (by omega) (HF.out.later (bnew _ _)) hs hlen).mono ?_
    rintro e w1 ⟨rfl, hb1⟩
    have HB : Hid (Below w.heap.size w w1) := bto (bnew _ _) hb1
    clear hb1
    go_wp2
    go_ret
    exact ⟨rfl, HB.out⟩
  have hbd := szFs_bound (Int.not_lt.1 hneg)
  have hl20 : K.fs.length ≤ 1048576 := by omega
  have hsl := sumLen_le_bulk K.fs
  have hsum : sumLen K.fs ≤ 1000000000 := by omega
  have hfit : Fit K.fs := ⟨hs, hl20, hsum⟩
  have hsp : ∀ a' cap' W, FilesIn W a' K.fs → Calls Tryz.prog 6 #[.agg #[.slice a' K.fs.length cap', .int .i64 K.c, .int .i64 K.k, .int .i64 K.cr, .int .i64 K.fl, .bool K.dn]] W fun e w' => OpenSpec W (openD K) e w' := fun a' cap' W h => specOpen_any a' cap' K W h hfit
  have him : ∀ a' cap' W, Below w.heap.size w W → FilesIn W a' K.fs → Calls Tryz.prog 8 #[.agg #[.slice a' K.fs.length cap', .int .i64 K.c, .int .i64 K.k, .int .i64 K.cr, .int .i64 K.fl, .bool K.dn]] W fun e w' => OpenOut W (openD K) e w' := fun a' cap' W hb h => implOpen_any a' cap' K W (hpow.later hb) (hert.later hb) h hfit
  have hfl := openD_files hfit
  have hyl : (openD K).2.2.1.length ≤ 50000000 := by have := openD_len (K := K); omega
  generalize openD K = R at hsp him hfl hyl
  obtain ⟨K0, L0, ys, code⟩ := R
  have hfl2 : K0.fs.length ≤ 1048580 := by have : K0.fs.length ≤ 1048576 := hfl; omega
  exact lawOpen_core a cap K w K0 L0 ys (code : Int) HF hs hlen hneg hl20 hfl2 hyl hsp him
end Go.Proofs.YtflfopienjjlbaaGreatDoor

namespace Go.Proofs.YtflfopienjjlbaaGreatDoor
open Go.ChangeShapes Go.WideShapes Go.ChangeAt Go.RowKit Go.Deep

theorem cells_file : Tryz.prog.cellsOf 91 = 3 := by kernel_rfl
theorem cells_str : Tryz.prog.cellsOf 9 = 1 := by kernel_rfl
theorem cells_int : Tryz.prog.cellsOf 3 = 1 := by kernel_rfl
theorem cells_bool : Tryz.prog.cellsOf 4 = 1 := by kernel_rfl
theorem cells_fileS : Tryz.prog.cellsOf 22 = 1 := by kernel_rfl
theorem cells_disk : Tryz.prog.cellsOf 24 = 6 := by kernel_rfl

section
variable {H : Type} {enc : TypeId × Value → H} {W : World}

set_option maxRecDepth 100000 in
theorem open_file {fuel : Nat} {cs : List Value} {x : DataW H × List MemPlace} (h : DataW.trod enc Tryz.prog W 0 (fun _ => true) true fuel 91 cs = some x) :
    ∃ f : FileD, cs = [.string f.name, .string f.data, .int .i64 f.synced] ∧ f.name.size ≤ maxLen ∧ f.data.size ≤ maxLen := by
  obtain ⟨y0, y1, y2, n, _, hl, h0, h1, h2⟩ := trod_struct3 Tryz.underlying91 h
  rw [cells_file] at hl
  match cs, hl with
  | [c0, c1, c2], _ =>
    simp [cells_str, cells_int] at h0 h1 h2
    obtain ⟨s0, e0, _, z0⟩ := DataW.trod_string Tryz.underlying9 h0
    obtain ⟨s1, e1, _, z1⟩ := DataW.trod_string Tryz.underlying9 h1
    obtain ⟨i2, e2, _, _⟩ := DataW.trod_int Tryz.underlying3 h2
    simp at e0 e1 e2
    exact ⟨⟨s0, s1, i2⟩, by simp [e0, e1, e2], z0, z1⟩

set_option maxRecDepth 100000 in
theorem open_files {fuel : Nat} {v : Value} {x : DataW H × List MemPlace} (h : DataW.trod enc Tryz.prog W 0 (fun _ => true) true fuel 22 [v] = some x) :
    ∃ (a : Option Addr) (cap : Nat) (fs : List FileD), v = .slice a fs.length cap ∧ FilesIn W a fs ∧ Short fs ∧ fs.length ≤ maxLen := by
  rcases open_slice Tryz.underlying22 h with ⟨hc, _⟩ | ⟨a, len, cap, m, n, D, Pl, hc, _, hl, hm, hmm, _, hx⟩
  · simp at hc
    exact ⟨none, 0, [], by simpa using hc, Or.inl rfl, fun i h => absurd h (by simp), by simp⟩
  · simp at hc
    simp only [if_true] at hmm
    have hin : Inhabited FileD := ⟨⟨ByteArray.empty, ByteArray.empty, 0⟩⟩
    obtain ⟨b, o, spot⟩ := a
    rw [cells_file] at hx
    have hsp : 0 < len → spot = none := fun h0 => by
      obtain ⟨cs', h1, h2⟩ := hx 0 (by omega)
      obtain ⟨f, rfl, _, _⟩ := open_file h2
      obtain ⟨_, _, hcell⟩ := World.cells?_some h1
      have hc0 := hcell 0 (by omega)
      simp only [List.getElem?_cons_zero] at hc0
      have := World.cell?_spot hc0
      simpa [Addr.add] using this
    obtain ⟨F, hF⟩ := choose_lt (α := FileD) (n := len) (p := fun i f => W.cell? ⟨b, o + i * 3, none⟩ = some (.string f.name) ∧
        W.cell? ⟨b, o + i * 3 + 1, none⟩ = some (.string f.data) ∧ W.cell? ⟨b, o + i * 3 + 2, none⟩ = some (.int .i64 f.synced) ∧ f.name.size ≤ maxLen ∧ f.data.size ≤ maxLen) (fun i hi => by
      obtain ⟨cs', h1, h2⟩ := hx i (by omega)
      obtain ⟨f, rfl, z0, z1⟩ := open_file h2
      obtain ⟨_, _, hcell⟩ := World.cells?_some h1
      have hspot := hsp (by omega)
      subst hspot
      refine ⟨f, ?_, ?_, ?_, z0, z1⟩
      · simpa [add_plain] using hcell 0 (by omega)
      · simpa [add_plain] using hcell 1 (by omega)
      · simpa [add_plain] using hcell 2 (by omega))
    refine ⟨some ⟨b, o, spot⟩, cap, (List.range len).map F, by simp [hc], ?_, ?_, by simp; omega⟩
    · by_cases h0 : len = 0
      · subst h0; exact Or.inl rfl
      · have hs := hsp (by omega)
        subst hs
        have hlt : b < W.heap.size := by
          have hc0 := (hF 0 (by omega)).1
          rcases Nat.lt_or_ge b W.heap.size with hlt | hge
          · exact hlt
          · simp [World.cell?, Array.getElem?_eq_none hge] at hc0
        refine Or.inr ⟨b, o, rfl, hlt, fun i hi => ?_⟩
        simp only [List.length_map, List.length_range] at hi
        obtain ⟨q1, q2, q3, _⟩ := hF i hi
        simpa using ⟨q1, q2, q3⟩
    · intro i hi
      simp only [List.length_map, List.length_range] at hi
      obtain ⟨_, _, _, z0, z1⟩ := hF i hi
      simpa using ⟨z0, z1⟩

set_option maxRecDepth 100000 in
theorem open_disk {r : Reach} {b0 : Nat} {v : Value} {d : DataW H} {p : List MemPlace} (hv : Value.okWide Tryz.prog W r b0 24 v) (h : DataW.Trod enc Tryz.prog W 0 (fun _ => true) true 24 v d p) :
    ∃ (a : Option Addr) (cap : Nat) (fs : List FileD) (c k cr fl : Int) (dn : Bool), v = .agg #[.slice a fs.length cap, .int .i64 c, .int .i64 k, .int .i64 cr, .int .i64 fl, .bool dn] ∧ FilesIn W a fs ∧ Short fs ∧ fs.length ≤ maxLen ∧
      (Lit.int .i64 c).wf = true ∧ (Lit.int .i64 k).wf = true ∧ (Lit.int .i64 cr).wf = true ∧ (Lit.int .i64 fl).wf = true := by
  obtain ⟨cs, rfl, hsz⟩ := okWide_struct Tryz.underlying24 hv
  obtain ⟨fuel, hf⟩ := h
  obtain ⟨xs, n, _, _, _, hlen, hfl⟩ := DataW.trod_struct Tryz.underlying24 hf
  rw [cells_disk] at hsz
  obtain ⟨l⟩ := cs
  simp at hsz
  match l, hsz with
  | [c0, c1, c2, c3, c4, c5], _ =>
    match xs, hlen with
    | [y0, y1, y2, y3, y4, y5], _ =>
      have h0 := hfl 0 _ rfl
      have h1 := hfl 1 _ rfl
      have h2 := hfl 2 _ rfl
      have h3 := hfl 3 _ rfl
      have h4 := hfl 4 _ rfl
      have h5 := hfl 5 _ rfl
      simp [Value.cells, cells_fileS, cells_int, cells_bool] at h0 h1 h2 h3 h4 h5
      obtain ⟨a, cap, fs, e0, hF, hS, hL⟩ := open_files h0
      obtain ⟨i1, e1, _, w1⟩ := DataW.trod_int Tryz.underlying3 h1
      obtain ⟨i2, e2, _, w2⟩ := DataW.trod_int Tryz.underlying3 h2
      obtain ⟨i3, e3, _, w3⟩ := DataW.trod_int Tryz.underlying3 h3
      obtain ⟨i4, e4, _, w4⟩ := DataW.trod_int Tryz.underlying3 h4
      obtain ⟨b5, e5, _⟩ := DataW.trod_bool Tryz.underlying4 h5
      simp at e1 e2 e3 e4 e5
      exact ⟨a, cap, fs, i1, i2, i3, i4, b5, by simp [e0, e1, e2, e3, e4, e5], hF, hS, hL, w1, w2, w3, w4⟩
end
end Go.Proofs.YtflfopienjjlbaaGreatDoor

