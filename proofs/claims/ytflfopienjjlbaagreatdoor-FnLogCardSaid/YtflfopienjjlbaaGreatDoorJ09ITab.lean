import Derived.Test.YtflfopienjjlbaaGreatDoorJ01Drive
import Derived.Laws.IdiomCopy
import Derived.Test.YtflfopienjjlbaaGreatDoorProg
import Derived.Deep.RegionLaw
import Derived.Lib.Overlaps
import Derived.Shelf.Spec.SlicesInsert
import Derived.Test.YtflfopienjjlbaaGreatDoorJ08Find
import Derived.Deep.RegionHeld3
import Derived.Laws.Bits64
import Derived.Laws.Tables
import Derived.Laws.CopyRow
namespace Go.Proofs.YtflfopienjjlbaaGreatDoor
open Go.RowKit

/-- Of what lay in w only the blocks of S may have turned. -/
structure Keeps (S : Nat → Prop) (w w' : World) : Prop where
  os : w'.os = w.os
  tape : w'.tape = w.tape
  output : w'.output = w.output
  size : w.heap.size ≤ w'.heap.size
  block : ∀ k, k < w.heap.size → ¬ S k → w'.heap[k]? = w.heap[k]?

theorem Keeps.refl (S : Nat → Prop) (w : World) : Keeps S w w := ⟨rfl, rfl, rfl, Nat.le_refl _, fun _ _ _ => rfl⟩
theorem Keeps.trans {S : Nat → Prop} {a b c : World} (h : Keeps S a b) (k : Keeps S b c) : Keeps S a c :=
  ⟨k.os.trans h.os, k.tape.trans h.tape, k.output.trans h.output, Nat.le_trans h.size k.size, fun i hi hg => (k.block i (Nat.lt_of_lt_of_le hi h.size) hg).trans (h.block i hi hg)⟩
theorem Keeps.of {S : Nat → Prop} {w w' : World} (h : Below w.heap.size w w') : Keeps S w w' := ⟨h.os, h.tape, h.output, h.size, fun k hk _ => h.block k hk⟩
theorem Keeps.mono {S T : Nat → Prop} {w w' : World} (h : Keeps S w w') (hs : ∀ k, S k → T k) : Keeps T w w' := ⟨h.os, h.tape, h.output, h.size, fun k hk ht => h.block k hk (fun x => ht (hs k x))⟩
theorem Keeps.below {S : Nat → Prop} {B : Nat} {w w' : World} (h : Keeps S w w') (hB : ∀ k, S k → B ≤ k) (hs : B ≤ w.heap.size) : Below B w w' :=
  ⟨h.os, h.tape, h.output, h.size, fun k hk => h.block k (by omega) (fun x => by have := hB k x; omega)⟩
theorem Keeps.but {g : Nat} {w w' : World} (h : But g w w') : Keeps (fun k => k = g) w w' := ⟨h.os, h.tape, h.output, h.size, h.block⟩
theorem Keeps.setCell {S : Nat → Prop} {a w : World} (h : Keeps S a w) {g : Nat} (hg : S g) (o : Nat) (v : Value) : Keeps S a (w.setCell ⟨g, o, none⟩ v) :=
  h.trans ⟨rfl, rfl, rfl, by simp [World.setCell], fun k _ hk => Below.heap_setCell _ _ _ _ (fun e => hk (by rw [e]; exact hg))⟩
theorem Keeps.setCells {S : Nat → Prop} {g : Nat} (hg : S g) : ∀ (vs : List Value) (o : Nat) {a w : World}, Keeps S a w → Keeps S a (w.setCells g o vs)
  | [], _, _, _, h => h
  | v :: r, o, _, _, h => Keeps.setCells hg r (o + 1) (h.setCell hg o v)
theorem Keeps.drew {S : Nat → Prop} {a w : World} (h : Keeps S a w) : Keeps S a w.drew := ⟨h.os, h.tape, h.output, h.size, h.block⟩
theorem Keeps.alloc {S : Nat → Prop} {a w : World} (h : Keeps S a w) (o : Obj) : Keeps S a (w.alloc o) := h.trans (Keeps.of (bnew w o))
theorem Keeps.grown {S : Nat → Prop} {w w' : World} {row : Option Nat} (h : w.grownBy w' row) (hs : ∀ g, row = some g → S g) : Keeps S w w' :=
  ⟨h.os, h.tape, h.output, h.size, fun k hk hS => h.block k hk (fun e => hS (hs k e.symm))⟩
theorem Blk.keeps {S : Nat → Prop} {w w' : World} {g : Nat} {cur : Array Value} {t : TypeId} (h : Blk w g cur t) (hb : Keeps S w w') (hne : ¬ S g) : Blk w' g cur t := (hb.block g (lt_of_block h) hne).trans h

theorem Blk.setCells {g : Nat} {t : TypeId} : ∀ (vs : List Value) (o : Nat) {w : World} {cur : Array Value}, Blk w g cur t → ∃ cur', Blk (w.setCells g o vs) g cur' t ∧ cur'.size = cur.size
  | [], _, _, cur, h => ⟨cur, h, rfl⟩
  | v :: r, o, _, cur, h => by
    obtain ⟨c, hc, hs⟩ := Blk.setCells r (o + 1) (h.set o v)
    exact ⟨c, hc, by rw [hs]; simp⟩

/-- A block whose first cells are xs is a row that holds them. -/
theorem row_of_cells {w : World} {B g n cap : Nat} {cur : Array Value} {e : TypeId} {xs : List Value} (hB : B ≤ g) (h : Blk w g cur e) (hn : n ≤ cap) (hm : cap ≤ maxLen) (hs : cur.size = cap * 3) (hx : xs.length = n * 3)
    (hc : ∀ j u, xs[j]? = some u → w.cell? ⟨g, j, none⟩ = some u) : w.ownsRow B e 3 (.slice (some ⟨g, 0, none⟩) n cap) n xs := by
  refine ⟨hx, Or.inr ⟨g, cap, cur, rfl, hB, h, hn, hm, hs, ?_⟩⟩
  apply List.ext_getElem?
  intro j
  by_cases hj : j < n * 3
  · rw [List.getElem?_take_of_lt hj]
    have h1 := hc j xs[j] (List.getElem?_eq_getElem (by omega))
    rw [h.cell] at h1
    rw [Array.getElem?_toList, h1, List.getElem?_eq_getElem (by omega)]
  · rw [List.getElem?_eq_none (by simp; omega), List.getElem?_eq_none (by omega)]

theorem cells_of_row {w : World} {B g n m cap : Nat} {e : TypeId} {xs : List Value} (h : w.ownsRow B e 3 (.slice (some ⟨g, 0, none⟩) m cap) n xs) :
    ∃ cur, B ≤ g ∧ m = n ∧ Blk w g cur e ∧ n ≤ cap ∧ cap ≤ maxLen ∧ cur.size = cap * 3 ∧ ∀ j u, xs[j]? = some u → w.cell? ⟨g, j, none⟩ = some u := by
  rcases h.2 with ⟨hv, _⟩ | ⟨g', cap', cur, hv, hB, hg, hn, hm, hs, ht⟩
  · exact absurd hv (by simp)
  · simp only [Value.slice.injEq, Option.some.injEq, Addr.mk.injEq, and_true] at hv
    obtain ⟨rfl, rfl, rfl⟩ := hv
    refine ⟨cur, hB, rfl, hg, hn, hm, hs, fun j u hu => ?_⟩
    rw [Blk.cell hg]
    rw [← ht] at hu
    have hlt := (List.getElem?_eq_some_iff.1 hu).1
    rw [List.length_take] at hlt
    rw [List.getElem?_take_of_lt (by omega)] at hu
    simpa using hu

/-- copy, of elements of any number of cells. -/
theorem run_copy_wide {P : Program} (w : World) (dT sT ty elem : TypeId) (b o dLen dCap : Nat) (a : Addr) (sLen sCap k size : Nat) (cs : List Value)
    (hu : P.underlying dT = some (.slice elem)) (hs : (P.info? elem).map (·.size) = some size) (hk : Nat.min sLen dLen = k) (hn : cs.length = k * size)
    (hsrc : ∀ j v, cs[j]? = some v → w.cell? (a.add j) = some v) (hc : ∀ j, j < cs.length → (w.cell? ⟨b, o + j, none⟩).isSome = true) (hf : ∀ j, j < cs.length → w.frozen? ⟨b, o + j, none⟩ = false) (h1 : ∀ v ∈ cs, v.oneCell' = true) :
    (Builtin.copy_ #[dT, sT] ty #[.slice (some ⟨b, o, none⟩) dLen dCap, .slice (some a) sLen sCap]).run P w = .ok (goInt k) (w.setCells b o cs) := by
  have hl := run_loadCells_list (P := P) w a cs hsrc
  have hst := run_storeCells_cells (P := P) b o cs 0 w (by simpa using hc) (by simpa using hf) h1
  obtain ⟨i, hq, hi⟩ := Option.map_eq_some_iff.1 hs
  simp [Builtin.copy_, run_underlying hu, Builtin.lenOf, Builtin.firstCells, sizeOf, typeInfo, hq, hi, hk, ← hn, hl, hst]

def zeroF : List Value := [.string ByteArray.empty, .string ByteArray.empty, .int .i64 0]

theorem run_clear_one {P : Program} (w : World) (t ty e : TypeId) (i : TypeInfo) (ht : P.underlying t = some (.slice e)) (hi : P.info? e = some i) (hz : i.zero = some (.agg #[.string ByteArray.empty, .string ByteArray.empty, .int .i64 0]))
    (b o c : Nat) (hc : ∀ j, j < 3 → (w.cell? ⟨b, o + j, none⟩).isSome = true) (hf : ∀ j, j < 3 → w.frozen? ⟨b, o + j, none⟩ = false) :
    (Builtin.clear_ #[t] ty #[.slice (some ⟨b, o, none⟩) 1 c]).run P w = .ok (.tuple #[]) (w.setCells b o zeroF) := by
  have hst := run_storeCells_cells (P := P) b o zeroF 0 w (by simpa [zeroF] using hc) (by simpa [zeroF] using hf) (by simp [zeroF, Value.oneCell'])
  have e1 : (Builtin.zeroCells (Value.agg #[.string ByteArray.empty, .string ByteArray.empty, .int .i64 0]).cells 1).toList = zeroF := by kernel_rfl
  simp [Builtin.clear_, run_underlying ht, zeroValue, typeInfo, hi, hz, e1, hst]

theorem erase_flat (fs : List FileD) (i : Nat) : flat (fs.eraseIdx i) = flat (fs.take i) ++ flat (fs.drop (i + 1)) := by
  rw [List.eraseIdx_eq_take_drop_succ, flat_append]

theorem flat_split (fs : List FileD) (i : Nat) : flat fs = flat (fs.take i) ++ flat (fs.drop i) := by
  rw [← flat_append, List.take_append_drop]

theorem flat_drop_get (fs : List FileD) (i j : Nat) (h : i ≤ fs.length) : (flat (fs.drop i))[j]? = (flat fs)[i * 3 + j]? := by
  have hl : (flat (fs.take i)).length = i * 3 := by rw [flat_length, List.length_take]; omega
  rw [flat_split fs i, List.getElem?_append_right (by omega), hl]
  congr 1; omega

theorem flat_take_get (fs : List FileD) (i j : Nat) (h : i ≤ fs.length) (hj : j < i * 3) : (flat (fs.take i))[j]? = (flat fs)[j]? := by
  have hl : (flat (fs.take i)).length = i * 3 := by rw [flat_length, List.length_take]; omega
  rw [flat_split fs i, List.getElem?_append_left (by omega)]
end Go.Proofs.YtflfopienjjlbaaGreatDoor

namespace Go.Proofs.YtflfopienjjlbaaGreatDoor
open Go.RowKit

def insL (fs : List FileD) (i : Nat) (f : FileD) : List FileD := fs.take i ++ f :: fs.drop i
theorem insL_length (fs : List FileD) (i : Nat) (f : FileD) (h : i ≤ fs.length) : (insL fs i f).length = fs.length + 1 := by simp [insL]; omega
theorem insL_flat (fs : List FileD) (i : Nat) (f : FileD) : flat (insL fs i f) = flat (fs.take i) ++ (flat [f] ++ flat (fs.drop i)) := by
  rw [insL, flat_append, show f :: fs.drop i = [f] ++ fs.drop i from rfl, flat_append]

/-- The file f lies alone in block vb. -/
def OneAt (w : World) (vb : Nat) (f : FileD) : Prop := Blk w vb #[.string f.name, .string f.data, .int .i64 f.synced] 59

theorem OneAt.cells {w : World} {vb : Nat} {f : FileD} (h : OneAt w vb f) : ∀ j u, (flat [f])[j]? = some u → w.cell? ⟨vb, j, none⟩ = some u := fun j u hu => by
  rw [Blk.cell h, ← hu]; simp [flat]

/-- The cells of a row into which f was put. -/
theorem ins_cells {w : World} {g i n : Nat} {fs : List FileD} {f : FileD} (hn : fs.length = n) (hi : i ≤ n) (h0 : ∀ j u, j < i * 3 → (flat fs)[j]? = some u → w.cell? ⟨g, j, none⟩ = some u) (h1 : ∀ j u, (flat [f])[j]? = some u → w.cell? ⟨g, i * 3 + j, none⟩ = some u)
    (h2 : ∀ j u, (flat (fs.drop i))[j]? = some u → w.cell? ⟨g, (i + 1) * 3 + j, none⟩ = some u) : ∀ j u, (flat (insL fs i f))[j]? = some u → w.cell? ⟨g, j, none⟩ = some u := by
  intro j u hu
  have htl : (flat (fs.take i)).length = i * 3 := by rw [flat_length, List.length_take]; omega
  have h3 : (flat [f]).length = 3 := rfl
  rw [insL_flat] at hu
  by_cases a1 : j < i * 3
  · rw [List.getElem?_append_left (by omega), flat_take_get fs i j (by omega) a1] at hu
    exact h0 j u a1 hu
  · rw [List.getElem?_append_right (by omega), htl] at hu
    by_cases a2 : j - i * 3 < 3
    · rw [List.getElem?_append_left (by omega)] at hu
      have := h1 _ _ hu
      rwa [show i * 3 + (j - i * 3) = j by omega] at this
    · rw [List.getElem?_append_right (by omega), h3] at hu
      have := h2 _ _ hu
      rwa [show (i + 1) * 3 + (j - i * 3 - 3) = j by omega] at this

set_option maxHeartbeats 4000000 in
set_option maxRecDepth 100000 in
theorem insert_shift (B g cap i vb : Nat) (fs : List FileD) (f : FileD) (w : World) (hown : w.ownsRow B 59 3 (.slice (some ⟨g, 0, none⟩) fs.length cap) fs.length (flat fs)) (hv : OneAt w vb f) (hvb : vb ≠ g) (hi : i < fs.length) (hroom : fs.length + 1 ≤ cap) (hlen : fs.length ≤ 1048576) :
    Calls Tryz.prog 97 #[.slice (some ⟨g, 0, none⟩) fs.length cap, .int .i64 i, .slice (some ⟨vb, 0, none⟩) 1 1] w fun e w' =>
      e = .returned (.slice (some ⟨g, 0, none⟩) (fs.length + 1) cap) ∧ w'.ownsRow B 59 3 (.slice (some ⟨g, 0, none⟩) (fs.length + 1) cap) (fs.length + 1) (flat (insL fs i f)) ∧ Keeps (fun k => k = g) w w' := by
  obtain ⟨cur, hB, _, hblk, hnc, hcm, hsz, hcs⟩ := cells_of_row hown
  obtain ⟨i0, hi0, hz0, hz1, hz2⟩ := info_filex
  obtain ⟨n, hn⟩ : ∃ n, fs.length = n := ⟨_, rfl⟩
  rw [hn] at hi hroom hlen hnc ⊢
  have hsize : (Tryz.prog.info? 59).map (·.size) = some 3 := by rw [hi0]; simp [hz1]
  have hrunz : ∀ w, (Go.sizeOf 59).run Tryz.prog w = .ok 3 w := fun w => by simp [sizeOf, typeInfo, hi0, hz1]
  have hthere : ∀ j, j < cap * 3 → (w.cell? ⟨g, j, none⟩).isSome = true := fun j hj => by obtain ⟨v, hv⟩ := hblk.there (j := j) (by omega); rw [hv]; rfl
  have hov : ∀ lb cb, (callFunc 109 #[.slice (some ⟨vb, 0, none⟩) 1 1, .slice (some ⟨g, (i + 1) * 3, none⟩) lb cb]).run Tryz.prog w = .ok (.value (.bool false)) w := fun lb cb => by
    rw [run_callFunc_extern Tryz.func109 (by kernel_rfl) (by kernel_rfl) (by kernel_rfl) (e := Extern.SlicesOverlaps.overlaps #[26, 26] #[4]) (by kernel_rfl),
      Lib.run_overlaps_apart w 26 4 59 Tryz.underlying26 3 hrunz ⟨vb, 0, none⟩ ⟨g, (i + 1) * 3, none⟩ 1 1 lb cb hvb 59 59 3 cur.size (by unfold OneAt Blk at hv; simp [World.shape?, hv]) (by unfold Blk at hblk; simp [World.shape?, hblk]) (by omega) (Blk.free hv _) (Blk.free hv _)]
    rfl
  obtain ⟨mv, hmv⟩ : ∃ mv, mv = flat (fs.drop i) := ⟨_, rfl⟩
  have hmvl : mv.length = (n - i) * 3 := by rw [hmv, flat_length, List.length_drop, hn]
  have hcp1 : ∀ ty dc sc, (Builtin.copy_ #[26, 26] ty #[.slice (some ⟨g, (i + 1) * 3, none⟩) (n - i) dc, .slice (some ⟨g, i * 3, none⟩) (n + 1 - i) sc]).run Tryz.prog w.drew = .ok (goInt ((n - i : Nat) : Int)) (w.drew.setCells g ((i + 1) * 3) mv) := fun ty dc sc =>
    run_copy_wide w.drew _ _ ty 59 g ((i + 1) * 3) (n - i) dc ⟨g, i * 3, none⟩ (n + 1 - i) sc (n - i) 3 mv Tryz.underlying26 hsize (by simp only [Nat.min_def]; split <;> omega) hmvl
      (fun j v hj => by rw [Addr.add_lit]; exact hcs _ v (by rwa [hmv, flat_drop_get fs i j (by omega)] at hj))
      (fun j hj => hthere _ (by omega)) (fun j hj => hblk.free _) (by rw [hmv]; exact flat_one_cell _)
  obtain ⟨W1, hW1⟩ : ∃ W1, W1 = w.drew.setCells g ((i + 1) * 3) mv := ⟨_, rfl⟩
  obtain ⟨cur1, hb1, hs1⟩ := Blk.setCells mv ((i + 1) * 3) (show Blk w.drew g cur 59 from hblk)
  rw [← hW1] at hb1 hcp1
  have hv1 : OneAt W1 vb f := by rw [hW1]; exact Blk.keeps (S := fun k => k = g) hv (Keeps.setCells (S := fun k => k = g) rfl _ _ (Keeps.refl _ _).drew) hvb
  have hcp2 : ∀ ty dc, (Builtin.copy_ #[26, 26] ty #[.slice (some ⟨g, i * 3, none⟩) (n + 1 - i) dc, .slice (some ⟨vb, 0, none⟩) 1 1]).run Tryz.prog W1 = .ok (goInt 1) (W1.setCells g (i * 3) (flat [f])) := fun ty dc =>
    run_copy_wide W1 _ _ ty 59 g (i * 3) (n + 1 - i) dc ⟨vb, 0, none⟩ 1 1 1 3 (flat [f]) Tryz.underlying26 hsize (by simp only [Nat.min_def]; split <;> omega) rfl
      (fun j v hj => by rw [Addr.add_lit, Nat.zero_add]; exact hv1.cells j v hj)
      (fun j hj => by obtain ⟨v, hv⟩ := hb1.there (j := i * 3 + j) (by rw [hs1, hsz]; simp [flat] at hj; omega); rw [hv]; rfl) (fun j hj => hb1.free _) (flat_one_cell _)
  obtain ⟨cur2, hb2, hs2⟩ := Blk.setCells (flat [f]) (i * 3) hb1
  have HK : Hid (Keeps (fun k => k = g) w (W1.setCells g (i * 3) (flat [f]))) := by
    show Keeps _ _ _
    rw [hW1]
    exact Keeps.setCells (S := fun k => k = g) rfl _ _ (Keeps.setCells (S := fun k => k = g) rfl _ _ (Keeps.refl _ _).drew)
  have HO : Hid ((W1.setCells g (i * 3) (flat [f])).ownsRow B 59 3 (.slice (some ⟨g, 0, none⟩) (n + 1) cap) (n + 1) (flat (insL fs i f))) := by
    refine row_of_cells hB hb2 hroom hcm (by rw [hs2, hs1, hsz]) (by rw [flat_length, insL_length _ _ _ (by omega), hn]) (ins_cells hn (by omega) ?_ ?_ ?_)
    · intro j u hj hu
      rw [World.cell?_setCells_out g (flat [f]) (i * 3) W1 _ (fun _ _ => Or.inl hj), hW1, World.cell?_setCells_out g mv ((i + 1) * 3) _ _ (fun _ _ => Or.inl (by show j < _; omega))]
      exact hcs j u hu
    · intro j u hu
      have hj := (List.getElem?_eq_some_iff.1 hu).1
      rw [World.cell?_setCells_in g (flat [f]) (i * 3) W1 (fun k hk => by obtain ⟨v, hv⟩ := hb1.there (j := i * 3 + k) (by rw [hs1, hsz]; simp [flat] at hk; omega); rw [hv]; rfl) j hj, ← hu, List.getElem?_eq_getElem]
    · intro j u hu
      rw [← hmv] at hu
      have hj := (List.getElem?_eq_some_iff.1 hu).1
      rw [World.cell?_setCells_out g (flat [f]) (i * 3) W1 _ (fun _ _ => Or.inr (by simp [flat]; omega)), hW1,
        World.cell?_setCells_in g mv ((i + 1) * 3) w.drew (fun k hk => hthere _ (by omega)) j hj, ← hu, List.getElem?_eq_getElem]
  have hz2 : ¬ ((i : Int) = (n : Int)) := by omega
  have hz3 : ¬ ((cap : Int) < (n : Int) + 1) := by omega
  have hw1 : IntKind.i64.wrap ((i : Int) + 1) = (i : Int) + 1 := by rw [IntKind.wrap_i64]; omega
  have hbd : (0 : Int) ≤ (i : Int) + 1 := by omega
  have hin : i ≤ n := by omega
  have htn : ((i : Int) + 1).toNat = i + 1 := by omega
  have hbe : ¬ (cap = i + 1) := by omega
  have hb3 : (i : Int) + 1 ≤ (n : Int) + 1 := by omega
  have hb4 : ¬ (cap = i) := by omega
  have hb5 : (i : Int) ≤ (n : Int) + 1 := by omega
  have hb6 : ((n : Int) + 1).toNat = n + 1 := by omega
  have hb7 : (n : Int) + 1 ≤ (cap : Int) := by omega
  have hcm2 : (cap : Int) ≤ 9223372036854775807 := by unfold maxLen at hcm; omega
  clear hown hblk hb1 hcs hthere hv hv1 hsz hs1 hs2 hmv hmvl hW1 hz0 hrunz hsize hcm
  go_enter Tryz.func97, Tryz.ntmps97
  go_wp2_with (simp only [hov])
  go_region_law (refine step_copy_runI rfl _ _ 26 26 rfl _ _ (by simp [Act.eval, Act.put]) (by simp [Act.eval, Act.put]) (hcp1 _ _ _) ?_)
  go_wp2_with (at_builtin; refine wpList_copy_runI _ rfl _ _ 26 26 rfl _ _ rfl rfl (hcp2 _ _) ?_)
  go_ret
  exact ⟨rfl, HO.out, HK.out⟩
end Go.Proofs.YtflfopienjjlbaaGreatDoor

namespace Go.Proofs.YtflfopienjjlbaaGreatDoor
open Go.RowKit

theorem Asc.tail {f : FileD} {r : List FileD} (h : Asc (f :: r)) : Asc r := fun i j hi hj => by
  have := h (i + 1) (j + 1) (by omega) (by simp; omega)
  simpa using this

theorem Asc.head {f : FileD} {r : List FileD} (h : Asc (f :: r)) (j : Nat) (hj : j < r.length) : Op.bytesLess f.name.toList r[j].name.toList = true := by
  have := h 0 (j + 1) (by omega) (by simp; omega)
  simpa using this

theorem posOf_is : ∀ {fs : List FileD} (t : ByteArray), Asc fs → PosIs fs t (posOf t fs)
  | [], t, _ => ⟨Nat.le_refl _, fun j h => absurd h (by simp), fun j h => absurd h (by simp)⟩
  | f :: r, t, ha => by
    have ih := posOf_is t ha.tail
    unfold posOf
    by_cases hl : Op.bytesLess f.name.toList t.toList = true
    · rw [if_pos hl]
      refine ⟨by simp; exact ih.1, fun j hj hlt => ?_, fun j hj hge => ?_⟩
      · cases j with
        | zero => exact hl
        | succ j => simpa using ih.2.1 j (by simpa using hj) (by omega)
      · cases j with
        | zero => omega
        | succ j => simpa using ih.2.2 j (by simpa using hj) (by omega)
    · rw [if_neg hl]
      refine ⟨Nat.zero_le _, fun j _ h => absurd h (by omega), fun j hj _ => ?_⟩
      cases j with
      | zero => simpa using hl
      | succ j =>
        have hj' : j < r.length := by simpa using hj
        show Op.bytesLess r[j].name.toList t.toList = false
        rw [Bool.eq_false_iff]
        intro h
        exact hl (less_trans _ _ _ (ha.head j hj') h)

theorem findFile_is (a : Option Addr) (cap : Nat) (fs : List FileD) (t : ByteArray) (w : World) (hf : FilesIn w a fs) (hasc : Asc fs) (hlen : fs.length ≤ 1048576) :
    Calls Tryz.prog 79 #[.slice a fs.length cap, .string t] w fun e w' => e = .returned (.tuple #[.int .i64 (posOf t fs), .bool (hasB fs t (posOf t fs))]) ∧ Below w.heap.size w w' := by
  refine (findFile_any a cap fs t w hf hasc hlen).mono ?_
  rintro e w' ⟨i, hp, rfl, hb⟩
  obtain rfl := hp.uniq (posOf_is t hasc)
  exact ⟨rfl, hb⟩

theorem hasB_lt {fs : List FileD} {t : ByteArray} {i : Nat} (h : hasB fs t i = true) : ∃ hi : i < fs.length, fs[i].name = t := by
  unfold hasB at h
  split at h
  · exact absurd h (by simp)
  · rename_i f hf
    obtain ⟨hlt, rfl⟩ := List.getElem?_eq_some_iff.1 hf
    exact ⟨hlt, toList_inj (by simpa using h)⟩

/-- The files but those called t. -/
def withoutL (fs : List FileD) (t : ByteArray) : List FileD := fs.filter fun f => !(f.name.toList == t.toList)

/-- f among files that ascend, none of its name. -/
def placeL : List FileD → FileD → List FileD
  | [], f => [f]
  | g :: r, f => if Op.bytesLess f.name.toList g.name.toList = true then f :: g :: r else g :: placeL r f

theorem without_none {fs : List FileD} {t : ByteArray} (h : ∀ j (hj : j < fs.length), fs[j].name ≠ t) : withoutL fs t = fs := by
  unfold withoutL
  rw [List.filter_eq_self]
  intro f hf
  obtain ⟨j, hj, rfl⟩ := List.getElem_of_mem hf
  simp only [Bool.not_eq_true', beq_eq_false_iff_ne, ne_eq]
  exact fun e => h j hj (toList_inj e)

theorem without_erase : ∀ {fs : List FileD} {i : Nat} (_ : Asc fs) (hi : i < fs.length), withoutL fs fs[i].name = fs.eraseIdx i
  | f :: r, 0, ha, _ => by
    have e : withoutL (f :: r) f.name = withoutL r f.name := by simp [withoutL]
    show withoutL (f :: r) f.name = r
    rw [e]
    exact without_none fun j hj e => by
      have := ha.head j hj
      rw [e, less_irrefl] at this
      exact absurd this (by simp)
  | f :: r, i + 1, ha, hi => by
    have hi' : i < r.length := by simpa using hi
    have ih := without_erase ha.tail hi'
    have hne : (f.name.toList == (r[i]).name.toList) = false := by
      rw [beq_eq_false_iff_ne]
      intro e
      have := ha.head i hi'
      rw [e, less_irrefl] at this
      exact absurd this (by simp)
    show withoutL (f :: r) r[i].name = f :: r.eraseIdx i
    rw [← ih]
    simp [withoutL, hne]

theorem Asc.erase {fs : List FileD} (h : Asc fs) (i : Nat) : Asc (fs.eraseIdx i) := by
  intro a b hab hb
  have hlb : b < fs.length := by
    rw [List.length_eraseIdx] at hb; split at hb <;> omega
  rw [List.getElem_eraseIdx, List.getElem_eraseIdx]
  rw [List.length_eraseIdx] at hb
  split <;> split
  · exact h a b hab (by omega)
  · exact h a (b + 1) (by omega) (by split at hb <;> omega)
  · omega
  · exact h (a + 1) (b + 1) (by omega) (by split at hb <;> omega)

theorem hasB_none {fs : List FileD} {t : ByteArray} (ha : Asc fs) (hb : hasB fs t (posOf t fs) = false) : ∀ j (hj : j < fs.length), fs[j].name ≠ t := by
  intro j hj e
  have hp := posOf_is t ha
  rcases Nat.lt_trichotomy j (posOf t fs) with h | h | h
  · have := hp.2.1 j hj h
    rw [e, less_irrefl] at this; exact absurd this (by simp)
  · have : hasB fs t j = true := by simp [hasB, List.getElem?_eq_getElem hj, e]
    rw [← h, this] at hb; exact absurd hb (by simp)
  · have h1 := hp.2.2 (posOf t fs) (by omega) (Nat.le_refl _)
    have h2 := ha (posOf t fs) j h hj
    rw [e] at h2
    rw [h2] at h1; exact absurd h1 (by simp)

theorem place_ins : ∀ {fs : List FileD} (f : FileD), Asc fs → (∀ j (hj : j < fs.length), fs[j].name ≠ f.name) → placeL fs f = insL fs (posOf f.name fs) f
  | [], f, _, _ => rfl
  | g :: r, f, ha, hn => by
    have ih := place_ins f ha.tail (fun j hj => by have := hn (j + 1) (by simp; omega); simpa using this)
    unfold placeL posOf
    by_cases hl : Op.bytesLess g.name.toList f.name.toList = true
    · rw [if_neg (by rw [less_asymm hl]; simp), if_pos hl, ih]
      simp [insL]
    · have hne : g.name.toList ≠ f.name.toList := fun e => hn 0 (by simp) (toList_inj e)
      have hl2 := less_total _ _ (by simpa using hl) hne
      rw [if_pos hl2, if_neg hl]
      rfl

theorem ins_erase {fs : List FileD} {i : Nat} (hi : i < fs.length) (f : FileD) : insL (fs.eraseIdx i) i f = fs.set i f := by
  rw [insL, List.eraseIdx_eq_take_drop_succ, List.set_eq_take_append_cons_drop, if_pos hi]
  have h1 : (fs.take i).length = i := by rw [List.length_take]; omega
  rw [List.take_append_of_le_length (by omega), List.take_of_length_le (by omega), List.drop_append_of_le_length (by omega), List.drop_eq_nil_of_le (by omega), List.nil_append]

theorem pos_erase {fs : List FileD} {i : Nat} (ha : Asc fs) (hi : i < fs.length) : posOf fs[i].name (fs.eraseIdx i) = i := by
  refine (posOf_is _ (ha.erase i)).uniq ⟨by rw [List.length_eraseIdx, if_pos hi]; omega, fun j hj hlt => ?_, fun j hj hge => ?_⟩
  · rw [List.getElem_eraseIdx, dif_pos hlt]; exact ha j i hlt hi
  · rw [List.getElem_eraseIdx, dif_neg (by omega)]
    rw [List.length_eraseIdx, if_pos hi] at hj
    exact less_asymm (ha i (j + 1) (by omega) (by omega))

/-- The files with f, instead of any of its name. -/
def withL (fs : List FileD) (f : FileD) : List FileD := placeL (withoutL fs f.name) f

theorem with_new {fs : List FileD} {f : FileD} (ha : Asc fs) (hb : hasB fs f.name (posOf f.name fs) = false) : withL fs f = insL fs (posOf f.name fs) f := by
  have hn := hasB_none ha hb
  unfold withL
  rw [without_none hn]
  exact place_ins f ha hn

theorem with_old {fs : List FileD} {f : FileD} {i : Nat} (ha : Asc fs) (hi : i < fs.length) (he : fs[i].name = f.name) : withL fs f = fs.set i f := by
  unfold withL
  rw [← he, without_erase ha hi]
  have hn : ∀ j (hj : j < (fs.eraseIdx i).length), (fs.eraseIdx i)[j].name ≠ f.name := fun j hj e => by
    rw [List.getElem_eraseIdx] at e
    rw [← he] at e
    rw [List.length_eraseIdx, if_pos hi] at hj
    split at e
    · have := ha j i (by omega) hi
      rw [e, less_irrefl] at this; exact absurd this (by simp)
    · have := ha i (j + 1) (by omega) (by omega)
      rw [e, less_irrefl] at this; exact absurd this (by simp)
  rw [place_ins f (ha.erase i) hn, ← he, pos_erase ha hi, ins_erase hi]
end Go.Proofs.YtflfopienjjlbaaGreatDoor

namespace Go.Proofs.YtflfopienjjlbaaGreatDoor
open Go.RowKit

theorem pos_at {fs : List FileD} {i : Nat} (ha : Asc fs) (hi : i < fs.length) : PosIs fs fs[i].name i := by
  refine ⟨Nat.le_of_lt hi, fun j hj hlt => ha j i hlt hi, fun j hj hge => ?_⟩
  rcases Nat.lt_or_ge i j with h | h
  · have h1 := ha i j h hj
    exact less_asymm h1
  · obtain rfl : i = j := by omega
    exact less_irrefl _

set_option maxRecDepth 100000 in
set_option maxHeartbeats 1000000 in
theorem segAt_any (P D : Nat) (a : Option Addr) (cap i : Nat) (fs : List FileD) (n : Int) (w : World) (hP : w.cell? ⟨P, 0, none⟩ = some (.pointer (some ⟨D, 0, none⟩))) (hPl : P < w.heap.size) (hD : w.cell? ⟨D, 4, none⟩ = some (.slice a fs.length cap)) (hDl : D < w.heap.size) (hf : FilesIn w a fs)
    (hasc : Asc fs) (hlen : fs.length ≤ 1048576) (htab : PowTab w) (hi : i < fs.length) (hn : fs[i].name = segS n) :
    Calls Tryz.prog 92 #[.pointer (some ⟨P, 0, none⟩), .int .i64 n] w fun e w' => ∃ b o, a = some ⟨b, o, none⟩ ∧ e = .returned (.pointer (some ⟨b, o + i * 3, none⟩)) ∧ Below w.heap.size w w' := by
  have HK : Hid (∀ w', Below w.heap.size w w' → w'.cell? ⟨P, 0, none⟩ = some (.pointer (some ⟨D, 0, none⟩)) ∧ w'.cell? ⟨D, 4, none⟩ = some (.slice a fs.length cap)) := fun w' h => ⟨(h.cell hPl).trans hP, (h.cell hDl).trans hD⟩
  have HC : Hid (∀ W, Below w.heap.size w W → Calls Tryz.prog 79 #[.slice a fs.length cap, .string (segS n)] W fun e w' => e = .returned (.tuple #[.int .i64 i, .bool (hasB fs (segS n) i)]) ∧ Below W.heap.size W w') := fun W hW => by
    refine (findFile_any a cap fs (segS n) W (hf.later hW) hasc hlen).mono ?_
    rintro e w' ⟨j, hp, rfl, hb⟩
    rw [← hn] at hp ⊢
    obtain rfl := hp.uniq (pos_at hasc hi)
    exact ⟨rfl, hb⟩
  have HT : Hid (PowTab w) := htab
  obtain ⟨b, o, rfl, hb, _⟩ := hf.at hi
  clear hf hasc htab hn
  generalize hasB fs (segS n) i = hh at *
  go_enter Tryz.func92, Tryz.ntmps92
  obtain ⟨c0, c1⟩ := HK.out w (Below.refl _ _)
  go_wp2_with fail
  go_region_held3 (fun w' => w'.cell? ⟨P, 0, none⟩ = some (.pointer (some ⟨D, 0, none⟩)) ∧ w'.cell? ⟨D, 4, none⟩ = some (.slice (some ⟨b, o, none⟩) fs.length cap))
    (exact HK.out _ (by repeat (first | with_reducible exact Below.refl _ _ | with_reducible exact HB1.out | with_reducible exact HB2.out | with_reducible refine Below.drew ?_ | with_reducible refine bto ?_ (bnew _ _))))
    (first
    | (go_at_call 22; refine (implSeg_any n _ (HT.out.later (by repeat (first | with_reducible exact Below.refl _ _ | with_reducible refine Below.drew ?_ | with_reducible refine bto ?_ (bnew _ _))))).mono ?_; rintro e w1 ⟨rfl, hb1⟩; have HB1 : Hid (Below w.heap.size w w1) := bto (by repeat (first | with_reducible exact Below.refl _ _ | with_reducible refine Below.drew ?_ | with_reducible refine bto ?_ (bnew _ _))) hb1; clear hb1)
    | (go_at_call 79; refine (HC.out _ (by repeat (first | with_reducible exact HB1.out | with_reducible refine Below.drew ?_ | with_reducible refine bto ?_ (bnew _ _)))).mono ?_; rintro e w2 ⟨rfl, hb2⟩; have HB2 : Hid (Below w.heap.size w w2) := bto (by repeat (first | with_reducible exact HB1.out | with_reducible refine Below.drew ?_ | with_reducible refine bto ?_ (bnew _ _))) hb2; clear hb2))
  obtain ⟨d0, d1⟩ := HK.out w2 HB2.out
  clear c0 c1 hP hD
  go_wp2
  go_ret
  exact ⟨b, o, rfl, by first | rfl | (simp), HB2.out⟩
end Go.Proofs.YtflfopienjjlbaaGreatDoor

namespace Go.Proofs.YtflfopienjjlbaaGreatDoor
open Go.RowKit

/-- One bit of the register. -/
def crcBit (reg x : Nat) : Nat := if (reg + x) % 2 = 1 then (reg / 2) ^^^ 2197175160 else reg / 2
/-- The first k bits of a byte. -/
def crcBits (reg b : Nat) : Nat → Nat
  | 0 => reg
  | k + 1 => crcBit (crcBits reg b k) (b / 2 ^ k)
def crcByte (reg : Nat) (c : UInt8) : Nat := crcBits reg c.toNat 8
def crcL (l : List UInt8) : Nat := l.foldl crcByte 4294967295
def crcV (s : ByteArray) : Nat := 4294967295 - crcL s.data.toList

theorem crcBit_lt {reg x : Nat} (h : reg < 4294967296) : crcBit reg x < 4294967296 := by
  unfold crcBit
  split
  · exact Nat.xor_lt_two_pow (n := 32) (by omega) (by omega)
  · omega
theorem crcBits_lt {reg b : Nat} (h : reg < 4294967296) : ∀ k, crcBits reg b k < 4294967296
  | 0 => h
  | k + 1 => crcBit_lt (crcBits_lt h k)
theorem crcL_lt (l : List UInt8) : crcL l < 4294967296 := by
  have hg : ∀ (l : List UInt8) (r : Nat), r < 4294967296 → l.foldl crcByte r < 4294967296 := fun l => by
    induction l with
    | nil => exact fun r h => h
    | cons c l ih => exact fun r h => ih _ (crcBits_lt h 8)
  exact hg l _ (by omega)
theorem crcL_snoc (l : List UInt8) (c : UInt8) : crcL (l ++ [c]) = crcByte (crcL l) c := by simp [crcL]
theorem crcV_lt (s : ByteArray) : crcV s < 4294967296 := by unfold crcV; omega

theorem xor_i64 (a b : Nat) (ha : a < 4611686018427387904) (hb : b < 4611686018427387904) : bits .xor .i64 (a : Int) (b : Int) = ((a ^^^ b : Nat) : Int) := by
  have hx : a ^^^ b < 2 ^ 62 := Nat.xor_lt_two_pow (by omega) (by omega)
  show IntKind.i64.wrap ((BitVec.ofInt 64 (a : Int) ^^^ BitVec.ofInt 64 (b : Int)).toNat : Int) = _
  rw [BitVec.toNat_xor, BitVec.ofInt_natCast, BitVec.ofInt_natCast, BitVec.toNat_ofNat, BitVec.toNat_ofNat, Nat.mod_eq_of_lt (by omega), Nat.mod_eq_of_lt (by omega)]
  simp only [IntKind.wrap, IntKind.bits, IntKind.signed]
  simp
  omega
end Go.Proofs.YtflfopienjjlbaaGreatDoor

namespace Go.Proofs.YtflfopienjjlbaaGreatDoor
open Go.RowKit

/-- One shift of the table's. -/
def crcSh (x : Nat) : Nat := if x % 2 = 1 then (x / 2) ^^^ 2197175160 else x / 2
def crcShs (x : Nat) : Nat → Nat
  | 0 => x
  | k + 1 => crcSh (crcShs x k)
/-- What eight shifts make of a byte. -/
def crcT (i : Nat) : Nat := crcShs i 8

theorem crcSh_lt {x : Nat} (h : x < 4294967296) : crcSh x < 4294967296 := by
  unfold crcSh
  split
  · exact Nat.xor_lt_two_pow (n := 32) (by omega) (by omega)
  · omega
theorem crcShs_lt {x : Nat} (h : x < 4294967296) : ∀ k, crcShs x k < 4294967296
  | 0 => h
  | k + 1 => crcSh_lt (crcShs_lt h k)
theorem crcT_lt {i : Nat} (h : i < 256) : crcT i < 4294967296 := crcShs_lt (by omega) 8

theorem xor_odd (a b : Nat) : (a ^^^ b) % 2 = (a + b) % 2 := by
  have := Nat.xor_mod_two_eq_one (a := a) (b := b)
  omega
theorem crcSh_bit (r x : Nat) : crcSh (r ^^^ x) = crcBit r x ^^^ (x / 2) := by
  unfold crcSh crcBit
  rw [xor_odd, Nat.xor_div_two]
  split
  · rw [Nat.xor_assoc, Nat.xor_comm (x / 2), ← Nat.xor_assoc]
  · rfl
theorem crcShs_bits (r b : Nat) : ∀ k, crcShs (r ^^^ b) k = crcBits r b k ^^^ (b / 2 ^ k)
  | 0 => by simp [crcShs, crcBits]
  | k + 1 => by
    show crcSh (crcShs (r ^^^ b) k) = crcBit (crcBits r b k) (b / 2 ^ k) ^^^ (b / 2 ^ (k + 1))
    rw [crcShs_bits r b k, crcSh_bit, Nat.div_div_eq_div_mul, Nat.pow_succ]
theorem crcSh_even (x z : Nat) : crcSh (x ^^^ (2 * z)) = crcSh x ^^^ z := by
  unfold crcSh
  rw [xor_odd, Nat.xor_div_two, show (x + 2 * z) % 2 = x % 2 by omega, show 2 * z / 2 = z by omega]
  split
  · rw [Nat.xor_assoc, Nat.xor_comm z, ← Nat.xor_assoc]
  · rfl
theorem crcShs_even (x z : Nat) : ∀ k, crcShs (x ^^^ (2 ^ k * z)) k = crcShs x k ^^^ z
  | 0 => by simp [crcShs]
  | k + 1 => by
    show crcSh (crcShs (x ^^^ (2 ^ (k + 1) * z)) k) = crcSh (crcShs x k) ^^^ z
    rw [Nat.pow_succ, Nat.mul_assoc, crcShs_even x (2 * z) k, crcSh_even]
theorem crc_parts (r : Nat) : r = (r % 256) ^^^ (256 * (r / 256)) := by
  have h : 256 * (r / 256) + r % 256 = (2 ^ 8 * (r / 256)) ||| (r % 256) := Nat.two_pow_add_eq_or_of_lt (i := 8) (b := r % 256) (by omega) (r / 256)
  have h2 : (r % 256) ^^^ (256 * (r / 256)) = (2 ^ 8 * (r / 256)) ||| (r % 256) := by
    apply Nat.eq_of_testBit_eq
    intro i
    rw [Nat.testBit_xor, Nat.testBit_or, show 256 * (r / 256) = 2 ^ 8 * (r / 256) from rfl, Nat.testBit_two_pow_mul, show r % 256 = r % 2 ^ 8 from rfl, Nat.testBit_mod_two_pow]
    by_cases hi : i < 8
    · simp [hi, Nat.not_le.2 hi]
    · simp [hi, Nat.not_lt.1 hi]
  omega
theorem crc_table (r b : Nat) (hb : b < 256) : crcBits r b 8 = (r / 256) ^^^ crcT ((r % 256) ^^^ b) := by
  have h1 := crcShs_bits r b 8
  rw [show b / 2 ^ 8 = 0 by omega, Nat.xor_zero] at h1
  rw [← h1]
  have h2 := crcShs_even ((r % 256) ^^^ b) (r / 256) 8
  rw [show ((r % 256) ^^^ b) ^^^ (2 ^ 8 * (r / 256)) = r ^^^ b by
    rw [Nat.xor_assoc, Nat.xor_comm b, ← Nat.xor_assoc, show (2 ^ 8 * (r / 256)) = 256 * (r / 256) from rfl, ← crc_parts r]] at h2
  rw [h2, Nat.xor_comm]; rfl
end Go.Proofs.YtflfopienjjlbaaGreatDoor

namespace Go.Proofs.YtflfopienjjlbaaGreatDoor
open Go.RowKit

theorem zero_tab : ∃ Z : Array Value, Z = Array.replicate 256 (.int .u32 0) ∧ ∀ w, (zeroValue 133).run Tryz.prog w = .ok (.agg Z) w := ⟨_, rfl, fun _ => by kernel_rfl⟩
theorem store_same (P : Program) (w : World) (Z : Array Value) (t : TypeId) (h1 : ∀ v ∈ Z.toList, v.oneCell' = true) :
    (storeCells ⟨w.heap.size, 0, none⟩ Z.toList).run P (w.alloc (.cells Z t)) = .ok () (w.alloc (.cells Z t)) := by
  have hg : (w.alloc (.cells Z t)).heap[w.heap.size]? = some (.cells Z t (0, 0)) := heap_alloc_new _ _
  have h := run_storeCells_from (P := P) w.heap.size t Z.toList 0 Z _ hg (by simp) h1
  rw [h]
  simp only [List.take_zero, List.nil_append, Array.toArray_toList]
  rw [setRow_self _ _ Z t (0, 0) hg]
theorem and_one_u32 (a : Nat) (ha : a < 4294967296) : bits .and .u32 (a : Int) 1 = ((a % 2 : Nat) : Int) := by
  show IntKind.u32.wrap ((BitVec.ofInt 32 (a : Int) &&& BitVec.ofInt 32 ((1 : Nat) : Int)).toNat : Int) = _
  rw [BitVec.toNat_and, BitVec.ofInt_natCast, BitVec.ofInt_natCast, BitVec.toNat_ofNat, BitVec.toNat_ofNat, Nat.mod_eq_of_lt (by omega), Nat.mod_eq_of_lt (by omega), Nat.and_one_is_mod]
  simp only [IntKind.wrap, IntKind.bits, IntKind.signed]
  simp
  omega
theorem xor_u32 (a b : Nat) (ha : a < 4294967296) (hb : b < 4294967296) : bits .xor .u32 (a : Int) (b : Int) = ((a ^^^ b : Nat) : Int) := by
  have hx : a ^^^ b < 2 ^ 32 := Nat.xor_lt_two_pow (by omega) (by omega)
  show IntKind.u32.wrap ((BitVec.ofInt 32 (a : Int) ^^^ BitVec.ofInt 32 (b : Int)).toNat : Int) = _
  rw [BitVec.toNat_xor, BitVec.ofInt_natCast, BitVec.ofInt_natCast, BitVec.toNat_ofNat, BitVec.toNat_ofNat, Nat.mod_eq_of_lt (by omega), Nat.mod_eq_of_lt (by omega)]
  simp only [IntKind.wrap, IntKind.bits, IntKind.signed]
  simp
  omega

set_option maxRecDepth 100000 in
set_option maxHeartbeats 1000000 in
theorem makeTab_any (w : World) :
    Calls Tryz.prog 70 #[] w fun e w' => ∃ b cur, e = .returned (.pointer (some ⟨b, 0, none⟩)) ∧ w.heap.size ≤ b ∧ Blk w' b cur 133 ∧ (∀ i, i < 256 → cur[i]? = some (.int .u32 (crcT i : Nat))) ∧ Below w.heap.size w w' := by
  obtain ⟨Z, hZ, hz⟩ := zero_tab
  have HZ : Hid (Z = Array.replicate 256 (.int .u32 0)) := hZ
  have hzs : Z.size = 256 := by rw [hZ]; simp
  have hst := store_same Tryz.prog w Z 133 (by rw [hZ]; simp [Value.oneCell'])
  have hB : Blk (w.alloc (.cells Z 133)) w.heap.size Z 133 := heap_alloc_new _ _
  have HB : Hid (Blk (w.alloc (.cells Z 133)) w.heap.size Z 133) := hB
  clear hZ hB
  go_enter Tryz.func70, Tryz.ntmps70
  go_wp2
  go_loopw [2, 3, 5] (fun _ _ c wr => ∃ (k : Nat) (cur : Array Value), k ≤ 256 ∧ c = .int .i64 k ∧ Hid (Blk wr w.heap.size cur 133) ∧ cur.size = 256 ∧ Hid (∀ i, i < k → cur[i]? = some (.int .u32 (crcT i : Nat))) ∧ Hid (Below w.heap.size w wr)) (fun _ _ c _ => 256 - (intOf c).toNat)
  case atStart => exact ⟨0, Z, by omega, rfl, HB, hzs, fun i hi => absurd hi (by omega), bnew _ _⟩
  case round =>
    obtain ⟨k, cur, hk, rfl, hblk, hcs, hcur, hbel⟩ := hrel
    by_cases hlt : k < 256
    · go_wp2
      go_loop [3, 10] (fun x c => ∃ (j X : Nat), j ≤ 8 ∧ c = .int .i64 j ∧ x = .int .u32 X ∧ X < 4294967296 ∧ Hid (X = crcShs k j)) (fun _ c => 8 - (intOf c).toNat)
      case atStart => exact ⟨0, k, by omega, rfl, by go_num, by omega, rfl⟩
      case round =>
        obtain ⟨j, X, hj, rfl, rfl, hX, hx⟩ := hrel
        have ha := and_one_u32 X hX
        have hxr := xor_u32 (X / 2) 2197175160 (by omega) (by omega)
        by_cases h8 : j < 8
        · by_cases hodd : X % 2 = 1
          · rw [hodd] at ha
            go_wp2
            refine ⟨⟨j + 1, (X / 2) ^^^ 2197175160, by omega, by go_num, ?_, Nat.xor_lt_two_pow (n := 32) (by omega) (by omega), ?_⟩, by simp [intOf]; omega⟩
            · rw [← hxr]; congr 2
            · show _ = _
              rw [crcShs, ← hx.out, crcSh, if_pos hodd]
          · have h0 : X % 2 = 0 := by omega
            rw [h0] at ha
            go_wp2
            refine ⟨⟨j + 1, X / 2, by omega, by go_num, ?_, by omega, ?_⟩, by simp [intOf]; omega⟩
            · go_num
            · show _ = _
              rw [crcShs, ← hx.out, crcSh, if_neg hodd]
        · have e : j = 8 := by omega
          subst e
          have hc : wr.cell? ⟨w.heap.size, k, none⟩ = some (cur[k]'(by omega)) := by rw [hblk.out.cell]; exact Array.getElem?_eq_getElem _
          have hf := hblk.out.free k
          go_wp2
          refine ⟨⟨k + 1, cur.setIfInBounds k (.int .u32 X), by omega, by go_num, hblk.out.set k _, by simp [hcs], ?_, ?_⟩, by simp [intOf]; omega⟩
          · intro i hi
            rw [Array.getElem?_setIfInBounds]
            split
            · rename_i e
              subst e
              rw [if_pos (by omega), hx.out]
              rfl
            · exact hcur.out i (by omega)
          · exact hbel.out.setCell (p := ⟨w.heap.size, k, none⟩) (Nat.le_refl _) _
    · have e : k = 256 := by omega
      subst e
      go_wp2
      go_ret
      exact ⟨w.heap.size, cur, rfl, Nat.le_refl _, hblk.out, hcur.out, hbel.out⟩
end Go.Proofs.YtflfopienjjlbaaGreatDoor

