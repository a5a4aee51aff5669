import Derived.Test.YteohobkigjmjlaaDoorProg
import Derived.Test.YteohobkigjmjlaaDoorJ02CurT
import Derived.Test.YteohobkigjmjlaaDoorJ01U8L
import Derived.Deep.OwnRows
import Derived.Deep.AppendLies
import Derived.WalkKit
import Derived.Below
import Derived.Laws.RangeAny
import Derived.Lib.RuneCountTail
namespace Go.Proofs.YteohobkigjmjlaaDoor
open Go.RowKit

/-- Block g holds m texts of at most k bytes each. -/
def RowT (w : World) (g m k : Nat) : Prop := ∃ (cur : Array Value) (t : TypeId), Blk w g cur t ∧ ∀ j, j < m → ∃ s : ByteArray, cur[j]? = some (.string s) ∧ s.size ≤ k
theorem RowT.but {w w' : World} {g m k B : Nat} (h : RowT w g m k) (hb : But B w w') (hne : g ≠ B) : RowT w' g m k := by
  obtain ⟨cur, t, h1, h2⟩ := h
  exact ⟨cur, t, (hb.block g (lt_of_block h1) hne).trans h1, h2⟩
theorem RowT.later {w w' : World} {g m k : Nat} (h : RowT w g m k) (hb : Below w.heap.size w w') : RowT w' g m k := by
  obtain ⟨cur, t, h1, h2⟩ := h
  exact ⟨cur, t, h1.later hb, h2⟩
theorem RowT.at {w : World} {g m k : Nat} (h : RowT w g m k) {j : Nat} (hj : j < m) : ∃ s : ByteArray, w.cell? ⟨g, j, none⟩ = some (.string s) ∧ s.size ≤ k := by
  obtain ⟨cur, t, h1, h2⟩ := h
  obtain ⟨s, e, hs⟩ := h2 j hj
  exact ⟨s, by rw [h1.cell]; exact e, hs⟩
theorem rowT_new (w : World) (L : List ByteArray) (k : Nat) (t : TypeId) (m : Nat) (hm : m = L.length) (h : (L.all fun s => decide (s.size ≤ k)) = true) : RowT (w.alloc (.cells (L.map .string).toArray t)) w.heap.size m k := by
  subst hm
  refine ⟨_, t, heap_alloc_new _ _, fun j hj => ⟨L[j], by simp [hj], ?_⟩⟩
  have := List.all_eq_true.1 h L[j] (List.getElem_mem hj)
  simpa using this
theorem CurB.lt {w : World} {B P N : Nat} (h : CurB w B P N) : B < w.heap.size := Nat.lt_of_lt_of_le h.up.1 h.up.2
theorem But.later {B : Nat} {w w' w'' : World} (h : But B w w') (hb : Below w'.heap.size w' w'') : But B w w'' := h.trans (But.of hb)

set_option maxRecDepth 100000 in
set_option maxHeartbeats 1000000 in
theorem drawValue_any (B P N : Nat) (w : World) (h : CurB w B P N) (hN : N ≤ 1000000) :
    Calls Tryd.prog 62 #[.pointer (some ⟨B, 0, none⟩)] w fun e w' => ∃ s : ByteArray, s.size ≤ 16 ∧ e = .returned (.string s) ∧ CurB w' B P (N + 10) ∧ But B w w' := by
  have HC : Hid (CurB w B P N) := h
  have hlt := h.lt
  clear h
  go_enter Tryd.func62, Tryd.ntmps62
  go_wp2_with fail
  have HR : Hid (RowT (w.alloc (.cells ([⟨#[97]⟩, ⟨#[98]⟩, ⟨#[119, 101, 98]⟩, ⟨#[120, 32, 121]⟩, ⟨#[195, 169]⟩, ⟨#[226, 130, 172]⟩, ⟨#[240, 159, 152, 128]⟩, ⟨#[49]⟩, ⟨#[45]⟩, ⟨#[122]⟩].map Value.string).toArray 9)) w.heap.size 10 4) := rowT_new w _ 4 _ 10 rfl (by decide)
  simp only [List.map_cons, List.map_nil] at HR
  have HC1 := HC.out.later (bnew w (.cells #[.string ⟨#[97]⟩, .string ⟨#[98]⟩, .string ⟨#[119, 101, 98]⟩, .string ⟨#[120, 32, 121]⟩, .string ⟨#[195, 169]⟩, .string ⟨#[226, 130, 172]⟩, .string ⟨#[240, 159, 152, 128]⟩, .string ⟨#[49]⟩, .string ⟨#[45]⟩, .string ⟨#[122]⟩] 9))
  refine (curPick_any B P N 4 _ HC1 (by omega) (by omega) (by omega)).mono ?_
  rintro e w1 ⟨n, hn, rfl, hc1, hb1⟩
  have H1 : Hid (CurB w1 B P (N + 1) ∧ But B w w1 ∧ RowT w1 w.heap.size 10 4) := ⟨hc1, (But.of (bnew _ _)).trans hb1, HR.out.but hb1 (by omega)⟩
  clear hc1 hb1 HC1 HR HC
  generalize hg : w.heap.size = g at *
  have HG : Hid (g ≠ B) := by show g ≠ B; omega
  clear hg hlt
  go_wp2
  go_loopw [4, 6] (fun s i wr => ∃ (k : Nat) (t : ByteArray), k ≤ n ∧ i = .int .i64 (k : Nat) ∧ s = .string t ∧ t.size ≤ 4 * k ∧ Hid (CurB wr B P (N + 1 + k) ∧ But B w wr ∧ RowT wr g 10 4)) (fun _ i _ => n - (intOf i).toNat)
  case atStart => exact ⟨0, ⟨#[]⟩, by omega, rfl, rfl, by decide, H1.out⟩
  case round =>
    obtain ⟨k, t, hk, rfl, rfl, ht, HR⟩ := hrel
    by_cases hkn : k < n
    · have hkn' : (k : Int) < (n : Int) := by omega
      go_wp2_with fail
      refine (curPick_any B P (N + 1 + k) 10 _ HR.out.1 (by omega) (by omega) (by omega)).mono ?_
      rintro e w2 ⟨v, hv, rfl, hc2, hb2⟩
      have HR2 := HR.out.2.2.but hb2 HG.out
      obtain ⟨s, hcell, hs⟩ := HR2.at hv
      have H2 : Hid (CurB w2 B P (N + 1 + (k + 1)) ∧ But B w w2 ∧ RowT w2 g 10 4) := ⟨hc2, HR.out.2.1.trans hb2, HR2⟩
      clear hc2 hb2 HR2
      have hv' : (v : Int) < 10 := by omega
      go_wp2
      exact ⟨⟨k + 1, t ++ s, by omega, by go_num, rfl, by rw [ByteArray.size_append]; omega, H2.out⟩, by simp [intOf]; omega⟩
    · have hkn' : ¬ ((k : Int) < (n : Int)) := by omega
      go_wp2
      go_ret
      exact ⟨t, by omega, rfl, HR.out.1.mono (by omega), HR.out.2.1⟩
end Go.Proofs.YteohobkigjmjlaaDoor

namespace Go.Proofs.YteohobkigjmjlaaDoor
open Go.RowKit

structure LabD where
  name : ByteArray
  value : ByteArray

/-- The labels ls lie from ⟨b, o⟩ on, two cells each. -/
def LabsAt (w : World) (b o : Nat) (ls : List LabD) : Prop :=
  ∀ i (h : i < ls.length), w.cell? ⟨b, o + i * 2, none⟩ = some (.string ls[i].name) ∧ w.cell? ⟨b, o + i * 2 + 1, none⟩ = some (.string ls[i].value)
/-- A slice's address holds the labels ls (nothing is asked where there are none). -/
def LabsIn (w : World) (a : Option Addr) (ls : List LabD) : Prop := ls = [] ∨ ∃ b o, a = some ⟨b, o, none⟩ ∧ b < w.heap.size ∧ LabsAt w b o ls
theorem LabsIn.later {w w' : World} {a : Option Addr} {ls : List LabD} (h : LabsIn w a ls) (hb : Below w.heap.size w w') : LabsIn w' a ls := by
  rcases h with h | ⟨b, o, rfl, hlt, h⟩
  · exact Or.inl h
  · refine Or.inr ⟨b, o, rfl, Nat.lt_of_lt_of_le hlt hb.size, fun i hi => ?_⟩
    obtain ⟨h1, h2⟩ := h i hi
    exact ⟨by rw [← h1]; exact hb.cell hlt, by rw [← h2]; exact hb.cell hlt⟩
theorem LabsIn.at {w : World} {a : Option Addr} {ls : List LabD} (h : LabsIn w a ls) {i : Nat} (hi : i < ls.length) :
    ∃ b o, a = some ⟨b, o, none⟩ ∧ b < w.heap.size ∧ w.cell? ⟨b, o + i * 2, none⟩ = some (.string ls[i].name) ∧ w.cell? ⟨b, o + i * 2 + 1, none⟩ = some (.string ls[i].value) := by
  rcases h with rfl | ⟨b, o, rfl, hlt, h⟩
  · exact absurd hi (by simp)
  · exact ⟨b, o, rfl, hlt, h i hi⟩
theorem LabsIn.but {g : Nat} {w w' : World} {a : Option Addr} {l : List LabD} (h : LabsIn w a l) (hb : But g w w') (hg : l = [] ∨ ∃ b o, a = some ⟨b, o, none⟩ ∧ b ≠ g) : LabsIn w' a l := by
  rcases hg with hg | ⟨b, o, rfl, hne⟩
  · exact Or.inl hg
  · rcases h with h | ⟨b', o', e, hlt, h⟩
    · exact Or.inl h
    · simp only [Option.some.injEq, Addr.mk.injEq, and_true] at e
      obtain ⟨rfl, rfl⟩ := e
      have hk : ∀ j, w'.cell? ⟨b, j, none⟩ = w.cell? ⟨b, j, none⟩ := fun j => World.cell?_of_block (hb.block b hlt hne)
      exact Or.inr ⟨b, o, rfl, Nat.lt_of_lt_of_le hlt hb.size, fun i hi => by simp only [hk]; exact h i hi⟩
theorem LabsIn.take {w : World} {a : Option Addr} {ls : List LabD} (h : LabsIn w a ls) (n : Nat) : LabsIn w a (ls.take n) := by
  rcases h with h | ⟨b, o, e, hlt, h⟩
  · exact Or.inl (by rw [h]; simp)
  · refine Or.inr ⟨b, o, e, hlt, fun i hi => ?_⟩
    rw [List.getElem_take]
    exact h i (by simp at hi; omega)

/-- The labels lie in a block of their own, from B on, that may be written. -/
def LabsOwn (w : World) (B : Nat) (a : Option Addr) (ls : List LabD) : Prop :=
  ls = [] ∨ ∃ g o cur t, a = some ⟨g, o, none⟩ ∧ B ≤ g ∧ w.heap[g]? = some (.cells cur t (0, 0)) ∧ LabsAt w g o ls
theorem LabsOwn.labs {w : World} {B : Nat} {a : Option Addr} {ls : List LabD} (h : LabsOwn w B a ls) : LabsIn w a ls := by
  rcases h with h | ⟨g, o, cur, t, rfl, _, hb, h⟩
  · exact Or.inl h
  · exact Or.inr ⟨g, o, rfl, lt_of_block hb, h⟩
theorem LabsOwn.later {w w' : World} {B : Nat} {a : Option Addr} {ls : List LabD} (h : LabsOwn w B a ls) (hb : Below w.heap.size w w') : LabsOwn w' B a ls := by
  rcases h with h | ⟨g, o, cur, t, rfl, hB, hg, h⟩
  · exact Or.inl h
  · have hlt := lt_of_block hg
    have hk : ∀ j, w'.cell? ⟨g, j, none⟩ = w.cell? ⟨g, j, none⟩ := fun j => World.cell?_of_block (hb.block g hlt)
    exact Or.inr ⟨g, o, cur, t, rfl, hB, (hb.block g hlt).trans hg, fun i hi => by simp only [hk]; exact h i hi⟩
theorem LabsOwn.mono {w : World} {B B' : Nat} {a : Option Addr} {ls : List LabD} (h : LabsOwn w B a ls) (hB : B' ≤ B) : LabsOwn w B' a ls := by
  rcases h with h | ⟨g, o, cur, t, rfl, hB', hg, h⟩
  · exact Or.inl h
  · exact Or.inr ⟨g, o, cur, t, rfl, Nat.le_trans hB hB', hg, h⟩

/-- The cells of label j, from o on. -/
def RowLab (cur : Array Value) (o j : Nat) (f : LabD) : Prop := cur[o + j * 2]? = some (.string f.name) ∧ cur[o + j * 2 + 1]? = some (.string f.value)
theorem RowLab.set {cur : Array Value} {o j : Nat} {f : LabD} (h : RowLab cur o j f) {p : Nat} (hp : p < o + j * 2 ∨ o + j * 2 + 1 < p) (v : Value) : RowLab (cur.setIfInBounds p v) o j f := by
  obtain ⟨a1, a2⟩ := h
  refine ⟨?_, ?_⟩
  · rw [Array.getElem?_setIfInBounds_ne (by omega)]; exact a1
  · rw [Array.getElem?_setIfInBounds_ne (by omega)]; exact a2
theorem RowLab.made (cur : Array Value) (o j : Nat) (f : LabD) (h : o + j * 2 + 1 < cur.size) :
    RowLab ((cur.setIfInBounds (o + j * 2) (.string f.name)).setIfInBounds (o + j * 2 + 1) (.string f.value)) o j f := by
  refine ⟨?_, ?_⟩ <;> simp [Array.getElem?_setIfInBounds] <;> omega
theorem labsAt_of_rows {w : World} {g o : Nat} {cur : Array Value} {t : TypeId} {fs : List LabD} (h : Blk w g cur t) (hr : ∀ j (hj : j < fs.length), RowLab cur o j fs[j]) : LabsAt w g o fs := by
  intro j hj
  simp only [h.cell]
  exact hr j hj
theorem rows_of_labsAt {w : World} {g o : Nat} {cur : Array Value} {t : TypeId} {fs : List LabD} (h : Blk w g cur t) (hf : LabsAt w g o fs) : ∀ j (hj : j < fs.length), RowLab cur o j fs[j] := by
  intro j hj
  have := hf j hj
  simp only [h.cell] at this
  exact this
theorem labs_size {cur : Array Value} {o : Nat} {fs : List LabD} (hr : ∀ j (hj : j < fs.length), RowLab cur o j fs[j]) : fs.length = 0 ∨ o + fs.length * 2 ≤ cur.size := by
  by_cases h : fs.length = 0
  · exact Or.inl h
  · right
    have := (hr (fs.length - 1) (by omega)).2
    have := (Array.getElem?_eq_some_iff.1 this).1
    omega
theorem labs_of_row {w : World} {B : Nat} {e : TypeId} {a : Option Addr} {cap : Nat} {l : List LabD}
    (h : w.ownsRow B e 2 (.slice a l.length cap) l.length (l.flatMap fun x => [.string x.name, .string x.value])) : LabsOwn w B a l := by
  rcases h.2 with ⟨_, hl⟩ | ⟨g, cap', cur, he, hB, hg, _, _, hsz, htk⟩
  · exact Or.inl (List.length_eq_zero_iff.1 hl)
  · simp only [Value.slice.injEq] at he
    have hf : ∀ (l : List LabD) i (hi : i < l.length), (l.flatMap fun x => [Value.string x.name, .string x.value])[i * 2]? = some (.string l[i].name) ∧ (l.flatMap fun x => [Value.string x.name, .string x.value])[i * 2 + 1]? = some (.string l[i].value) := by
      intro l
      induction l with
      | nil => intro i hi; exact absurd hi (by simp)
      | cons x r ih =>
        intro i hi
        cases i with
        | zero => simp
        | succ i =>
          have := ih i (by simpa using hi)
          simp only [List.flatMap_cons, List.cons_append, List.nil_append, List.getElem_cons_succ]
          rw [show (i + 1) * 2 = i * 2 + 1 + 1 by omega, List.getElem?_cons_succ, List.getElem?_cons_succ, List.getElem?_cons_succ, List.getElem?_cons_succ]
          exact this
    refine Or.inr ⟨g, 0, cur, e, he.1, hB, hg, fun i hi => ?_⟩
    have h2 : ∀ j, j < l.length * 2 → cur[j]? = (l.flatMap fun x => [Value.string x.name, .string x.value])[j]? := fun j hj => by
      rw [← htk, List.getElem?_take_of_lt hj, Array.getElem?_toList]
    rw [cell_of_row w g _ cur _ _ hg, cell_of_row w g _ cur _ _ hg, Nat.zero_add, h2 _ (by omega), h2 _ (by omega)]
    exact hf l i hi

def labBulk : List LabD → Nat
  | [] => 0
  | f :: r => f.name.size + f.value.size + labBulk r
theorem labBulk_append (a b : List LabD) : labBulk (a ++ b) = labBulk a + labBulk b := by
  induction a with
  | nil => simp [labBulk]
  | cons f r ih => simp [labBulk, ih]; omega
theorem labBulk_take_succ (fs : List LabD) (k : Nat) (h : k < fs.length) : labBulk (fs.take (k + 1)) = labBulk (fs.take k) + (fs[k].name.size + fs[k].value.size) := by
  rw [List.take_succ_eq_append_getElem h, labBulk_append]; simp [labBulk]
theorem labBulk_take_le (fs : List LabD) (k : Nat) : labBulk (fs.take k) ≤ labBulk fs := by
  have := labBulk_append (fs.take k) (fs.drop k)
  rw [List.take_append_drop] at this; omega
def szLab (left : Int) (f : LabD) : Int := if (f.name.size + f.value.size : Int) ≤ left then left - f.name.size - f.value.size else -1
def szLabs (left : Int) (fs : List LabD) : Int := if (fs.length + labBulk fs : Int) ≤ left then left - fs.length - labBulk fs else -1
def ShortL (fs : List LabD) : Prop := ∀ i (h : i < fs.length), fs[i].name.size ≤ maxLen ∧ fs[i].value.size ≤ maxLen

def markB (k : Nat) (i : Nat) : LabD := ⟨mt (k + 2 * i), mt (k + 2 * i + 1)⟩
def markLabs (k n : Nat) : List LabD := (List.range n).map (markB k)
theorem markLabs_length (k n : Nat) : (markLabs k n).length = n := by simp [markLabs]
theorem markLabs_get (k n i : Nat) (h : i < (markLabs k n).length) : (markLabs k n)[i] = markB k i := by simp [markLabs]
end Go.Proofs.YteohobkigjmjlaaDoor

namespace Go.Proofs.YteohobkigjmjlaaDoor
open Go.RowKit

theorem info_label : (Tryd.prog.info? 40).map (fun i => (i.zero, i.size, i.bytes)) = some (some (.agg #[.string ByteArray.empty, .string ByteArray.empty]), 2, 32) := by kernel_rfl

/-- make of n labels: a new block of n * 2 cells. -/
theorem make_labels (n : Nat) (hn : n ≤ 1048576) (w : World) :
    (Instr.makeSlice 24 (.int .i64 (n : Int)) (.int .i64 (n : Int))).run Tryd.prog w = .ok (.slice (some ⟨w.heap.size, 0, none⟩) n n) (w.alloc (.cells (madeCells #[.string ByteArray.empty, .string ByteArray.empty] (n * 2)) 40)) := by
  obtain ⟨i, hi, hzz⟩ := Option.map_eq_some_iff.1 info_label
  simp only [Prod.mk.injEq] at hzz
  obtain ⟨hz, hs, hb⟩ := hzz
  have hr := run_make (P := Tryd.prog) w 24 40 i _ Tryd.underlying24 hi hz .i64 .i64 n n (by omega) (Int.le_refl _) (by rw [hb]; omega) (by omega)
  simp only [Int.toNat_natCast, hs] at hr
  exact hr

/-- The block g holds n labels' cells, the first k of them fs's. -/
def FillL (w : World) (g n : Nat) (fs : List LabD) (k : Nat) : Prop := ∃ cur : Array Value, w.heap[g]? = some (.cells cur 40 (0, 0)) ∧ cur.size = n * 2 ∧
  ∀ i (h : i < fs.length), i < k → cur[i * 2]? = some (.string fs[i].name) ∧ cur[i * 2 + 1]? = some (.string fs[i].value)
theorem FillL.later {w w' : World} {g n k : Nat} {fs : List LabD} {B : Nat} (h : FillL w g n fs k) (hb : Below B w w') (hg : g < B) : FillL w' g n fs k := by
  obtain ⟨cur, h1, h2⟩ := h
  exact ⟨cur, by rw [hb.block g hg]; exact h1, h2⟩
theorem FillL.cells {w : World} {g n k : Nat} {fs : List LabD} (h : FillL w g n fs k) {j : Nat} (hj : j < n * 2) : (∃ v, w.cell? ⟨g, j, none⟩ = some v) ∧ w.frozen? ⟨g, j, none⟩ = false := by
  obtain ⟨cur, h1, h2, _⟩ := h
  refine ⟨⟨cur[j], ?_⟩, frozen_of_row w g j cur _ h1⟩
  rw [cell_of_row w g j cur _ _ h1]
  exact Array.getElem?_eq_getElem (by omega)
theorem FillL.step {w : World} {g n k : Nat} {fs : List LabD} (h : FillL w g n fs k) (hk : k < fs.length) (hn : fs.length ≤ n) :
    FillL ((w.setCell ⟨g, k * 2, none⟩ (.string fs[k].name)).setCell ⟨g, k * 2 + 1, none⟩ (.string fs[k].value)) g n fs (k + 1) := by
  obtain ⟨cur, h1, h2, h3⟩ := h
  refine ⟨_, heap_setCell_same _ _ _ _ _ _ (heap_setCell_same _ _ _ _ _ _ h1), by simp [h2], fun i hi hlt => ?_⟩
  by_cases e : i = k
  · subst e
    refine ⟨?_, ?_⟩ <;> simp [Array.getElem?_setIfInBounds] <;> omega
  · obtain ⟨a1, a2⟩ := h3 i hi (by omega)
    refine ⟨?_, ?_⟩
    · rw [Array.getElem?_setIfInBounds_ne (by omega), Array.getElem?_setIfInBounds_ne (by omega)]; exact a1
    · rw [Array.getElem?_setIfInBounds_ne (by omega), Array.getElem?_setIfInBounds_ne (by omega)]; exact a2
theorem FillL.done {w : World} {g B : Nat} {fs : List LabD} (h : FillL w g fs.length fs fs.length) (hB : B ≤ g) : LabsOwn w B (some ⟨g, 0, none⟩) fs := by
  obtain ⟨cur, h1, h2, h3⟩ := h
  refine Or.inr ⟨g, 0, cur, _, rfl, hB, h1, fun i hi => ?_⟩
  obtain ⟨a1, a2⟩ := h3 i hi hi
  simp only [cell_of_row w g _ cur _ _ h1, Nat.zero_add]
  exact ⟨a1, a2⟩

end Go.Proofs.YteohobkigjmjlaaDoor

namespace Go.Proofs.YteohobkigjmjlaaDoor
open Go.RowKit

def flat (fs : List FileD) : List Value := fs.flatMap fun f => [.string f.name, .string f.data, .int .i64 f.synced]

theorem flat_append (a b : List FileD) : flat (a ++ b) = flat a ++ flat b := by simp [flat]
theorem flat_one (f : FileD) : flat [f] = [.string f.name, .string f.data, .int .i64 f.synced] := rfl
theorem flat_length (fs : List FileD) : (flat fs).length = fs.length * 3 := by
  induction fs with
  | nil => rfl
  | cons f r ih => simp [flat] at *; omega

theorem flat_get : ∀ (fs : List FileD) (j : Nat) (h : j < fs.length), (flat fs)[j * 3]? = some (.string fs[j].name) ∧ (flat fs)[j * 3 + 1]? = some (.string fs[j].data) ∧ (flat fs)[j * 3 + 2]? = some (.int .i64 fs[j].synced)
  | [], _, h => absurd h (by simp)
  | f :: r, 0, _ => by simp [flat]
  | f :: r, j + 1, h => by
    have ih := flat_get r j (by simpa using h)
    have e : flat (f :: r) = [.string f.name, .string f.data, .int .i64 f.synced] ++ flat r := rfl
    rw [e]
    have e1 : (j + 1) * 3 = 3 + j * 3 := by omega
    have e2 : (j + 1) * 3 + 1 = 3 + (j * 3 + 1) := by omega
    have e3 : (j + 1) * 3 + 2 = 3 + (j * 3 + 2) := by omega
    have hq : ∀ p, ([.string f.name, .string f.data, .int .i64 f.synced] ++ flat r)[3 + p]? = (flat r)[p]? := fun p => by
      rw [List.getElem?_append_right (by simp)]; simp
    rw [e3, e2, e1, hq, hq, hq]
    exact ih

theorem flat_one_cell (fs : List FileD) : ∀ u ∈ flat fs, u.oneCell' = true := by
  intro u hu
  simp only [flat, List.mem_flatMap, List.mem_cons, List.not_mem_nil, or_false] at hu
  obtain ⟨f, _, rfl | rfl | rfl⟩ := hu <;> rfl

/-- A row of files that the call owns. -/
theorem owned_of_row {w : World} {B : Nat} {e : TypeId} {v : Value} {fs : List FileD} (h : w.ownsRow B e 3 v fs.length (flat fs)) : ∃ a cap, v = .slice a fs.length cap ∧ Owned w B a fs := by
  rcases h.2 with ⟨rfl, h0⟩ | ⟨g, cap, cur, rfl, hB, hg, _, _, _, ht⟩
  · have : fs = [] := List.length_eq_zero_iff.1 h0
    subst this
    exact ⟨none, 0, rfl, Or.inl rfl⟩
  · refine ⟨_, cap, rfl, Or.inr ⟨g, 0, cur, e, rfl, hB, hg, filesAt_of_rows hg fun j hj => ?_⟩⟩
    have key : ∀ p v, (flat fs)[p]? = some v → cur[p]? = some v := fun p v hp => by
      rw [← ht] at hp
      have hlt := (List.getElem?_eq_some_iff.1 hp).1
      rw [List.length_take] at hlt
      rw [List.getElem?_take_of_lt (by omega)] at hp
      simpa using hp
    obtain ⟨a1, a2, a3⟩ := flat_get fs j hj
    refine ⟨?_, ?_, ?_⟩
    · rw [Nat.zero_add]; exact key _ _ a1
    · rw [Nat.zero_add]; exact key _ _ a2
    · rw [Nat.zero_add]; exact key _ _ a3

theorem row_later {w w' : World} {B : Nat} {e : TypeId} {size : Nat} {v : Value} {n : Nat} {xs : List Value} (h : w.ownsRow B e size v n xs) (hb : Below w.heap.size w w') : w'.ownsRow B e size v n xs := by
  obtain ⟨h1, h2⟩ := h
  refine ⟨h1, ?_⟩
  rcases h2 with h2 | ⟨g, cap, cur, hv, hB, hg, r⟩
  · exact Or.inl h2
  · exact Or.inr ⟨g, cap, cur, hv, hB, (hb.block g (lt_of_block hg)).trans hg, r⟩

theorem row_set_below {w : World} {B : Nat} {e : TypeId} {size : Nat} {v : Value} {n : Nat} {xs : List Value} (h : w.ownsRow B e size v n xs) {p : Addr} (hp : p.block < B) (u : Value) : (w.setCell p u).ownsRow B e size v n xs := by
  obtain ⟨h1, h2⟩ := h
  refine ⟨h1, ?_⟩
  rcases h2 with h2 | ⟨g, cap, cur, hv, hB, hg, r⟩
  · exact Or.inl h2
  · exact Or.inr ⟨g, cap, cur, hv, hB, (Below.heap_setCell w p u g (by omega)).trans hg, r⟩

/-- The cells of files that lie behind an address. -/
theorem cells_of_files {w : World} {b o : Nat} {fs : List FileD} (h : FilesAt w b o fs) : ∀ j u, (flat fs)[j]? = some u → w.cell? ((⟨b, o, none⟩ : Addr).add j) = some u := by
  intro j u hu
  have hlt := (List.getElem?_eq_some_iff.1 hu).1
  rw [flat_length] at hlt
  have hj : j / 3 < fs.length := by omega
  obtain ⟨a1, a2, a3⟩ := flat_get fs (j / 3) hj
  obtain ⟨c1, c2, c3⟩ := h (j / 3) hj
  have hadd : (⟨b, o, none⟩ : Addr).add j = ⟨b, o + j, none⟩ := by unfold Addr.add; split <;> simp_all
  rw [hadd]
  have hm : j % 3 = 0 ∨ j % 3 = 1 ∨ j % 3 = 2 := by omega
  rcases hm with hm | hm | hm
  · have e : j = j / 3 * 3 := by omega
    rw [e] at hu
    rw [a1] at hu
    rw [show o + j = o + j / 3 * 3 by omega, c1]; exact hu
  · have e : j = j / 3 * 3 + 1 := by omega
    rw [e] at hu
    rw [a2] at hu
    rw [show o + j = o + j / 3 * 3 + 1 by omega, c2]; exact hu
  · have e : j = j / 3 * 3 + 2 := by omega
    rw [e] at hu
    rw [a3] at hu
    rw [show o + j = o + j / 3 * 3 + 2 by omega, c3]; exact hu
end Go.Proofs.YteohobkigjmjlaaDoor

namespace Go.Proofs.YteohobkigjmjlaaDoor
open Go.RowKit

def runesFrom (s : ByteArray) : Nat → Nat → Option (List Nat)
  | 0, _ => some []
  | b + 1, p => if p < s.size then (if Utf8.decode s p = (65533, 1) then none else (runesFrom s b (p + (Utf8.decode s p).2)).map ((Utf8.decode s p).1 :: ·)) else some []
def ctl (r : Nat) : Bool := decide (r < 32) || (decide (127 ≤ r) && decide (r ≤ 159))
def endV (l : List Nat) : Nat := if 128 < l.length then 43 else if l.any ctl = true then 44 else 0
def valV (s : ByteArray) : Nat := match runesFrom s s.size 0 with
  | none => 42
  | some l => endV l
/-- Up to place p the runes are acc. -/
def RInv (s : ByteArray) (p : Nat) (acc : List Nat) : Prop := acc.length ≤ p ∧ ∃ b, s.size ≤ p + b ∧ runesFrom s s.size 0 = (runesFrom s b p).map (acc ++ ·)

theorem RInv.start (s : ByteArray) : RInv s 0 [] := ⟨Nat.le_refl _, s.size, by omega, by simp⟩
theorem decode_pos (s : ByteArray) (p : Nat) : 1 ≤ (Utf8.decode s p).2 := by
  simp only [Utf8.decode]
  repeat' split
  all_goals simp_all
theorem RInv.step {s : ByteArray} {p : Nat} {acc : List Nat} (h : RInv s p acc) (hp : p < s.size) (hd : Utf8.decode s p ≠ (65533, 1)) : RInv s (p + (Utf8.decode s p).2) (acc ++ [(Utf8.decode s p).1]) := by
  obtain ⟨hl, b, hb, e⟩ := h
  have h1 := decode_pos s p
  cases b with
  | zero => omega
  | succ b =>
    refine ⟨by simp; omega, b, by omega, ?_⟩
    rw [e, runesFrom, if_pos hp, if_neg hd]
    cases runesFrom s b (p + (Utf8.decode s p).2) <;> simp
theorem RInv.bad {s : ByteArray} {p : Nat} {acc : List Nat} (h : RInv s p acc) (hp : p < s.size) (hd : Utf8.decode s p = (65533, 1)) : valV s = 42 := by
  obtain ⟨hl, b, hb, e⟩ := h
  cases b with
  | zero => omega
  | succ b =>
    rw [runesFrom, if_pos hp, if_pos hd] at e
    rw [valV, e]
    rfl
theorem RInv.done {s : ByteArray} {p : Nat} {acc : List Nat} (h : RInv s p acc) (hp : s.size ≤ p) : valV s = endV acc := by
  obtain ⟨hl, b, hb, e⟩ := h
  have : runesFrom s b p = some [] := by
    cases b with
    | zero => rfl
    | succ b => rw [runesFrom, if_neg (by omega)]
  rw [this] at e
  rw [valV, e]
  simp
theorem decode_at (s : ByteArray) (p : Nat) : Utf8.decode (s.extract p s.size) 0 = Utf8.decode s p := Lib.tail_decode s p 0
theorem valV_le (s : ByteArray) : valV s ≤ 44 := by
  unfold valV endV
  split
  · omega
  · split
    · omega
    · split <;> omega

/-- The rune with which t begins, and its width; nothing if none begins there. -/
def l3r (t : ByteArray) : Nat × Nat := if Utf8.decode t 0 = (65533, 1) then (0, 0) else Utf8.decode t 0
def byteAt (t : ByteArray) (k : Nat) : Nat := (t.get! k).toNat
theorem byteAt_lt (t : ByteArray) (k : Nat) : byteAt t k < 256 := (t.get! k).toNat_lt
theorem byteAt_eq (t : ByteArray) (k : Nat) (h : k < t.size) : t[k].toNat = byteAt t k := by
  have := get_at t k h
  rw [Nat.add_zero] at this
  rw [byteAt, this]

/-- The decoder over four bytes; c: is there such a byte, and does it go on. -/
def decN (b0 b1 b2 b3 : Nat) (c1 c2 c3 : Bool) : Nat × Nat :=
  if b0 < 128 then (b0, 1)
  else if (b0 / 32 == 6 && c1) = true then (if 128 ≤ b0 % 32 * 64 + b1 % 64 then (b0 % 32 * 64 + b1 % 64, 2) else (65533, 1))
  else if (b0 / 16 == 14 && c1 && c2) = true then (if (decide (2048 ≤ b0 % 16 * 4096 + b1 % 64 * 64 + b2 % 64) && Utf8.valid ((b0 % 16 * 4096 + b1 % 64 * 64 + b2 % 64 : Nat) : Int)) = true then (b0 % 16 * 4096 + b1 % 64 * 64 + b2 % 64, 3) else (65533, 1))
  else if (b0 / 8 == 30 && c1 && c2 && c3) = true then (if (decide (65536 ≤ b0 % 8 * 262144 + b1 % 64 * 4096 + b2 % 64 * 64 + b3 % 64) && Utf8.valid ((b0 % 8 * 262144 + b1 % 64 * 4096 + b2 % 64 * 64 + b3 % 64 : Nat) : Int)) = true then (b0 % 8 * 262144 + b1 % 64 * 4096 + b2 % 64 * 64 + b3 % 64, 4) else (65533, 1))
  else (65533, 1)
def cont (t : ByteArray) (k : Nat) : Bool := decide (k < t.size) && byteAt t k / 64 == 2
theorem cont_iff (t : ByteArray) (k : Nat) : cont t k = true ↔ k < t.size ∧ byteAt t k / 64 = 2 := by simp [cont]
theorem decode_N (t : ByteArray) (p : Nat) : Utf8.decode t p = decN (byteAt t p) (byteAt t (p + 1)) (byteAt t (p + 2)) (byteAt t (p + 3)) (cont t (p + 1)) (cont t (p + 2)) (cont t (p + 3)) := rfl
def okRb (v : Nat) : Bool := decide (v ≤ 1114111 ∧ ¬ (55296 ≤ v ∧ v ≤ 57343))
abbrev okR (v : Nat) : Prop := okRb v = true
theorem okR_mk {v : Nat} (h : v ≤ 1114111 ∧ ¬ (55296 ≤ v ∧ v ≤ 57343)) : okR v := decide_eq_true h
theorem okR_is {v : Nat} (h : okR v) : v ≤ 1114111 ∧ ¬ (55296 ≤ v ∧ v ≤ 57343) := of_decide_eq_true h
theorem valid_okR (v : Nat) : Utf8.valid (v : Int) = decide (okR v) := by
  unfold Utf8.valid okR okRb
  rw [Bool.eq_iff_iff]
  simp
  omega

theorem decN_two {b0 b1 b2 b3 : Nat} {c1 c2 c3 : Bool} (h : b0 / 32 = 6) : decN b0 b1 b2 b3 c1 c2 c3 = if c1 = true ∧ 128 ≤ b0 % 32 * 64 + b1 % 64 then (b0 % 32 * 64 + b1 % 64, 2) else (65533, 1) := by
  have h3 : (b0 / 16 == 14) = false := by simp; omega
  have h4 : (b0 / 8 == 30) = false := by simp; omega
  unfold decN
  rw [if_neg (by omega), h, h3, h4]
  cases c1 <;> simp
theorem decN_three {b0 b1 b2 b3 : Nat} {c1 c2 c3 : Bool} (h : b0 / 16 = 14) :
    decN b0 b1 b2 b3 c1 c2 c3 = if c1 = true ∧ c2 = true ∧ 2048 ≤ (b0 % 16 * 64 + b1 % 64) * 64 + b2 % 64 ∧ okR ((b0 % 16 * 64 + b1 % 64) * 64 + b2 % 64) then ((b0 % 16 * 64 + b1 % 64) * 64 + b2 % 64, 3) else (65533, 1) := by
  have h2 : (b0 / 32 == 6) = false := by simp; omega
  have h4 : (b0 / 8 == 30) = false := by simp; omega
  have e : b0 % 16 * 4096 + b1 % 64 * 64 + b2 % 64 = (b0 % 16 * 64 + b1 % 64) * 64 + b2 % 64 := by omega
  unfold decN
  rw [if_neg (by omega), h2, h, h4, e, valid_okR]
  cases c1 <;> cases c2 <;> simp [okR]
theorem decN_four {b0 b1 b2 b3 : Nat} {c1 c2 c3 : Bool} (h : b0 / 8 = 30) :
    decN b0 b1 b2 b3 c1 c2 c3 = if c1 = true ∧ c2 = true ∧ c3 = true ∧ 65536 ≤ ((b0 % 8 * 64 + b1 % 64) * 64 + b2 % 64) * 64 + b3 % 64 ∧ okR (((b0 % 8 * 64 + b1 % 64) * 64 + b2 % 64) * 64 + b3 % 64) then (((b0 % 8 * 64 + b1 % 64) * 64 + b2 % 64) * 64 + b3 % 64, 4) else (65533, 1) := by
  have h2 : (b0 / 32 == 6) = false := by simp; omega
  have h3 : (b0 / 16 == 14) = false := by simp; omega
  have e : b0 % 8 * 262144 + b1 % 64 * 4096 + b2 % 64 * 64 + b3 % 64 = ((b0 % 8 * 64 + b1 % 64) * 64 + b2 % 64) * 64 + b3 % 64 := by omega
  unfold decN
  rw [if_neg (by omega), h2, h3, h, e]
  simp only [valid_okR]
  cases c1 <;> cases c2 <;> cases c3 <;> simp [okR]
theorem decN_one {b0 b1 b2 b3 : Nat} {c1 c2 c3 : Bool} (h : b0 < 128) : decN b0 b1 b2 b3 c1 c2 c3 = (b0, 1) := by unfold decN; rw [if_pos h]
theorem decN_none {b0 b1 b2 b3 : Nat} {c1 c2 c3 : Bool} (h0 : 128 ≤ b0) (h2 : b0 / 32 ≠ 6) (h3 : b0 / 16 ≠ 14) (h4 : b0 / 8 ≠ 30) : decN b0 b1 b2 b3 c1 c2 c3 = (65533, 1) := by
  have h2 : (b0 / 32 == 6) = false := by simp [h2]
  have h3 : (b0 / 16 == 14) = false := by simp [h3]
  have h4 : (b0 / 8 == 30) = false := by simp [h4]
  unfold decN
  rw [if_neg (by omega), h2, h3, h4]
  simp
/-- What the decoder says: a fault, or a rune of so many bytes, which are there. -/
theorem decN_says {b0 b1 b2 b3 : Nat} {c1 c2 c3 : Bool} : decN b0 b1 b2 b3 c1 c2 c3 = (65533, 1) ∨ ((decN b0 b1 b2 b3 c1 c2 c3).1 ≤ 1114111 ∧ ((decN b0 b1 b2 b3 c1 c2 c3).2 = 1 ∨ (decN b0 b1 b2 b3 c1 c2 c3).2 = 2 ∧ c1 = true ∨ (decN b0 b1 b2 b3 c1 c2 c3).2 = 3 ∧ c2 = true ∨ (decN b0 b1 b2 b3 c1 c2 c3).2 = 4 ∧ c3 = true)) := by
  by_cases h1 : b0 < 128
  · rw [decN_one h1]; right; exact ⟨by simp; omega, Or.inl rfl⟩
  by_cases h2 : b0 / 32 = 6
  · rw [decN_two h2]
    split
    · rename_i h; right; exact ⟨by simp; omega, Or.inr (Or.inl ⟨rfl, h.1⟩)⟩
    · exact Or.inl rfl
  by_cases h3 : b0 / 16 = 14
  · rw [decN_three h3]
    split
    · rename_i h; right; exact ⟨(okR_is h.2.2.2).1, Or.inr (Or.inr (Or.inl ⟨rfl, h.2.1⟩))⟩
    · exact Or.inl rfl
  by_cases h4 : b0 / 8 = 30
  · rw [decN_four h4]
    split
    · rename_i h; right; exact ⟨(okR_is h.2.2.2.2).1, Or.inr (Or.inr (Or.inr ⟨rfl, h.2.2.1⟩))⟩
    · exact Or.inl rfl
  · rw [decN_none (by omega) h2 h3 h4]; exact Or.inl rfl

theorem decode_fits (s : ByteArray) (p : Nat) (hp : p < s.size) (h : Utf8.decode s p ≠ (65533, 1)) : p + (Utf8.decode s p).2 ≤ s.size := by
  rw [decode_N] at h ⊢
  rcases decN_says with h' | ⟨_, h' | ⟨e, h'⟩ | ⟨e, h'⟩ | ⟨e, h'⟩⟩
  · exact absurd h' h
  · rw [h']; omega
  · rw [e]; have := ((cont_iff _ _).1 h').1; omega
  · rw [e]; have := ((cont_iff _ _).1 h').1; omega
  · rw [e]; have := ((cont_iff _ _).1 h').1; omega
theorem decode_rune (s : ByteArray) (p : Nat) : (Utf8.decode s p).1 ≤ 1114111 ∧ (Utf8.decode s p).2 ≤ 4 := by
  rw [decode_N]
  rcases decN_says with h' | ⟨h, h' | ⟨e, h'⟩ | ⟨e, h'⟩ | ⟨e, h'⟩⟩
  · rw [h']; exact ⟨by simp, by simp⟩
  · exact ⟨h, by omega⟩
  · exact ⟨h, by omega⟩
  · exact ⟨h, by omega⟩
  · exact ⟨h, by omega⟩

theorem l3r_one (t : ByteArray) (h : byteAt t 0 < 128) : l3r t = (byteAt t 0, 1) := by
  rw [l3r, decode_N, decN_one h, if_neg]
  simp only [Prod.mk.injEq, and_true]
  omega
theorem l3r_if {t : ByteArray} {C D : Prop} [Decidable C] [Decidable D] {v n : Nat} (h : Utf8.decode t 0 = if C then (v, n) else (65533, 1)) (hn : n ≠ 1) (hC : C ↔ D) : l3r t = if D then (v, n) else (0, 0) := by
  unfold l3r
  rw [h]
  by_cases c : C
  · rw [if_pos c, if_pos (hC.1 c), if_neg (by simp; exact fun _ => hn)]
  · rw [if_neg c, if_neg (fun h => c (hC.2 h)), if_pos rfl]
theorem l3r_two (t : ByteArray) (h : byteAt t 0 / 32 = 6) :
    l3r t = if 2 ≤ t.size ∧ byteAt t 1 / 64 = 2 ∧ 128 ≤ byteAt t 0 % 32 * 64 + byteAt t 1 % 64 then (byteAt t 0 % 32 * 64 + byteAt t 1 % 64, 2) else (0, 0) := by
  refine l3r_if ((decode_N t 0).trans (decN_two h)) (by omega) ?_
  rw [Nat.zero_add, cont_iff]
  constructor
  · rintro ⟨⟨h1, h2⟩, h3⟩; exact ⟨h1, h2, h3⟩
  · rintro ⟨h1, h2, h3⟩; exact ⟨⟨h1, h2⟩, h3⟩
theorem l3r_three (t : ByteArray) (h : byteAt t 0 / 16 = 14) :
    l3r t = if 3 ≤ t.size ∧ byteAt t 1 / 64 = 2 ∧ byteAt t 2 / 64 = 2 ∧ 2048 ≤ (byteAt t 0 % 16 * 64 + byteAt t 1 % 64) * 64 + byteAt t 2 % 64 ∧ okR ((byteAt t 0 % 16 * 64 + byteAt t 1 % 64) * 64 + byteAt t 2 % 64) then ((byteAt t 0 % 16 * 64 + byteAt t 1 % 64) * 64 + byteAt t 2 % 64, 3) else (0, 0) := by
  refine l3r_if ((decode_N t 0).trans (decN_three h)) (by omega) ?_
  rw [Nat.zero_add, Nat.zero_add, cont_iff, cont_iff]
  constructor
  · rintro ⟨⟨_, h2⟩, ⟨h1, h3⟩, h4⟩; exact ⟨h1, h2, h3, h4⟩
  · rintro ⟨h1, h2, h3, h4⟩; exact ⟨⟨by omega, h2⟩, ⟨h1, h3⟩, h4⟩
theorem l3r_four (t : ByteArray) (h : byteAt t 0 / 8 = 30) :
    l3r t = if 4 ≤ t.size ∧ byteAt t 1 / 64 = 2 ∧ byteAt t 2 / 64 = 2 ∧ byteAt t 3 / 64 = 2 ∧ 65536 ≤ ((byteAt t 0 % 8 * 64 + byteAt t 1 % 64) * 64 + byteAt t 2 % 64) * 64 + byteAt t 3 % 64 ∧ okR (((byteAt t 0 % 8 * 64 + byteAt t 1 % 64) * 64 + byteAt t 2 % 64) * 64 + byteAt t 3 % 64) then (((byteAt t 0 % 8 * 64 + byteAt t 1 % 64) * 64 + byteAt t 2 % 64) * 64 + byteAt t 3 % 64, 4) else (0, 0) := by
  refine l3r_if ((decode_N t 0).trans (decN_four h)) (by omega) ?_
  rw [Nat.zero_add, Nat.zero_add, Nat.zero_add, cont_iff, cont_iff, cont_iff]
  constructor
  · rintro ⟨⟨_, h2⟩, ⟨_, h3⟩, ⟨h1, h4⟩, h5⟩; exact ⟨h1, h2, h3, h4, h5⟩
  · rintro ⟨h1, h2, h3, h4, h5⟩; exact ⟨⟨by omega, h2⟩, ⟨by omega, h3⟩, ⟨h1, h4⟩, h5⟩
theorem l3r_none (t : ByteArray) (h0 : 128 ≤ byteAt t 0) (h2 : byteAt t 0 / 32 ≠ 6) (h3 : byteAt t 0 / 16 ≠ 14) (h4 : byteAt t 0 / 8 ≠ 30) : l3r t = (0, 0) := by
  rw [l3r, decode_N, decN_none h0 h2 h3 h4, if_pos rfl]
theorem l3r_at (s : ByteArray) (p : Nat) : l3r (s.extract p s.size) = if Utf8.decode s p = (65533, 1) then (0, 0) else Utf8.decode s p := by rw [l3r, decode_at]
end Go.Proofs.YteohobkigjmjlaaDoor

namespace Go.Proofs.YteohobkigjmjlaaDoor

theorem less_irrefl : ∀ x : List UInt8, Op.bytesLess x x = false
  | [] => rfl
  | a :: x => by simp [Op.bytesLess, less_irrefl x]

theorem less_trans : ∀ x y z : List UInt8, Op.bytesLess x y = true → Op.bytesLess y z = true → Op.bytesLess x z = true
  | _, _, [], _, h => by simp [Op.bytesLess] at h
  | _, [], _ :: _, h, _ => by simp [Op.bytesLess] at h
  | [], _ :: _, _ :: _, _, _ => by simp [Op.bytesLess]
  | a :: x, b :: y, c :: z, h1, h2 => by
    simp only [Op.bytesLess, Bool.or_eq_true, Bool.and_eq_true, decide_eq_true_eq, beq_iff_eq] at h1 h2 ⊢
    rcases h1 with h1 | ⟨rfl, h1⟩
    · rcases h2 with h2 | ⟨rfl, _⟩
      · exact Or.inl (UInt8.lt_trans h1 h2)
      · exact Or.inl h1
    · rcases h2 with h2 | ⟨rfl, h2⟩
      · exact Or.inl h2
      · exact Or.inr ⟨rfl, less_trans x y z h1 h2⟩

theorem less_total : ∀ x y : List UInt8, Op.bytesLess x y = false → x ≠ y → Op.bytesLess y x = true
  | [], [], _, h => absurd rfl h
  | [], _ :: _, h, _ => by simp [Op.bytesLess] at h
  | _ :: _, [], _, _ => by simp [Op.bytesLess]
  | a :: x, b :: y, h, hne => by
    simp only [Op.bytesLess, Bool.or_eq_false_iff, Bool.and_eq_false_iff, decide_eq_false_iff_not, Bool.or_eq_true, Bool.and_eq_true, decide_eq_true_eq, beq_iff_eq] at h ⊢
    obtain ⟨h1, h2⟩ := h
    by_cases e : a = b
    · subst e
      rcases h2 with h2 | h2
      · simp at h2
      · exact Or.inr ⟨rfl, less_total x y h2 (fun e => hne (by rw [e]))⟩
    · left
      rcases UInt8.lt_or_lt_of_ne e with h | h
      · exact absurd h h1
      · exact h

theorem less_asymm {x y : List UInt8} (h : Op.bytesLess x y = true) : Op.bytesLess y x = false := by
  rw [Bool.eq_false_iff]
  intro h'
  have := less_trans x y x h h'
  rw [less_irrefl] at this
  exact absurd this (by simp)

theorem toList_inj {x y : ByteArray} (h : x.toList = y.toList) : x = y := by
  have h' : x.data.toList = y.data.toList := by rw [← ByteArray.toList_eq x, ← ByteArray.toList_eq y]; exact h
  cases x; cases y
  simp only [ByteArray.mk.injEq]
  exact Array.toList_inj.1 h'
end Go.Proofs.YteohobkigjmjlaaDoor

