/- The verifier's own text: what labels are in memory. -/
import Derived.Test.YtoecnlhnfhongaaDoorOwn
namespace Go.Proofs.YtoecnlhnfhongaaDoor
open Go.RowKit

structure LabD where
  name : ByteArray
  value : ByteArray

/-- The labels ls lie from ⟨b, o⟩ on, two cells each. -/
def LabsAt (w : World) (b o : Nat) (ls : List LabD) : Prop :=
  ∀ i (h : i < ls.length), w.cell? ⟨b, o + i * 2, none⟩ = some (.string ls[i].name) ∧ w.cell? ⟨b, o + i * 2 + 1, none⟩ = some (.string ls[i].value)
/-- A slice's address holds the labels ls (nothing is asked where there are none). -/
def LabsIn (w : World) (a : Option Addr) (ls : List LabD) : Prop := ls = [] ∨ ∃ b o, a = some ⟨b, o, none⟩ ∧ b < w.heap.size ∧ LabsAt w b o ls
theorem LabsIn.later {w w' : World} {a : Option Addr} {ls : List LabD} (h : LabsIn w a ls) (hb : Below w.heap.size w w') : LabsIn w' a ls := by
  rcases h with h | ⟨b, o, rfl, hlt, h⟩
  · exact Or.inl h
  · refine Or.inr ⟨b, o, rfl, Nat.lt_of_lt_of_le hlt hb.size, fun i hi => ?_⟩
    obtain ⟨h1, h2⟩ := h i hi
    exact ⟨by rw [← h1]; exact hb.cell hlt, by rw [← h2]; exact hb.cell hlt⟩
theorem LabsIn.at {w : World} {a : Option Addr} {ls : List LabD} (h : LabsIn w a ls) {i : Nat} (hi : i < ls.length) :
    ∃ b o, a = some ⟨b, o, none⟩ ∧ b < w.heap.size ∧ w.cell? ⟨b, o + i * 2, none⟩ = some (.string ls[i].name) ∧ w.cell? ⟨b, o + i * 2 + 1, none⟩ = some (.string ls[i].value) := by
  rcases h with rfl | ⟨b, o, rfl, hlt, h⟩
  · exact absurd hi (by simp)
  · exact ⟨b, o, rfl, hlt, h i hi⟩
theorem LabsIn.but {g : Nat} {w w' : World} {a : Option Addr} {l : List LabD} (h : LabsIn w a l) (hb : But g w w') (hg : l = [] ∨ ∃ b o, a = some ⟨b, o, none⟩ ∧ b ≠ g) : LabsIn w' a l := by
  rcases hg with hg | ⟨b, o, rfl, hne⟩
  · exact Or.inl hg
  · rcases h with h | ⟨b', o', e, hlt, h⟩
    · exact Or.inl h
    · simp only [Option.some.injEq, Addr.mk.injEq, and_true] at e
      obtain ⟨rfl, rfl⟩ := e
      have hk : ∀ j, w'.cell? ⟨b, j, none⟩ = w.cell? ⟨b, j, none⟩ := fun j => World.cell?_of_block (hb.block b hlt hne)
      exact Or.inr ⟨b, o, rfl, Nat.lt_of_lt_of_le hlt hb.size, fun i hi => by simp only [hk]; exact h i hi⟩
theorem LabsIn.take {w : World} {a : Option Addr} {ls : List LabD} (h : LabsIn w a ls) (n : Nat) : LabsIn w a (ls.take n) := by
  rcases h with h | ⟨b, o, e, hlt, h⟩
  · exact Or.inl (by rw [h]; simp)
  · refine Or.inr ⟨b, o, e, hlt, fun i hi => ?_⟩
    rw [List.getElem_take]
    exact h i (by simp at hi; omega)

/-- The labels lie in a block of their own, from B on, that may be written. -/
def LabsOwn (w : World) (B : Nat) (a : Option Addr) (ls : List LabD) : Prop :=
  ls = [] ∨ ∃ g o cur t, a = some ⟨g, o, none⟩ ∧ B ≤ g ∧ w.heap[g]? = some (.cells cur t (0, 0)) ∧ LabsAt w g o ls
theorem LabsOwn.labs {w : World} {B : Nat} {a : Option Addr} {ls : List LabD} (h : LabsOwn w B a ls) : LabsIn w a ls := by
  rcases h with h | ⟨g, o, cur, t, rfl, _, hb, h⟩
  · exact Or.inl h
  · exact Or.inr ⟨g, o, rfl, lt_of_block hb, h⟩
theorem LabsOwn.later {w w' : World} {B : Nat} {a : Option Addr} {ls : List LabD} (h : LabsOwn w B a ls) (hb : Below w.heap.size w w') : LabsOwn w' B a ls := by
  rcases h with h | ⟨g, o, cur, t, rfl, hB, hg, h⟩
  · exact Or.inl h
  · have hlt := lt_of_block hg
    have hk : ∀ j, w'.cell? ⟨g, j, none⟩ = w.cell? ⟨g, j, none⟩ := fun j => World.cell?_of_block (hb.block g hlt)
    exact Or.inr ⟨g, o, cur, t, rfl, hB, (hb.block g hlt).trans hg, fun i hi => by simp only [hk]; exact h i hi⟩
theorem LabsOwn.mono {w : World} {B B' : Nat} {a : Option Addr} {ls : List LabD} (h : LabsOwn w B a ls) (hB : B' ≤ B) : LabsOwn w B' a ls := by
  rcases h with h | ⟨g, o, cur, t, rfl, hB', hg, h⟩
  · exact Or.inl h
  · exact Or.inr ⟨g, o, cur, t, rfl, Nat.le_trans hB hB', hg, h⟩

/-- The cells of label j, from o on. -/
def RowLab (cur : Array Value) (o j : Nat) (f : LabD) : Prop := cur[o + j * 2]? = some (.string f.name) ∧ cur[o + j * 2 + 1]? = some (.string f.value)
theorem RowLab.set {cur : Array Value} {o j : Nat} {f : LabD} (h : RowLab cur o j f) {p : Nat} (hp : p < o + j * 2 ∨ o + j * 2 + 1 < p) (v : Value) : RowLab (cur.setIfInBounds p v) o j f := by
  obtain ⟨a1, a2⟩ := h
  refine ⟨?_, ?_⟩
  · rw [Array.getElem?_setIfInBounds_ne (by omega)]; exact a1
  · rw [Array.getElem?_setIfInBounds_ne (by omega)]; exact a2
theorem RowLab.made (cur : Array Value) (o j : Nat) (f : LabD) (h : o + j * 2 + 1 < cur.size) :
    RowLab ((cur.setIfInBounds (o + j * 2) (.string f.name)).setIfInBounds (o + j * 2 + 1) (.string f.value)) o j f := by
  refine ⟨?_, ?_⟩ <;> simp [Array.getElem?_setIfInBounds] <;> omega
theorem labsAt_of_rows {w : World} {g o : Nat} {cur : Array Value} {t : TypeId} {fs : List LabD} (h : Blk w g cur t) (hr : ∀ j (hj : j < fs.length), RowLab cur o j fs[j]) : LabsAt w g o fs := by
  intro j hj
  simp only [h.cell]
  exact hr j hj
theorem rows_of_labsAt {w : World} {g o : Nat} {cur : Array Value} {t : TypeId} {fs : List LabD} (h : Blk w g cur t) (hf : LabsAt w g o fs) : ∀ j (hj : j < fs.length), RowLab cur o j fs[j] := by
  intro j hj
  have := hf j hj
  simp only [h.cell] at this
  exact this
theorem labs_size {cur : Array Value} {o : Nat} {fs : List LabD} (hr : ∀ j (hj : j < fs.length), RowLab cur o j fs[j]) : fs.length = 0 ∨ o + fs.length * 2 ≤ cur.size := by
  by_cases h : fs.length = 0
  · exact Or.inl h
  · right
    have := (hr (fs.length - 1) (by omega)).2
    have := (Array.getElem?_eq_some_iff.1 this).1
    omega
theorem labs_of_row {w : World} {B : Nat} {e : TypeId} {a : Option Addr} {cap : Nat} {l : List LabD}
    (h : w.ownsRow B e 2 (.slice a l.length cap) l.length (l.flatMap fun x => [.string x.name, .string x.value])) : LabsOwn w B a l := by
  rcases h.2 with ⟨_, hl⟩ | ⟨g, cap', cur, he, hB, hg, _, _, hsz, htk⟩
  · exact Or.inl (List.length_eq_zero_iff.1 hl)
  · simp only [Value.slice.injEq] at he
    have hf : ∀ (l : List LabD) i (hi : i < l.length), (l.flatMap fun x => [Value.string x.name, .string x.value])[i * 2]? = some (.string l[i].name) ∧ (l.flatMap fun x => [Value.string x.name, .string x.value])[i * 2 + 1]? = some (.string l[i].value) := by
      intro l
      induction l with
      | nil => intro i hi; exact absurd hi (by simp)
      | cons x r ih =>
        intro i hi
        cases i with
        | zero => simp
        | succ i =>
          have := ih i (by simpa using hi)
          simp only [List.flatMap_cons, List.cons_append, List.nil_append, List.getElem_cons_succ]
          rw [show (i + 1) * 2 = i * 2 + 1 + 1 by omega, List.getElem?_cons_succ, List.getElem?_cons_succ, List.getElem?_cons_succ, List.getElem?_cons_succ]
          exact this
    refine Or.inr ⟨g, 0, cur, e, he.1, hB, hg, fun i hi => ?_⟩
    have h2 : ∀ j, j < l.length * 2 → cur[j]? = (l.flatMap fun x => [Value.string x.name, .string x.value])[j]? := fun j hj => by
      rw [← htk, List.getElem?_take_of_lt hj, Array.getElem?_toList]
    rw [cell_of_row w g _ cur _ _ hg, cell_of_row w g _ cur _ _ hg, Nat.zero_add, h2 _ (by omega), h2 _ (by omega)]
    exact hf l i hi

def labBulk : List LabD → Nat
  | [] => 0
  | f :: r => f.name.size + f.value.size + labBulk r
theorem labBulk_append (a b : List LabD) : labBulk (a ++ b) = labBulk a + labBulk b := by
  induction a with
  | nil => simp [labBulk]
  | cons f r ih => simp [labBulk, ih]; omega
theorem labBulk_take_succ (fs : List LabD) (k : Nat) (h : k < fs.length) : labBulk (fs.take (k + 1)) = labBulk (fs.take k) + (fs[k].name.size + fs[k].value.size) := by
  rw [List.take_succ_eq_append_getElem h, labBulk_append]; simp [labBulk]
theorem labBulk_take_le (fs : List LabD) (k : Nat) : labBulk (fs.take k) ≤ labBulk fs := by
  have := labBulk_append (fs.take k) (fs.drop k)
  rw [List.take_append_drop] at this; omega
def szLab (left : Int) (f : LabD) : Int := if (f.name.size + f.value.size : Int) ≤ left then left - f.name.size - f.value.size else -1
def szLabs (left : Int) (fs : List LabD) : Int := if (fs.length + labBulk fs : Int) ≤ left then left - fs.length - labBulk fs else -1
def ShortL (fs : List LabD) : Prop := ∀ i (h : i < fs.length), fs[i].name.size ≤ maxLen ∧ fs[i].value.size ≤ maxLen

def markB (k : Nat) (i : Nat) : LabD := ⟨mt (k + 2 * i), mt (k + 2 * i + 1)⟩
def markLabs (k n : Nat) : List LabD := (List.range n).map (markB k)
theorem markLabs_length (k n : Nat) : (markLabs k n).length = n := by simp [markLabs]
theorem markLabs_get (k n i : Nat) (h : i < (markLabs k n).length) : (markLabs k n)[i] = markB k i := by simp [markLabs]
end Go.Proofs.YtoecnlhnfhongaaDoor
