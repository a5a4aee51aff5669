/- The verifier's own text: what pairs of a text and a number (limits of metrics, series) are in memory. -/
import Derived.Test.YtgpgacncmoiefaaOwn
namespace Go.Proofs.Ytgpgacncmoiefaa
open Go.RowKit

structure PairD where
  s : ByteArray
  n : Int

/-- The pairs ls lie from ⟨b, o⟩ on, two cells each. -/
def PairsAt (w : World) (b o : Nat) (ls : List PairD) : Prop :=
  ∀ i (h : i < ls.length), w.cell? ⟨b, o + i * 2, none⟩ = some (.string ls[i].s) ∧ w.cell? ⟨b, o + i * 2 + 1, none⟩ = some (.int .i64 ls[i].n)
/-- A slice's address holds the pairs ls (nothing is asked where there are none). -/
def PairsIn (w : World) (a : Option Addr) (ls : List PairD) : Prop := ls = [] ∨ ∃ b o, a = some ⟨b, o, none⟩ ∧ b < w.heap.size ∧ PairsAt w b o ls
theorem PairsIn.later {w w' : World} {a : Option Addr} {ls : List PairD} (h : PairsIn w a ls) (hb : Below w.heap.size w w') : PairsIn w' a ls := by
  rcases h with h | ⟨b, o, rfl, hlt, h⟩
  · exact Or.inl h
  · refine Or.inr ⟨b, o, rfl, Nat.lt_of_lt_of_le hlt hb.size, fun i hi => ?_⟩
    obtain ⟨h1, h2⟩ := h i hi
    exact ⟨by rw [← h1]; exact hb.cell hlt, by rw [← h2]; exact hb.cell hlt⟩
theorem PairsIn.at {w : World} {a : Option Addr} {ls : List PairD} (h : PairsIn w a ls) {i : Nat} (hi : i < ls.length) :
    ∃ b o, a = some ⟨b, o, none⟩ ∧ b < w.heap.size ∧ w.cell? ⟨b, o + i * 2, none⟩ = some (.string ls[i].s) ∧ w.cell? ⟨b, o + i * 2 + 1, none⟩ = some (.int .i64 ls[i].n) := by
  rcases h with rfl | ⟨b, o, rfl, hlt, h⟩
  · exact absurd hi (by simp)
  · exact ⟨b, o, rfl, hlt, h i hi⟩
theorem PairsIn.but {g : Nat} {w w' : World} {a : Option Addr} {l : List PairD} (h : PairsIn w a l) (hb : But g w w') (hg : l = [] ∨ ∃ b o, a = some ⟨b, o, none⟩ ∧ b ≠ g) : PairsIn w' a l := by
  rcases hg with hg | ⟨b, o, rfl, hne⟩
  · exact Or.inl hg
  · rcases h with h | ⟨b', o', e, hlt, h⟩
    · exact Or.inl h
    · simp only [Option.some.injEq, Addr.mk.injEq, and_true] at e
      obtain ⟨rfl, rfl⟩ := e
      have hk : ∀ j, w'.cell? ⟨b, j, none⟩ = w.cell? ⟨b, j, none⟩ := fun j => World.cell?_of_block (hb.block b hlt hne)
      exact Or.inr ⟨b, o, rfl, Nat.lt_of_lt_of_le hlt hb.size, fun i hi => by simp only [hk]; exact h i hi⟩
theorem PairsIn.take {w : World} {a : Option Addr} {ls : List PairD} (h : PairsIn w a ls) (n : Nat) : PairsIn w a (ls.take n) := by
  rcases h with h | ⟨b, o, e, hlt, h⟩
  · exact Or.inl (by rw [h]; simp)
  · refine Or.inr ⟨b, o, e, hlt, fun i hi => ?_⟩
    rw [List.getElem_take]
    exact h i (by simp at hi; omega)

/-- The pairs lie in a block of their own, from B on, that may be written. -/
def PairsOwn (w : World) (B : Nat) (a : Option Addr) (ls : List PairD) : Prop :=
  ls = [] ∨ ∃ g o cur t, a = some ⟨g, o, none⟩ ∧ B ≤ g ∧ w.heap[g]? = some (.cells cur t (0, 0)) ∧ PairsAt w g o ls
theorem PairsOwn.pairs {w : World} {B : Nat} {a : Option Addr} {ls : List PairD} (h : PairsOwn w B a ls) : PairsIn w a ls := by
  rcases h with h | ⟨g, o, cur, t, rfl, _, hb, h⟩
  · exact Or.inl h
  · exact Or.inr ⟨g, o, rfl, lt_of_block hb, h⟩
theorem PairsOwn.later {w w' : World} {B : Nat} {a : Option Addr} {ls : List PairD} (h : PairsOwn w B a ls) (hb : Below w.heap.size w w') : PairsOwn w' B a ls := by
  rcases h with h | ⟨g, o, cur, t, rfl, hB, hg, h⟩
  · exact Or.inl h
  · have hlt := lt_of_block hg
    have hk : ∀ j, w'.cell? ⟨g, j, none⟩ = w.cell? ⟨g, j, none⟩ := fun j => World.cell?_of_block (hb.block g hlt)
    exact Or.inr ⟨g, o, cur, t, rfl, hB, (hb.block g hlt).trans hg, fun i hi => by simp only [hk]; exact h i hi⟩
theorem PairsOwn.mono {w : World} {B B' : Nat} {a : Option Addr} {ls : List PairD} (h : PairsOwn w B a ls) (hB : B' ≤ B) : PairsOwn w B' a ls := by
  rcases h with h | ⟨g, o, cur, t, rfl, hB', hg, h⟩
  · exact Or.inl h
  · exact Or.inr ⟨g, o, cur, t, rfl, Nat.le_trans hB hB', hg, h⟩

/-- The cells of pair j, from o on. -/
def RowPair (cur : Array Value) (o j : Nat) (f : PairD) : Prop := cur[o + j * 2]? = some (.string f.s) ∧ cur[o + j * 2 + 1]? = some (.int .i64 f.n)
theorem RowPair.set {cur : Array Value} {o j : Nat} {f : PairD} (h : RowPair cur o j f) {p : Nat} (hp : p < o + j * 2 ∨ o + j * 2 + 1 < p) (v : Value) : RowPair (cur.setIfInBounds p v) o j f := by
  obtain ⟨a1, a2⟩ := h
  refine ⟨?_, ?_⟩
  · rw [Array.getElem?_setIfInBounds_ne (by omega)]; exact a1
  · rw [Array.getElem?_setIfInBounds_ne (by omega)]; exact a2
theorem RowPair.made (cur : Array Value) (o j : Nat) (f : PairD) (h : o + j * 2 + 1 < cur.size) :
    RowPair ((cur.setIfInBounds (o + j * 2) (.string f.s)).setIfInBounds (o + j * 2 + 1) (.int .i64 f.n)) o j f := by
  refine ⟨?_, ?_⟩ <;> simp [Array.getElem?_setIfInBounds] <;> omega
theorem pairsAt_of_rows {w : World} {g o : Nat} {cur : Array Value} {t : TypeId} {fs : List PairD} (h : Blk w g cur t) (hr : ∀ j (hj : j < fs.length), RowPair cur o j fs[j]) : PairsAt w g o fs := by
  intro j hj
  simp only [h.cell]
  exact hr j hj
theorem rows_of_pairsAt {w : World} {g o : Nat} {cur : Array Value} {t : TypeId} {fs : List PairD} (h : Blk w g cur t) (hf : PairsAt w g o fs) : ∀ j (hj : j < fs.length), RowPair cur o j fs[j] := by
  intro j hj
  have := hf j hj
  simp only [h.cell] at this
  exact this
theorem pairs_size {cur : Array Value} {o : Nat} {fs : List PairD} (hr : ∀ j (hj : j < fs.length), RowPair cur o j fs[j]) : fs.length = 0 ∨ o + fs.length * 2 ≤ cur.size := by
  by_cases h : fs.length = 0
  · exact Or.inl h
  · right
    have := (hr (fs.length - 1) (by omega)).2
    have := (Array.getElem?_eq_some_iff.1 this).1
    omega
theorem pairs_of_row {w : World} {B : Nat} {e : TypeId} {a : Option Addr} {cap : Nat} {l : List PairD}
    (h : w.ownsRow B e 2 (.slice a l.length cap) l.length (l.flatMap fun x => [.string x.s, .int .i64 x.n])) : PairsOwn w B a l := by
  rcases h.2 with ⟨_, hl⟩ | ⟨g, cap', cur, he, hB, hg, _, _, hsz, htk⟩
  · exact Or.inl (List.length_eq_zero_iff.1 hl)
  · simp only [Value.slice.injEq] at he
    have hf : ∀ (l : List PairD) i (hi : i < l.length), (l.flatMap fun x => [Value.string x.s, .int .i64 x.n])[i * 2]? = some (.string l[i].s) ∧ (l.flatMap fun x => [Value.string x.s, .int .i64 x.n])[i * 2 + 1]? = some (.int .i64 l[i].n) := by
      intro l
      induction l with
      | nil => intro i hi; exact absurd hi (by simp)
      | cons x r ih =>
        intro i hi
        cases i with
        | zero => simp
        | succ i =>
          have := ih i (by simpa using hi)
          simp only [List.flatMap_cons, List.cons_append, List.nil_append, List.getElem_cons_succ]
          rw [show (i + 1) * 2 = i * 2 + 1 + 1 by omega, List.getElem?_cons_succ, List.getElem?_cons_succ, List.getElem?_cons_succ, List.getElem?_cons_succ]
          exact this
    refine Or.inr ⟨g, 0, cur, e, he.1, hB, hg, fun i hi => ?_⟩
    have h2 : ∀ j, j < l.length * 2 → cur[j]? = (l.flatMap fun x => [Value.string x.s, .int .i64 x.n])[j]? := fun j hj => by
      rw [← htk, List.getElem?_take_of_lt hj, Array.getElem?_toList]
    rw [cell_of_row w g _ cur _ _ hg, cell_of_row w g _ cur _ _ hg, Nat.zero_add, h2 _ (by omega), h2 _ (by omega)]
    exact hf l i hi

def pairBulk : List PairD → Nat
  | [] => 0
  | f :: r => f.s.size + pairBulk r
theorem pairBulk_append (a b : List PairD) : pairBulk (a ++ b) = pairBulk a + pairBulk b := by
  induction a with
  | nil => simp [pairBulk]
  | cons f r ih => simp [pairBulk, ih]; omega
theorem pairBulk_take_succ (fs : List PairD) (k : Nat) (h : k < fs.length) : pairBulk (fs.take (k + 1)) = pairBulk (fs.take k) + fs[k].s.size := by
  rw [List.take_succ_eq_append_getElem h, pairBulk_append]; simp [pairBulk]
theorem pairBulk_take_le (fs : List PairD) (k : Nat) : pairBulk (fs.take k) ≤ pairBulk fs := by
  have := pairBulk_append (fs.take k) (fs.drop k)
  rw [List.take_append_drop] at this; omega
def szPair (left : Int) (f : PairD) : Int := if (f.s.size : Int) ≤ left then left - f.s.size else -1
def szPairs (left : Int) (fs : List PairD) : Int := if (fs.length + pairBulk fs : Int) ≤ left then left - fs.length - pairBulk fs else -1
def ShortP (fs : List PairD) : Prop := ∀ i (h : i < fs.length), fs[i].s.size ≤ maxLen

def markP (k : Nat) (i : Nat) : PairD := ⟨mt (k + 2 * i), ((k + 2 * i + 1 : Nat) : Int)⟩
def markPairs (k n : Nat) : List PairD := (List.range n).map (markP k)
theorem markPairs_length (k n : Nat) : (markPairs k n).length = n := by simp [markPairs]
theorem markPairs_get (k n i : Nat) (h : i < (markPairs k n).length) : (markPairs k n)[i] = markP k i := by simp [markPairs]
end Go.Proofs.Ytgpgacncmoiefaa
