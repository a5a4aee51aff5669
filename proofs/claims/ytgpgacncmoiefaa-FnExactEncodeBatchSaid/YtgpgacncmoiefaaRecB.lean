/- The verifier's own text: what records are in memory. -/
import Derived.Test.YtgpgacncmoiefaaOwn
namespace Go.Proofs.Ytgpgacncmoiefaa
open Go.RowKit

structure RecD where
  kind : Int
  tenant : ByteArray
  text : ByteArray
  num : Int

/-- The records ls lie from ⟨b, o⟩ on, four cells each. -/
def RecsAt (w : World) (b o : Nat) (ls : List RecD) : Prop :=
  ∀ i (h : i < ls.length), w.cell? ⟨b, o + i * 4, none⟩ = some (.int .i64 ls[i].kind) ∧ w.cell? ⟨b, o + i * 4 + 1, none⟩ = some (.string ls[i].tenant) ∧ w.cell? ⟨b, o + i * 4 + 2, none⟩ = some (.string ls[i].text) ∧ w.cell? ⟨b, o + i * 4 + 3, none⟩ = some (.int .i64 ls[i].num)
/-- A slice's address holds the records ls (nothing is asked where there are none). -/
def RecsIn (w : World) (a : Option Addr) (ls : List RecD) : Prop := ls = [] ∨ ∃ b o, a = some ⟨b, o, none⟩ ∧ b < w.heap.size ∧ RecsAt w b o ls
theorem RecsIn.later {w w' : World} {a : Option Addr} {ls : List RecD} (h : RecsIn w a ls) (hb : Below w.heap.size w w') : RecsIn w' a ls := by
  rcases h with h | ⟨b, o, rfl, hlt, h⟩
  · exact Or.inl h
  · refine Or.inr ⟨b, o, rfl, Nat.lt_of_lt_of_le hlt hb.size, fun i hi => ?_⟩
    obtain ⟨h1, h2, h3, h4⟩ := h i hi
    exact ⟨by rw [← h1]; exact hb.cell hlt, by rw [← h2]; exact hb.cell hlt, by rw [← h3]; exact hb.cell hlt, by rw [← h4]; exact hb.cell hlt⟩
theorem RecsIn.at {w : World} {a : Option Addr} {ls : List RecD} (h : RecsIn w a ls) {i : Nat} (hi : i < ls.length) :
    ∃ b o, a = some ⟨b, o, none⟩ ∧ b < w.heap.size ∧ w.cell? ⟨b, o + i * 4, none⟩ = some (.int .i64 ls[i].kind) ∧ w.cell? ⟨b, o + i * 4 + 1, none⟩ = some (.string ls[i].tenant) ∧ w.cell? ⟨b, o + i * 4 + 2, none⟩ = some (.string ls[i].text) ∧ w.cell? ⟨b, o + i * 4 + 3, none⟩ = some (.int .i64 ls[i].num) := by
  rcases h with rfl | ⟨b, o, rfl, hlt, h⟩
  · exact absurd hi (by simp)
  · exact ⟨b, o, rfl, hlt, h i hi⟩
theorem RecsIn.but {g : Nat} {w w' : World} {a : Option Addr} {l : List RecD} (h : RecsIn w a l) (hb : But g w w') (hg : l = [] ∨ ∃ b o, a = some ⟨b, o, none⟩ ∧ b ≠ g) : RecsIn w' a l := by
  rcases hg with hg | ⟨b, o, rfl, hne⟩
  · exact Or.inl hg
  · rcases h with h | ⟨b', o', e, hlt, h⟩
    · exact Or.inl h
    · simp only [Option.some.injEq, Addr.mk.injEq, and_true] at e
      obtain ⟨rfl, rfl⟩ := e
      have hk : ∀ j, w'.cell? ⟨b, j, none⟩ = w.cell? ⟨b, j, none⟩ := fun j => World.cell?_of_block (hb.block b hlt hne)
      exact Or.inr ⟨b, o, rfl, Nat.lt_of_lt_of_le hlt hb.size, fun i hi => by simp only [hk]; exact h i hi⟩
theorem RecsIn.take {w : World} {a : Option Addr} {ls : List RecD} (h : RecsIn w a ls) (n : Nat) : RecsIn w a (ls.take n) := by
  rcases h with h | ⟨b, o, e, hlt, h⟩
  · exact Or.inl (by rw [h]; simp)
  · refine Or.inr ⟨b, o, e, hlt, fun i hi => ?_⟩
    rw [List.getElem_take]
    exact h i (by simp at hi; omega)

/-- The records lie in a block of their own, from B on, that may be written. -/
def RecsOwn (w : World) (B : Nat) (a : Option Addr) (ls : List RecD) : Prop :=
  ls = [] ∨ ∃ g o cur t, a = some ⟨g, o, none⟩ ∧ B ≤ g ∧ w.heap[g]? = some (.cells cur t (0, 0)) ∧ RecsAt w g o ls
theorem RecsOwn.recs {w : World} {B : Nat} {a : Option Addr} {ls : List RecD} (h : RecsOwn w B a ls) : RecsIn w a ls := by
  rcases h with h | ⟨g, o, cur, t, rfl, _, hb, h⟩
  · exact Or.inl h
  · exact Or.inr ⟨g, o, rfl, lt_of_block hb, h⟩
theorem RecsOwn.later {w w' : World} {B : Nat} {a : Option Addr} {ls : List RecD} (h : RecsOwn w B a ls) (hb : Below w.heap.size w w') : RecsOwn w' B a ls := by
  rcases h with h | ⟨g, o, cur, t, rfl, hB, hg, h⟩
  · exact Or.inl h
  · have hlt := lt_of_block hg
    have hk : ∀ j, w'.cell? ⟨g, j, none⟩ = w.cell? ⟨g, j, none⟩ := fun j => World.cell?_of_block (hb.block g hlt)
    exact Or.inr ⟨g, o, cur, t, rfl, hB, (hb.block g hlt).trans hg, fun i hi => by simp only [hk]; exact h i hi⟩
theorem RecsOwn.mono {w : World} {B B' : Nat} {a : Option Addr} {ls : List RecD} (h : RecsOwn w B a ls) (hB : B' ≤ B) : RecsOwn w B' a ls := by
  rcases h with h | ⟨g, o, cur, t, rfl, hB', hg, h⟩
  · exact Or.inl h
  · exact Or.inr ⟨g, o, cur, t, rfl, Nat.le_trans hB hB', hg, h⟩

/-- The cells of label j, from o on. -/
def RowRec (cur : Array Value) (o j : Nat) (f : RecD) : Prop := cur[o + j * 4]? = some (.int .i64 f.kind) ∧ cur[o + j * 4 + 1]? = some (.string f.tenant) ∧ cur[o + j * 4 + 2]? = some (.string f.text) ∧ cur[o + j * 4 + 3]? = some (.int .i64 f.num)
theorem RowRec.set {cur : Array Value} {o j : Nat} {f : RecD} (h : RowRec cur o j f) {p : Nat} (hp : p < o + j * 4 ∨ o + j * 4 + 3 < p) (v : Value) : RowRec (cur.setIfInBounds p v) o j f := by
  obtain ⟨a1, a2, a3, a4⟩ := h
  refine ⟨?_, ?_, ?_, ?_⟩
  · rw [Array.getElem?_setIfInBounds_ne (by omega)]; exact a1
  · rw [Array.getElem?_setIfInBounds_ne (by omega)]; exact a2
  · rw [Array.getElem?_setIfInBounds_ne (by omega)]; exact a3
  · rw [Array.getElem?_setIfInBounds_ne (by omega)]; exact a4
theorem RowRec.made (cur : Array Value) (o j : Nat) (f : RecD) (h : o + j * 4 + 3 < cur.size) :
    RowRec ((((cur.setIfInBounds (o + j * 4) (.int .i64 f.kind)).setIfInBounds (o + j * 4 + 1) (.string f.tenant)).setIfInBounds (o + j * 4 + 2) (.string f.text)).setIfInBounds (o + j * 4 + 3) (.int .i64 f.num)) o j f := by
  refine ⟨?_, ?_, ?_, ?_⟩ <;> simp [Array.getElem?_setIfInBounds] <;> omega
theorem recsAt_of_rows {w : World} {g o : Nat} {cur : Array Value} {t : TypeId} {fs : List RecD} (h : Blk w g cur t) (hr : ∀ j (hj : j < fs.length), RowRec cur o j fs[j]) : RecsAt w g o fs := by
  intro j hj
  simp only [h.cell]
  exact hr j hj
theorem rows_of_recsAt {w : World} {g o : Nat} {cur : Array Value} {t : TypeId} {fs : List RecD} (h : Blk w g cur t) (hf : RecsAt w g o fs) : ∀ j (hj : j < fs.length), RowRec cur o j fs[j] := by
  intro j hj
  have := hf j hj
  simp only [h.cell] at this
  exact this
theorem recs_size {cur : Array Value} {o : Nat} {fs : List RecD} (hr : ∀ j (hj : j < fs.length), RowRec cur o j fs[j]) : fs.length = 0 ∨ o + fs.length * 4 ≤ cur.size := by
  by_cases h : fs.length = 0
  · exact Or.inl h
  · right
    have := (hr (fs.length - 1) (by omega)).2.2.2
    have := (Array.getElem?_eq_some_iff.1 this).1
    omega
theorem recs_of_row {w : World} {B : Nat} {e : TypeId} {a : Option Addr} {cap : Nat} {l : List RecD}
    (h : w.ownsRow B e 4 (.slice a l.length cap) l.length (l.flatMap fun x => [.int .i64 x.kind, .string x.tenant, .string x.text, .int .i64 x.num])) : RecsOwn w B a l := by
  rcases h.2 with ⟨_, hl⟩ | ⟨g, cap', cur, he, hB, hg, _, _, hsz, htk⟩
  · exact Or.inl (List.length_eq_zero_iff.1 hl)
  · simp only [Value.slice.injEq] at he
    have hf : ∀ (l : List RecD) i (hi : i < l.length), (l.flatMap fun x => [Value.int .i64 x.kind, .string x.tenant, .string x.text, .int .i64 x.num])[i * 4]? = some (.int .i64 l[i].kind) ∧ (l.flatMap fun x => [Value.int .i64 x.kind, .string x.tenant, .string x.text, .int .i64 x.num])[i * 4 + 1]? = some (.string l[i].tenant) ∧ (l.flatMap fun x => [Value.int .i64 x.kind, .string x.tenant, .string x.text, .int .i64 x.num])[i * 4 + 2]? = some (.string l[i].text) ∧ (l.flatMap fun x => [Value.int .i64 x.kind, .string x.tenant, .string x.text, .int .i64 x.num])[i * 4 + 3]? = some (.int .i64 l[i].num) := by
      intro l
      induction l with
      | nil => intro i hi; exact absurd hi (by simp)
      | cons x r ih =>
        intro i hi
        cases i with
        | zero => simp
        | succ i =>
          have := ih i (by simpa using hi)
          simp only [List.flatMap_cons, List.cons_append, List.nil_append, List.getElem_cons_succ]
          refine ⟨?_, ?_, ?_, ?_⟩
          · rw [show (i + 1) * 4 = i * 4 + 1 + 1 + 1 + 1 by omega, List.getElem?_cons_succ, List.getElem?_cons_succ, List.getElem?_cons_succ, List.getElem?_cons_succ]; exact this.1
          · rw [show (i + 1) * 4 + 1 = i * 4 + 1 + 1 + 1 + 1 + 1 by omega, List.getElem?_cons_succ, List.getElem?_cons_succ, List.getElem?_cons_succ, List.getElem?_cons_succ]; exact this.2.1
          · rw [show (i + 1) * 4 + 2 = i * 4 + 2 + 1 + 1 + 1 + 1 by omega, List.getElem?_cons_succ, List.getElem?_cons_succ, List.getElem?_cons_succ, List.getElem?_cons_succ]; exact this.2.2.1
          · rw [show (i + 1) * 4 + 3 = i * 4 + 3 + 1 + 1 + 1 + 1 by omega, List.getElem?_cons_succ, List.getElem?_cons_succ, List.getElem?_cons_succ, List.getElem?_cons_succ]; exact this.2.2.2
    refine Or.inr ⟨g, 0, cur, e, he.1, hB, hg, fun i hi => ?_⟩
    have h2 : ∀ j, j < l.length * 4 → cur[j]? = (l.flatMap fun x => [Value.int .i64 x.kind, .string x.tenant, .string x.text, .int .i64 x.num])[j]? := fun j hj => by
      rw [← htk, List.getElem?_take_of_lt hj, Array.getElem?_toList]
    rw [cell_of_row w g _ cur _ _ hg, cell_of_row w g _ cur _ _ hg, cell_of_row w g _ cur _ _ hg, cell_of_row w g _ cur _ _ hg, Nat.zero_add, h2 _ (by omega), h2 _ (by omega), h2 _ (by omega), h2 _ (by omega)]
    exact hf l i hi

def recBulk : List RecD → Nat
  | [] => 0
  | f :: r => f.tenant.size + f.text.size + recBulk r
theorem recBulk_append (a b : List RecD) : recBulk (a ++ b) = recBulk a + recBulk b := by
  induction a with
  | nil => simp [recBulk]
  | cons f r ih => simp [recBulk, ih]; omega
theorem recBulk_take_succ (fs : List RecD) (k : Nat) (h : k < fs.length) : recBulk (fs.take (k + 1)) = recBulk (fs.take k) + (fs[k].tenant.size + fs[k].text.size) := by
  rw [List.take_succ_eq_append_getElem h, recBulk_append]; simp [recBulk]
theorem recBulk_take_le (fs : List RecD) (k : Nat) : recBulk (fs.take k) ≤ recBulk fs := by
  have := recBulk_append (fs.take k) (fs.drop k)
  rw [List.take_append_drop] at this; omega
def szRc (left : Int) (f : RecD) : Int := if (f.tenant.size + f.text.size : Int) ≤ left then left - f.tenant.size - f.text.size else -1
def szRecs (left : Int) (fs : List RecD) : Int := if (fs.length + recBulk fs : Int) ≤ left then left - fs.length - recBulk fs else -1
def ShortR (fs : List RecD) : Prop := ∀ i (h : i < fs.length), fs[i].tenant.size ≤ maxLen ∧ fs[i].text.size ≤ maxLen

end Go.Proofs.Ytgpgacncmoiefaa
