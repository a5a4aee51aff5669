import Derived.Test.YteohobkigjmjlaaDoorProg
import Derived.Test.YteohobkigjmjlaaDoorLabI
import Derived.Test.YteohobkigjmjlaaDoorFlat
import Derived.Test.YteohobkigjmjlaaDoorCanonL
import Derived.Test.YteohobkigjmjlaaDoorAppE
import Derived.Test.YteohobkigjmjlaaDoorAppA
import Derived.Deep.AppendLies
namespace Go.Proofs.YteohobkigjmjlaaDoor
open Go.RowKit

def flatL (ls : List LabD) : List Value := ls.flatMap fun x => [.string x.name, .string x.value]
theorem flatL_append (a b : List LabD) : flatL (a ++ b) = flatL a ++ flatL b := by simp [flatL]
theorem flatL_one (f : LabD) : flatL [f] = [.string f.name, .string f.value] := rfl
theorem flatL_length (ls : List LabD) : (flatL ls).length = ls.length * 2 := by
  induction ls with
  | nil => rfl
  | cons f r ih => simp [flatL] at *; omega
theorem info_lab : ∃ i, Tryd.prog.info? 40 = some i ∧ i.zero = some (.agg #[.string ByteArray.empty, .string ByteArray.empty]) ∧ i.size = 2 ∧ i.bytes = 32 := by
  obtain ⟨i, hi, hz⟩ := Option.map_eq_some_iff.1 info_label
  simp only [Prod.mk.injEq] at hz
  exact ⟨i, hi, hz.1, hz.2.1, hz.2.2⟩
theorem news_twoL (W : World) (x : Obj) (cs : Array Value) (t : TypeId) : ∀ j u, cs.toList[j]? = some u → ((W.alloc x).alloc (.cells cs t)).cell? ((⟨W.heap.size + 1, 0, none⟩ : Addr).add j) = some u :=
  World.news_of_block (fr := (0, 0)) (by have h := heap_alloc_new (W.alloc x) (.cells cs t); simpa using h)
theorem isEmp_eq (l : LabD) : isEmp l = l.value.toList.isEmpty := by
  have e : ByteArray.empty.toList = [] := by rw [ByteArray.toList_eq]; rfl
  unfold isEmp
  rw [e]
  cases l.value.toList <;> rfl

/-- What is to be appended: nothing, or these cells at that address. -/
theorem flatL_cell (ls : List LabD) : ∀ u ∈ flatL ls, u.oneCell' = true := by
  intro u hu
  simp only [flatL, List.mem_flatMap, List.mem_cons, List.not_mem_nil, or_false] at hu
  obtain ⟨f, _, rfl | rfl⟩ := hu <;> rfl
/-- The cells of a row of labels, from label p on. -/
theorem flatL_at {w : World} {g : Nat} {ys : List LabD} (h : ∀ j u, (flatL ys)[j]? = some u → w.cell? ⟨g, j, none⟩ = some u) (p : Nat) : ∀ j u, (flatL (ys.drop p))[j]? = some u → w.cell? ⟨g, p * 2 + j, none⟩ = some u := by
  intro j u hu
  refine h _ _ ?_
  by_cases hp : p ≤ ys.length
  · have e : flatL ys = flatL (ys.take p) ++ flatL (ys.drop p) := by rw [← flatL_append, List.take_append_drop]
    have hl : (flatL (ys.take p)).length = p * 2 := by rw [flatL_length, List.length_take]; omega
    rw [e, List.getElem?_append_right (by omega), hl, Nat.add_sub_cancel_left]
    exact hu
  · rw [List.drop_of_length_le (by omega)] at hu
    simp [flatL] at hu
theorem flatL_take {ys : List LabD} {p : Nat} : ∀ (j : Nat) (u : Value), (flatL (ys.take p))[j]? = some u → (flatL ys)[j]? = some u := by
  intro j u hu
  have e : flatL ys = flatL (ys.take p) ++ flatL (ys.drop p) := by rw [← flatL_append, List.take_append_drop]
  have hj : j < (flatL (ys.take p)).length := (List.getElem?_eq_some_iff.1 hu).1
  rw [e, List.getElem?_append_left hj]
  exact hu
theorem row_cells {w : World} {B : Nat} {e : TypeId} {g cv : Nat} {ys : List LabD} (h : w.ownsRow B e 2 (.slice (some ⟨g, 0, none⟩) ys.length cv) ys.length (flatL ys)) : ys.length ≤ cv ∧ g < w.heap.size ∧ B ≤ g ∧ ∀ j u, (flatL ys)[j]? = some u → w.cell? ⟨g, j, none⟩ = some u := by
  rcases h.2 with ⟨he, _⟩ | ⟨g', cap', cur, he, hB, hb, hc, _, _, ht⟩
  · simp at he
  · simp only [Value.slice.injEq, Option.some.injEq, Addr.mk.injEq, and_true] at he
    obtain ⟨rfl, _, rfl⟩ := he
    refine ⟨hc, lt_of_block hb, hB, fun j u hu => ?_⟩
    rw [cell_of_row w g j cur _ _ hb, ← Array.getElem?_toList]
    rw [← ht] at hu
    have hj := (List.getElem?_eq_some_iff.1 hu).1
    rw [List.length_take] at hj
    rw [List.getElem?_take_of_lt (by omega)] at hu
    exact hu
theorem src_head {w : World} {g : Nat} {ys : List LabD} (h : ∀ j u, (flatL ys)[j]? = some u → w.cell? ⟨g, j, none⟩ = some u) (p : Nat) : SrcAt w (some ⟨g, 0, none⟩) p (flatL (ys.take p)) :=
  Or.inr ⟨_, rfl, fun j u hu => by rw [addr_add, Nat.zero_add]; exact h _ _ (flatL_take j u hu)⟩
theorem src_tail {w : World} {g cv : Nat} {ys : List LabD} (h : ∀ j u, (flatL ys)[j]? = some u → w.cell? ⟨g, j, none⟩ = some u) (p : Nat) (hc : ys.length ≤ cv) : SrcAt w (if cv = p then some ⟨g, 0, none⟩ else some ⟨g, p * 2, none⟩) (ys.length - p) (flatL (ys.drop p)) := by
  by_cases e : cv = p
  · exact Or.inl (by omega)
  · rw [if_neg e]
    exact Or.inr ⟨_, rfl, fun j u hu => by rw [addr_add]; exact flatL_at h p j u hu⟩
theorem src_tail' {w : World} {g : Nat} {ys : List LabD} (h : ∀ j u, (flatL ys)[j]? = some u → w.cell? ⟨g, j, none⟩ = some u) (p : Nat) : SrcAt w (some ⟨g, p * 2, none⟩) (ys.length - p) (flatL (ys.drop p)) :=
  Or.inr ⟨_, rfl, fun j u hu => by rw [addr_add]; exact flatL_at h p j u hu⟩
theorem src_one {w : World} {g : Nat} {x y : Value} {t : TypeId} (h : w.heap[g]? = some (.cells #[x, y] t (0, 0))) : SrcAt w (some ⟨g, 0, none⟩) 1 [x, y] :=
  Or.inr ⟨_, rfl, World.news_of_block (cs := #[x, y]) h⟩
theorem cells_later {W w : World} {g : Nat} {ys : List LabD} (h : ∀ j u, (flatL ys)[j]? = some u → W.cell? ⟨g, j, none⟩ = some u) (hg : g < W.heap.size) (hb : Below W.heap.size W w) : ∀ j u, (flatL ys)[j]? = some u → w.cell? ⟨g, j, none⟩ = some u :=
  fun j u hu => (hb.cell hg).trans (h j u hu)
theorem two_new (W : World) (x y : Obj) : ((W.alloc x).alloc y).drew.heap[W.heap.size + 1]? = some y := by
  have h := heap_alloc_new (W.alloc x) y
  have e : (W.alloc x).heap.size = W.heap.size + 1 := by simp
  rw [e] at h
  exact h
theorem two_old (W : World) (x y : Obj) : ((W.alloc x).alloc y).drew.heap[W.heap.size]? = some x := by
  have h := heap_alloc_new W x
  have h2 := (bnew (W.alloc x) y).block W.heap.size (by simp)
  exact h2.trans h
theorem rowE_a (W : World) (t : TypeId) : (W.alloc (.cells #[] t)).drew.ownsRow W.heap.size t 2 (.slice (some ⟨W.heap.size, 0, none⟩) 0 0) 0 [] :=
  ⟨rfl, Or.inr ⟨W.heap.size, 0, #[], rfl, Nat.le_refl _, heap_alloc_new _ _, Nat.le_refl _, Nat.zero_le _, rfl, rfl⟩⟩
theorem rowE_b (W : World) (t : TypeId) (x : Obj) : ((W.alloc (.cells #[] t)).alloc x).drew.ownsRow W.heap.size t 2 (.slice (some ⟨W.heap.size, 0, none⟩) 0 0) 0 [] :=
  ⟨rfl, Or.inr ⟨W.heap.size, 0, #[], rfl, Nat.le_refl _, two_old _ _ _, Nat.le_refl _, Nat.zero_le _, rfl, rfl⟩⟩
theorem rowE_c (W : World) (t : TypeId) (x : Obj) : ((W.alloc x).alloc (.cells #[] t)).drew.ownsRow W.heap.size t 2 (.slice (some ⟨W.heap.size + 1, 0, none⟩) 0 0) 0 [] :=
  ⟨rfl, Or.inr ⟨W.heap.size + 1, 0, #[], rfl, by omega, two_new _ _ _, Nat.le_refl _, Nat.zero_le _, rfl, rfl⟩⟩
end Go.Proofs.YteohobkigjmjlaaDoor
