import Derived.WalkKit
import Derived.Below
import Derived.BigQuiet
import Derived.WalkLawsBesides
import Derived.WalkSpells
namespace Go.Proofs.YtojeemogabhaoaaGreatDoor
open Go.RowKit
structure FileD where
  name : ByteArray
  data : ByteArray
  synced : Int
def FilesAt (w : World) (b o : Nat) (fs : List FileD) : Prop :=
  ∀ i (h : i < fs.length), w.cell? ⟨b, o + i * 3, none⟩ = some (.string fs[i].name) ∧
    w.cell? ⟨b, o + i * 3 + 1, none⟩ = some (.string fs[i].data) ∧ w.cell? ⟨b, o + i * 3 + 2, none⟩ = some (.int .i64 fs[i].synced)
theorem bcell {B : Nat} {W w1 : World} (hb : Below B W w1) : (∀ b o, b < B → w1.cell? ⟨b, o, none⟩ = W.cell? ⟨b, o, none⟩) ∧ (∀ b o, b < B → w1.frozen? ⟨b, o, none⟩ = W.frozen? ⟨b, o, none⟩) :=
  ⟨fun b o h => hb.cell (p := ⟨b, o, none⟩) h, fun b o h => hb.frozen (p := ⟨b, o, none⟩) h⟩
theorem ret_int {k : IntKind} {a b : Int} (h : a = b) : Ending.returned (.int k a) = .returned (.int k b) := by rw [h]
theorem ret_bool {a b : Bool} (h : a = b) : Ending.returned (.bool a) = .returned (.bool b) := by rw [h]
structure Later (w : World) where
  w' : World
  h : Below w.heap.size w w'
theorem Later.there (w : World) : Nonempty (Later w) := ⟨⟨w, Below.refl _ _⟩⟩
theorem Later.cell {w : World} (x : Later w) {b o : Nat} {v : Value} (h : w.cell? ⟨b, o, none⟩ = some v) : x.w'.cell? ⟨b, o, none⟩ = some v := by
  have hb : b < w.heap.size := by
    rcases Nat.lt_or_ge b w.heap.size with hlt | hge
    · exact hlt
    · simp [World.cell?, Array.getElem?_eq_none hge] at h
  rw [← h]; exact x.h.cell hb
theorem Later.cells {w : World} {b o : Nat} {v : Value} (h : w.cell? ⟨b, o, none⟩ = some v) : ∀ x : Later w, x.w'.cell? ⟨b, o, none⟩ = some v := fun x => x.cell h
theorem wp_region_later {P : Program} {id : Nat} {Q : Exit → Act → World → Prop} {a : Act} {w : World} {l : List Oper} (hm : P.follows .mixedOrders = true) (hB : Region.lexB .any l.toArray = true)
    (h : wpQuiet P l.toArray (fun w' => ∃ x : Later w, w' = x.w') (fun a' => ∀ w', (∃ x : Later w, w' = x.w') → Q .normal a' w') l a) : (Code.region id l.toArray true).wp P Q a w :=
  wp_region_quiet (C := fun w' => ∃ x : Later w, w' = x.w') hm hB ⟨⟨w.drew, (Below.refl _ _).drew⟩, rfl⟩ (by simpa using h)
theorem calls_later {P : Program} {f : FuncId} {args : Array Value} {w : World} {x : Later w} {v : Value}
    (h : Calls P f args x.w' fun e w'' => e = .returned v ∧ Below x.w'.heap.size x.w' w'') : Calls P f args x.w' fun e w'' => e = .returned v ∧ ∃ y : Later w, w'' = y.w' :=
  h.mono fun _ w'' ⟨he, hb⟩ => ⟨he, ⟨w'', x.h.trans (hb.mono x.h.size)⟩, rfl⟩
theorem calls_later_same {P : Program} {f : FuncId} {args : Array Value} {w : World} {x : Later w} {v : Value}
    (h : Calls P f args x.w' fun e w'' => e = .returned v ∧ w'' = x.w') : Calls P f args x.w' fun e w'' => e = .returned v ∧ ∃ y : Later w, w'' = y.w' :=
  h.mono fun _ _ ⟨he, hb⟩ => ⟨he, x, hb⟩
def szF (left : Int) (f : FileD) : Int := if (f.name.size + f.data.size : Int) ≤ left then left - f.name.size - f.data.size else -1
def FilesIn (w : World) (a : Option Addr) (fs : List FileD) : Prop := fs = [] ∨ ∃ b o, a = some ⟨b, o, none⟩ ∧ b < w.heap.size ∧ FilesAt w b o fs
theorem FilesIn.later {w w' : World} {a : Option Addr} {fs : List FileD} (h : FilesIn w a fs) (hb : Below w.heap.size w w') : FilesIn w' a fs := by
  rcases h with h | ⟨b, o, rfl, hlt, h⟩
  · exact Or.inl h
  · refine Or.inr ⟨b, o, rfl, Nat.lt_of_lt_of_le hlt hb.size, fun i hi => ?_⟩
    obtain ⟨h1, h2, h3⟩ := h i hi
    exact ⟨by rw [← h1]; exact hb.cell hlt, by rw [← h2]; exact hb.cell hlt, by rw [← h3]; exact hb.cell hlt⟩
theorem FilesIn.at {w : World} {a : Option Addr} {fs : List FileD} (h : FilesIn w a fs) {i : Nat} (hi : i < fs.length) :
    ∃ b o, a = some ⟨b, o, none⟩ ∧ b < w.heap.size ∧ w.cell? ⟨b, o + i * 3, none⟩ = some (.string fs[i].name) ∧
      w.cell? ⟨b, o + i * 3 + 1, none⟩ = some (.string fs[i].data) ∧ w.cell? ⟨b, o + i * 3 + 2, none⟩ = some (.int .i64 fs[i].synced) := by
  rcases h with rfl | ⟨b, o, rfl, hlt, h⟩
  · exact absurd hi (by simp)
  · exact ⟨b, o, rfl, hlt, h i hi⟩
theorem FilesIn.setCell {w : World} {g o : Nat} {fs : List FileD} (h : FilesIn w (some ⟨g, o, none⟩) fs) {p : Addr} (hp : p.block ≠ g) (v : Value) : FilesIn (w.setCell p v) (some ⟨g, o, none⟩) fs := by
  rcases h with h | ⟨b, o', e, hlt, h⟩
  · exact Or.inl h
  · simp only [Option.some.injEq, Addr.mk.injEq, and_true] at e
    obtain ⟨rfl, rfl⟩ := e
    have hk : ∀ j, (w.setCell p v).cell? ⟨g, j, none⟩ = w.cell? ⟨g, j, none⟩ := fun j => World.cell?_of_block (Below.heap_setCell w p v g (Ne.symm hp))
    refine Or.inr ⟨g, o, rfl, by simpa [World.setCell] using hlt, fun i hi => ?_⟩
    simp only [hk]
    exact h i hi
def bulk : List FileD → Nat
  | [] => 0
  | f :: r => f.name.size + f.data.size + bulk r
theorem bulk_append (a b : List FileD) : bulk (a ++ b) = bulk a + bulk b := by
  induction a with
  | nil => simp [bulk]
  | cons f r ih => simp [bulk, ih]; omega
theorem bulk_take_succ (fs : List FileD) (k : Nat) (h : k < fs.length) : bulk (fs.take (k + 1)) = bulk (fs.take k) + (fs[k].name.size + fs[k].data.size) := by
  rw [List.take_succ_eq_append_getElem h, bulk_append]; simp [bulk]
theorem bulk_take_le (fs : List FileD) (k : Nat) : bulk (fs.take k) ≤ bulk fs := by
  have := bulk_append (fs.take k) (fs.drop k)
  rw [List.take_append_drop] at this; omega
def sumLen : List FileD → Nat
  | [] => 0
  | f :: r => f.data.size + sumLen r
theorem sumLen_append (a b : List FileD) : sumLen (a ++ b) = sumLen a + sumLen b := by
  induction a with
  | nil => simp [sumLen]
  | cons f r ih => simp [sumLen, ih]; omega
theorem sumLen_take_succ (fs : List FileD) (k : Nat) (h : k < fs.length) : sumLen (fs.take (k + 1)) = sumLen (fs.take k) + fs[k].data.size := by
  rw [List.take_succ_eq_append_getElem h, sumLen_append]; simp [sumLen]
theorem sumLen_take_le (fs : List FileD) (k : Nat) : sumLen (fs.take k) ≤ sumLen fs := by
  have := sumLen_append (fs.take k) (fs.drop k)
  rw [List.take_append_drop] at this; omega
theorem sumLen_le_bulk (fs : List FileD) : sumLen fs ≤ bulk fs := by
  induction fs with
  | nil => exact Nat.le_refl _
  | cons f r ih => simp [sumLen, bulk]; omega
def szFs (left : Int) (fs : List FileD) : Int := if (fs.length + bulk fs : Int) ≤ left then left - fs.length - bulk fs else -1
def Short (fs : List FileD) : Prop := ∀ i (h : i < fs.length), fs[i].name.size ≤ maxLen ∧ fs[i].data.size ≤ maxLen
def BoxAt (w : World) (b : Nat) (v0 v1 v2 v3 v4 v5 : Value) : Prop :=
  w.cell? ⟨b, 0, none⟩ = some v0 ∧ w.cell? ⟨b, 1, none⟩ = some v1 ∧ w.cell? ⟨b, 2, none⟩ = some v2 ∧ w.cell? ⟨b, 3, none⟩ = some v3 ∧ w.cell? ⟨b, 4, none⟩ = some v4 ∧ w.cell? ⟨b, 5, none⟩ = some v5
theorem BoxAt.new (w : World) (v0 v1 v2 v3 v4 v5 : Value) (t : TypeId) : BoxAt (w.alloc (.cells #[v0, v1, v2, v3, v4, v5] t)) w.heap.size v0 v1 v2 v3 v4 v5 := by
  simp [BoxAt, go_sem]
theorem BoxAt.lt {w : World} {b : Nat} {v0 v1 v2 v3 v4 v5 : Value} (h : BoxAt w b v0 v1 v2 v3 v4 v5) : b < w.heap.size := by
  rcases Nat.lt_or_ge b w.heap.size with hlt | hge
  · exact hlt
  · have := h.1
    simp [World.cell?, Array.getElem?_eq_none hge] at this
theorem BoxAt.later {w w' : World} {b : Nat} {v0 v1 v2 v3 v4 v5 : Value} (h : BoxAt w b v0 v1 v2 v3 v4 v5) (hb : Below w.heap.size w w') : BoxAt w' b v0 v1 v2 v3 v4 v5 := by
  have hl := h.lt
  obtain ⟨h0, h1, h2, h3, h4, h5⟩ := h
  exact ⟨(hb.cell hl).trans h0, (hb.cell hl).trans h1, (hb.cell hl).trans h2, (hb.cell hl).trans h3, (hb.cell hl).trans h4, (hb.cell hl).trans h5⟩
theorem bto {a b c : World} (h : Below a.heap.size a b) (k : Below b.heap.size b c) : Below a.heap.size a c := h.trans (k.mono h.size)
theorem bnew (w : World) (o : Obj) : Below w.heap.size w (w.alloc o) := (Below.refl _ _).alloc (Nat.le_refl _) _
end Go.Proofs.YtojeemogabhaoaaGreatDoor
namespace Go.Proofs.YtojeemogabhaoaaGreatDoor
structure SgD where
  b : Nat
  t : Int
def hget (l : List SgD) (i : Nat) : SgD := l.getD i ⟨0, 0⟩
def swapL (l : List SgD) (i j : Nat) : List SgD := (l.set i (hget l j)).set j (hget l i)
theorem hget_eq {l : List SgD} {i : Nat} (h : i < l.length) : hget l i = l[i] := by simp [hget, List.getD, List.getElem?_eq_getElem h]
theorem swapL_length (l : List SgD) (i j : Nat) : (swapL l i j).length = l.length := by simp [swapL]
theorem hget_swap {l : List SgD} {i j : Nat} (hi : i < l.length) (hj : j < l.length) (k : Nat) : hget (swapL l i j) k = if k = j then hget l i else if k = i then hget l j else hget l k := by
  unfold swapL
  have e : ∀ (m : List SgD) (p : Nat) (x : SgD) (k : Nat), p < m.length → hget (m.set p x) k = if k = p then x else hget m k := fun m p x k hp => by
    by_cases h : k = p
    · subst h; simp [hget, List.getD, hp]
    · rw [if_neg h]; simp [hget, List.getD, Ne.symm h]
  rw [e _ _ _ _ (by simpa using hj), e _ _ _ _ hi]
theorem swapL_perm {l : List SgD} {i j : Nat} (hi : i < l.length) (hj : j < l.length) : (swapL l i j).Perm l := by
  unfold swapL
  rw [hget_eq hi, hget_eq hj]
  exact List.set_set_perm hi hj
def HeapOK (l : List SgD) : Prop := ∀ i, 0 < i → i < l.length → (hget l ((i - 1) / 2)).t ≤ (hget l i).t
def HeapUp (l : List SgD) (k : Nat) : Prop := (∀ i, 0 < i → i < l.length → i ≠ k → (hget l ((i - 1) / 2)).t ≤ (hget l i).t) ∧ ∀ i, 0 < i → i < l.length → (i - 1) / 2 = k → 0 < k → (hget l ((k - 1) / 2)).t ≤ (hget l i).t
theorem HeapOK.push {l : List SgD} (h : HeapOK l) (x : SgD) : HeapUp (l ++ [x]) l.length := by
  have e : ∀ i, i < l.length → hget (l ++ [x]) i = hget l i := fun i hi => by simp [hget, List.getD, List.getElem?_append_left hi]
  refine ⟨fun i h0 hi hne => ?_, fun i h0 hi hp _ => ?_⟩
  · simp at hi
    rw [e i (by omega), e _ (by omega)]
    exact h i h0 (by omega)
  · simp at hi
    omega
theorem HeapUp.done {l : List SgD} {k : Nat} (h : HeapUp l k) (hk : k = 0 ∨ (hget l ((k - 1) / 2)).t ≤ (hget l k).t) : HeapOK l := by
  intro i h0 hi
  by_cases e : i = k
  · subst e
    rcases hk with hk | hk
    · omega
    · exact hk
  · exact h.1 i h0 hi e
theorem HeapUp.step {l : List SgD} {k : Nat} (h : HeapUp l k) (hk : k < l.length) (h0 : 0 < k) (hlt : (hget l k).t < (hget l ((k - 1) / 2)).t) : HeapUp (swapL l k ((k - 1) / 2)) ((k - 1) / 2) := by
  have hp : (k - 1) / 2 < l.length := by omega
  have hpk : (k - 1) / 2 ≠ k := by omega
  refine ⟨fun i hi0 hi hne => ?_, fun i hi0 hi hpi hp0 => ?_⟩
  · rw [swapL_length] at hi
    rw [hget_swap hk hp, hget_swap hk hp, if_neg hne]
    by_cases e1 : i = k
    · subst e1
      rw [if_pos rfl, if_pos rfl]; omega
    · rw [if_neg e1]
      by_cases e2 : (i - 1) / 2 = (k - 1) / 2
      · rw [if_pos e2]
        have := h.1 i hi0 hi e1
        rw [e2] at this; omega
      · rw [if_neg e2]
        by_cases e3 : (i - 1) / 2 = k
        · rw [if_pos e3]; exact h.2 i hi0 hi e3 h0
        · rw [if_neg e3]; exact h.1 i hi0 hi e1
  · rw [swapL_length] at hi
    rw [hget_swap hk hp, hget_swap hk hp, if_neg (by omega : ((k - 1) / 2 - 1) / 2 ≠ (k - 1) / 2), if_neg (by omega : ((k - 1) / 2 - 1) / 2 ≠ k), if_neg (by omega : i ≠ (k - 1) / 2)]
    have hg := h.1 ((k - 1) / 2) hp0 hp hpk
    by_cases e1 : i = k
    · rw [if_pos e1]; exact hg
    · rw [if_neg e1]
      have := h.1 i hi0 hi e1
      rw [hpi] at this; omega
def siftUp (l : List SgD) : Nat → List SgD
  | 0 => l
  | k + 1 => if (hget l (k + 1)).t < (hget l (k / 2)).t then siftUp (swapL l (k + 1) (k / 2)) (k / 2) else l
theorem siftUp_step {l : List SgD} {k : Nat} (h0 : 0 < k) : siftUp l k = if (hget l k).t < (hget l ((k - 1) / 2)).t then siftUp (swapL l k ((k - 1) / 2)) ((k - 1) / 2) else l := by
  obtain ⟨j, rfl⟩ : ∃ j, k = j + 1 := ⟨k - 1, by omega⟩
  rw [siftUp, Nat.add_sub_cancel]
theorem siftUp_zero (l : List SgD) : siftUp l 0 = l := by rw [siftUp]
theorem siftUp_says : ∀ (k : Nat) (l : List SgD), k < l.length → HeapUp l k → HeapOK (siftUp l k) ∧ (siftUp l k).Perm l ∧ (siftUp l k).length = l.length
  | 0, l, _, h => by rw [siftUp_zero]; exact ⟨h.done (Or.inl rfl), List.Perm.refl _, rfl⟩
  | k + 1, l, hk, h => by
    rw [siftUp_step (by omega)]
    by_cases hlt : (hget l (k + 1)).t < (hget l ((k + 1 - 1) / 2)).t
    · rw [if_pos hlt]
      obtain ⟨a, b, c⟩ := siftUp_says ((k + 1 - 1) / 2) (swapL l (k + 1) ((k + 1 - 1) / 2)) (by rw [swapL_length]; omega) (h.step hk (by omega) hlt)
      exact ⟨a, b.trans (swapL_perm hk (by omega)), c.trans (swapL_length _ _ _)⟩
    · rw [if_neg hlt]
      exact ⟨h.done (Or.inr (by omega)), List.Perm.refl _, rfl⟩
def pushL (l : List SgD) (x : SgD) : List SgD := siftUp (l ++ [x]) l.length
theorem pushL_says {l : List SgD} (h : HeapOK l) (x : SgD) : HeapOK (pushL l x) ∧ (pushL l x).Perm (x :: l) ∧ (pushL l x).length = l.length + 1 := by
  obtain ⟨a, b, c⟩ := siftUp_says l.length (l ++ [x]) (by simp) (h.push x)
  exact ⟨a, b.trans (List.perm_append_singleton x l), by rw [pushL, c]; simp⟩
end Go.Proofs.YtojeemogabhaoaaGreatDoor
namespace Go.Proofs.YtojeemogabhaoaaGreatDoor
open Go.RowKit
structure But (g : Nat) (w w' : World) : Prop where
  os : w'.os = w.os
  tape : w'.tape = w.tape
  output : w'.output = w.output
  size : w.heap.size ≤ w'.heap.size
  block : ∀ k, k < w.heap.size → k ≠ g → w'.heap[k]? = w.heap[k]?
theorem But.refl (g : Nat) (w : World) : But g w w := ⟨rfl, rfl, rfl, Nat.le_refl _, fun _ _ _ => rfl⟩
theorem But.trans {g : Nat} {a b c : World} (h : But g a b) (k : But g b c) : But g a c :=
  ⟨k.os.trans h.os, k.tape.trans h.tape, k.output.trans h.output, Nat.le_trans h.size k.size, fun i hi hg => (k.block i (Nat.lt_of_lt_of_le hi h.size) hg).trans (h.block i hi hg)⟩
theorem But.of {g : Nat} {w w' : World} (h : Below w.heap.size w w') : But g w w' := ⟨h.os, h.tape, h.output, h.size, fun k hk _ => h.block k hk⟩
theorem But.setCell {g : Nat} {a w : World} (h : But g a w) (o : Nat) (v : Value) : But g a (w.setCell ⟨g, o, none⟩ v) :=
  h.trans ⟨rfl, rfl, rfl, by simp [World.setCell], fun k _ hk => Below.heap_setCell _ _ _ _ hk⟩
theorem But.below {g B : Nat} {w w' : World} (h : But g w w') (hB : B ≤ g) (hs : B ≤ w.heap.size) : Below B w w' :=
  ⟨h.os, h.tape, h.output, h.size, fun k hk => h.block k (by omega) (by omega)⟩
theorem FilesIn.but {g b o : Nat} {w w' : World} {fs : List FileD} (h : FilesIn w (some ⟨b, o, none⟩) fs) (hb : But g w w') (hg : b ≠ g) : FilesIn w' (some ⟨b, o, none⟩) fs := by
  rcases h with h | ⟨b', o', e, hlt, h⟩
  · exact Or.inl h
  · simp only [Option.some.injEq, Addr.mk.injEq, and_true] at e
    obtain ⟨rfl, rfl⟩ := e
    have hk : ∀ j, w'.cell? ⟨b, j, none⟩ = w.cell? ⟨b, j, none⟩ := fun j => World.cell?_of_block (hb.block b hlt hg)
    exact Or.inr ⟨b, o, rfl, Nat.lt_of_lt_of_le hlt hb.size, fun i hi => by simp only [hk]; exact h i hi⟩
def Owned (w : World) (B : Nat) (a : Option Addr) (fs : List FileD) : Prop :=
  fs = [] ∨ ∃ g o cur t, a = some ⟨g, o, none⟩ ∧ B ≤ g ∧ w.heap[g]? = some (.cells cur t (0, 0)) ∧ FilesAt w g o fs
theorem lt_of_block {w : World} {g : Nat} {x : Obj} (h : w.heap[g]? = some x) : g < w.heap.size := by
  rcases Nat.lt_or_ge g w.heap.size with hlt | hge
  · exact hlt
  · rw [Array.getElem?_eq_none hge] at h; exact absurd h (by simp)
theorem Owned.files {w : World} {B : Nat} {a : Option Addr} {fs : List FileD} (h : Owned w B a fs) : FilesIn w a fs := by
  rcases h with h | ⟨g, o, cur, t, rfl, _, hb, h⟩
  · exact Or.inl h
  · exact Or.inr ⟨g, o, rfl, lt_of_block hb, h⟩
theorem Owned.later {w w' : World} {B : Nat} {a : Option Addr} {fs : List FileD} (h : Owned w B a fs) (hb : Below w.heap.size w w') : Owned w' B a fs := by
  rcases h with h | ⟨g, o, cur, t, rfl, hB, hg, h⟩
  · exact Or.inl h
  · have hlt := lt_of_block hg
    have hk : ∀ j, w'.cell? ⟨g, j, none⟩ = w.cell? ⟨g, j, none⟩ := fun j => World.cell?_of_block (hb.block g hlt)
    exact Or.inr ⟨g, o, cur, t, rfl, hB, (hb.block g hlt).trans hg, fun i hi => by simp only [hk]; exact h i hi⟩
theorem Owned.mono {w : World} {B B' : Nat} {a : Option Addr} {fs : List FileD} (h : Owned w B a fs) (hB : B' ≤ B) : Owned w B' a fs := by
  rcases h with h | ⟨g, o, cur, t, rfl, hB', hg, h⟩
  · exact Or.inl h
  · exact Or.inr ⟨g, o, cur, t, rfl, Nat.le_trans hB hB', hg, h⟩
def digits : Nat → Nat → List UInt8 → List UInt8
  | 0, _, acc => acc
  | fuel + 1, k, acc => if k = 0 then acc else digits fuel (k / 10) ((48 + UInt8.ofNat (k % 10)) :: acc)
def mt (k : Nat) : ByteArray := ⟨(109 :: digits k k []).toArray⟩
theorem digits_fuel : ∀ (f f' k : Nat) (acc : List UInt8), k ≤ f → k ≤ f' → digits f k acc = digits f' k acc
  | 0, 0, _, _, _, _ => rfl
  | 0, f' + 1, k, acc, h, _ => by have : k = 0 := by omega
                                  subst this; simp [digits]
  | f + 1, 0, k, acc, _, h => by have : k = 0 := by omega
                                 subst this; simp [digits]
  | f + 1, f' + 1, k, acc, h, h' => by
    rw [digits, digits]
    split
    · rfl
    · exact digits_fuel f f' (k / 10) _ (by omega) (by omega)
def markF (k : Nat) (i : Nat) : FileD := ⟨mt (k + 3 * i), mt (k + 3 * i + 1), ((k + 3 * i + 2 : Nat) : Int)⟩
def markL (k n : Nat) : List FileD := (List.range n).map (markF k)
theorem markL_length (k n : Nat) : (markL k n).length = n := by simp [markL]
theorem markL_get (k n i : Nat) (h : i < (markL k n).length) : (markL k n)[i] = markF k i := by simp [markL]
def Marked (w w' : World) (B : Nat) (a : Option Addr) (n : Nat) : Prop :=
  (n = 0 ∧ Below w.heap.size w w') ∨ 0 < n ∧ ∃ g o, a = some ⟨g, o, none⟩ ∧ B ≤ g ∧ But g w w'
theorem Marked.below {w w' : World} {B n : Nat} {a : Option Addr} (h : Marked w w' B a n) (hs : B ≤ w.heap.size) : Below B w w' := by
  rcases h with ⟨_, h⟩ | ⟨_, g, o, _, hB, h⟩
  · exact h.mono hs
  · exact h.below hB hs
theorem Marked.files {w w' : World} {B n b o : Nat} {a : Option Addr} {fs : List FileD} (h : Marked w w' B a n) (hf : FilesIn w (some ⟨b, o, none⟩) fs) (hne : ∀ g' o', a = some ⟨g', o', none⟩ → b ≠ g') : FilesIn w' (some ⟨b, o, none⟩) fs := by
  rcases h with ⟨_, h⟩ | ⟨_, g, o', rfl, _, h⟩
  · exact hf.later h
  · exact hf.but h (hne g o' rfl)
def Blk (w : World) (g : Nat) (cur : Array Value) (t : TypeId) : Prop := w.heap[g]? = some (.cells cur t (0, 0))
theorem Blk.set {w : World} {g : Nat} {cur : Array Value} {t : TypeId} (h : Blk w g cur t) (j : Nat) (v : Value) : Blk (w.setCell ⟨g, j, none⟩ v) g (cur.setIfInBounds j v) t := heap_setCell_same w g j cur t v h
theorem Blk.later {w w' : World} {g : Nat} {cur : Array Value} {t : TypeId} (h : Blk w g cur t) (hb : Below w.heap.size w w') : Blk w' g cur t := (hb.block g (lt_of_block h)).trans h
theorem Blk.cell {w : World} {g : Nat} {cur : Array Value} {t : TypeId} (h : Blk w g cur t) (j : Nat) : w.cell? ⟨g, j, none⟩ = cur[j]? := cell_of_row w g j cur t _ h
theorem Blk.free {w : World} {g : Nat} {cur : Array Value} {t : TypeId} (h : Blk w g cur t) (j : Nat) : w.frozen? ⟨g, j, none⟩ = false := frozen_of_row w g j cur t h
theorem Blk.there {w : World} {g : Nat} {cur : Array Value} {t : TypeId} (h : Blk w g cur t) {j : Nat} (hj : j < cur.size) : ∃ v, w.cell? ⟨g, j, none⟩ = some v := ⟨cur[j], by rw [h.cell]; exact Array.getElem?_eq_getElem hj⟩
def RowFile (cur : Array Value) (o j : Nat) (f : FileD) : Prop := cur[o + j * 3]? = some (.string f.name) ∧ cur[o + j * 3 + 1]? = some (.string f.data) ∧ cur[o + j * 3 + 2]? = some (.int .i64 f.synced)
theorem RowFile.set {cur : Array Value} {o j : Nat} {f : FileD} (h : RowFile cur o j f) {p : Nat} (hp : p < o + j * 3 ∨ o + j * 3 + 2 < p) (v : Value) : RowFile (cur.setIfInBounds p v) o j f := by
  obtain ⟨a1, a2, a3⟩ := h
  refine ⟨?_, ?_, ?_⟩
  · rw [Array.getElem?_setIfInBounds_ne (by omega)]; exact a1
  · rw [Array.getElem?_setIfInBounds_ne (by omega)]; exact a2
  · rw [Array.getElem?_setIfInBounds_ne (by omega)]; exact a3
theorem RowFile.made (cur : Array Value) (o j : Nat) (f : FileD) (h : o + j * 3 + 2 < cur.size) :
    RowFile (((cur.setIfInBounds (o + j * 3) (.string f.name)).setIfInBounds (o + j * 3 + 1) (.string f.data)).setIfInBounds (o + j * 3 + 2) (.int .i64 f.synced)) o j f := by
  refine ⟨?_, ?_, ?_⟩ <;> simp [Array.getElem?_setIfInBounds] <;> omega
theorem filesAt_of_rows {w : World} {g o : Nat} {cur : Array Value} {t : TypeId} {fs : List FileD} (h : Blk w g cur t) (hr : ∀ j (hj : j < fs.length), RowFile cur o j fs[j]) : FilesAt w g o fs := by
  intro j hj
  simp only [h.cell]
  exact hr j hj
theorem rows_of_filesAt {w : World} {g o : Nat} {cur : Array Value} {t : TypeId} {fs : List FileD} (h : Blk w g cur t) (hf : FilesAt w g o fs) : ∀ j (hj : j < fs.length), RowFile cur o j fs[j] := by
  intro j hj
  have := hf j hj
  simp only [h.cell] at this
  exact this
theorem rows_size {cur : Array Value} {o : Nat} {fs : List FileD} (hr : ∀ j (hj : j < fs.length), RowFile cur o j fs[j]) : fs = [] ∨ o + fs.length * 3 ≤ cur.size := by
  by_cases h : fs.length = 0
  · exact Or.inl (List.length_eq_zero_iff.1 h)
  · right
    have := (hr (fs.length - 1) (by omega)).2.2
    have := (Array.getElem?_eq_some_iff.1 this).1
    omega
end Go.Proofs.YtojeemogabhaoaaGreatDoor
namespace Go.Proofs.YtojeemogabhaoaaGreatDoor
open Go.RowKit
structure PairD where
  s : ByteArray
  n : Int
def PairsAt (w : World) (b o : Nat) (ls : List PairD) : Prop :=
  ∀ i (h : i < ls.length), w.cell? ⟨b, o + i * 2, none⟩ = some (.string ls[i].s) ∧ w.cell? ⟨b, o + i * 2 + 1, none⟩ = some (.int .i64 ls[i].n)
def PairsIn (w : World) (a : Option Addr) (ls : List PairD) : Prop := ls = [] ∨ ∃ b o, a = some ⟨b, o, none⟩ ∧ b < w.heap.size ∧ PairsAt w b o ls
theorem PairsIn.later {w w' : World} {a : Option Addr} {ls : List PairD} (h : PairsIn w a ls) (hb : Below w.heap.size w w') : PairsIn w' a ls := by
  rcases h with h | ⟨b, o, rfl, hlt, h⟩
  · exact Or.inl h
  · refine Or.inr ⟨b, o, rfl, Nat.lt_of_lt_of_le hlt hb.size, fun i hi => ?_⟩
    obtain ⟨h1, h2⟩ := h i hi
    exact ⟨by rw [← h1]; exact hb.cell hlt, by rw [← h2]; exact hb.cell hlt⟩
theorem PairsIn.at {w : World} {a : Option Addr} {ls : List PairD} (h : PairsIn w a ls) {i : Nat} (hi : i < ls.length) :
    ∃ b o, a = some ⟨b, o, none⟩ ∧ b < w.heap.size ∧ w.cell? ⟨b, o + i * 2, none⟩ = some (.string ls[i].s) ∧ w.cell? ⟨b, o + i * 2 + 1, none⟩ = some (.int .i64 ls[i].n) := by
  rcases h with rfl | ⟨b, o, rfl, hlt, h⟩
  · exact absurd hi (by simp)
  · exact ⟨b, o, rfl, hlt, h i hi⟩
theorem PairsIn.but {g : Nat} {w w' : World} {a : Option Addr} {l : List PairD} (h : PairsIn w a l) (hb : But g w w') (hg : l = [] ∨ ∃ b o, a = some ⟨b, o, none⟩ ∧ b ≠ g) : PairsIn w' a l := by
  rcases hg with hg | ⟨b, o, rfl, hne⟩
  · exact Or.inl hg
  · rcases h with h | ⟨b', o', e, hlt, h⟩
    · exact Or.inl h
    · simp only [Option.some.injEq, Addr.mk.injEq, and_true] at e
      obtain ⟨rfl, rfl⟩ := e
      have hk : ∀ j, w'.cell? ⟨b, j, none⟩ = w.cell? ⟨b, j, none⟩ := fun j => World.cell?_of_block (hb.block b hlt hne)
      exact Or.inr ⟨b, o, rfl, Nat.lt_of_lt_of_le hlt hb.size, fun i hi => by simp only [hk]; exact h i hi⟩
theorem PairsIn.take {w : World} {a : Option Addr} {ls : List PairD} (h : PairsIn w a ls) (n : Nat) : PairsIn w a (ls.take n) := by
  rcases h with h | ⟨b, o, e, hlt, h⟩
  · exact Or.inl (by rw [h]; simp)
  · refine Or.inr ⟨b, o, e, hlt, fun i hi => ?_⟩
    rw [List.getElem_take]
    exact h i (by simp at hi; omega)
def PairsOwn (w : World) (B : Nat) (a : Option Addr) (ls : List PairD) : Prop :=
  ls = [] ∨ ∃ g o cur t, a = some ⟨g, o, none⟩ ∧ B ≤ g ∧ w.heap[g]? = some (.cells cur t (0, 0)) ∧ PairsAt w g o ls
theorem PairsOwn.pairs {w : World} {B : Nat} {a : Option Addr} {ls : List PairD} (h : PairsOwn w B a ls) : PairsIn w a ls := by
  rcases h with h | ⟨g, o, cur, t, rfl, _, hb, h⟩
  · exact Or.inl h
  · exact Or.inr ⟨g, o, rfl, lt_of_block hb, h⟩
theorem PairsOwn.later {w w' : World} {B : Nat} {a : Option Addr} {ls : List PairD} (h : PairsOwn w B a ls) (hb : Below w.heap.size w w') : PairsOwn w' B a ls := by
  rcases h with h | ⟨g, o, cur, t, rfl, hB, hg, h⟩
  · exact Or.inl h
  · have hlt := lt_of_block hg
    have hk : ∀ j, w'.cell? ⟨g, j, none⟩ = w.cell? ⟨g, j, none⟩ := fun j => World.cell?_of_block (hb.block g hlt)
    exact Or.inr ⟨g, o, cur, t, rfl, hB, (hb.block g hlt).trans hg, fun i hi => by simp only [hk]; exact h i hi⟩
theorem PairsOwn.mono {w : World} {B B' : Nat} {a : Option Addr} {ls : List PairD} (h : PairsOwn w B a ls) (hB : B' ≤ B) : PairsOwn w B' a ls := by
  rcases h with h | ⟨g, o, cur, t, rfl, hB', hg, h⟩
  · exact Or.inl h
  · exact Or.inr ⟨g, o, cur, t, rfl, Nat.le_trans hB hB', hg, h⟩
def RowPair (cur : Array Value) (o j : Nat) (f : PairD) : Prop := cur[o + j * 2]? = some (.string f.s) ∧ cur[o + j * 2 + 1]? = some (.int .i64 f.n)
theorem RowPair.set {cur : Array Value} {o j : Nat} {f : PairD} (h : RowPair cur o j f) {p : Nat} (hp : p < o + j * 2 ∨ o + j * 2 + 1 < p) (v : Value) : RowPair (cur.setIfInBounds p v) o j f := by
  obtain ⟨a1, a2⟩ := h
  refine ⟨?_, ?_⟩
  · rw [Array.getElem?_setIfInBounds_ne (by omega)]; exact a1
  · rw [Array.getElem?_setIfInBounds_ne (by omega)]; exact a2
theorem RowPair.made (cur : Array Value) (o j : Nat) (f : PairD) (h : o + j * 2 + 1 < cur.size) :
    RowPair ((cur.setIfInBounds (o + j * 2) (.string f.s)).setIfInBounds (o + j * 2 + 1) (.int .i64 f.n)) o j f := by
  refine ⟨?_, ?_⟩ <;> simp [Array.getElem?_setIfInBounds] <;> omega
theorem pairsAt_of_rows {w : World} {g o : Nat} {cur : Array Value} {t : TypeId} {fs : List PairD} (h : Blk w g cur t) (hr : ∀ j (hj : j < fs.length), RowPair cur o j fs[j]) : PairsAt w g o fs := by
  intro j hj
  simp only [h.cell]
  exact hr j hj
theorem rows_of_pairsAt {w : World} {g o : Nat} {cur : Array Value} {t : TypeId} {fs : List PairD} (h : Blk w g cur t) (hf : PairsAt w g o fs) : ∀ j (hj : j < fs.length), RowPair cur o j fs[j] := by
  intro j hj
  have := hf j hj
  simp only [h.cell] at this
  exact this
theorem pairs_size {cur : Array Value} {o : Nat} {fs : List PairD} (hr : ∀ j (hj : j < fs.length), RowPair cur o j fs[j]) : fs.length = 0 ∨ o + fs.length * 2 ≤ cur.size := by
  by_cases h : fs.length = 0
  · exact Or.inl h
  · right
    have := (hr (fs.length - 1) (by omega)).2
    have := (Array.getElem?_eq_some_iff.1 this).1
    omega
theorem pairs_of_row {w : World} {B : Nat} {e : TypeId} {a : Option Addr} {cap : Nat} {l : List PairD}
    (h : w.ownsRow B e 2 (.slice a l.length cap) l.length (l.flatMap fun x => [.string x.s, .int .i64 x.n])) : PairsOwn w B a l := by
  rcases h.2 with ⟨_, hl⟩ | ⟨g, cap', cur, he, hB, hg, _, _, hsz, htk⟩
  · exact Or.inl (List.length_eq_zero_iff.1 hl)
  · simp only [Value.slice.injEq] at he
    have hf : ∀ (l : List PairD) i (hi : i < l.length), (l.flatMap fun x => [Value.string x.s, .int .i64 x.n])[i * 2]? = some (.string l[i].s) ∧ (l.flatMap fun x => [Value.string x.s, .int .i64 x.n])[i * 2 + 1]? = some (.int .i64 l[i].n) := by
      intro l
      induction l with
      | nil => intro i hi; exact absurd hi (by simp)
      | cons x r ih =>
        intro i hi
        cases i with
        | zero => simp
        | succ i =>
          have := ih i (by simpa using hi)
          simp only [List.flatMap_cons, List.cons_append, List.nil_append, List.getElem_cons_succ]
          rw [show (i + 1) * 2 = i * 2 + 1 + 1 by omega, List.getElem?_cons_succ, List.getElem?_cons_succ, List.getElem?_cons_succ, List.getElem?_cons_succ]
          exact this
    refine Or.inr ⟨g, 0, cur, e, he.1, hB, hg, fun i hi => ?_⟩
    have h2 : ∀ j, j < l.length * 2 → cur[j]? = (l.flatMap fun x => [Value.string x.s, .int .i64 x.n])[j]? := fun j hj => by
      rw [← htk, List.getElem?_take_of_lt hj, Array.getElem?_toList]
    rw [cell_of_row w g _ cur _ _ hg, cell_of_row w g _ cur _ _ hg, Nat.zero_add, h2 _ (by omega), h2 _ (by omega)]
    exact hf l i hi
def pairBulk : List PairD → Nat
  | [] => 0
  | f :: r => f.s.size + pairBulk r
theorem pairBulk_append (a b : List PairD) : pairBulk (a ++ b) = pairBulk a + pairBulk b := by
  induction a with
  | nil => simp [pairBulk]
  | cons f r ih => simp [pairBulk, ih]; omega
theorem pairBulk_take_succ (fs : List PairD) (k : Nat) (h : k < fs.length) : pairBulk (fs.take (k + 1)) = pairBulk (fs.take k) + fs[k].s.size := by
  rw [List.take_succ_eq_append_getElem h, pairBulk_append]; simp [pairBulk]
theorem pairBulk_take_le (fs : List PairD) (k : Nat) : pairBulk (fs.take k) ≤ pairBulk fs := by
  have := pairBulk_append (fs.take k) (fs.drop k)
  rw [List.take_append_drop] at this; omega
def szPair (left : Int) (f : PairD) : Int := if (f.s.size : Int) ≤ left then left - f.s.size else -1
def szPairs (left : Int) (fs : List PairD) : Int := if (fs.length + pairBulk fs : Int) ≤ left then left - fs.length - pairBulk fs else -1
def ShortP (fs : List PairD) : Prop := ∀ i (h : i < fs.length), fs[i].s.size ≤ maxLen
def markP (k : Nat) (i : Nat) : PairD := ⟨mt (k + 2 * i), ((k + 2 * i + 1 : Nat) : Int)⟩
def markPairs (k n : Nat) : List PairD := (List.range n).map (markP k)
theorem markPairs_length (k n : Nat) : (markPairs k n).length = n := by simp [markPairs]
theorem markPairs_get (k n i : Nat) (h : i < (markPairs k n).length) : (markPairs k n)[i] = markP k i := by simp [markPairs]
end Go.Proofs.YtojeemogabhaoaaGreatDoor
namespace Go.Proofs.YtojeemogabhaoaaGreatDoor
open Go.RowKit
theorem hid {p : Prop} (h : p) : Hid p := h
theorem Blk.new (w : World) (cs : Array Value) (t : TypeId) : Blk (w.alloc (.cells cs t)) w.heap.size cs t := heap_alloc_new _ _
theorem Blk.alloc {w : World} {g : Nat} {cur : Array Value} {t : TypeId} (h : Blk w g cur t) (o : Obj) : Blk (w.alloc o) g cur t := h.later (bnew _ _)
theorem Blk.but {w w' : World} {g g' : Nat} {cur : Array Value} {t : TypeId} (h : Blk w g cur t) (hb : But g' w w') (hne : g ≠ g') : Blk w' g cur t := (hb.block g (lt_of_block h) hne).trans h
end Go.Proofs.YtojeemogabhaoaaGreatDoor
