import Derived.WalkKit
import Derived.Below
import Derived.BigQuiet
import Derived.WalkLawsBesides
import Derived.WalkSpells
import Derived.Test.YtndaihhjhllfcadGreatDoorProg
namespace Go.Proofs.YtndaihhjhllfcadGreatDoor
open Go.RowKit

structure FileD where
  name : ByteArray
  data : ByteArray
  synced : Int

/-- The files fs lie from ⟨b, o⟩ on, three cells each. -/
def FilesAt (w : World) (b o : Nat) (fs : List FileD) : Prop :=
  ∀ i (h : i < fs.length), w.cell? ⟨b, o + i * 3, none⟩ = some (.string fs[i].name) ∧
    w.cell? ⟨b, o + i * 3 + 1, none⟩ = some (.string fs[i].data) ∧ w.cell? ⟨b, o + i * 3 + 2, none⟩ = some (.int .i64 fs[i].synced)

theorem bcell {B : Nat} {W w1 : World} (hb : Below B W w1) : (∀ b o, b < B → w1.cell? ⟨b, o, none⟩ = W.cell? ⟨b, o, none⟩) ∧ (∀ b o, b < B → w1.frozen? ⟨b, o, none⟩ = W.frozen? ⟨b, o, none⟩) :=
  ⟨fun b o h => hb.cell (p := ⟨b, o, none⟩) h, fun b o h => hb.frozen (p := ⟨b, o, none⟩) h⟩

theorem ret_int {k : IntKind} {a b : Int} (h : a = b) : Ending.returned (.int k a) = .returned (.int k b) := by rw [h]
theorem ret_bool {a b : Bool} (h : a = b) : Ending.returned (.bool a) = .returned (.bool b) := by rw [h]

/-- A world in which all that lay in w lies as it did. -/
structure Later (w : World) where
  w' : World
  h : Below w.heap.size w w'

theorem Later.there (w : World) : Nonempty (Later w) := ⟨⟨w, Below.refl _ _⟩⟩

theorem Later.cell {w : World} (x : Later w) {b o : Nat} {v : Value} (h : w.cell? ⟨b, o, none⟩ = some v) : x.w'.cell? ⟨b, o, none⟩ = some v := by
  have hb : b < w.heap.size := by
    rcases Nat.lt_or_ge b w.heap.size with hlt | hge
    · exact hlt
    · simp [World.cell?, Array.getElem?_eq_none hge] at h
  rw [← h]; exact x.h.cell hb

theorem Later.cells {w : World} {b o : Nat} {v : Value} (h : w.cell? ⟨b, o, none⟩ = some v) : ∀ x : Later w, x.w'.cell? ⟨b, o, none⟩ = some v := fun x => x.cell h

/-- A region that draws its order, whose operations read what lay in w and whose callees turn nothing of it. -/
theorem wp_region_later {P : Program} {id : Nat} {Q : Exit → Act → World → Prop} {a : Act} {w : World} {l : List Oper} (hm : P.follows .mixedOrders = true) (hB : Region.lexB .any l.toArray = true)
    (h : wpQuiet P l.toArray (fun w' => ∃ x : Later w, w' = x.w') (fun a' => ∀ w', (∃ x : Later w, w' = x.w') → Q .normal a' w') l a) : (Code.region id l.toArray true).wp P Q a w :=
  wp_region_quiet (C := fun w' => ∃ x : Later w, w' = x.w') hm hB ⟨⟨w.drew, (Below.refl _ _).drew⟩, rfl⟩ (by simpa using h)

theorem calls_later {P : Program} {f : FuncId} {args : Array Value} {w : World} {x : Later w} {v : Value}
    (h : Calls P f args x.w' fun e w'' => e = .returned v ∧ Below x.w'.heap.size x.w' w'') : Calls P f args x.w' fun e w'' => e = .returned v ∧ ∃ y : Later w, w'' = y.w' :=
  h.mono fun _ w'' ⟨he, hb⟩ => ⟨he, ⟨w'', x.h.trans (hb.mono x.h.size)⟩, rfl⟩

theorem calls_later_same {P : Program} {f : FuncId} {args : Array Value} {w : World} {x : Later w} {v : Value}
    (h : Calls P f args x.w' fun e w'' => e = .returned v ∧ w'' = x.w') : Calls P f args x.w' fun e w'' => e = .returned v ∧ ∃ y : Later w, w'' = y.w' :=
  h.mono fun _ _ ⟨he, hb⟩ => ⟨he, x, hb⟩

def szF (left : Int) (f : FileD) : Int := if (f.name.size + f.data.size : Int) ≤ left then left - f.name.size - f.data.size else -1

/-- A slice's address holds the files fs (nothing is asked where there are none). -/
def FilesIn (w : World) (a : Option Addr) (fs : List FileD) : Prop := fs = [] ∨ ∃ b o, a = some ⟨b, o, none⟩ ∧ b < w.heap.size ∧ FilesAt w b o fs

theorem FilesIn.later {w w' : World} {a : Option Addr} {fs : List FileD} (h : FilesIn w a fs) (hb : Below w.heap.size w w') : FilesIn w' a fs := by
  rcases h with h | ⟨b, o, rfl, hlt, h⟩
  · exact Or.inl h
  · refine Or.inr ⟨b, o, rfl, Nat.lt_of_lt_of_le hlt hb.size, fun i hi => ?_⟩
    obtain ⟨h1, h2, h3⟩ := h i hi
    exact ⟨by rw [← h1]; exact hb.cell hlt, by rw [← h2]; exact hb.cell hlt, by rw [← h3]; exact hb.cell hlt⟩

theorem FilesIn.at {w : World} {a : Option Addr} {fs : List FileD} (h : FilesIn w a fs) {i : Nat} (hi : i < fs.length) :
    ∃ b o, a = some ⟨b, o, none⟩ ∧ b < w.heap.size ∧ w.cell? ⟨b, o + i * 3, none⟩ = some (.string fs[i].name) ∧
      w.cell? ⟨b, o + i * 3 + 1, none⟩ = some (.string fs[i].data) ∧ w.cell? ⟨b, o + i * 3 + 2, none⟩ = some (.int .i64 fs[i].synced) := by
  rcases h with rfl | ⟨b, o, rfl, hlt, h⟩
  · exact absurd hi (by simp)
  · exact ⟨b, o, rfl, hlt, h i hi⟩

theorem FilesIn.setCell {w : World} {g o : Nat} {fs : List FileD} (h : FilesIn w (some ⟨g, o, none⟩) fs) {p : Addr} (hp : p.block ≠ g) (v : Value) : FilesIn (w.setCell p v) (some ⟨g, o, none⟩) fs := by
  rcases h with h | ⟨b, o', e, hlt, h⟩
  · exact Or.inl h
  · simp only [Option.some.injEq, Addr.mk.injEq, and_true] at e
    obtain ⟨rfl, rfl⟩ := e
    have hk : ∀ j, (w.setCell p v).cell? ⟨g, j, none⟩ = w.cell? ⟨g, j, none⟩ := fun j => World.cell?_of_block (Below.heap_setCell w p v g (Ne.symm hp))
    refine Or.inr ⟨g, o, rfl, by simpa [World.setCell] using hlt, fun i hi => ?_⟩
    simp only [hk]
    exact h i hi

def bulk : List FileD → Nat
  | [] => 0
  | f :: r => f.name.size + f.data.size + bulk r

theorem bulk_append (a b : List FileD) : bulk (a ++ b) = bulk a + bulk b := by
  induction a with
  | nil => simp [bulk]
  | cons f r ih => simp [bulk, ih]; omega

theorem bulk_take_succ (fs : List FileD) (k : Nat) (h : k < fs.length) : bulk (fs.take (k + 1)) = bulk (fs.take k) + (fs[k].name.size + fs[k].data.size) := by
  rw [List.take_succ_eq_append_getElem h, bulk_append]; simp [bulk]

theorem bulk_take_le (fs : List FileD) (k : Nat) : bulk (fs.take k) ≤ bulk fs := by
  have := bulk_append (fs.take k) (fs.drop k)
  rw [List.take_append_drop] at this; omega

def sumLen : List FileD → Nat
  | [] => 0
  | f :: r => f.data.size + sumLen r

theorem sumLen_append (a b : List FileD) : sumLen (a ++ b) = sumLen a + sumLen b := by
  induction a with
  | nil => simp [sumLen]
  | cons f r ih => simp [sumLen, ih]; omega

theorem sumLen_take_succ (fs : List FileD) (k : Nat) (h : k < fs.length) : sumLen (fs.take (k + 1)) = sumLen (fs.take k) + fs[k].data.size := by
  rw [List.take_succ_eq_append_getElem h, sumLen_append]; simp [sumLen]

theorem sumLen_take_le (fs : List FileD) (k : Nat) : sumLen (fs.take k) ≤ sumLen fs := by
  have := sumLen_append (fs.take k) (fs.drop k)
  rw [List.take_append_drop] at this; omega

theorem sumLen_le_bulk (fs : List FileD) : sumLen fs ≤ bulk fs := by
  induction fs with
  | nil => exact Nat.le_refl _
  | cons f r ih => simp [sumLen, bulk]; omega

def szFs (left : Int) (fs : List FileD) : Int := if (fs.length + bulk fs : Int) ≤ left then left - fs.length - bulk fs else -1
def Short (fs : List FileD) : Prop := ∀ i (h : i < fs.length), fs[i].name.size ≤ maxLen ∧ fs[i].data.size ≤ maxLen

/-- The six cells of a disk lie at the head of block b. -/
def BoxAt (w : World) (b : Nat) (v0 v1 v2 v3 v4 v5 : Value) : Prop :=
  w.cell? ⟨b, 0, none⟩ = some v0 ∧ w.cell? ⟨b, 1, none⟩ = some v1 ∧ w.cell? ⟨b, 2, none⟩ = some v2 ∧ w.cell? ⟨b, 3, none⟩ = some v3 ∧ w.cell? ⟨b, 4, none⟩ = some v4 ∧ w.cell? ⟨b, 5, none⟩ = some v5

theorem BoxAt.new (w : World) (v0 v1 v2 v3 v4 v5 : Value) (t : TypeId) : BoxAt (w.alloc (.cells #[v0, v1, v2, v3, v4, v5] t)) w.heap.size v0 v1 v2 v3 v4 v5 := by
  simp [BoxAt, go_sem]

theorem BoxAt.lt {w : World} {b : Nat} {v0 v1 v2 v3 v4 v5 : Value} (h : BoxAt w b v0 v1 v2 v3 v4 v5) : b < w.heap.size := by
  rcases Nat.lt_or_ge b w.heap.size with hlt | hge
  · exact hlt
  · have := h.1
    simp [World.cell?, Array.getElem?_eq_none hge] at this

theorem BoxAt.later {w w' : World} {b : Nat} {v0 v1 v2 v3 v4 v5 : Value} (h : BoxAt w b v0 v1 v2 v3 v4 v5) (hb : Below w.heap.size w w') : BoxAt w' b v0 v1 v2 v3 v4 v5 := by
  have hl := h.lt
  obtain ⟨h0, h1, h2, h3, h4, h5⟩ := h
  exact ⟨(hb.cell hl).trans h0, (hb.cell hl).trans h1, (hb.cell hl).trans h2, (hb.cell hl).trans h3, (hb.cell hl).trans h4, (hb.cell hl).trans h5⟩

theorem bto {a b c : World} (h : Below a.heap.size a b) (k : Below b.heap.size b c) : Below a.heap.size a c := h.trans (k.mono h.size)
theorem bnew (w : World) (o : Obj) : Below w.heap.size w (w.alloc o) := (Below.refl _ _).alloc (Nat.le_refl _) _
end Go.Proofs.YtndaihhjhllfcadGreatDoor

namespace Go.Proofs.YtndaihhjhllfcadGreatDoor
open Go.RowKit

/-- Of what lay in w only block g may have turned. -/
structure But (g : Nat) (w w' : World) : Prop where
  os : w'.os = w.os
  tape : w'.tape = w.tape
  output : w'.output = w.output
  size : w.heap.size ≤ w'.heap.size
  block : ∀ k, k < w.heap.size → k ≠ g → w'.heap[k]? = w.heap[k]?

theorem But.refl (g : Nat) (w : World) : But g w w := ⟨rfl, rfl, rfl, Nat.le_refl _, fun _ _ _ => rfl⟩
theorem But.trans {g : Nat} {a b c : World} (h : But g a b) (k : But g b c) : But g a c :=
  ⟨k.os.trans h.os, k.tape.trans h.tape, k.output.trans h.output, Nat.le_trans h.size k.size, fun i hi hg => (k.block i (Nat.lt_of_lt_of_le hi h.size) hg).trans (h.block i hi hg)⟩
theorem But.of {g : Nat} {w w' : World} (h : Below w.heap.size w w') : But g w w' := ⟨h.os, h.tape, h.output, h.size, fun k hk _ => h.block k hk⟩
theorem But.setCell {g : Nat} {a w : World} (h : But g a w) (o : Nat) (v : Value) : But g a (w.setCell ⟨g, o, none⟩ v) :=
  h.trans ⟨rfl, rfl, rfl, by simp [World.setCell], fun k _ hk => Below.heap_setCell _ _ _ _ hk⟩
theorem But.below {g B : Nat} {w w' : World} (h : But g w w') (hB : B ≤ g) (hs : B ≤ w.heap.size) : Below B w w' :=
  ⟨h.os, h.tape, h.output, h.size, fun k hk => h.block k (by omega) (by omega)⟩

theorem FilesIn.but {g b o : Nat} {w w' : World} {fs : List FileD} (h : FilesIn w (some ⟨b, o, none⟩) fs) (hb : But g w w') (hg : b ≠ g) : FilesIn w' (some ⟨b, o, none⟩) fs := by
  rcases h with h | ⟨b', o', e, hlt, h⟩
  · exact Or.inl h
  · simp only [Option.some.injEq, Addr.mk.injEq, and_true] at e
    obtain ⟨rfl, rfl⟩ := e
    have hk : ∀ j, w'.cell? ⟨b, j, none⟩ = w.cell? ⟨b, j, none⟩ := fun j => World.cell?_of_block (hb.block b hlt hg)
    exact Or.inr ⟨b, o, rfl, Nat.lt_of_lt_of_le hlt hb.size, fun i hi => by simp only [hk]; exact h i hi⟩

/-- The files fs lie in a block of their own, from B on, that may be written. -/
def Owned (w : World) (B : Nat) (a : Option Addr) (fs : List FileD) : Prop :=
  fs = [] ∨ ∃ g o cur t, a = some ⟨g, o, none⟩ ∧ B ≤ g ∧ w.heap[g]? = some (.cells cur t (0, 0)) ∧ FilesAt w g o fs

theorem lt_of_block {w : World} {g : Nat} {x : Obj} (h : w.heap[g]? = some x) : g < w.heap.size := by
  rcases Nat.lt_or_ge g w.heap.size with hlt | hge
  · exact hlt
  · rw [Array.getElem?_eq_none hge] at h; exact absurd h (by simp)

theorem Owned.files {w : World} {B : Nat} {a : Option Addr} {fs : List FileD} (h : Owned w B a fs) : FilesIn w a fs := by
  rcases h with h | ⟨g, o, cur, t, rfl, _, hb, h⟩
  · exact Or.inl h
  · exact Or.inr ⟨g, o, rfl, lt_of_block hb, h⟩

theorem Owned.later {w w' : World} {B : Nat} {a : Option Addr} {fs : List FileD} (h : Owned w B a fs) (hb : Below w.heap.size w w') : Owned w' B a fs := by
  rcases h with h | ⟨g, o, cur, t, rfl, hB, hg, h⟩
  · exact Or.inl h
  · have hlt := lt_of_block hg
    have hk : ∀ j, w'.cell? ⟨g, j, none⟩ = w.cell? ⟨g, j, none⟩ := fun j => World.cell?_of_block (hb.block g hlt)
    exact Or.inr ⟨g, o, cur, t, rfl, hB, (hb.block g hlt).trans hg, fun i hi => by simp only [hk]; exact h i hi⟩

theorem Owned.mono {w : World} {B B' : Nat} {a : Option Addr} {fs : List FileD} (h : Owned w B a fs) (hB : B' ≤ B) : Owned w B' a fs := by
  rcases h with h | ⟨g, o, cur, t, rfl, hB', hg, h⟩
  · exact Or.inl h
  · exact Or.inr ⟨g, o, cur, t, rfl, Nat.le_trans hB hB', hg, h⟩

/-- The text of k, as its digits. -/
def digits : Nat → Nat → List UInt8 → List UInt8
  | 0, _, acc => acc
  | fuel + 1, k, acc => if k = 0 then acc else digits fuel (k / 10) ((48 + UInt8.ofNat (k % 10)) :: acc)
def mt (k : Nat) : ByteArray := ⟨(109 :: digits k k []).toArray⟩

theorem digits_fuel : ∀ (f f' k : Nat) (acc : List UInt8), k ≤ f → k ≤ f' → digits f k acc = digits f' k acc
  | 0, 0, _, _, _, _ => rfl
  | 0, f' + 1, k, acc, h, _ => by have : k = 0 := by omega
                                  subst this; simp [digits]
  | f + 1, 0, k, acc, _, h => by have : k = 0 := by omega
                                 subst this; simp [digits]
  | f + 1, f' + 1, k, acc, h, h' => by
    rw [digits, digits]
    split
    · rfl
    · exact digits_fuel f f' (k / 10) _ (by omega) (by omega)

def markF (k : Nat) (i : Nat) : FileD := ⟨mt (k + 3 * i), mt (k + 3 * i + 1), ((k + 3 * i + 2 : Nat) : Int)⟩
def markL (k n : Nat) : List FileD := (List.range n).map (markF k)
theorem markL_length (k n : Nat) : (markL k n).length = n := by simp [markL]
theorem markL_get (k n i : Nat) (h : i < (markL k n).length) : (markL k n)[i] = markF k i := by simp [markL]

/-- What marking the files of a does. -/
def Marked (w w' : World) (B : Nat) (a : Option Addr) (n : Nat) : Prop :=
  (n = 0 ∧ Below w.heap.size w w') ∨ 0 < n ∧ ∃ g o, a = some ⟨g, o, none⟩ ∧ B ≤ g ∧ But g w w'

theorem Marked.below {w w' : World} {B n : Nat} {a : Option Addr} (h : Marked w w' B a n) (hs : B ≤ w.heap.size) : Below B w w' := by
  rcases h with ⟨_, h⟩ | ⟨_, g, o, _, hB, h⟩
  · exact h.mono hs
  · exact h.below hB hs

theorem Marked.files {w w' : World} {B n b o : Nat} {a : Option Addr} {fs : List FileD} (h : Marked w w' B a n) (hf : FilesIn w (some ⟨b, o, none⟩) fs) (hne : ∀ g' o', a = some ⟨g', o', none⟩ → b ≠ g') : FilesIn w' (some ⟨b, o, none⟩) fs := by
  rcases h with ⟨_, h⟩ | ⟨_, g, o', rfl, _, h⟩
  · exact hf.later h
  · exact hf.but h (hne g o' rfl)

/-- Block g is the row cur, and may be written. -/
def Blk (w : World) (g : Nat) (cur : Array Value) (t : TypeId) : Prop := w.heap[g]? = some (.cells cur t (0, 0))
theorem Blk.set {w : World} {g : Nat} {cur : Array Value} {t : TypeId} (h : Blk w g cur t) (j : Nat) (v : Value) : Blk (w.setCell ⟨g, j, none⟩ v) g (cur.setIfInBounds j v) t := heap_setCell_same w g j cur t v h
theorem Blk.later {w w' : World} {g : Nat} {cur : Array Value} {t : TypeId} (h : Blk w g cur t) (hb : Below w.heap.size w w') : Blk w' g cur t := (hb.block g (lt_of_block h)).trans h
theorem Blk.cell {w : World} {g : Nat} {cur : Array Value} {t : TypeId} (h : Blk w g cur t) (j : Nat) : w.cell? ⟨g, j, none⟩ = cur[j]? := cell_of_row w g j cur t _ h
theorem Blk.free {w : World} {g : Nat} {cur : Array Value} {t : TypeId} (h : Blk w g cur t) (j : Nat) : w.frozen? ⟨g, j, none⟩ = false := frozen_of_row w g j cur t h
theorem Blk.there {w : World} {g : Nat} {cur : Array Value} {t : TypeId} (h : Blk w g cur t) {j : Nat} (hj : j < cur.size) : ∃ v, w.cell? ⟨g, j, none⟩ = some v := ⟨cur[j], by rw [h.cell]; exact Array.getElem?_eq_getElem hj⟩

/-- The cells of file j, from o on. -/
def RowFile (cur : Array Value) (o j : Nat) (f : FileD) : Prop := cur[o + j * 3]? = some (.string f.name) ∧ cur[o + j * 3 + 1]? = some (.string f.data) ∧ cur[o + j * 3 + 2]? = some (.int .i64 f.synced)

theorem RowFile.set {cur : Array Value} {o j : Nat} {f : FileD} (h : RowFile cur o j f) {p : Nat} (hp : p < o + j * 3 ∨ o + j * 3 + 2 < p) (v : Value) : RowFile (cur.setIfInBounds p v) o j f := by
  obtain ⟨a1, a2, a3⟩ := h
  refine ⟨?_, ?_, ?_⟩
  · rw [Array.getElem?_setIfInBounds_ne (by omega)]; exact a1
  · rw [Array.getElem?_setIfInBounds_ne (by omega)]; exact a2
  · rw [Array.getElem?_setIfInBounds_ne (by omega)]; exact a3

theorem RowFile.made (cur : Array Value) (o j : Nat) (f : FileD) (h : o + j * 3 + 2 < cur.size) :
    RowFile (((cur.setIfInBounds (o + j * 3) (.string f.name)).setIfInBounds (o + j * 3 + 1) (.string f.data)).setIfInBounds (o + j * 3 + 2) (.int .i64 f.synced)) o j f := by
  refine ⟨?_, ?_, ?_⟩ <;> simp [Array.getElem?_setIfInBounds] <;> omega

theorem filesAt_of_rows {w : World} {g o : Nat} {cur : Array Value} {t : TypeId} {fs : List FileD} (h : Blk w g cur t) (hr : ∀ j (hj : j < fs.length), RowFile cur o j fs[j]) : FilesAt w g o fs := by
  intro j hj
  simp only [h.cell]
  exact hr j hj

theorem rows_of_filesAt {w : World} {g o : Nat} {cur : Array Value} {t : TypeId} {fs : List FileD} (h : Blk w g cur t) (hf : FilesAt w g o fs) : ∀ j (hj : j < fs.length), RowFile cur o j fs[j] := by
  intro j hj
  have := hf j hj
  simp only [h.cell] at this
  exact this

theorem rows_size {cur : Array Value} {o : Nat} {fs : List FileD} (hr : ∀ j (hj : j < fs.length), RowFile cur o j fs[j]) : fs = [] ∨ o + fs.length * 3 ≤ cur.size := by
  by_cases h : fs.length = 0
  · exact Or.inl (List.length_eq_zero_iff.1 h)
  · right
    have := (hr (fs.length - 1) (by omega)).2.2
    have := (Array.getElem?_eq_some_iff.1 this).1
    omega
end Go.Proofs.YtndaihhjhllfcadGreatDoor

namespace Go.Proofs.YtndaihhjhllfcadGreatDoor
open Go.RowKit

theorem conv_one (w : World) (n : Int) : (convert 40 9 (.slice (some ⟨w.heap.size, 0, none⟩) 1 1)).run Tryz.prog (w.alloc (.cells #[.int .u8 n] 5)) = .ok (.string ⟨#[UInt8.ofNat n.toNat]⟩) (w.alloc (.cells #[.int .u8 n] 5)) := by
  rw [run_convert_bytes_string _ 40 9 5 _ 1 1 Tryz.underlying40 Tryz.underlying5 Tryz.underlying9, run_bytesToString _ _ 1 1 [n] (by simp [go_sem, loadCells])]
  rfl

theorem str_one (c : UInt8) (s : ByteArray) : ((⟨#[c]⟩ : ByteArray) ++ s).data.toList = c :: s.data.toList := by
  simp

theorem str_one_size (c : UInt8) (s : ByteArray) : ((⟨#[c]⟩ : ByteArray) ++ s).size = s.size + 1 := by
  rw [ByteArray.size_append]; show 1 + s.size = _; omega

theorem mk_toList (s : ByteArray) (l : List UInt8) (h : s.data.toList = l) : s = ⟨l.toArray⟩ := by
  subst h; simp

end Go.Proofs.YtndaihhjhllfcadGreatDoor

namespace Go.Proofs.YtndaihhjhllfcadGreatDoor
open Go.RowKit

theorem digits_pos {n : Nat} (h : 0 < n) (acc : List UInt8) : digits n n acc = digits (n / 10) (n / 10) ((48 + UInt8.ofNat (n % 10)) :: acc) := by
  obtain ⟨m, rfl⟩ : ∃ m, n = m + 1 := ⟨n - 1, by omega⟩
  conv => lhs; rw [digits]
  rw [if_neg (by omega)]
  exact digits_fuel _ _ _ _ (by omega) (Nat.le_refl _)

set_option maxRecDepth 100000 in
set_option maxHeartbeats 1000000 in
theorem markText_any (k : Nat) (w : World) (h0 : 0 < k) (h1 : k ≤ 1000000000) :
    Calls Tryz.prog 77 #[.int .i64 (k : Int)] w fun e w' => e = .returned (.string (mt k)) ∧ Below w.heap.size w w' := by
  have hk : ¬ ((k : Int) ≤ 0) := by omega
  have hcv := conv_one
  go_enter Tryz.func77, Tryz.ntmps77
  go_wp2
  go_loopw [0, 3] (fun a s wr => ∃ (n : Nat) (st : ByteArray), st.size + n ≤ k ∧ a = .int .i64 n ∧ s = .string st ∧ digits n n st.data.toList = digits k k [] ∧ Below w.heap.size w wr) (fun a _ _ => (intOf a).toNat)
  case atStart => exact ⟨k, ByteArray.empty, by simp, rfl, rfl, rfl, Below.refl _ _⟩
  case round =>
    obtain ⟨n, st, hn, rfl, rfl, hd, hbel⟩ := hrel
    have HD : Hid (digits n n st.data.toList = digits k k []) := hd
    clear hd
    have hsz : (st.size : Int) ≤ 1000000000 := by omega
    by_cases hp : 0 < n
    · go_wp2
      refine ⟨⟨n / 10, _, ?_, by go_num, rfl, ?_, hbel.alloc hbel.size _⟩, by simp [intOf]; omega⟩
      · rw [str_one_size]; omega
      · rw [str_one, ← digits_pos hp]; exact HD.out
    · go_wp2
      go_ret
      refine ⟨?_, hbel⟩
      have e0 : n = 0 := by omega
      have hd := HD.out
      rw [e0] at hd
      have e : st.data.toList = digits k k [] := by rw [← hd]; rfl
      have e2 : ((⟨#[109]⟩ : ByteArray) ++ st) = mt k := by
        unfold mt
        exact mk_toList _ _ (by rw [str_one, e])
      exact congrArg (fun x => Ending.returned (.string x)) e2

theorem markText_int (k : Int) (n : Nat) (hk : k = (n : Int)) (w : World) (h0 : 0 < n) (h1 : n ≤ 1000000000) :
    Calls Tryz.prog 77 #[.int .i64 k] w fun e w' => e = .returned (.string (mt n)) ∧ Below w.heap.size w w' := hk ▸ markText_any n w h0 h1
end Go.Proofs.YtndaihhjhllfcadGreatDoor

namespace Go.Proofs.YtndaihhjhllfcadGreatDoor
open Go.RowKit

set_option maxRecDepth 100000 in
set_option maxHeartbeats 2000000 in
theorem markFileS_any (a : Option Addr) (cap : Nat) (fs : List FileD) (k B : Nat) (w : World) (hk : 0 < k) (hk2 : k + 3 * fs.length ≤ 100000000) (hf : Owned w B a fs) :
    Calls Tryz.prog 37 #[.slice a fs.length cap, .int .i64 (k : Int)] w fun e w' => e = .returned (.int .i64 ((k + 3 * fs.length : Nat) : Int)) ∧ Marked w w' B a fs.length ∧ Owned w' B a (markL k fs.length) := by
  have hf2 : Owned w B a fs ∧ (fs = [] ∨ 0 < fs.length) := ⟨hf, by rcases fs with _ | ⟨f, r⟩ <;> simp⟩
  have hf3 : fs = [] ∨ (0 < fs.length ∧ ∃ g o cur t, a = some ⟨g, o, none⟩ ∧ B ≤ g ∧ w.heap[g]? = some (.cells cur t (0, 0)) ∧ FilesAt w g o fs) := by
    rcases hf2.2 with h | h
    · exact Or.inl h
    · rcases hf2.1 with h' | h'
      · exact Or.inl h'
      · exact Or.inr ⟨h, h'⟩
  clear hf hf2
  rcases hf3 with rfl | ⟨hpos, g, o, cur, t, rfl, hB, hg, hfs⟩
  · go_enter Tryz.func37, Tryz.ntmps37
    go_wp2
    go_loopw [1, 5] (fun l i wr => l = .int .i64 (k : Int) ∧ i = .int .i64 0 ∧ wr = w) (fun _ i _ => 0)
    case atStart => exact ⟨rfl, rfl, rfl⟩
    case round =>
      obtain ⟨rfl, rfl, rfl⟩ := hrel
      go_wp2
      go_ret
      exact ⟨rfl, Or.inl ⟨rfl, Below.refl _ _⟩, Or.inl rfl⟩
  have hrow : ∀ j (hj : j < fs.length), RowFile cur o j fs[j] := rows_of_filesAt hg hfs
  have hsz := rows_size hrow
  have HG : Hid (Blk w g cur t) := hg
  clear hrow hg hfs
  generalize hn : fs.length = n at *
  have hsz2 : n = 0 ∨ o + n * 3 ≤ cur.size := by
    rcases hsz with h | h
    · left; rw [← hn, h]; rfl
    · exact Or.inr h
  clear hsz hn
  go_enter Tryz.func37, Tryz.ntmps37
  go_wp2
  go_loopw [1, 5] (fun l i wr => ∃ (j : Nat) (c : Array Value), j ≤ n ∧ i = .int .i64 j ∧ l = .int .i64 ((k + 3 * j : Nat) : Int) ∧ Blk wr g c t ∧ c.size = cur.size ∧ (∀ m, m < j → RowFile c o m (markF k m)) ∧ But g w wr) (fun _ i _ => n - (intOf i).toNat)
  case atStart => exact ⟨0, cur, Nat.zero_le _, rfl, rfl, HG.out, rfl, fun m h => absurd h (by omega), But.refl _ _⟩
  case round =>
    obtain ⟨j, c, hj, rfl, rfl, hblk, hcs, hrows, hbut⟩ := hrel
    have HBLK : Hid (Blk wr g c t) := hblk
    have HROWS : Hid (∀ m, m < j → RowFile c o m (markF k m)) := hrows
    have HCS : Hid (c.size = cur.size) := hcs
    clear hblk hrows
    by_cases hlt : j < n
    · have hbd : o + j * 3 + 2 < c.size := by rcases hsz2 with h | h <;> omega
      clear hcs hsz2
      go_wp2_with fail
      refine (markText_int _ (k + 3 * j) (by omega) _ (by omega) (by omega)).mono ?_
      rintro e w1 ⟨rfl, hb1⟩
      have hB1 := HBLK.out.later hb1
      obtain ⟨v0, d0⟩ := hB1.there (j := o + j * 3) (by omega)
      have f0 := hB1.free (o + j * 3)
      have HB1 : Hid (Blk w1 g c t) := hB1
      clear hB1
      go_wp2_with fail
      refine (markText_int _ (k + 3 * j + 1) (by omega) _ (by omega) (by omega)).mono ?_
      rintro e w2 ⟨rfl, hb2⟩
      have hB2 := (HB1.out.set (o + j * 3) (.string (mt (k + 3 * j)))).later hb2
      obtain ⟨v1, d1⟩ := hB2.there (j := o + j * 3 + 1) (by simp; omega)
      have f1 := hB2.free (o + j * 3 + 1)
      obtain ⟨v2, d2⟩ := hB2.there (j := o + j * 3 + 2) (by simp; omega)
      have f2 := hB2.free (o + j * 3 + 2)
      have HB2 : Hid (Blk w2 g (c.setIfInBounds (o + j * 3) (.string (mt (k + 3 * j)))) t) := hB2
      have HBUT : Hid (But g w w2) := ((hbut.trans (But.of hb1)).setCell _ _).trans (But.of hb2)
      clear hB2 d0 f0 hb1 hb2 hbut
      go_wp2
      refine ⟨⟨j + 1, _, by omega, by go_num, by go_num, (HB2.out.set (o + j * 3 + 1) (.string (mt (k + 3 * j + 1)))).set (o + j * 3 + 2) (.int .i64 ((k + 3 * j + 2 : Nat) : Int)), by simp [HCS.out], ?_, (HBUT.out.setCell _ _).setCell _ _⟩, by simp [intOf]; omega⟩
      intro m hm
      by_cases e : m = j
      · subst e
        exact RowFile.made c o m (markF k m) hbd
      · exact (((HROWS.out m (by omega)).set (by omega) _).set (by omega) _).set (by omega) _
    · go_wp2
      go_ret
      have e : j = n := by omega
      subst e
      refine ⟨ret_int (by omega), Or.inr ⟨hpos, g, o, rfl, hB, hbut⟩, Or.inr ⟨g, o, c, t, rfl, hB, HBLK.out, filesAt_of_rows HBLK.out ?_⟩⟩
      intro m hm
      rw [markL_get]
      exact HROWS.out m (by rw [markL_length] at hm; exact hm)
end Go.Proofs.YtndaihhjhllfcadGreatDoor

namespace Go.Proofs.YtndaihhjhllfcadGreatDoor
open Go.RowKit

theorem Marked.from {w w1 w' : World} {B n : Nat} {a : Option Addr} (hb : Below w.heap.size w w1) (h : Marked w1 w' B a n) : Marked w w' B a n := by
  rcases h with ⟨h0, h⟩ | ⟨hp, g, o, e, hB, h⟩
  · exact Or.inl ⟨h0, bto hb h⟩
  · exact Or.inr ⟨hp, g, o, e, hB, (But.of hb).trans h⟩

set_option maxHeartbeats 1000000 in
theorem markDisk_any (a : Option Addr) (cap : Nat) (fs : List FileD) (c k0 cr fl : Int) (dn : Bool) (k B : Nat) (w : World) (hk : 0 < k) (hk2 : k + 3 * fs.length ≤ 100000000) (hf : Owned w B a fs) :
    Calls Tryz.prog 12 #[.agg #[.slice a fs.length cap, .int .i64 c, .int .i64 k0, .int .i64 cr, .int .i64 fl, .bool dn], .int .i64 (k : Int)] w fun e w' =>
      e = .returned (.int .i64 ((k + 3 * fs.length : Nat) : Int)) ∧ Marked w w' B a fs.length ∧ Owned w' B a (markL k fs.length) := by
  have HF : Hid (Owned w B a fs) := hf
  clear hf
  go_enter Tryz.func12, Tryz.ntmps12
  go_wp2_with fail
  refine (markFileS_any a cap fs k B _ hk hk2 (HF.out.later (bnew _ _))).mono ?_
  rintro e w1 ⟨rfl, hm, ho⟩
  have HM : Hid (Marked w w1 B a fs.length ∧ Owned w1 B a (markL k fs.length)) := ⟨hm.from (bnew _ _), ho⟩
  clear hm ho
  go_wp2
  go_ret
  exact ⟨rfl, HM.out.1, HM.out.2⟩

set_option maxRecDepth 100000 in
set_option maxHeartbeats 2000000 in
theorem heldFileS_any (a : Option Addr) (cap : Nat) (k n : Nat) (w : World) (hk : 0 < k) (hk2 : k + 3 * n ≤ 100000000) (hf : FilesIn w a (markL k n)) :
    Calls Tryz.prog 38 #[.slice a n cap, .int .i64 (k : Int)] w fun e w' => e = .returned (.int .i64 ((k + 3 * n : Nat) : Int)) ∧ Below w.heap.size w w' := by
  have HF : Hid (FilesIn w a (markL k n)) := hf
  clear hf
  go_enter Tryz.func38, Tryz.ntmps38
  go_wp2
  go_loopw [1, 5] (fun l i wr => ∃ j : Nat, j ≤ n ∧ i = .int .i64 j ∧ l = .int .i64 ((k + 3 * j : Nat) : Int) ∧ Below w.heap.size w wr) (fun _ i _ => n - (intOf i).toNat)
  case atStart => exact ⟨0, Nat.zero_le _, rfl, rfl, Below.refl _ _⟩
  case round =>
    obtain ⟨j, hj, rfl, rfl, hbel⟩ := hrel
    by_cases hlt : j < n
    · obtain ⟨b, o, rfl, hb, c0, c1, c2⟩ := (HF.out.later hbel).at (i := j) (by rw [markL_length]; exact hlt)
      rw [markL_get] at c0 c1 c2
      simp only [markF] at c0 c1 c2
      have d0 := Later.cells c0
      have hne := Later.there wr
      have HC : Hid (wr.cell? ⟨b, o + j * 3 + 1, none⟩ = some (.string (mt (k + 3 * j + 1))) ∧ wr.cell? ⟨b, o + j * 3 + 2, none⟩ = some (.int .i64 ((k + 3 * j + 2 : Nat) : Int))) := ⟨c1, c2⟩
      clear c0 c1 c2
      go_wp2_with fail
      refine wp_region_later (by kernel_rfl) (by kernel_rfl) ?_
      repeat (go_big_quiet_step (first | (go_at_call 77; exact calls_later (markText_int _ (k + 3 * j) (by omega) _ (by omega) (by omega)))))
      refine wpQuiet_nil ?_
      rintro _ ⟨x, rfl⟩
      have d1 := Later.cells (x.cell HC.out.1)
      have d2 : ∀ y : Later x.w', y.w'.cell? ⟨b, o + j * 3 + 2, none⟩ = some (.int .i64 ((k : Int) + 3 * (j : Int) + 2)) := fun y => by rw [y.cell (x.cell HC.out.2)]; simp
      have hne2 := Later.there x.w'
      have HX : Hid (Below w.heap.size w x.w') := bto hbel x.h
      clear d0 hne HC hbel
      generalize x.w' = W at *
      clear x
      go_wp2_with fail
      refine wp_region_later (by kernel_rfl) (by kernel_rfl) ?_
      repeat (go_big_quiet_step (first | (go_at_call 77; exact calls_later (markText_int _ (k + 3 * j + 1) (by omega) _ (by omega) (by omega)))))
      refine wpQuiet_nil ?_
      rintro _ ⟨y, rfl⟩
      have e2 := d2 y
      have HY : Hid (Below w.heap.size w y.w') := bto HX.out y.h
      clear d1 d2 hne2
      generalize y.w' = W2 at *
      clear y
      go_wp2
      exact ⟨⟨j + 1, by omega, by go_num, by go_num, HY.out⟩, by simp [intOf]; omega⟩
    · go_wp2
      go_ret
      have e : j = n := by omega
      subst e
      exact ⟨ret_int (by omega), hbel⟩

set_option maxHeartbeats 1000000 in
theorem heldDisk_any (a : Option Addr) (cap : Nat) (c k0 cr fl : Int) (dn : Bool) (k n : Nat) (w : World) (hk : 0 < k) (hk2 : k + 3 * n ≤ 100000000) (hf : FilesIn w a (markL k n)) :
    Calls Tryz.prog 13 #[.agg #[.slice a n cap, .int .i64 c, .int .i64 k0, .int .i64 cr, .int .i64 fl, .bool dn], .int .i64 (k : Int)] w fun e w' =>
      e = .returned (.int .i64 ((k + 3 * n : Nat) : Int)) ∧ Below w.heap.size w w' := by
  have HF : Hid (FilesIn w a (markL k n)) := hf
  clear hf
  go_enter Tryz.func13, Tryz.ntmps13
  go_wp2_with fail
  refine (heldFileS_any a cap k n _ hk hk2 (HF.out.later (bnew _ _))).mono ?_
  rintro e w1 ⟨rfl, hb⟩
  have HB : Hid (Below w.heap.size w w1) := bto (bnew _ _) hb
  clear hb
  go_wp2
  go_ret
  exact ⟨ret_int (by omega), HB.out⟩
end Go.Proofs.YtndaihhjhllfcadGreatDoor

namespace Go.Proofs.YtndaihhjhllfcadGreatDoor
open Go.RowKit

set_option maxHeartbeats 400000 in
theorem szFile_any (f : FileD) (left : Int) (w : World) (h0 : 0 ≤ left) (h1 : left ≤ 1048576) (hn : f.name.size ≤ maxLen) (hd : f.data.size ≤ maxLen) :
    Calls Tryz.prog 57 #[.agg #[.string f.name, .string f.data, .int .i64 f.synced], .int .i64 left] w fun e w' => e = .returned (.int .i64 (szF left f)) ∧ Below w.heap.size w w' := by
  unfold maxLen at hn hd
  obtain ⟨nm, da, sy⟩ := f
  simp only at hn hd ⊢
  by_cases c1 : left - nm.size < 0
  · have e : szF left ⟨nm, da, sy⟩ = -1 := by unfold szF; rw [if_neg]; simp only; omega
    rw [e]
    go_enter Tryz.func57, Tryz.ntmps57
    go_wp2
    go_ret
    exact ⟨rfl, (Below.refl _ _).alloc (Nat.le_refl _) _⟩
  · by_cases c2 : left - nm.size - da.size < 0
    · have e : szF left ⟨nm, da, sy⟩ = -1 := by unfold szF; rw [if_neg]; simp only; omega
      rw [e]
      go_enter Tryz.func57, Tryz.ntmps57
      go_wp2
      go_ret
      exact ⟨rfl, (Below.refl _ _).alloc (Nat.le_refl _) _⟩
    · have e : szF left ⟨nm, da, sy⟩ = left - nm.size - da.size := by unfold szF; rw [if_pos]; simp only; omega
      rw [e]
      go_enter Tryz.func57, Tryz.ntmps57
      go_wp2
      go_ret
      exact ⟨rfl, (Below.refl _ _).alloc (Nat.le_refl _) _⟩

set_option maxHeartbeats 1000000 in
theorem szFileS_any (a : Option Addr) (cap : Nat) (fs : List FileD) (left : Int) (w : World) (h0 : 0 ≤ left) (h1 : left ≤ 1048576) (hf : FilesIn w a fs) (hs : Short fs) (hlen : fs.length ≤ maxLen) :
    Calls Tryz.prog 22 #[.slice a fs.length cap, .int .i64 left] w fun e w' => e = .returned (.int .i64 (szFs left fs)) ∧ Below w.heap.size w w' := by
  unfold maxLen at hlen
  by_cases c1 : left - fs.length < 0
  · have e : szFs left fs = -1 := by unfold szFs; rw [if_neg]; omega
    rw [e]
    clear hf hs
    go_enter Tryz.func22, Tryz.ntmps22
    go_wp2
    go_ret
    exact ⟨rfl, Below.refl _ _⟩
  · have hne : ¬ (left - fs.length < 0) := c1
    have HF : Hid (FilesIn w a fs) := hf
    have HS : Hid (Short fs) := hs
    clear hf hs
    go_enter Tryz.func22, Tryz.ntmps22
    go_wp2
    go_loopw [1, 5] (fun l i wr => ∃ k : Nat, k ≤ fs.length ∧ i = .int .i64 k ∧ (bulk (fs.take k) : Int) ≤ left - fs.length ∧ l = .int .i64 (left - fs.length - bulk (fs.take k)) ∧ Below w.heap.size w wr) (fun _ i _ => fs.length - (intOf i).toNat)
    case atStart => exact ⟨0, Nat.zero_le _, rfl, by simp [bulk]; omega, by simp [bulk], Below.refl _ _⟩
    case round =>
      obtain ⟨k, hk, rfl, hle, rfl, hbel⟩ := hrel
      by_cases hlt : k < fs.length
      · obtain ⟨b, o, rfl, hb, c0, c1, c2⟩ := (HF.out.later hbel).at hlt
        have hss := HS.out k hlt
        have hts := bulk_take_succ fs k hlt
        have htl := bulk_take_le fs (k + 1)
        by_cases c3 : ((fs[k].name.size + fs[k].data.size : Nat) : Int) ≤ left - fs.length - bulk (fs.take k)
        · have e : szF (left - fs.length - bulk (fs.take k)) fs[k] = left - fs.length - bulk (fs.take (k + 1)) := by
            unfold szF; rw [if_pos (by omega), hts]; omega
          have E : Hid (szF (left - fs.length - bulk (fs.take k)) fs[k] = left - fs.length - bulk (fs.take (k + 1))) := e
          have hle2 : (bulk (fs.take (k + 1)) : Int) ≤ left - fs.length := by omega
          clear e hts
          go_wp2_with fail
          refine (szFile_any fs[k] _ _ (by omega) (by omega) hss.1 hss.2).mono ?_
          rintro e w' ⟨rfl, hb2⟩
          rw [E.out]
          go_wp2
          exact ⟨⟨k + 1, by omega, by go_num, hle2, rfl, hbel.trans (hb2.mono hbel.size)⟩, by simp [intOf]; omega⟩
        · have e : szF (left - fs.length - bulk (fs.take k)) fs[k] = -1 := by
            unfold szF; rw [if_neg (by omega)]
          have E : Hid (szF (left - fs.length - bulk (fs.take k)) fs[k] = -1) := e
          have E2 : Hid (szFs left fs = -1) := by show szFs left fs = -1; unfold szFs; rw [if_neg (by omega)]
          clear e hts
          go_wp2_with fail
          refine (szFile_any fs[k] _ _ (by omega) (by omega) hss.1 hss.2).mono ?_
          rintro e w' ⟨rfl, hb2⟩
          rw [E.out]
          go_wp2
          go_ret
          exact ⟨ret_int E2.out.symm, hbel.trans (hb2.mono hbel.size)⟩
      · go_wp2
        go_ret
        have e : fs.take k = fs := List.take_of_length_le (by omega)
        rw [e] at hle ⊢
        exact ⟨ret_int (by unfold szFs; rw [if_pos (by omega)]), hbel⟩

/-- A disk's value: the six cells. -/
abbrev diskV (a : Option Addr) (n cap : Nat) (c k cr fl : Int) (dn : Bool) : Value := .agg #[.slice a n cap, .int .i64 c, .int .i64 k, .int .i64 cr, .int .i64 fl, .bool dn]

set_option maxHeartbeats 400000 in
theorem szDisk_any (a : Option Addr) (cap : Nat) (fs : List FileD) (c k cr fl : Int) (dn : Bool) (left : Int) (w : World) (h0 : 0 ≤ left) (h1 : left ≤ 1048576) (hf : FilesIn w a fs) (hs : Short fs) (hlen : fs.length ≤ maxLen) :
    Calls Tryz.prog 5 #[.agg #[.slice a fs.length cap, .int .i64 c, .int .i64 k, .int .i64 cr, .int .i64 fl, .bool dn], .int .i64 left] w fun e w' => e = .returned (.int .i64 (szFs left fs)) ∧ Below w.heap.size w w' := by
  have HF : Hid (FilesIn w a fs) := hf
  clear hf
  by_cases c1 : szFs left fs < 0
  · have E : Hid (szFs left fs = -1) := by show szFs left fs = -1; unfold szFs at c1 ⊢; split at c1 <;> omega
    go_enter Tryz.func5, Tryz.ntmps5
    go_wp2_with fail
    refine (szFileS_any a cap fs left _ h0 h1 (HF.out.later ((Below.refl _ _).alloc (Nat.le_refl _) _)) hs hlen).mono ?_
    rintro e w' ⟨rfl, hb2⟩
    go_wp2
    go_ret
    exact ⟨ret_int E.out.symm, ((Below.refl _ _).alloc (Nat.le_refl _) _).trans (hb2.mono (by simp))⟩
  · go_enter Tryz.func5, Tryz.ntmps5
    go_wp2_with fail
    refine (szFileS_any a cap fs left _ h0 h1 (HF.out.later ((Below.refl _ _).alloc (Nat.le_refl _) _)) hs hlen).mono ?_
    rintro e w' ⟨rfl, hb2⟩
    go_wp2
    go_ret
    exact ⟨rfl, ((Below.refl _ _).alloc (Nat.le_refl _) _).trans (hb2.mono (by simp))⟩
end Go.Proofs.YtndaihhjhllfcadGreatDoor

