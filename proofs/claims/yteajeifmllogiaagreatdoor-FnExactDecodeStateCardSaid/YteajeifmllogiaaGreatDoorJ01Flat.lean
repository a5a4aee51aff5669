import Derived.WalkKit
import Derived.Below
import Derived.BigQuiet
import Derived.WalkLawsBesides
import Derived.WalkSpells
import Derived.Deep.AppendLies
namespace Go.Proofs.YteajeifmllogiaaGreatDoor
open Go.RowKit

structure FileD where
  name : ByteArray
  data : ByteArray
  synced : Int

/-- The files fs lie from ⟨b, o⟩ on, three cells each. -/
def FilesAt (w : World) (b o : Nat) (fs : List FileD) : Prop :=
  ∀ i (h : i < fs.length), w.cell? ⟨b, o + i * 3, none⟩ = some (.string fs[i].name) ∧
    w.cell? ⟨b, o + i * 3 + 1, none⟩ = some (.string fs[i].data) ∧ w.cell? ⟨b, o + i * 3 + 2, none⟩ = some (.int .i64 fs[i].synced)

theorem bcell {B : Nat} {W w1 : World} (hb : Below B W w1) : (∀ b o, b < B → w1.cell? ⟨b, o, none⟩ = W.cell? ⟨b, o, none⟩) ∧ (∀ b o, b < B → w1.frozen? ⟨b, o, none⟩ = W.frozen? ⟨b, o, none⟩) :=
  ⟨fun b o h => hb.cell (p := ⟨b, o, none⟩) h, fun b o h => hb.frozen (p := ⟨b, o, none⟩) h⟩

theorem ret_int {k : IntKind} {a b : Int} (h : a = b) : Ending.returned (.int k a) = .returned (.int k b) := by rw [h]
theorem ret_bool {a b : Bool} (h : a = b) : Ending.returned (.bool a) = .returned (.bool b) := by rw [h]

/-- A world in which all that lay in w lies as it did. -/
structure Later (w : World) where
  w' : World
  h : Below w.heap.size w w'

theorem Later.there (w : World) : Nonempty (Later w) := ⟨⟨w, Below.refl _ _⟩⟩

theorem Later.cell {w : World} (x : Later w) {b o : Nat} {v : Value} (h : w.cell? ⟨b, o, none⟩ = some v) : x.w'.cell? ⟨b, o, none⟩ = some v := by
  have hb : b < w.heap.size := by
    rcases Nat.lt_or_ge b w.heap.size with hlt | hge
    · exact hlt
    · simp [World.cell?, Array.getElem?_eq_none hge] at h
  rw [← h]; exact x.h.cell hb

theorem Later.cells {w : World} {b o : Nat} {v : Value} (h : w.cell? ⟨b, o, none⟩ = some v) : ∀ x : Later w, x.w'.cell? ⟨b, o, none⟩ = some v := fun x => x.cell h

/-- A region that draws its order, whose operations read what lay in w and whose callees turn nothing of it. -/
theorem wp_region_later {P : Program} {id : Nat} {Q : Exit → Act → World → Prop} {a : Act} {w : World} {l : List Oper} (hm : P.follows .mixedOrders = true) (hB : Region.lexB .any l.toArray = true)
    (h : wpQuiet P l.toArray (fun w' => ∃ x : Later w, w' = x.w') (fun a' => ∀ w', (∃ x : Later w, w' = x.w') → Q .normal a' w') l a) : (Code.region id l.toArray true).wp P Q a w :=
  wp_region_quiet (C := fun w' => ∃ x : Later w, w' = x.w') hm hB ⟨⟨w.drew, (Below.refl _ _).drew⟩, rfl⟩ (by simpa using h)

theorem calls_later {P : Program} {f : FuncId} {args : Array Value} {w : World} {x : Later w} {v : Value}
    (h : Calls P f args x.w' fun e w'' => e = .returned v ∧ Below x.w'.heap.size x.w' w'') : Calls P f args x.w' fun e w'' => e = .returned v ∧ ∃ y : Later w, w'' = y.w' :=
  h.mono fun _ w'' ⟨he, hb⟩ => ⟨he, ⟨w'', x.h.trans (hb.mono x.h.size)⟩, rfl⟩

theorem calls_later_same {P : Program} {f : FuncId} {args : Array Value} {w : World} {x : Later w} {v : Value}
    (h : Calls P f args x.w' fun e w'' => e = .returned v ∧ w'' = x.w') : Calls P f args x.w' fun e w'' => e = .returned v ∧ ∃ y : Later w, w'' = y.w' :=
  h.mono fun _ _ ⟨he, hb⟩ => ⟨he, x, hb⟩

def szF (left : Int) (f : FileD) : Int := if (f.name.size + f.data.size : Int) ≤ left then left - f.name.size - f.data.size else -1

/-- A slice's address holds the files fs (nothing is asked where there are none). -/
def FilesIn (w : World) (a : Option Addr) (fs : List FileD) : Prop := fs = [] ∨ ∃ b o, a = some ⟨b, o, none⟩ ∧ b < w.heap.size ∧ FilesAt w b o fs

theorem FilesIn.later {w w' : World} {a : Option Addr} {fs : List FileD} (h : FilesIn w a fs) (hb : Below w.heap.size w w') : FilesIn w' a fs := by
  rcases h with h | ⟨b, o, rfl, hlt, h⟩
  · exact Or.inl h
  · refine Or.inr ⟨b, o, rfl, Nat.lt_of_lt_of_le hlt hb.size, fun i hi => ?_⟩
    obtain ⟨h1, h2, h3⟩ := h i hi
    exact ⟨by rw [← h1]; exact hb.cell hlt, by rw [← h2]; exact hb.cell hlt, by rw [← h3]; exact hb.cell hlt⟩

theorem FilesIn.at {w : World} {a : Option Addr} {fs : List FileD} (h : FilesIn w a fs) {i : Nat} (hi : i < fs.length) :
    ∃ b o, a = some ⟨b, o, none⟩ ∧ b < w.heap.size ∧ w.cell? ⟨b, o + i * 3, none⟩ = some (.string fs[i].name) ∧
      w.cell? ⟨b, o + i * 3 + 1, none⟩ = some (.string fs[i].data) ∧ w.cell? ⟨b, o + i * 3 + 2, none⟩ = some (.int .i64 fs[i].synced) := by
  rcases h with rfl | ⟨b, o, rfl, hlt, h⟩
  · exact absurd hi (by simp)
  · exact ⟨b, o, rfl, hlt, h i hi⟩

theorem FilesIn.setCell {w : World} {g o : Nat} {fs : List FileD} (h : FilesIn w (some ⟨g, o, none⟩) fs) {p : Addr} (hp : p.block ≠ g) (v : Value) : FilesIn (w.setCell p v) (some ⟨g, o, none⟩) fs := by
  rcases h with h | ⟨b, o', e, hlt, h⟩
  · exact Or.inl h
  · simp only [Option.some.injEq, Addr.mk.injEq, and_true] at e
    obtain ⟨rfl, rfl⟩ := e
    have hk : ∀ j, (w.setCell p v).cell? ⟨g, j, none⟩ = w.cell? ⟨g, j, none⟩ := fun j => World.cell?_of_block (Below.heap_setCell w p v g (Ne.symm hp))
    refine Or.inr ⟨g, o, rfl, by simpa [World.setCell] using hlt, fun i hi => ?_⟩
    simp only [hk]
    exact h i hi

def bulk : List FileD → Nat
  | [] => 0
  | f :: r => f.name.size + f.data.size + bulk r

theorem bulk_append (a b : List FileD) : bulk (a ++ b) = bulk a + bulk b := by
  induction a with
  | nil => simp [bulk]
  | cons f r ih => simp [bulk, ih]; omega

theorem bulk_take_succ (fs : List FileD) (k : Nat) (h : k < fs.length) : bulk (fs.take (k + 1)) = bulk (fs.take k) + (fs[k].name.size + fs[k].data.size) := by
  rw [List.take_succ_eq_append_getElem h, bulk_append]; simp [bulk]

theorem bulk_take_le (fs : List FileD) (k : Nat) : bulk (fs.take k) ≤ bulk fs := by
  have := bulk_append (fs.take k) (fs.drop k)
  rw [List.take_append_drop] at this; omega

def sumLen : List FileD → Nat
  | [] => 0
  | f :: r => f.data.size + sumLen r

theorem sumLen_append (a b : List FileD) : sumLen (a ++ b) = sumLen a + sumLen b := by
  induction a with
  | nil => simp [sumLen]
  | cons f r ih => simp [sumLen, ih]; omega

theorem sumLen_take_succ (fs : List FileD) (k : Nat) (h : k < fs.length) : sumLen (fs.take (k + 1)) = sumLen (fs.take k) + fs[k].data.size := by
  rw [List.take_succ_eq_append_getElem h, sumLen_append]; simp [sumLen]

theorem sumLen_take_le (fs : List FileD) (k : Nat) : sumLen (fs.take k) ≤ sumLen fs := by
  have := sumLen_append (fs.take k) (fs.drop k)
  rw [List.take_append_drop] at this; omega

theorem sumLen_le_bulk (fs : List FileD) : sumLen fs ≤ bulk fs := by
  induction fs with
  | nil => exact Nat.le_refl _
  | cons f r ih => simp [sumLen, bulk]; omega

def szFs (left : Int) (fs : List FileD) : Int := if (fs.length + bulk fs : Int) ≤ left then left - fs.length - bulk fs else -1
def Short (fs : List FileD) : Prop := ∀ i (h : i < fs.length), fs[i].name.size ≤ maxLen ∧ fs[i].data.size ≤ maxLen

/-- The six cells of a disk lie at the head of block b. -/
def BoxAt (w : World) (b : Nat) (v0 v1 v2 v3 v4 v5 : Value) : Prop :=
  w.cell? ⟨b, 0, none⟩ = some v0 ∧ w.cell? ⟨b, 1, none⟩ = some v1 ∧ w.cell? ⟨b, 2, none⟩ = some v2 ∧ w.cell? ⟨b, 3, none⟩ = some v3 ∧ w.cell? ⟨b, 4, none⟩ = some v4 ∧ w.cell? ⟨b, 5, none⟩ = some v5

theorem BoxAt.new (w : World) (v0 v1 v2 v3 v4 v5 : Value) (t : TypeId) : BoxAt (w.alloc (.cells #[v0, v1, v2, v3, v4, v5] t)) w.heap.size v0 v1 v2 v3 v4 v5 := by
  simp [BoxAt, go_sem]

theorem BoxAt.lt {w : World} {b : Nat} {v0 v1 v2 v3 v4 v5 : Value} (h : BoxAt w b v0 v1 v2 v3 v4 v5) : b < w.heap.size := by
  rcases Nat.lt_or_ge b w.heap.size with hlt | hge
  · exact hlt
  · have := h.1
    simp [World.cell?, Array.getElem?_eq_none hge] at this

theorem BoxAt.later {w w' : World} {b : Nat} {v0 v1 v2 v3 v4 v5 : Value} (h : BoxAt w b v0 v1 v2 v3 v4 v5) (hb : Below w.heap.size w w') : BoxAt w' b v0 v1 v2 v3 v4 v5 := by
  have hl := h.lt
  obtain ⟨h0, h1, h2, h3, h4, h5⟩ := h
  exact ⟨(hb.cell hl).trans h0, (hb.cell hl).trans h1, (hb.cell hl).trans h2, (hb.cell hl).trans h3, (hb.cell hl).trans h4, (hb.cell hl).trans h5⟩

theorem bto {a b c : World} (h : Below a.heap.size a b) (k : Below b.heap.size b c) : Below a.heap.size a c := h.trans (k.mono h.size)
theorem bnew (w : World) (o : Obj) : Below w.heap.size w (w.alloc o) := (Below.refl _ _).alloc (Nat.le_refl _) _
end Go.Proofs.YteajeifmllogiaaGreatDoor

namespace Go.Proofs.YteajeifmllogiaaGreatDoor
open Go.RowKit

/-- Of what lay in w only block g may have turned. -/
structure But (g : Nat) (w w' : World) : Prop where
  os : w'.os = w.os
  tape : w'.tape = w.tape
  output : w'.output = w.output
  size : w.heap.size ≤ w'.heap.size
  block : ∀ k, k < w.heap.size → k ≠ g → w'.heap[k]? = w.heap[k]?

theorem But.refl (g : Nat) (w : World) : But g w w := ⟨rfl, rfl, rfl, Nat.le_refl _, fun _ _ _ => rfl⟩
theorem But.trans {g : Nat} {a b c : World} (h : But g a b) (k : But g b c) : But g a c :=
  ⟨k.os.trans h.os, k.tape.trans h.tape, k.output.trans h.output, Nat.le_trans h.size k.size, fun i hi hg => (k.block i (Nat.lt_of_lt_of_le hi h.size) hg).trans (h.block i hi hg)⟩
theorem But.of {g : Nat} {w w' : World} (h : Below w.heap.size w w') : But g w w' := ⟨h.os, h.tape, h.output, h.size, fun k hk _ => h.block k hk⟩
theorem But.setCell {g : Nat} {a w : World} (h : But g a w) (o : Nat) (v : Value) : But g a (w.setCell ⟨g, o, none⟩ v) :=
  h.trans ⟨rfl, rfl, rfl, by simp [World.setCell], fun k _ hk => Below.heap_setCell _ _ _ _ hk⟩
theorem But.below {g B : Nat} {w w' : World} (h : But g w w') (hB : B ≤ g) (hs : B ≤ w.heap.size) : Below B w w' :=
  ⟨h.os, h.tape, h.output, h.size, fun k hk => h.block k (by omega) (by omega)⟩

theorem FilesIn.but {g b o : Nat} {w w' : World} {fs : List FileD} (h : FilesIn w (some ⟨b, o, none⟩) fs) (hb : But g w w') (hg : b ≠ g) : FilesIn w' (some ⟨b, o, none⟩) fs := by
  rcases h with h | ⟨b', o', e, hlt, h⟩
  · exact Or.inl h
  · simp only [Option.some.injEq, Addr.mk.injEq, and_true] at e
    obtain ⟨rfl, rfl⟩ := e
    have hk : ∀ j, w'.cell? ⟨b, j, none⟩ = w.cell? ⟨b, j, none⟩ := fun j => World.cell?_of_block (hb.block b hlt hg)
    exact Or.inr ⟨b, o, rfl, Nat.lt_of_lt_of_le hlt hb.size, fun i hi => by simp only [hk]; exact h i hi⟩

/-- The files fs lie in a block of their own, from B on, that may be written. -/
def Owned (w : World) (B : Nat) (a : Option Addr) (fs : List FileD) : Prop :=
  fs = [] ∨ ∃ g o cur t, a = some ⟨g, o, none⟩ ∧ B ≤ g ∧ w.heap[g]? = some (.cells cur t (0, 0)) ∧ FilesAt w g o fs

theorem lt_of_block {w : World} {g : Nat} {x : Obj} (h : w.heap[g]? = some x) : g < w.heap.size := by
  rcases Nat.lt_or_ge g w.heap.size with hlt | hge
  · exact hlt
  · rw [Array.getElem?_eq_none hge] at h; exact absurd h (by simp)

theorem Owned.files {w : World} {B : Nat} {a : Option Addr} {fs : List FileD} (h : Owned w B a fs) : FilesIn w a fs := by
  rcases h with h | ⟨g, o, cur, t, rfl, _, hb, h⟩
  · exact Or.inl h
  · exact Or.inr ⟨g, o, rfl, lt_of_block hb, h⟩

theorem Owned.later {w w' : World} {B : Nat} {a : Option Addr} {fs : List FileD} (h : Owned w B a fs) (hb : Below w.heap.size w w') : Owned w' B a fs := by
  rcases h with h | ⟨g, o, cur, t, rfl, hB, hg, h⟩
  · exact Or.inl h
  · have hlt := lt_of_block hg
    have hk : ∀ j, w'.cell? ⟨g, j, none⟩ = w.cell? ⟨g, j, none⟩ := fun j => World.cell?_of_block (hb.block g hlt)
    exact Or.inr ⟨g, o, cur, t, rfl, hB, (hb.block g hlt).trans hg, fun i hi => by simp only [hk]; exact h i hi⟩

theorem Owned.mono {w : World} {B B' : Nat} {a : Option Addr} {fs : List FileD} (h : Owned w B a fs) (hB : B' ≤ B) : Owned w B' a fs := by
  rcases h with h | ⟨g, o, cur, t, rfl, hB', hg, h⟩
  · exact Or.inl h
  · exact Or.inr ⟨g, o, cur, t, rfl, Nat.le_trans hB hB', hg, h⟩

/-- The text of k, as its digits. -/
def digits : Nat → Nat → List UInt8 → List UInt8
  | 0, _, acc => acc
  | fuel + 1, k, acc => if k = 0 then acc else digits fuel (k / 10) ((48 + UInt8.ofNat (k % 10)) :: acc)
def mt (k : Nat) : ByteArray := ⟨(109 :: digits k k []).toArray⟩

theorem digits_fuel : ∀ (f f' k : Nat) (acc : List UInt8), k ≤ f → k ≤ f' → digits f k acc = digits f' k acc
  | 0, 0, _, _, _, _ => rfl
  | 0, f' + 1, k, acc, h, _ => by have : k = 0 := by omega
                                  subst this; simp [digits]
  | f + 1, 0, k, acc, _, h => by have : k = 0 := by omega
                                 subst this; simp [digits]
  | f + 1, f' + 1, k, acc, h, h' => by
    rw [digits, digits]
    split
    · rfl
    · exact digits_fuel f f' (k / 10) _ (by omega) (by omega)

def markF (k : Nat) (i : Nat) : FileD := ⟨mt (k + 3 * i), mt (k + 3 * i + 1), ((k + 3 * i + 2 : Nat) : Int)⟩
def markL (k n : Nat) : List FileD := (List.range n).map (markF k)
theorem markL_length (k n : Nat) : (markL k n).length = n := by simp [markL]
theorem markL_get (k n i : Nat) (h : i < (markL k n).length) : (markL k n)[i] = markF k i := by simp [markL]

/-- What marking the files of a does. -/
def Marked (w w' : World) (B : Nat) (a : Option Addr) (n : Nat) : Prop :=
  (n = 0 ∧ Below w.heap.size w w') ∨ 0 < n ∧ ∃ g o, a = some ⟨g, o, none⟩ ∧ B ≤ g ∧ But g w w'

theorem Marked.below {w w' : World} {B n : Nat} {a : Option Addr} (h : Marked w w' B a n) (hs : B ≤ w.heap.size) : Below B w w' := by
  rcases h with ⟨_, h⟩ | ⟨_, g, o, _, hB, h⟩
  · exact h.mono hs
  · exact h.below hB hs

theorem Marked.files {w w' : World} {B n b o : Nat} {a : Option Addr} {fs : List FileD} (h : Marked w w' B a n) (hf : FilesIn w (some ⟨b, o, none⟩) fs) (hne : ∀ g' o', a = some ⟨g', o', none⟩ → b ≠ g') : FilesIn w' (some ⟨b, o, none⟩) fs := by
  rcases h with ⟨_, h⟩ | ⟨_, g, o', rfl, _, h⟩
  · exact hf.later h
  · exact hf.but h (hne g o' rfl)

/-- Block g is the row cur, and may be written. -/
def Blk (w : World) (g : Nat) (cur : Array Value) (t : TypeId) : Prop := w.heap[g]? = some (.cells cur t (0, 0))
theorem Blk.set {w : World} {g : Nat} {cur : Array Value} {t : TypeId} (h : Blk w g cur t) (j : Nat) (v : Value) : Blk (w.setCell ⟨g, j, none⟩ v) g (cur.setIfInBounds j v) t := heap_setCell_same w g j cur t v h
theorem Blk.later {w w' : World} {g : Nat} {cur : Array Value} {t : TypeId} (h : Blk w g cur t) (hb : Below w.heap.size w w') : Blk w' g cur t := (hb.block g (lt_of_block h)).trans h
theorem Blk.cell {w : World} {g : Nat} {cur : Array Value} {t : TypeId} (h : Blk w g cur t) (j : Nat) : w.cell? ⟨g, j, none⟩ = cur[j]? := cell_of_row w g j cur t _ h
theorem Blk.free {w : World} {g : Nat} {cur : Array Value} {t : TypeId} (h : Blk w g cur t) (j : Nat) : w.frozen? ⟨g, j, none⟩ = false := frozen_of_row w g j cur t h
theorem Blk.there {w : World} {g : Nat} {cur : Array Value} {t : TypeId} (h : Blk w g cur t) {j : Nat} (hj : j < cur.size) : ∃ v, w.cell? ⟨g, j, none⟩ = some v := ⟨cur[j], by rw [h.cell]; exact Array.getElem?_eq_getElem hj⟩

/-- The cells of file j, from o on. -/
def RowFile (cur : Array Value) (o j : Nat) (f : FileD) : Prop := cur[o + j * 3]? = some (.string f.name) ∧ cur[o + j * 3 + 1]? = some (.string f.data) ∧ cur[o + j * 3 + 2]? = some (.int .i64 f.synced)

theorem RowFile.set {cur : Array Value} {o j : Nat} {f : FileD} (h : RowFile cur o j f) {p : Nat} (hp : p < o + j * 3 ∨ o + j * 3 + 2 < p) (v : Value) : RowFile (cur.setIfInBounds p v) o j f := by
  obtain ⟨a1, a2, a3⟩ := h
  refine ⟨?_, ?_, ?_⟩
  · rw [Array.getElem?_setIfInBounds_ne (by omega)]; exact a1
  · rw [Array.getElem?_setIfInBounds_ne (by omega)]; exact a2
  · rw [Array.getElem?_setIfInBounds_ne (by omega)]; exact a3

theorem RowFile.made (cur : Array Value) (o j : Nat) (f : FileD) (h : o + j * 3 + 2 < cur.size) :
    RowFile (((cur.setIfInBounds (o + j * 3) (.string f.name)).setIfInBounds (o + j * 3 + 1) (.string f.data)).setIfInBounds (o + j * 3 + 2) (.int .i64 f.synced)) o j f := by
  refine ⟨?_, ?_, ?_⟩ <;> simp [Array.getElem?_setIfInBounds] <;> omega

theorem filesAt_of_rows {w : World} {g o : Nat} {cur : Array Value} {t : TypeId} {fs : List FileD} (h : Blk w g cur t) (hr : ∀ j (hj : j < fs.length), RowFile cur o j fs[j]) : FilesAt w g o fs := by
  intro j hj
  simp only [h.cell]
  exact hr j hj

theorem rows_of_filesAt {w : World} {g o : Nat} {cur : Array Value} {t : TypeId} {fs : List FileD} (h : Blk w g cur t) (hf : FilesAt w g o fs) : ∀ j (hj : j < fs.length), RowFile cur o j fs[j] := by
  intro j hj
  have := hf j hj
  simp only [h.cell] at this
  exact this

theorem rows_size {cur : Array Value} {o : Nat} {fs : List FileD} (hr : ∀ j (hj : j < fs.length), RowFile cur o j fs[j]) : fs = [] ∨ o + fs.length * 3 ≤ cur.size := by
  by_cases h : fs.length = 0
  · exact Or.inl (List.length_eq_zero_iff.1 h)
  · right
    have := (hr (fs.length - 1) (by omega)).2.2
    have := (Array.getElem?_eq_some_iff.1 this).1
    omega
end Go.Proofs.YteajeifmllogiaaGreatDoor

namespace Go.Proofs.YteajeifmllogiaaGreatDoor
open Go.RowKit

structure RecD where
  kind : Int
  tenant : ByteArray
  text : ByteArray
  num : Int

/-- The records ls lie from ⟨b, o⟩ on, four cells each. -/
def RecsAt (w : World) (b o : Nat) (ls : List RecD) : Prop :=
  ∀ i (h : i < ls.length), w.cell? ⟨b, o + i * 4, none⟩ = some (.int .i64 ls[i].kind) ∧ w.cell? ⟨b, o + i * 4 + 1, none⟩ = some (.string ls[i].tenant) ∧ w.cell? ⟨b, o + i * 4 + 2, none⟩ = some (.string ls[i].text) ∧ w.cell? ⟨b, o + i * 4 + 3, none⟩ = some (.int .i64 ls[i].num)
/-- A slice's address holds the records ls (nothing is asked where there are none). -/
def RecsIn (w : World) (a : Option Addr) (ls : List RecD) : Prop := ls = [] ∨ ∃ b o, a = some ⟨b, o, none⟩ ∧ b < w.heap.size ∧ RecsAt w b o ls
theorem RecsIn.later {w w' : World} {a : Option Addr} {ls : List RecD} (h : RecsIn w a ls) (hb : Below w.heap.size w w') : RecsIn w' a ls := by
  rcases h with h | ⟨b, o, rfl, hlt, h⟩
  · exact Or.inl h
  · refine Or.inr ⟨b, o, rfl, Nat.lt_of_lt_of_le hlt hb.size, fun i hi => ?_⟩
    obtain ⟨h1, h2, h3, h4⟩ := h i hi
    exact ⟨by rw [← h1]; exact hb.cell hlt, by rw [← h2]; exact hb.cell hlt, by rw [← h3]; exact hb.cell hlt, by rw [← h4]; exact hb.cell hlt⟩
theorem RecsIn.at {w : World} {a : Option Addr} {ls : List RecD} (h : RecsIn w a ls) {i : Nat} (hi : i < ls.length) :
    ∃ b o, a = some ⟨b, o, none⟩ ∧ b < w.heap.size ∧ w.cell? ⟨b, o + i * 4, none⟩ = some (.int .i64 ls[i].kind) ∧ w.cell? ⟨b, o + i * 4 + 1, none⟩ = some (.string ls[i].tenant) ∧ w.cell? ⟨b, o + i * 4 + 2, none⟩ = some (.string ls[i].text) ∧ w.cell? ⟨b, o + i * 4 + 3, none⟩ = some (.int .i64 ls[i].num) := by
  rcases h with rfl | ⟨b, o, rfl, hlt, h⟩
  · exact absurd hi (by simp)
  · exact ⟨b, o, rfl, hlt, h i hi⟩
theorem RecsIn.but {g : Nat} {w w' : World} {a : Option Addr} {l : List RecD} (h : RecsIn w a l) (hb : But g w w') (hg : l = [] ∨ ∃ b o, a = some ⟨b, o, none⟩ ∧ b ≠ g) : RecsIn w' a l := by
  rcases hg with hg | ⟨b, o, rfl, hne⟩
  · exact Or.inl hg
  · rcases h with h | ⟨b', o', e, hlt, h⟩
    · exact Or.inl h
    · simp only [Option.some.injEq, Addr.mk.injEq, and_true] at e
      obtain ⟨rfl, rfl⟩ := e
      have hk : ∀ j, w'.cell? ⟨b, j, none⟩ = w.cell? ⟨b, j, none⟩ := fun j => World.cell?_of_block (hb.block b hlt hne)
      exact Or.inr ⟨b, o, rfl, Nat.lt_of_lt_of_le hlt hb.size, fun i hi => by simp only [hk]; exact h i hi⟩
theorem RecsIn.take {w : World} {a : Option Addr} {ls : List RecD} (h : RecsIn w a ls) (n : Nat) : RecsIn w a (ls.take n) := by
  rcases h with h | ⟨b, o, e, hlt, h⟩
  · exact Or.inl (by rw [h]; simp)
  · refine Or.inr ⟨b, o, e, hlt, fun i hi => ?_⟩
    rw [List.getElem_take]
    exact h i (by simp at hi; omega)

/-- The records lie in a block of their own, from B on, that may be written. -/
def RecsOwn (w : World) (B : Nat) (a : Option Addr) (ls : List RecD) : Prop :=
  ls = [] ∨ ∃ g o cur t, a = some ⟨g, o, none⟩ ∧ B ≤ g ∧ w.heap[g]? = some (.cells cur t (0, 0)) ∧ RecsAt w g o ls
theorem RecsOwn.recs {w : World} {B : Nat} {a : Option Addr} {ls : List RecD} (h : RecsOwn w B a ls) : RecsIn w a ls := by
  rcases h with h | ⟨g, o, cur, t, rfl, _, hb, h⟩
  · exact Or.inl h
  · exact Or.inr ⟨g, o, rfl, lt_of_block hb, h⟩
theorem RecsOwn.later {w w' : World} {B : Nat} {a : Option Addr} {ls : List RecD} (h : RecsOwn w B a ls) (hb : Below w.heap.size w w') : RecsOwn w' B a ls := by
  rcases h with h | ⟨g, o, cur, t, rfl, hB, hg, h⟩
  · exact Or.inl h
  · have hlt := lt_of_block hg
    have hk : ∀ j, w'.cell? ⟨g, j, none⟩ = w.cell? ⟨g, j, none⟩ := fun j => World.cell?_of_block (hb.block g hlt)
    exact Or.inr ⟨g, o, cur, t, rfl, hB, (hb.block g hlt).trans hg, fun i hi => by simp only [hk]; exact h i hi⟩
theorem RecsOwn.mono {w : World} {B B' : Nat} {a : Option Addr} {ls : List RecD} (h : RecsOwn w B a ls) (hB : B' ≤ B) : RecsOwn w B' a ls := by
  rcases h with h | ⟨g, o, cur, t, rfl, hB', hg, h⟩
  · exact Or.inl h
  · exact Or.inr ⟨g, o, cur, t, rfl, Nat.le_trans hB hB', hg, h⟩

/-- The cells of label j, from o on. -/
def RowRec (cur : Array Value) (o j : Nat) (f : RecD) : Prop := cur[o + j * 4]? = some (.int .i64 f.kind) ∧ cur[o + j * 4 + 1]? = some (.string f.tenant) ∧ cur[o + j * 4 + 2]? = some (.string f.text) ∧ cur[o + j * 4 + 3]? = some (.int .i64 f.num)
theorem RowRec.set {cur : Array Value} {o j : Nat} {f : RecD} (h : RowRec cur o j f) {p : Nat} (hp : p < o + j * 4 ∨ o + j * 4 + 3 < p) (v : Value) : RowRec (cur.setIfInBounds p v) o j f := by
  obtain ⟨a1, a2, a3, a4⟩ := h
  refine ⟨?_, ?_, ?_, ?_⟩
  · rw [Array.getElem?_setIfInBounds_ne (by omega)]; exact a1
  · rw [Array.getElem?_setIfInBounds_ne (by omega)]; exact a2
  · rw [Array.getElem?_setIfInBounds_ne (by omega)]; exact a3
  · rw [Array.getElem?_setIfInBounds_ne (by omega)]; exact a4
theorem RowRec.made (cur : Array Value) (o j : Nat) (f : RecD) (h : o + j * 4 + 3 < cur.size) :
    RowRec ((((cur.setIfInBounds (o + j * 4) (.int .i64 f.kind)).setIfInBounds (o + j * 4 + 1) (.string f.tenant)).setIfInBounds (o + j * 4 + 2) (.string f.text)).setIfInBounds (o + j * 4 + 3) (.int .i64 f.num)) o j f := by
  refine ⟨?_, ?_, ?_, ?_⟩ <;> simp [Array.getElem?_setIfInBounds] <;> omega
theorem recsAt_of_rows {w : World} {g o : Nat} {cur : Array Value} {t : TypeId} {fs : List RecD} (h : Blk w g cur t) (hr : ∀ j (hj : j < fs.length), RowRec cur o j fs[j]) : RecsAt w g o fs := by
  intro j hj
  simp only [h.cell]
  exact hr j hj
theorem rows_of_recsAt {w : World} {g o : Nat} {cur : Array Value} {t : TypeId} {fs : List RecD} (h : Blk w g cur t) (hf : RecsAt w g o fs) : ∀ j (hj : j < fs.length), RowRec cur o j fs[j] := by
  intro j hj
  have := hf j hj
  simp only [h.cell] at this
  exact this
theorem recs_size {cur : Array Value} {o : Nat} {fs : List RecD} (hr : ∀ j (hj : j < fs.length), RowRec cur o j fs[j]) : fs.length = 0 ∨ o + fs.length * 4 ≤ cur.size := by
  by_cases h : fs.length = 0
  · exact Or.inl h
  · right
    have := (hr (fs.length - 1) (by omega)).2.2.2
    have := (Array.getElem?_eq_some_iff.1 this).1
    omega
theorem recs_of_row {w : World} {B : Nat} {e : TypeId} {a : Option Addr} {cap : Nat} {l : List RecD}
    (h : w.ownsRow B e 4 (.slice a l.length cap) l.length (l.flatMap fun x => [.int .i64 x.kind, .string x.tenant, .string x.text, .int .i64 x.num])) : RecsOwn w B a l := by
  rcases h.2 with ⟨_, hl⟩ | ⟨g, cap', cur, he, hB, hg, _, _, hsz, htk⟩
  · exact Or.inl (List.length_eq_zero_iff.1 hl)
  · simp only [Value.slice.injEq] at he
    have hf : ∀ (l : List RecD) i (hi : i < l.length), (l.flatMap fun x => [Value.int .i64 x.kind, .string x.tenant, .string x.text, .int .i64 x.num])[i * 4]? = some (.int .i64 l[i].kind) ∧ (l.flatMap fun x => [Value.int .i64 x.kind, .string x.tenant, .string x.text, .int .i64 x.num])[i * 4 + 1]? = some (.string l[i].tenant) ∧ (l.flatMap fun x => [Value.int .i64 x.kind, .string x.tenant, .string x.text, .int .i64 x.num])[i * 4 + 2]? = some (.string l[i].text) ∧ (l.flatMap fun x => [Value.int .i64 x.kind, .string x.tenant, .string x.text, .int .i64 x.num])[i * 4 + 3]? = some (.int .i64 l[i].num) := by
      intro l
      induction l with
      | nil => intro i hi; exact absurd hi (by simp)
      | cons x r ih =>
        intro i hi
        cases i with
        | zero => simp
        | succ i =>
          have := ih i (by simpa using hi)
          simp only [List.flatMap_cons, List.cons_append, List.nil_append, List.getElem_cons_succ]
          refine ⟨?_, ?_, ?_, ?_⟩
          · rw [show (i + 1) * 4 = i * 4 + 1 + 1 + 1 + 1 by omega, List.getElem?_cons_succ, List.getElem?_cons_succ, List.getElem?_cons_succ, List.getElem?_cons_succ]; exact this.1
          · rw [show (i + 1) * 4 + 1 = i * 4 + 1 + 1 + 1 + 1 + 1 by omega, List.getElem?_cons_succ, List.getElem?_cons_succ, List.getElem?_cons_succ, List.getElem?_cons_succ]; exact this.2.1
          · rw [show (i + 1) * 4 + 2 = i * 4 + 2 + 1 + 1 + 1 + 1 by omega, List.getElem?_cons_succ, List.getElem?_cons_succ, List.getElem?_cons_succ, List.getElem?_cons_succ]; exact this.2.2.1
          · rw [show (i + 1) * 4 + 3 = i * 4 + 3 + 1 + 1 + 1 + 1 by omega, List.getElem?_cons_succ, List.getElem?_cons_succ, List.getElem?_cons_succ, List.getElem?_cons_succ]; exact this.2.2.2
    refine Or.inr ⟨g, 0, cur, e, he.1, hB, hg, fun i hi => ?_⟩
    have h2 : ∀ j, j < l.length * 4 → cur[j]? = (l.flatMap fun x => [Value.int .i64 x.kind, .string x.tenant, .string x.text, .int .i64 x.num])[j]? := fun j hj => by
      rw [← htk, List.getElem?_take_of_lt hj, Array.getElem?_toList]
    rw [cell_of_row w g _ cur _ _ hg, cell_of_row w g _ cur _ _ hg, cell_of_row w g _ cur _ _ hg, cell_of_row w g _ cur _ _ hg, Nat.zero_add, h2 _ (by omega), h2 _ (by omega), h2 _ (by omega), h2 _ (by omega)]
    exact hf l i hi

def recBulk : List RecD → Nat
  | [] => 0
  | f :: r => f.tenant.size + f.text.size + recBulk r
theorem recBulk_append (a b : List RecD) : recBulk (a ++ b) = recBulk a + recBulk b := by
  induction a with
  | nil => simp [recBulk]
  | cons f r ih => simp [recBulk, ih]; omega
theorem recBulk_take_succ (fs : List RecD) (k : Nat) (h : k < fs.length) : recBulk (fs.take (k + 1)) = recBulk (fs.take k) + (fs[k].tenant.size + fs[k].text.size) := by
  rw [List.take_succ_eq_append_getElem h, recBulk_append]; simp [recBulk]
theorem recBulk_take_le (fs : List RecD) (k : Nat) : recBulk (fs.take k) ≤ recBulk fs := by
  have := recBulk_append (fs.take k) (fs.drop k)
  rw [List.take_append_drop] at this; omega
def szRc (left : Int) (f : RecD) : Int := if (f.tenant.size + f.text.size : Int) ≤ left then left - f.tenant.size - f.text.size else -1
def szRecs (left : Int) (fs : List RecD) : Int := if (fs.length + recBulk fs : Int) ≤ left then left - fs.length - recBulk fs else -1
def ShortR (fs : List RecD) : Prop := ∀ i (h : i < fs.length), fs[i].tenant.size ≤ maxLen ∧ fs[i].text.size ≤ maxLen

end Go.Proofs.YteajeifmllogiaaGreatDoor

namespace Go.Proofs.YteajeifmllogiaaGreatDoor
open Go.RowKit

/-- The number that these bytes are, the highest first. -/
def beL (l : List UInt8) : Nat := l.foldl (fun v c => v * 256 + c.toNat) 0
theorem beL_snoc (l : List UInt8) (c : UInt8) : beL (l ++ [c]) = beL l * 256 + c.toNat := by simp [beL]
theorem beL_lt (l : List UInt8) : beL l < 256 ^ l.length := by
  have hg : ∀ (n : Nat) (l : List UInt8), l.length = n → beL l < 256 ^ n := fun n => by
    induction n with
    | zero => intro l h; rw [List.length_eq_zero_iff.1 h]; decide
    | succ n ih =>
      intro l h
      have hne : l ≠ [] := by intro e; rw [e] at h; simp at h
      rw [← List.dropLast_concat_getLast hne, beL_snoc]
      have h1 := ih l.dropLast (by simp [h])
      have h2 := (l.getLast hne).toNat_lt
      rw [Nat.pow_succ]
      omega
  exact hg _ l rfl
/-- n bytes of s from p on. -/
def sectL (s : ByteArray) (p n : Nat) : List UInt8 := (s.data.toList.drop p).take n
theorem sectL_length {s : ByteArray} {p n : Nat} (h : p + n ≤ s.size) : (sectL s p n).length = n := by
  have : s.data.toList.length = s.size := by simp
  simp only [sectL, List.length_take, List.length_drop]
  omega
theorem sectL_snoc {s : ByteArray} {p k : Nat} (h : p + k < s.size) : sectL s p (k + 1) = sectL s p k ++ [s[p + k]] := by
  have hl : s.data.toList.length = s.size := by simp
  unfold sectL
  rw [List.take_succ_eq_append_getElem (by rw [List.length_drop, hl]; omega), List.getElem_drop]
  rfl

end Go.Proofs.YteajeifmllogiaaGreatDoor

namespace Go.Proofs.YteajeifmllogiaaGreatDoor
open Go.RowKit

def flat (fs : List FileD) : List Value := fs.flatMap fun f => [.string f.name, .string f.data, .int .i64 f.synced]

theorem flat_append (a b : List FileD) : flat (a ++ b) = flat a ++ flat b := by simp [flat]
theorem flat_one (f : FileD) : flat [f] = [.string f.name, .string f.data, .int .i64 f.synced] := rfl
theorem flat_length (fs : List FileD) : (flat fs).length = fs.length * 3 := by
  induction fs with
  | nil => rfl
  | cons f r ih => simp [flat] at *; omega

theorem flat_get : ∀ (fs : List FileD) (j : Nat) (h : j < fs.length), (flat fs)[j * 3]? = some (.string fs[j].name) ∧ (flat fs)[j * 3 + 1]? = some (.string fs[j].data) ∧ (flat fs)[j * 3 + 2]? = some (.int .i64 fs[j].synced)
  | [], _, h => absurd h (by simp)
  | f :: r, 0, _ => by simp [flat]
  | f :: r, j + 1, h => by
    have ih := flat_get r j (by simpa using h)
    have e : flat (f :: r) = [.string f.name, .string f.data, .int .i64 f.synced] ++ flat r := rfl
    rw [e]
    have e1 : (j + 1) * 3 = 3 + j * 3 := by omega
    have e2 : (j + 1) * 3 + 1 = 3 + (j * 3 + 1) := by omega
    have e3 : (j + 1) * 3 + 2 = 3 + (j * 3 + 2) := by omega
    have hq : ∀ p, ([.string f.name, .string f.data, .int .i64 f.synced] ++ flat r)[3 + p]? = (flat r)[p]? := fun p => by
      rw [List.getElem?_append_right (by simp)]; simp
    rw [e3, e2, e1, hq, hq, hq]
    exact ih

theorem flat_one_cell (fs : List FileD) : ∀ u ∈ flat fs, u.oneCell' = true := by
  intro u hu
  simp only [flat, List.mem_flatMap, List.mem_cons, List.not_mem_nil, or_false] at hu
  obtain ⟨f, _, rfl | rfl | rfl⟩ := hu <;> rfl

/-- A row of files that the call owns. -/
theorem owned_of_row {w : World} {B : Nat} {e : TypeId} {v : Value} {fs : List FileD} (h : w.ownsRow B e 3 v fs.length (flat fs)) : ∃ a cap, v = .slice a fs.length cap ∧ Owned w B a fs := by
  rcases h.2 with ⟨rfl, h0⟩ | ⟨g, cap, cur, rfl, hB, hg, _, _, _, ht⟩
  · have : fs = [] := List.length_eq_zero_iff.1 h0
    subst this
    exact ⟨none, 0, rfl, Or.inl rfl⟩
  · refine ⟨_, cap, rfl, Or.inr ⟨g, 0, cur, e, rfl, hB, hg, filesAt_of_rows hg fun j hj => ?_⟩⟩
    have key : ∀ p v, (flat fs)[p]? = some v → cur[p]? = some v := fun p v hp => by
      rw [← ht] at hp
      have hlt := (List.getElem?_eq_some_iff.1 hp).1
      rw [List.length_take] at hlt
      rw [List.getElem?_take_of_lt (by omega)] at hp
      simpa using hp
    obtain ⟨a1, a2, a3⟩ := flat_get fs j hj
    refine ⟨?_, ?_, ?_⟩
    · rw [Nat.zero_add]; exact key _ _ a1
    · rw [Nat.zero_add]; exact key _ _ a2
    · rw [Nat.zero_add]; exact key _ _ a3

theorem row_later {w w' : World} {B : Nat} {e : TypeId} {size : Nat} {v : Value} {n : Nat} {xs : List Value} (h : w.ownsRow B e size v n xs) (hb : Below w.heap.size w w') : w'.ownsRow B e size v n xs := by
  obtain ⟨h1, h2⟩ := h
  refine ⟨h1, ?_⟩
  rcases h2 with h2 | ⟨g, cap, cur, hv, hB, hg, r⟩
  · exact Or.inl h2
  · exact Or.inr ⟨g, cap, cur, hv, hB, (hb.block g (lt_of_block hg)).trans hg, r⟩

theorem row_set_below {w : World} {B : Nat} {e : TypeId} {size : Nat} {v : Value} {n : Nat} {xs : List Value} (h : w.ownsRow B e size v n xs) {p : Addr} (hp : p.block < B) (u : Value) : (w.setCell p u).ownsRow B e size v n xs := by
  obtain ⟨h1, h2⟩ := h
  refine ⟨h1, ?_⟩
  rcases h2 with h2 | ⟨g, cap, cur, hv, hB, hg, r⟩
  · exact Or.inl h2
  · exact Or.inr ⟨g, cap, cur, hv, hB, (Below.heap_setCell w p u g (by omega)).trans hg, r⟩

/-- The cells of files that lie behind an address. -/
theorem cells_of_files {w : World} {b o : Nat} {fs : List FileD} (h : FilesAt w b o fs) : ∀ j u, (flat fs)[j]? = some u → w.cell? ((⟨b, o, none⟩ : Addr).add j) = some u := by
  intro j u hu
  have hlt := (List.getElem?_eq_some_iff.1 hu).1
  rw [flat_length] at hlt
  have hj : j / 3 < fs.length := by omega
  obtain ⟨a1, a2, a3⟩ := flat_get fs (j / 3) hj
  obtain ⟨c1, c2, c3⟩ := h (j / 3) hj
  have hadd : (⟨b, o, none⟩ : Addr).add j = ⟨b, o + j, none⟩ := by unfold Addr.add; split <;> simp_all
  rw [hadd]
  have hm : j % 3 = 0 ∨ j % 3 = 1 ∨ j % 3 = 2 := by omega
  rcases hm with hm | hm | hm
  · have e : j = j / 3 * 3 := by omega
    rw [e] at hu
    rw [a1] at hu
    rw [show o + j = o + j / 3 * 3 by omega, c1]; exact hu
  · have e : j = j / 3 * 3 + 1 := by omega
    rw [e] at hu
    rw [a2] at hu
    rw [show o + j = o + j / 3 * 3 + 1 by omega, c2]; exact hu
  · have e : j = j / 3 * 3 + 2 := by omega
    rw [e] at hu
    rw [a3] at hu
    rw [show o + j = o + j / 3 * 3 + 2 by omega, c3]; exact hu
end Go.Proofs.YteajeifmllogiaaGreatDoor

