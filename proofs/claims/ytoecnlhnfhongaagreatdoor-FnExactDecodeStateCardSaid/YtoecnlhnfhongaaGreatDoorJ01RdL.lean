import Derived.WalkKit
import Derived.Below
import Derived.BigQuiet
import Derived.WalkLawsBesides
import Derived.WalkSpells
import Derived.Deep.AppendLies
import Derived.Test.YtoecnlhnfhongaaGreatDoorProg
import Derived.Laws.BytesArg
namespace Go.Proofs.YtoecnlhnfhongaaGreatDoor
open Go.RowKit

structure FileD where
  name : ByteArray
  data : ByteArray
  synced : Int

/-- The files fs lie from ⟨b, o⟩ on, three cells each. -/
def FilesAt (w : World) (b o : Nat) (fs : List FileD) : Prop :=
  ∀ i (h : i < fs.length), w.cell? ⟨b, o + i * 3, none⟩ = some (.string fs[i].name) ∧
    w.cell? ⟨b, o + i * 3 + 1, none⟩ = some (.string fs[i].data) ∧ w.cell? ⟨b, o + i * 3 + 2, none⟩ = some (.int .i64 fs[i].synced)

theorem bcell {B : Nat} {W w1 : World} (hb : Below B W w1) : (∀ b o, b < B → w1.cell? ⟨b, o, none⟩ = W.cell? ⟨b, o, none⟩) ∧ (∀ b o, b < B → w1.frozen? ⟨b, o, none⟩ = W.frozen? ⟨b, o, none⟩) :=
  ⟨fun b o h => hb.cell (p := ⟨b, o, none⟩) h, fun b o h => hb.frozen (p := ⟨b, o, none⟩) h⟩

theorem ret_int {k : IntKind} {a b : Int} (h : a = b) : Ending.returned (.int k a) = .returned (.int k b) := by rw [h]
theorem ret_bool {a b : Bool} (h : a = b) : Ending.returned (.bool a) = .returned (.bool b) := by rw [h]

/-- A world in which all that lay in w lies as it did. -/
structure Later (w : World) where
  w' : World
  h : Below w.heap.size w w'

theorem Later.there (w : World) : Nonempty (Later w) := ⟨⟨w, Below.refl _ _⟩⟩

theorem Later.cell {w : World} (x : Later w) {b o : Nat} {v : Value} (h : w.cell? ⟨b, o, none⟩ = some v) : x.w'.cell? ⟨b, o, none⟩ = some v := by
  have hb : b < w.heap.size := by
    rcases Nat.lt_or_ge b w.heap.size with hlt | hge
    · exact hlt
    · simp [World.cell?, Array.getElem?_eq_none hge] at h
  rw [← h]; exact x.h.cell hb

theorem Later.cells {w : World} {b o : Nat} {v : Value} (h : w.cell? ⟨b, o, none⟩ = some v) : ∀ x : Later w, x.w'.cell? ⟨b, o, none⟩ = some v := fun x => x.cell h

/-- A region that draws its order, whose operations read what lay in w and whose callees turn nothing of it. -/
theorem wp_region_later {P : Program} {id : Nat} {Q : Exit → Act → World → Prop} {a : Act} {w : World} {l : List Oper} (hm : P.follows .mixedOrders = true) (hB : Region.lexB .any l.toArray = true)
    (h : wpQuiet P l.toArray (fun w' => ∃ x : Later w, w' = x.w') (fun a' => ∀ w', (∃ x : Later w, w' = x.w') → Q .normal a' w') l a) : (Code.region id l.toArray true).wp P Q a w :=
  wp_region_quiet (C := fun w' => ∃ x : Later w, w' = x.w') hm hB ⟨⟨w.drew, (Below.refl _ _).drew⟩, rfl⟩ (by simpa using h)

theorem calls_later {P : Program} {f : FuncId} {args : Array Value} {w : World} {x : Later w} {v : Value}
    (h : Calls P f args x.w' fun e w'' => e = .returned v ∧ Below x.w'.heap.size x.w' w'') : Calls P f args x.w' fun e w'' => e = .returned v ∧ ∃ y : Later w, w'' = y.w' :=
  h.mono fun _ w'' ⟨he, hb⟩ => ⟨he, ⟨w'', x.h.trans (hb.mono x.h.size)⟩, rfl⟩

theorem calls_later_same {P : Program} {f : FuncId} {args : Array Value} {w : World} {x : Later w} {v : Value}
    (h : Calls P f args x.w' fun e w'' => e = .returned v ∧ w'' = x.w') : Calls P f args x.w' fun e w'' => e = .returned v ∧ ∃ y : Later w, w'' = y.w' :=
  h.mono fun _ _ ⟨he, hb⟩ => ⟨he, x, hb⟩

def szF (left : Int) (f : FileD) : Int := if (f.name.size + f.data.size : Int) ≤ left then left - f.name.size - f.data.size else -1

/-- A slice's address holds the files fs (nothing is asked where there are none). -/
def FilesIn (w : World) (a : Option Addr) (fs : List FileD) : Prop := fs = [] ∨ ∃ b o, a = some ⟨b, o, none⟩ ∧ b < w.heap.size ∧ FilesAt w b o fs

theorem FilesIn.later {w w' : World} {a : Option Addr} {fs : List FileD} (h : FilesIn w a fs) (hb : Below w.heap.size w w') : FilesIn w' a fs := by
  rcases h with h | ⟨b, o, rfl, hlt, h⟩
  · exact Or.inl h
  · refine Or.inr ⟨b, o, rfl, Nat.lt_of_lt_of_le hlt hb.size, fun i hi => ?_⟩
    obtain ⟨h1, h2, h3⟩ := h i hi
    exact ⟨by rw [← h1]; exact hb.cell hlt, by rw [← h2]; exact hb.cell hlt, by rw [← h3]; exact hb.cell hlt⟩

theorem FilesIn.at {w : World} {a : Option Addr} {fs : List FileD} (h : FilesIn w a fs) {i : Nat} (hi : i < fs.length) :
    ∃ b o, a = some ⟨b, o, none⟩ ∧ b < w.heap.size ∧ w.cell? ⟨b, o + i * 3, none⟩ = some (.string fs[i].name) ∧
      w.cell? ⟨b, o + i * 3 + 1, none⟩ = some (.string fs[i].data) ∧ w.cell? ⟨b, o + i * 3 + 2, none⟩ = some (.int .i64 fs[i].synced) := by
  rcases h with rfl | ⟨b, o, rfl, hlt, h⟩
  · exact absurd hi (by simp)
  · exact ⟨b, o, rfl, hlt, h i hi⟩

theorem FilesIn.setCell {w : World} {g o : Nat} {fs : List FileD} (h : FilesIn w (some ⟨g, o, none⟩) fs) {p : Addr} (hp : p.block ≠ g) (v : Value) : FilesIn (w.setCell p v) (some ⟨g, o, none⟩) fs := by
  rcases h with h | ⟨b, o', e, hlt, h⟩
  · exact Or.inl h
  · simp only [Option.some.injEq, Addr.mk.injEq, and_true] at e
    obtain ⟨rfl, rfl⟩ := e
    have hk : ∀ j, (w.setCell p v).cell? ⟨g, j, none⟩ = w.cell? ⟨g, j, none⟩ := fun j => World.cell?_of_block (Below.heap_setCell w p v g (Ne.symm hp))
    refine Or.inr ⟨g, o, rfl, by simpa [World.setCell] using hlt, fun i hi => ?_⟩
    simp only [hk]
    exact h i hi

def bulk : List FileD → Nat
  | [] => 0
  | f :: r => f.name.size + f.data.size + bulk r

theorem bulk_append (a b : List FileD) : bulk (a ++ b) = bulk a + bulk b := by
  induction a with
  | nil => simp [bulk]
  | cons f r ih => simp [bulk, ih]; omega

theorem bulk_take_succ (fs : List FileD) (k : Nat) (h : k < fs.length) : bulk (fs.take (k + 1)) = bulk (fs.take k) + (fs[k].name.size + fs[k].data.size) := by
  rw [List.take_succ_eq_append_getElem h, bulk_append]; simp [bulk]

theorem bulk_take_le (fs : List FileD) (k : Nat) : bulk (fs.take k) ≤ bulk fs := by
  have := bulk_append (fs.take k) (fs.drop k)
  rw [List.take_append_drop] at this; omega

def sumLen : List FileD → Nat
  | [] => 0
  | f :: r => f.data.size + sumLen r

theorem sumLen_append (a b : List FileD) : sumLen (a ++ b) = sumLen a + sumLen b := by
  induction a with
  | nil => simp [sumLen]
  | cons f r ih => simp [sumLen, ih]; omega

theorem sumLen_take_succ (fs : List FileD) (k : Nat) (h : k < fs.length) : sumLen (fs.take (k + 1)) = sumLen (fs.take k) + fs[k].data.size := by
  rw [List.take_succ_eq_append_getElem h, sumLen_append]; simp [sumLen]

theorem sumLen_take_le (fs : List FileD) (k : Nat) : sumLen (fs.take k) ≤ sumLen fs := by
  have := sumLen_append (fs.take k) (fs.drop k)
  rw [List.take_append_drop] at this; omega

theorem sumLen_le_bulk (fs : List FileD) : sumLen fs ≤ bulk fs := by
  induction fs with
  | nil => exact Nat.le_refl _
  | cons f r ih => simp [sumLen, bulk]; omega

def szFs (left : Int) (fs : List FileD) : Int := if (fs.length + bulk fs : Int) ≤ left then left - fs.length - bulk fs else -1
def Short (fs : List FileD) : Prop := ∀ i (h : i < fs.length), fs[i].name.size ≤ maxLen ∧ fs[i].data.size ≤ maxLen

/-- The six cells of a disk lie at the head of block b. -/
def BoxAt (w : World) (b : Nat) (v0 v1 v2 v3 v4 v5 : Value) : Prop :=
  w.cell? ⟨b, 0, none⟩ = some v0 ∧ w.cell? ⟨b, 1, none⟩ = some v1 ∧ w.cell? ⟨b, 2, none⟩ = some v2 ∧ w.cell? ⟨b, 3, none⟩ = some v3 ∧ w.cell? ⟨b, 4, none⟩ = some v4 ∧ w.cell? ⟨b, 5, none⟩ = some v5

theorem BoxAt.new (w : World) (v0 v1 v2 v3 v4 v5 : Value) (t : TypeId) : BoxAt (w.alloc (.cells #[v0, v1, v2, v3, v4, v5] t)) w.heap.size v0 v1 v2 v3 v4 v5 := by
  simp [BoxAt, go_sem]

theorem BoxAt.lt {w : World} {b : Nat} {v0 v1 v2 v3 v4 v5 : Value} (h : BoxAt w b v0 v1 v2 v3 v4 v5) : b < w.heap.size := by
  rcases Nat.lt_or_ge b w.heap.size with hlt | hge
  · exact hlt
  · have := h.1
    simp [World.cell?, Array.getElem?_eq_none hge] at this

theorem BoxAt.later {w w' : World} {b : Nat} {v0 v1 v2 v3 v4 v5 : Value} (h : BoxAt w b v0 v1 v2 v3 v4 v5) (hb : Below w.heap.size w w') : BoxAt w' b v0 v1 v2 v3 v4 v5 := by
  have hl := h.lt
  obtain ⟨h0, h1, h2, h3, h4, h5⟩ := h
  exact ⟨(hb.cell hl).trans h0, (hb.cell hl).trans h1, (hb.cell hl).trans h2, (hb.cell hl).trans h3, (hb.cell hl).trans h4, (hb.cell hl).trans h5⟩

theorem bto {a b c : World} (h : Below a.heap.size a b) (k : Below b.heap.size b c) : Below a.heap.size a c := h.trans (k.mono h.size)
theorem bnew (w : World) (o : Obj) : Below w.heap.size w (w.alloc o) := (Below.refl _ _).alloc (Nat.le_refl _) _
end Go.Proofs.YtoecnlhnfhongaaGreatDoor

namespace Go.Proofs.YtoecnlhnfhongaaGreatDoor
open Go.RowKit

/-- The number that these bytes are, the highest first. -/
def beL (l : List UInt8) : Nat := l.foldl (fun v c => v * 256 + c.toNat) 0
theorem beL_snoc (l : List UInt8) (c : UInt8) : beL (l ++ [c]) = beL l * 256 + c.toNat := by simp [beL]
theorem beL_lt (l : List UInt8) : beL l < 256 ^ l.length := by
  have hg : ∀ (n : Nat) (l : List UInt8), l.length = n → beL l < 256 ^ n := fun n => by
    induction n with
    | zero => intro l h; rw [List.length_eq_zero_iff.1 h]; decide
    | succ n ih =>
      intro l h
      have hne : l ≠ [] := by intro e; rw [e] at h; simp at h
      rw [← List.dropLast_concat_getLast hne, beL_snoc]
      have h1 := ih l.dropLast (by simp [h])
      have h2 := (l.getLast hne).toNat_lt
      rw [Nat.pow_succ]
      omega
  exact hg _ l rfl
/-- n bytes of s from p on. -/
def sectL (s : ByteArray) (p n : Nat) : List UInt8 := (s.data.toList.drop p).take n
theorem sectL_length {s : ByteArray} {p n : Nat} (h : p + n ≤ s.size) : (sectL s p n).length = n := by
  have : s.data.toList.length = s.size := by simp
  simp only [sectL, List.length_take, List.length_drop]
  omega
theorem sectL_snoc {s : ByteArray} {p k : Nat} (h : p + k < s.size) : sectL s p (k + 1) = sectL s p k ++ [s[p + k]] := by
  have hl : s.data.toList.length = s.size := by simp
  unfold sectL
  rw [List.take_succ_eq_append_getElem (by rw [List.length_drop, hl]; omega), List.getElem_drop]
  rfl

end Go.Proofs.YtoecnlhnfhongaaGreatDoor

namespace Go.Proofs.YtoecnlhnfhongaaGreatDoor
open Go.RowKit

/-- Of what lay in w only block g may have turned. -/
structure But (g : Nat) (w w' : World) : Prop where
  os : w'.os = w.os
  tape : w'.tape = w.tape
  output : w'.output = w.output
  size : w.heap.size ≤ w'.heap.size
  block : ∀ k, k < w.heap.size → k ≠ g → w'.heap[k]? = w.heap[k]?

theorem But.refl (g : Nat) (w : World) : But g w w := ⟨rfl, rfl, rfl, Nat.le_refl _, fun _ _ _ => rfl⟩
theorem But.trans {g : Nat} {a b c : World} (h : But g a b) (k : But g b c) : But g a c :=
  ⟨k.os.trans h.os, k.tape.trans h.tape, k.output.trans h.output, Nat.le_trans h.size k.size, fun i hi hg => (k.block i (Nat.lt_of_lt_of_le hi h.size) hg).trans (h.block i hi hg)⟩
theorem But.of {g : Nat} {w w' : World} (h : Below w.heap.size w w') : But g w w' := ⟨h.os, h.tape, h.output, h.size, fun k hk _ => h.block k hk⟩
theorem But.setCell {g : Nat} {a w : World} (h : But g a w) (o : Nat) (v : Value) : But g a (w.setCell ⟨g, o, none⟩ v) :=
  h.trans ⟨rfl, rfl, rfl, by simp [World.setCell], fun k _ hk => Below.heap_setCell _ _ _ _ hk⟩
theorem But.below {g B : Nat} {w w' : World} (h : But g w w') (hB : B ≤ g) (hs : B ≤ w.heap.size) : Below B w w' :=
  ⟨h.os, h.tape, h.output, h.size, fun k hk => h.block k (by omega) (by omega)⟩

theorem FilesIn.but {g b o : Nat} {w w' : World} {fs : List FileD} (h : FilesIn w (some ⟨b, o, none⟩) fs) (hb : But g w w') (hg : b ≠ g) : FilesIn w' (some ⟨b, o, none⟩) fs := by
  rcases h with h | ⟨b', o', e, hlt, h⟩
  · exact Or.inl h
  · simp only [Option.some.injEq, Addr.mk.injEq, and_true] at e
    obtain ⟨rfl, rfl⟩ := e
    have hk : ∀ j, w'.cell? ⟨b, j, none⟩ = w.cell? ⟨b, j, none⟩ := fun j => World.cell?_of_block (hb.block b hlt hg)
    exact Or.inr ⟨b, o, rfl, Nat.lt_of_lt_of_le hlt hb.size, fun i hi => by simp only [hk]; exact h i hi⟩

/-- The files fs lie in a block of their own, from B on, that may be written. -/
def Owned (w : World) (B : Nat) (a : Option Addr) (fs : List FileD) : Prop :=
  fs = [] ∨ ∃ g o cur t, a = some ⟨g, o, none⟩ ∧ B ≤ g ∧ w.heap[g]? = some (.cells cur t (0, 0)) ∧ FilesAt w g o fs

theorem lt_of_block {w : World} {g : Nat} {x : Obj} (h : w.heap[g]? = some x) : g < w.heap.size := by
  rcases Nat.lt_or_ge g w.heap.size with hlt | hge
  · exact hlt
  · rw [Array.getElem?_eq_none hge] at h; exact absurd h (by simp)

theorem Owned.files {w : World} {B : Nat} {a : Option Addr} {fs : List FileD} (h : Owned w B a fs) : FilesIn w a fs := by
  rcases h with h | ⟨g, o, cur, t, rfl, _, hb, h⟩
  · exact Or.inl h
  · exact Or.inr ⟨g, o, rfl, lt_of_block hb, h⟩

theorem Owned.later {w w' : World} {B : Nat} {a : Option Addr} {fs : List FileD} (h : Owned w B a fs) (hb : Below w.heap.size w w') : Owned w' B a fs := by
  rcases h with h | ⟨g, o, cur, t, rfl, hB, hg, h⟩
  · exact Or.inl h
  · have hlt := lt_of_block hg
    have hk : ∀ j, w'.cell? ⟨g, j, none⟩ = w.cell? ⟨g, j, none⟩ := fun j => World.cell?_of_block (hb.block g hlt)
    exact Or.inr ⟨g, o, cur, t, rfl, hB, (hb.block g hlt).trans hg, fun i hi => by simp only [hk]; exact h i hi⟩

theorem Owned.mono {w : World} {B B' : Nat} {a : Option Addr} {fs : List FileD} (h : Owned w B a fs) (hB : B' ≤ B) : Owned w B' a fs := by
  rcases h with h | ⟨g, o, cur, t, rfl, hB', hg, h⟩
  · exact Or.inl h
  · exact Or.inr ⟨g, o, cur, t, rfl, Nat.le_trans hB hB', hg, h⟩

/-- The text of k, as its digits. -/
def digits : Nat → Nat → List UInt8 → List UInt8
  | 0, _, acc => acc
  | fuel + 1, k, acc => if k = 0 then acc else digits fuel (k / 10) ((48 + UInt8.ofNat (k % 10)) :: acc)
def mt (k : Nat) : ByteArray := ⟨(109 :: digits k k []).toArray⟩

theorem digits_fuel : ∀ (f f' k : Nat) (acc : List UInt8), k ≤ f → k ≤ f' → digits f k acc = digits f' k acc
  | 0, 0, _, _, _, _ => rfl
  | 0, f' + 1, k, acc, h, _ => by have : k = 0 := by omega
                                  subst this; simp [digits]
  | f + 1, 0, k, acc, _, h => by have : k = 0 := by omega
                                 subst this; simp [digits]
  | f + 1, f' + 1, k, acc, h, h' => by
    rw [digits, digits]
    split
    · rfl
    · exact digits_fuel f f' (k / 10) _ (by omega) (by omega)

def markF (k : Nat) (i : Nat) : FileD := ⟨mt (k + 3 * i), mt (k + 3 * i + 1), ((k + 3 * i + 2 : Nat) : Int)⟩
def markL (k n : Nat) : List FileD := (List.range n).map (markF k)
theorem markL_length (k n : Nat) : (markL k n).length = n := by simp [markL]
theorem markL_get (k n i : Nat) (h : i < (markL k n).length) : (markL k n)[i] = markF k i := by simp [markL]

/-- What marking the files of a does. -/
def Marked (w w' : World) (B : Nat) (a : Option Addr) (n : Nat) : Prop :=
  (n = 0 ∧ Below w.heap.size w w') ∨ 0 < n ∧ ∃ g o, a = some ⟨g, o, none⟩ ∧ B ≤ g ∧ But g w w'

theorem Marked.below {w w' : World} {B n : Nat} {a : Option Addr} (h : Marked w w' B a n) (hs : B ≤ w.heap.size) : Below B w w' := by
  rcases h with ⟨_, h⟩ | ⟨_, g, o, _, hB, h⟩
  · exact h.mono hs
  · exact h.below hB hs

theorem Marked.files {w w' : World} {B n b o : Nat} {a : Option Addr} {fs : List FileD} (h : Marked w w' B a n) (hf : FilesIn w (some ⟨b, o, none⟩) fs) (hne : ∀ g' o', a = some ⟨g', o', none⟩ → b ≠ g') : FilesIn w' (some ⟨b, o, none⟩) fs := by
  rcases h with ⟨_, h⟩ | ⟨_, g, o', rfl, _, h⟩
  · exact hf.later h
  · exact hf.but h (hne g o' rfl)

/-- Block g is the row cur, and may be written. -/
def Blk (w : World) (g : Nat) (cur : Array Value) (t : TypeId) : Prop := w.heap[g]? = some (.cells cur t (0, 0))
theorem Blk.set {w : World} {g : Nat} {cur : Array Value} {t : TypeId} (h : Blk w g cur t) (j : Nat) (v : Value) : Blk (w.setCell ⟨g, j, none⟩ v) g (cur.setIfInBounds j v) t := heap_setCell_same w g j cur t v h
theorem Blk.later {w w' : World} {g : Nat} {cur : Array Value} {t : TypeId} (h : Blk w g cur t) (hb : Below w.heap.size w w') : Blk w' g cur t := (hb.block g (lt_of_block h)).trans h
theorem Blk.cell {w : World} {g : Nat} {cur : Array Value} {t : TypeId} (h : Blk w g cur t) (j : Nat) : w.cell? ⟨g, j, none⟩ = cur[j]? := cell_of_row w g j cur t _ h
theorem Blk.free {w : World} {g : Nat} {cur : Array Value} {t : TypeId} (h : Blk w g cur t) (j : Nat) : w.frozen? ⟨g, j, none⟩ = false := frozen_of_row w g j cur t h
theorem Blk.there {w : World} {g : Nat} {cur : Array Value} {t : TypeId} (h : Blk w g cur t) {j : Nat} (hj : j < cur.size) : ∃ v, w.cell? ⟨g, j, none⟩ = some v := ⟨cur[j], by rw [h.cell]; exact Array.getElem?_eq_getElem hj⟩

/-- The cells of file j, from o on. -/
def RowFile (cur : Array Value) (o j : Nat) (f : FileD) : Prop := cur[o + j * 3]? = some (.string f.name) ∧ cur[o + j * 3 + 1]? = some (.string f.data) ∧ cur[o + j * 3 + 2]? = some (.int .i64 f.synced)

theorem RowFile.set {cur : Array Value} {o j : Nat} {f : FileD} (h : RowFile cur o j f) {p : Nat} (hp : p < o + j * 3 ∨ o + j * 3 + 2 < p) (v : Value) : RowFile (cur.setIfInBounds p v) o j f := by
  obtain ⟨a1, a2, a3⟩ := h
  refine ⟨?_, ?_, ?_⟩
  · rw [Array.getElem?_setIfInBounds_ne (by omega)]; exact a1
  · rw [Array.getElem?_setIfInBounds_ne (by omega)]; exact a2
  · rw [Array.getElem?_setIfInBounds_ne (by omega)]; exact a3

theorem RowFile.made (cur : Array Value) (o j : Nat) (f : FileD) (h : o + j * 3 + 2 < cur.size) :
    RowFile (((cur.setIfInBounds (o + j * 3) (.string f.name)).setIfInBounds (o + j * 3 + 1) (.string f.data)).setIfInBounds (o + j * 3 + 2) (.int .i64 f.synced)) o j f := by
  refine ⟨?_, ?_, ?_⟩ <;> simp [Array.getElem?_setIfInBounds] <;> omega

theorem filesAt_of_rows {w : World} {g o : Nat} {cur : Array Value} {t : TypeId} {fs : List FileD} (h : Blk w g cur t) (hr : ∀ j (hj : j < fs.length), RowFile cur o j fs[j]) : FilesAt w g o fs := by
  intro j hj
  simp only [h.cell]
  exact hr j hj

theorem rows_of_filesAt {w : World} {g o : Nat} {cur : Array Value} {t : TypeId} {fs : List FileD} (h : Blk w g cur t) (hf : FilesAt w g o fs) : ∀ j (hj : j < fs.length), RowFile cur o j fs[j] := by
  intro j hj
  have := hf j hj
  simp only [h.cell] at this
  exact this

theorem rows_size {cur : Array Value} {o : Nat} {fs : List FileD} (hr : ∀ j (hj : j < fs.length), RowFile cur o j fs[j]) : fs = [] ∨ o + fs.length * 3 ≤ cur.size := by
  by_cases h : fs.length = 0
  · exact Or.inl (List.length_eq_zero_iff.1 h)
  · right
    have := (hr (fs.length - 1) (by omega)).2.2
    have := (Array.getElem?_eq_some_iff.1 this).1
    omega
end Go.Proofs.YtoecnlhnfhongaaGreatDoor

namespace Go.Proofs.YtoecnlhnfhongaaGreatDoor
open Go.RowKit

def flat (fs : List FileD) : List Value := fs.flatMap fun f => [.string f.name, .string f.data, .int .i64 f.synced]

theorem flat_append (a b : List FileD) : flat (a ++ b) = flat a ++ flat b := by simp [flat]
theorem flat_one (f : FileD) : flat [f] = [.string f.name, .string f.data, .int .i64 f.synced] := rfl
theorem flat_length (fs : List FileD) : (flat fs).length = fs.length * 3 := by
  induction fs with
  | nil => rfl
  | cons f r ih => simp [flat] at *; omega

theorem flat_get : ∀ (fs : List FileD) (j : Nat) (h : j < fs.length), (flat fs)[j * 3]? = some (.string fs[j].name) ∧ (flat fs)[j * 3 + 1]? = some (.string fs[j].data) ∧ (flat fs)[j * 3 + 2]? = some (.int .i64 fs[j].synced)
  | [], _, h => absurd h (by simp)
  | f :: r, 0, _ => by simp [flat]
  | f :: r, j + 1, h => by
    have ih := flat_get r j (by simpa using h)
    have e : flat (f :: r) = [.string f.name, .string f.data, .int .i64 f.synced] ++ flat r := rfl
    rw [e]
    have e1 : (j + 1) * 3 = 3 + j * 3 := by omega
    have e2 : (j + 1) * 3 + 1 = 3 + (j * 3 + 1) := by omega
    have e3 : (j + 1) * 3 + 2 = 3 + (j * 3 + 2) := by omega
    have hq : ∀ p, ([.string f.name, .string f.data, .int .i64 f.synced] ++ flat r)[3 + p]? = (flat r)[p]? := fun p => by
      rw [List.getElem?_append_right (by simp)]; simp
    rw [e3, e2, e1, hq, hq, hq]
    exact ih

theorem flat_one_cell (fs : List FileD) : ∀ u ∈ flat fs, u.oneCell' = true := by
  intro u hu
  simp only [flat, List.mem_flatMap, List.mem_cons, List.not_mem_nil, or_false] at hu
  obtain ⟨f, _, rfl | rfl | rfl⟩ := hu <;> rfl

/-- A row of files that the call owns. -/
theorem owned_of_row {w : World} {B : Nat} {e : TypeId} {v : Value} {fs : List FileD} (h : w.ownsRow B e 3 v fs.length (flat fs)) : ∃ a cap, v = .slice a fs.length cap ∧ Owned w B a fs := by
  rcases h.2 with ⟨rfl, h0⟩ | ⟨g, cap, cur, rfl, hB, hg, _, _, _, ht⟩
  · have : fs = [] := List.length_eq_zero_iff.1 h0
    subst this
    exact ⟨none, 0, rfl, Or.inl rfl⟩
  · refine ⟨_, cap, rfl, Or.inr ⟨g, 0, cur, e, rfl, hB, hg, filesAt_of_rows hg fun j hj => ?_⟩⟩
    have key : ∀ p v, (flat fs)[p]? = some v → cur[p]? = some v := fun p v hp => by
      rw [← ht] at hp
      have hlt := (List.getElem?_eq_some_iff.1 hp).1
      rw [List.length_take] at hlt
      rw [List.getElem?_take_of_lt (by omega)] at hp
      simpa using hp
    obtain ⟨a1, a2, a3⟩ := flat_get fs j hj
    refine ⟨?_, ?_, ?_⟩
    · rw [Nat.zero_add]; exact key _ _ a1
    · rw [Nat.zero_add]; exact key _ _ a2
    · rw [Nat.zero_add]; exact key _ _ a3

theorem row_later {w w' : World} {B : Nat} {e : TypeId} {size : Nat} {v : Value} {n : Nat} {xs : List Value} (h : w.ownsRow B e size v n xs) (hb : Below w.heap.size w w') : w'.ownsRow B e size v n xs := by
  obtain ⟨h1, h2⟩ := h
  refine ⟨h1, ?_⟩
  rcases h2 with h2 | ⟨g, cap, cur, hv, hB, hg, r⟩
  · exact Or.inl h2
  · exact Or.inr ⟨g, cap, cur, hv, hB, (hb.block g (lt_of_block hg)).trans hg, r⟩

theorem row_set_below {w : World} {B : Nat} {e : TypeId} {size : Nat} {v : Value} {n : Nat} {xs : List Value} (h : w.ownsRow B e size v n xs) {p : Addr} (hp : p.block < B) (u : Value) : (w.setCell p u).ownsRow B e size v n xs := by
  obtain ⟨h1, h2⟩ := h
  refine ⟨h1, ?_⟩
  rcases h2 with h2 | ⟨g, cap, cur, hv, hB, hg, r⟩
  · exact Or.inl h2
  · exact Or.inr ⟨g, cap, cur, hv, hB, (Below.heap_setCell w p u g (by omega)).trans hg, r⟩

/-- The cells of files that lie behind an address. -/
theorem cells_of_files {w : World} {b o : Nat} {fs : List FileD} (h : FilesAt w b o fs) : ∀ j u, (flat fs)[j]? = some u → w.cell? ((⟨b, o, none⟩ : Addr).add j) = some u := by
  intro j u hu
  have hlt := (List.getElem?_eq_some_iff.1 hu).1
  rw [flat_length] at hlt
  have hj : j / 3 < fs.length := by omega
  obtain ⟨a1, a2, a3⟩ := flat_get fs (j / 3) hj
  obtain ⟨c1, c2, c3⟩ := h (j / 3) hj
  have hadd : (⟨b, o, none⟩ : Addr).add j = ⟨b, o + j, none⟩ := by unfold Addr.add; split <;> simp_all
  rw [hadd]
  have hm : j % 3 = 0 ∨ j % 3 = 1 ∨ j % 3 = 2 := by omega
  rcases hm with hm | hm | hm
  · have e : j = j / 3 * 3 := by omega
    rw [e] at hu
    rw [a1] at hu
    rw [show o + j = o + j / 3 * 3 by omega, c1]; exact hu
  · have e : j = j / 3 * 3 + 1 := by omega
    rw [e] at hu
    rw [a2] at hu
    rw [show o + j = o + j / 3 * 3 + 1 by omega, c2]; exact hu
  · have e : j = j / 3 * 3 + 2 := by omega
    rw [e] at hu
    rw [a3] at hu
    rw [show o + j = o + j / 3 * 3 + 2 by omega, c3]; exact hu
end Go.Proofs.YtoecnlhnfhongaaGreatDoor

namespace Go.Proofs.YtoecnlhnfhongaaGreatDoor
open Go.RowKit

/-- v without its lowest k bytes. -/
def shrN (v : Int) : Nat → Int
  | 0 => v
  | k + 1 => shrN v k / 256
/-- The lowest n bytes of v, the highest first. -/
def numI (v : Int) : Nat → List Int
  | 0 => []
  | n + 1 => shrN v n % 256 :: numI v n
def numS (n : Nat) (v : Int) : ByteArray := strOfNums (numI v n)
theorem numI_length (v : Int) : ∀ n, (numI v n).length = n
  | 0 => rfl
  | n + 1 => by simp [numI, numI_length v n]
theorem numS_size (n : Nat) (v : Int) : (numS n v).size = n := by
  rw [numS, strOfNums_size, numI_length]

theorem info_u8 : ∃ i, Tryz.prog.info? 5 = some i ∧ i.zero = some (.int .u8 0) ∧ i.size = 1 ∧ i.bytes = 1 := by
  have h : (Tryz.prog.info? 5).map (fun i => (i.zero, i.size, i.bytes)) = some (some (.int .u8 0), 1, 1) := by kernel_rfl
  obtain ⟨i, hi, hz⟩ := Option.map_eq_some_iff.1 h
  simp only [Prod.mk.injEq] at hz
  exact ⟨i, hi, hz.1, hz.2.1, hz.2.2⟩

theorem shrN_rng (v : Int) (h0 : -9223372036854775808 ≤ v) (h1 : v ≤ 9223372036854775807) : ∀ k, -9223372036854775808 ≤ shrN v k ∧ shrN v k ≤ 9223372036854775807
  | 0 => ⟨h0, h1⟩
  | k + 1 => by have := shrN_rng v h0 h1 k; unfold shrN; omega

/-- A row of bytes of the call's own, as a string. -/
theorem conv_row {w : World} {B : Nat} {av : Option Addr} {cv : Nat} {ys : List Int} (h : w.ownsRow B 5 1 (.slice av ys.length cv) ys.length (ys.map (Value.int .u8))) :
    (convert 62 9 (.slice av ys.length cv)).run Tryz.prog w = .ok (.string (strOfNums ys)) w := by
  rcases h.2 with ⟨he, hl⟩ | ⟨g, cap, cur, he, _, hg, hle, _, hsz, htk⟩
  · simp only [Value.slice.injEq] at he
    obtain ⟨rfl, h1, rfl⟩ := he
    have e : ys = [] := List.length_eq_zero_iff.1 h1
    subst e
    exact run_convert_bytes_nil w 62 5 Tryz.underlying62 Tryz.underlying5 _ _ 9 Tryz.underlying9
  · simp only [Value.slice.injEq] at he
    obtain ⟨rfl, _, rfl⟩ := he
    refine run_convert_bytes_arg w 62 5 Tryz.underlying62 Tryz.underlying5 g 0 _ _ ys rfl (fun i hi => ?_) 9 Tryz.underlying9
    rw [Nat.zero_add, cell_of_row w g i cur _ _ hg]
    have h2 : (cur.toList.take (ys.length * 1))[i]? = (ys.map (Value.int .u8))[i]? := by rw [htk]
    rw [List.getElem?_take_of_lt (by omega)] at h2
    rw [← Array.getElem?_toList, h2]
    simp [List.getD, List.getElem?_eq_getElem hi]

set_option maxRecDepth 100000 in
set_option maxHeartbeats 1000000 in
theorem specNum_any (n : Nat) (v : Int) (w : World) (hn : n ≤ 8) (h0 : -9223372036854775808 ≤ v) (h1 : v ≤ 9223372036854775807) :
    Calls Tryz.prog 29 #[.int .i64 n, .int .i64 v] w fun e w' => e = .returned (.string (numS n v)) ∧ Below w.heap.size w w' := by
  obtain ⟨ti, hti, hz0, hz1, hz2⟩ := info_u8
  have HI : Hid (Tryz.prog.info? 5 = some ti) := hti
  clear hti
  have HV : Hid (-9223372036854775808 ≤ v ∧ v ≤ 9223372036854775807) := ⟨h0, h1⟩
  clear h0 h1
  go_enter Tryz.func29, Tryz.ntmps29
  go_wp2
  go_loopw [5, 6, 7, 8] (fun out i _ _ wr => ∃ (m : Nat) (ys : List Int) (av : Option Addr) (cv : Nat), ys.length + m = n ∧ Hid (ys ++ numI v m = numI v n) ∧ i = .int .i64 ((m : Int) - 1) ∧ out = .slice av ys.length cv ∧ Hid (wr.ownsRow w.heap.size 5 1 (.slice av ys.length cv) ys.length (ys.map (Value.int .u8))) ∧ Below w.heap.size w wr) (fun _ i _ _ _ => ((intOf i) + 1).toNat)
  case atStart =>
    exact ⟨n, [], _, _, by simp, by show _ = _; simp, by simp, rfl, World.ownsRow_made w #[] 0 (Nat.le_refl _) (by simp [maxLen]) (by simp), bnew _ _⟩
  case round =>
    obtain ⟨m, ys, av, cv, hm, hnum, rfl, rfl, hrow, hbel⟩ := hrel
    by_cases hp : 0 < m
    · obtain ⟨r, rfl⟩ : ∃ r, m = r + 1 := ⟨m - 1, by omega⟩
      have er : ((r + 1 : Nat) : Int) - 1 = (r : Int) := by omega
      rw [er]
      clear er
      go_wp2
      go_loop [7, 8] (fun x k => ∃ (j : Nat) (X : Int), j ≤ r ∧ k = .int .i64 j ∧ x = .int .i64 X ∧ Hid (X = shrN v j)) (fun _ k => r - (intOf k).toNat)
      case atStart => exact ⟨0, v, Nat.zero_le _, rfl, rfl, rfl⟩
      case round =>
        obtain ⟨j, X, hj, rfl, rfl, hX⟩ := hrel
        by_cases hlt : j < r
        · go_wp2
          exact ⟨⟨j + 1, X / 256, by omega, by go_num, rfl, by show _ = _; rw [shrN, hX.out]⟩, by simp [intOf]; omega⟩
        · have e : j = r := by omega
          subst e
          have hsz := hbel.size
          go_wp2_with (at_builtin; refine wpList_append_lies _ rfl _ _ _ rfl w.heap.size 5 ti _ 1 1 Tryz.underlying62 HI.out hz0 hz1 hz2 rfl (by omega) (.slice av ys.length cv) ys.length (ys.map (Value.int .u8)) rfl (by exact row_later hrow.out (bnew _ _)) ⟨wr.heap.size, 0, none⟩ 1 1 [.int .u8 (X % 256)] rfl rfl (by exact World.news_of_block (heap_alloc_new _ _)) (by simp [Value.oneCell']) (by omega) (by simp [maxLen]; omega) (by omega) (by simp; omega) (wr.heap.size + 1) (by simp) ?_; intro g5 cap5 w5 hown5 hgrow5 hat5 hlt5)
          have hB5 : Below w.heap.size w w5 := (bto hbel (bnew _ _)).grown hgrow5 (by simp; omega) (fun q hq => by
            rcases hrow.out.2 with ⟨he, _⟩ | ⟨g, cap, cur, he, hB, _⟩
            · rw [he] at hq; simp [Value.ownBlock] at hq
            · rw [he] at hq; simp [Value.ownBlock] at hq; omega)
          have hxs : ys.map (Value.int .u8) ++ [Value.int .u8 (X % 256)] = (ys ++ [X % 256]).map (Value.int .u8) := by simp
          have hle : (ys ++ [X % 256]).length = ys.length + 1 := by simp
          rw [hxs, ← hle] at hown5
          refine ⟨⟨j, ys ++ [X % 256], some ⟨g5, 0, none⟩, cap5, by rw [hle]; omega, ?_, rfl, by rw [hle], hown5, hB5⟩, by simp [intOf]⟩
          show _ = _
          rw [← hnum.out, numI, hX.out]
          simp
    · have e : m = 0 := by omega
      subst e
      have hcv := conv_row hrow.out
      go_wp2
      go_ret
      refine ⟨congrArg (fun x => Ending.returned (.string x)) ?_, hbel⟩
      rw [numS, ← hnum.out, numI, List.append_nil]
end Go.Proofs.YtoecnlhnfhongaaGreatDoor

namespace Go.Proofs.YtoecnlhnfhongaaGreatDoor
open Go.RowKit

/-- The lowest n bytes of a natural number, the highest first. -/
def numN (v : Nat) : Nat → List Nat
  | 0 => []
  | n + 1 => v / 256 ^ n % 256 :: numN v n
theorem numN_length (v : Nat) : ∀ n, (numN v n).length = n
  | 0 => rfl
  | n + 1 => by simp [numN, numN_length v n]
theorem shrN_nat (v : Nat) : ∀ k, shrN (v : Int) k = ((v / 256 ^ k : Nat) : Int)
  | 0 => by simp [shrN]
  | k + 1 => by rw [shrN, shrN_nat v k, Nat.pow_succ, ← Nat.div_div_eq_div_mul]; omega
theorem numI_nat (v : Nat) : ∀ n, numI (v : Int) n = (numN v n).map (fun x : Nat => (x : Int))
  | 0 => rfl
  | n + 1 => by rw [numI, numN, List.map_cons, numI_nat v n, shrN_nat]; simp
theorem numN_add (a b n : Nat) : ∀ m, m ≤ n → numN (a * 256 ^ n + b) m = numN b m
  | 0, _ => rfl
  | m + 1, h => by
    rw [numN, numN, numN_add a b n m (by omega)]
    congr 1
    obtain ⟨d, rfl⟩ : ∃ d, n = m + 1 + d := ⟨n - (m + 1), by omega⟩
    have e : a * 256 ^ (m + 1 + d) + b = b + 256 ^ m * (a * 256 ^ d * 256) := by rw [Nat.pow_add, Nat.pow_succ, Nat.add_comm]; congr 1; ac_rfl
    rw [e, Nat.add_mul_div_left _ _ (Nat.pow_pos (by omega))]
    omega
theorem beL_cons (c : UInt8) (l : List UInt8) : beL (c :: l) = c.toNat * 256 ^ l.length + beL l := by
  have hg : ∀ (l : List UInt8) (v : Nat), l.foldl (fun v c => v * 256 + c.toNat) v = v * 256 ^ l.length + beL l := fun l => by
    induction l with
    | nil => intro v; simp [beL]
    | cons d l ih =>
      intro v
      have h1 := ih (v * 256 + d.toNat)
      have h2 := ih (0 * 256 + d.toNat)
      simp only [beL, List.foldl_cons, List.length_cons, Nat.pow_succ] at h1 h2 ⊢
      rw [h1, h2]
      simp only [Nat.add_mul, Nat.zero_mul, Nat.zero_add]
      rw [Nat.add_assoc]
      congr 1
      ac_rfl
  have := hg l (0 * 256 + c.toNat)
  simpa [beL] using this
/-- What was read off bytes is written as these bytes. -/
theorem numN_be : ∀ (l : List UInt8), numN (beL l) l.length = l.map (fun c => c.toNat)
  | [] => rfl
  | c :: l => by
    have hb := beL_lt l
    have hc := c.toNat_lt
    rw [List.length_cons, numN, beL_cons, numN_add _ _ _ _ (Nat.le_refl _), numN_be l, List.map_cons]
    congr 1
    rw [Nat.add_comm, Nat.mul_comm, Nat.add_mul_div_left _ _ (Nat.pow_pos (by omega)), Nat.div_eq_of_lt hb]
    omega
theorem numS_be (l : List UInt8) (n : Nat) (h : l.length = n) : numS n (beL l : Nat) = ⟨l.toArray⟩ := by
  subst h
  rw [numS, numI_nat, numN_be, strOfNums]
  congr 2
  rw [List.map_map, List.map_map]
  conv => rhs; rw [← List.map_id l]
  congr 1
  funext c
  simp
theorem be_numN (v : Nat) : ∀ n, beL ((numN v n).map UInt8.ofNat) = v % 256 ^ n
  | 0 => by simp [numN, beL, Nat.mod_one]
  | n + 1 => by
    rw [numN, List.map_cons, beL_cons, be_numN v n, List.length_map, numN_length, UInt8.toNat_ofNat_of_lt' (by show _ < 256; omega), Nat.pow_succ, Nat.mod_mul]
    rw [Nat.mul_comm, Nat.add_comm]
theorem numS_data (n v : Nat) : (numS n v).data.toList = (numN v n).map UInt8.ofNat := by
  rw [numS, numI_nat, strOfNums_data, List.map_map]
  congr 1
/-- What was written is read back. -/
theorem be_numS (n v : Nat) (h : v < 256 ^ n) : beL (numS n v).data.toList = v := by
  rw [numS_data, be_numN, Nat.mod_eq_of_lt h]
end Go.Proofs.YtoecnlhnfhongaaGreatDoor

namespace Go.Proofs.YtoecnlhnfhongaaGreatDoor
open Go.RowKit

def s8B (s : ByteArray) : ByteArray := numS 1 (s.size : Nat) ++ s
def s16B (s : ByteArray) : ByteArray := numS 2 (s.size : Nat) ++ s
theorem s8B_size (s : ByteArray) : (s8B s).size = 1 + s.size := by rw [s8B, ByteArray.size_append, numS_size]
theorem s16B_size (s : ByteArray) : (s16B s).size = 2 + s.size := by rw [s16B, ByteArray.size_append, numS_size]
end Go.Proofs.YtoecnlhnfhongaaGreatDoor

namespace Go.Proofs.YtoecnlhnfhongaaGreatDoor
open Go.RowKit

theorem bext {x y : ByteArray} (h : x.data.toList = y.data.toList) : x = y := by
  cases x; cases y
  simp only [ByteArray.mk.injEq]
  exact Array.toList_inj.1 h
theorem blist_append (x y : ByteArray) : (x ++ y).data.toList = x.data.toList ++ y.data.toList := by simp
theorem blist_extract (s : ByteArray) (i j : Nat) : (s.extract i j).data.toList = (s.data.toList.take j).drop i := by
  rw [ByteArray.data_extract, Array.toList_extract, List.extract_eq_drop_take']
theorem bsize (s : ByteArray) : s.size = s.data.toList.length := by simp

structure Rd where
  rest : ByteArray
  short : Bool
def takeR (n : Nat) (r : Rd) : ByteArray × Rd := if r.rest.size < n then (ByteArray.empty, ⟨r.rest, true⟩) else (r.rest.extract 0 n, ⟨r.rest.extract n r.rest.size, r.short⟩)
def numR (k : Nat) (r : Rd) : Nat × Rd := (beL (takeR k r).1.data.toList, (takeR k r).2)
def textR (k : Nat) (r : Rd) : ByteArray × Rd := takeR (numR k r).1 (numR k r).2
theorem take_le (n : Nat) (r : Rd) : (takeR n r).1.size ≤ n ∧ (takeR n r).1.size ≤ r.rest.size ∧ (takeR n r).2.rest.size ≤ r.rest.size := by
  unfold takeR
  split
  · exact ⟨by simp, by simp, Nat.le_refl _⟩
  · refine ⟨?_, ?_, ?_⟩ <;> simp <;> omega
theorem take_sound {n : Nat} {r : Rd} (h : (takeR n r).2.short = false) : r.short = false ∧ (takeR n r).1.size = n ∧ r.rest = (takeR n r).1 ++ (takeR n r).2.rest := by
  unfold takeR at *
  split at h
  · exact absurd h (by simp)
  · rename_i hn
    rw [if_neg hn]
    refine ⟨h, by simp; omega, ?_⟩
    apply bext
    rw [blist_append, blist_extract, blist_extract, List.drop_zero, bsize, List.take_length, List.take_append_drop]
theorem take_full {n : Nat} {r : Rd} {t q : ByteArray} (h : r.rest = t ++ q) (hn : t.size = n) : takeR n r = (t, ⟨q, r.short⟩) := by
  have hz : r.rest.size = n + q.size := by rw [h, ByteArray.size_append, hn]
  unfold takeR
  rw [if_neg (by omega)]
  have e1 : r.rest.extract 0 n = t := by
    apply bext
    rw [blist_extract, List.drop_zero, h, blist_append, ← hn, bsize, List.take_left]
  have e2 : r.rest.extract n r.rest.size = q := by
    apply bext
    rw [blist_extract, bsize r.rest, List.take_length, h, blist_append, ← hn, bsize, List.drop_left]
  rw [e1, e2]
theorem text_sound {k : Nat} {r : Rd} (h : (textR k r).2.short = false) : r.short = false ∧ r.rest = numS k ((textR k r).1.size : Nat) ++ ((textR k r).1 ++ (textR k r).2.rest) := by
  obtain ⟨h1, h2, h3⟩ := take_sound (r := (numR k r).2) h
  obtain ⟨g1, g2, g3⟩ := take_sound (n := k) (r := r) h1
  refine ⟨g1, ?_⟩
  have e : numS k ((textR k r).1.size : Nat) = (takeR k r).1 := by
    show numS k ((takeR (numR k r).1 (numR k r).2).1.size : Nat) = _
    rw [h2]
    have := numS_be (takeR k r).1.data.toList k (by rw [← bsize]; exact g2)
    show numS k (beL (takeR k r).1.data.toList : Nat) = _
    rw [this]
  rw [e]
  have h3' : (takeR k r).2.rest = (textR k r).1 ++ (textR k r).2.rest := h3
  rw [← h3']
  exact g3
theorem text_full {k : Nat} {r : Rd} {t q : ByteArray} (h : r.rest = numS k (t.size : Nat) ++ (t ++ q)) (hk : t.size < 256 ^ k) : textR k r = (t, ⟨q, r.short⟩) := by
  have h1 := take_full (n := k) h (numS_size k _)
  have e1 : (numR k r).1 = t.size := by
    show beL (takeR k r).1.data.toList = _
    rw [h1]
    exact be_numS k t.size hk
  have e2 : (numR k r).2 = ⟨t ++ q, r.short⟩ := by
    show (takeR k r).2 = _
    rw [h1]
  rw [textR, e1, e2]
  exact take_full rfl rfl
theorem text_le (k : Nat) (r : Rd) : (textR k r).1.size ≤ r.rest.size ∧ (textR k r).2.rest.size ≤ r.rest.size := by
  have h1 := take_le k r
  have h2 := take_le (numR k r).1 (numR k r).2
  have e : (numR k r).2 = (takeR k r).2 := rfl
  rw [e] at h2
  exact ⟨by have := h2.2.1; unfold textR; rw [e]; omega, by have := h2.2.2; unfold textR; rw [e]; omega⟩
theorem num_lt (k : Nat) (r : Rd) : (numR k r).1 < 256 ^ k := by
  have h := beL_lt (takeR k r).1.data.toList
  have h1 := (take_le k r).1
  have h2 : 256 ^ (takeR k r).1.data.toList.length ≤ 256 ^ k := Nat.pow_le_pow_right (by omega) (by rw [← bsize]; exact h1)
  show beL (takeR k r).1.data.toList < _
  omega
end Go.Proofs.YtoecnlhnfhongaaGreatDoor

