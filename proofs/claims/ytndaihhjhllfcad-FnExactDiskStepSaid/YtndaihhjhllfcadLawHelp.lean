import Derived.Test.YtndaihhjhllfcadProg
import Derived.Test.YtndaihhjhllfcadMark2
import Derived.Test.YtndaihhjhllfcadSz
import Derived.Test.YtndaihhjhllfcadTo
import Derived.Test.YtndaihhjhllfcadEq
namespace Go.Proofs.Ytndaihhjhllfcad
open Go.RowKit

theorem szFs_bound {left : Int} {fs : List FileD} (h : 0 ≤ szFs left fs) : (fs.length + bulk fs : Int) ≤ left := by
  unfold szFs at h
  split at h
  · assumption
  · omega

theorem owned_of {w : World} {B g : Nat} {fs : List FileD} (h : FilesIn w (some ⟨g, 0, none⟩) fs) (hx : ∃ cur t, w.heap[g]? = some (.cells cur t (0, 0))) (hB : B ≤ g) : Owned w B (some ⟨g, 0, none⟩) fs := by
  obtain ⟨cur, t, hx⟩ := hx
  rcases h with h | ⟨b, o, e, _, h⟩
  · exact Or.inl h
  · simp only [Option.some.injEq, Addr.mk.injEq, and_true] at e
    obtain ⟨rfl, rfl⟩ := e
    exact Or.inr ⟨g, 0, cur, t, rfl, hB, hx, h⟩

theorem FilesIn.lt {w : World} {a : Option Addr} {fs : List FileD} (h : FilesIn w a fs) (hn : fs ≠ []) : ∃ b o, a = some ⟨b, o, none⟩ ∧ b < w.heap.size := by
  rcases h with h | ⟨b, o, e, hlt, _⟩
  · exact absurd h hn
  · exact ⟨b, o, e, hlt⟩

theorem blk_new (w : World) (cs : Array Value) (t : TypeId) : Blk (w.alloc (.cells cs t)) w.heap.size cs t := heap_alloc_new _ _

theorem Blk.six {w : World} {b : Nat} {v0 v1 v2 v3 v4 v5 : Value} {t : TypeId} (h : Blk w b #[v0, v1, v2, v3, v4, v5] t) :
    w.cell? ⟨b, 0, none⟩ = some v0 ∧ w.cell? ⟨b, 1, none⟩ = some v1 ∧ w.cell? ⟨b, 2, none⟩ = some v2 ∧ w.cell? ⟨b, 3, none⟩ = some v3 ∧ w.cell? ⟨b, 4, none⟩ = some v4 ∧ w.cell? ⟨b, 5, none⟩ = some v5 := by
  simp [h.cell]

theorem Owned.but {w w' : World} {B g : Nat} {a : Option Addr} {fs : List FileD} (h : Owned w B a fs) (hb : But g w w') (hg : g < B) : Owned w' B a fs := by
  rcases h with h | ⟨g', o, cur, t, rfl, hB, hx, hf⟩
  · exact Or.inl h
  · have he : w'.heap[g']? = w.heap[g']? := hb.block g' (lt_of_block hx) (by omega)
    have hk : ∀ j, w'.cell? ⟨g', j, none⟩ = w.cell? ⟨g', j, none⟩ := fun j => World.cell?_of_block he
    exact Or.inr ⟨g', o, cur, t, rfl, hB, he.trans hx, fun i hi => by simp only [hk]; exact hf i hi⟩

/-- A row's block lies in front of P. -/
def Front (a : Option Addr) (fs : List FileD) (P : Nat) : Prop := fs = [] ∨ ∃ b o, a = some ⟨b, o, none⟩ ∧ b < P
theorem front_of {w : World} {a : Option Addr} {fs : List FileD} (h : FilesIn w a fs) : Front a fs w.heap.size := by
  rcases h with h | ⟨b, o, e, hlt, _⟩
  · exact Or.inl h
  · exact Or.inr ⟨b, o, e, hlt⟩
theorem FilesIn.but' {w w' : World} {g P : Nat} {a : Option Addr} {fs : List FileD} (h : FilesIn w a fs) (hb : But g w w') (hf : Front a fs P) (hg : P ≤ g) : FilesIn w' a fs := by
  rcases hf with hn | ⟨b, o, rfl, hlt⟩
  · exact Or.inl hn
  · exact h.but hb (by omega)

/-- Marking the files of a leaves those of a2, which lay there before a's block was made. -/
theorem Marked.keeps {w w' : World} {B n : Nat} {a a2 : Option Addr} {fs : List FileD} (h : Marked w w' B a n) (hf : FilesIn w a2 fs) (hlt : fs = [] ∨ ∃ b o, a2 = some ⟨b, o, none⟩ ∧ b < B) : FilesIn w' a2 fs := by
  rcases hlt with hn | ⟨b, o, rfl, hb⟩
  · exact Or.inl hn
  · rcases h with ⟨_, h⟩ | ⟨_, g, o', _, hB, h⟩
    · exact hf.later h
    · exact hf.but h (by omega)

theorem Blk.but {w w' : World} {g D : Nat} {cur : Array Value} {t : TypeId} (h : Blk w D cur t) (hb : But g w w') (hne : D ≠ g) : Blk w' D cur t := (hb.block D (lt_of_block h) hne).trans h

theorem Blk.five {w : World} {b : Nat} {v0 v1 v2 v3 v4 : Value} {t : TypeId} (h : Blk w b #[v0, v1, v2, v3, v4] t) :
    w.cell? ⟨b, 0, none⟩ = some v0 ∧ w.cell? ⟨b, 1, none⟩ = some v1 ∧ w.cell? ⟨b, 2, none⟩ = some v2 ∧ w.cell? ⟨b, 3, none⟩ = some v3 ∧ w.cell? ⟨b, 4, none⟩ = some v4 := by
  simp [h.cell]

/-- A row's block is another than P. -/
def Apart (a : Option Addr) (fs : List FileD) (P : Nat) : Prop := fs = [] ∨ ∃ b o, a = some ⟨b, o, none⟩ ∧ b ≠ P
theorem Front.apart {a : Option Addr} {fs : List FileD} {P : Nat} (h : Front a fs P) : Apart a fs P := by
  rcases h with h | ⟨b, o, e, hlt⟩
  · exact Or.inl h
  · exact Or.inr ⟨b, o, e, by omega⟩
theorem Owned.apart {w : World} {B P : Nat} {a : Option Addr} {fs : List FileD} (h : Owned w B a fs) (hP : P < B) : Apart a fs P := by
  rcases h with h | ⟨g, o, cur, t, e, hB, _⟩
  · exact Or.inl h
  · exact Or.inr ⟨g, o, e, by omega⟩
theorem blk_of_alloc {w w' : World} {cs : Array Value} {t : TypeId} (h : Below (w.alloc (.cells cs t)).heap.size (w.alloc (.cells cs t)) w') : Blk w' w.heap.size cs t := (blk_new w cs t).later h
theorem blk_fill {w : World} {P : Nat} {z0 z1 z2 z3 z4 z5 v0 v1 v2 v3 v4 v5 : Value} {t : TypeId} (h : Blk w P #[z0, z1, z2, z3, z4, z5] t) :
    Blk ((((((w.setCell ⟨P, 0, none⟩ v0).setCell ⟨P, 1, none⟩ v1).setCell ⟨P, 2, none⟩ v2).setCell ⟨P, 3, none⟩ v3).setCell ⟨P, 4, none⟩ v4).setCell ⟨P, 5, none⟩ v5) P #[v0, v1, v2, v3, v4, v5] t := by
  have h6 := (((((h.set 0 v0).set 1 v1).set 2 v2).set 3 v3).set 4 v4).set 5 v5
  simpa using h6
theorem twoBoxes {w w1 : World} {x y : Array Value} {tx ty : TypeId} (hb : Below ((w.alloc (.cells x tx)).alloc (.cells y ty)).heap.size ((w.alloc (.cells x tx)).alloc (.cells y ty)) w1) :
    Blk w1 w.heap.size x tx ∧ Blk w1 (w.heap.size + 1) y ty ∧ Below w.heap.size w w1 := by
  refine ⟨?_, ?_, bto (bto (bnew _ _) (bnew _ _)) hb⟩
  · exact ((blk_new w x tx).later (bnew _ _)).later hb
  · have h := (blk_new (w.alloc (.cells x tx)) y ty).later hb
    simpa using h
theorem blk_of_drew {w w' : World} {cs : Array Value} {t : TypeId} (h : Below (w.alloc (.cells cs t)).drew.heap.size (w.alloc (.cells cs t)).drew w') : Blk w' w.heap.size cs t := (blk_new w cs t).later ⟨h.os, h.tape, h.output, h.size, h.block⟩
theorem low {a b : World} (h : Below a.heap.size a b) : a.heap.size ≤ b.heap.size := h.size

/-- A new disk's cells hold no file. -/
theorem apart_zero {w : World} {a : Option Addr} {fs : List FileD} {P : Nat} {t : TypeId} (h : FilesIn w a fs) (hz : Blk w P #[.slice none 0 0, .int .i64 0, .int .i64 0, .int .i64 0, .int .i64 0, .bool false] t) : Apart a fs P := by
  rcases h with h | ⟨b, o, e, _, h⟩
  · exact Or.inl h
  · by_cases hn : fs = []
    · exact Or.inl hn
    · refine Or.inr ⟨b, o, e, fun hb => ?_⟩
      subst hb
      have hl : 0 < fs.length := by
        cases fs with
        | nil => exact absurd rfl hn
        | cons _ _ => simp
      have h0 := (h 0 hl).1
      rw [hz.cell] at h0
      simp only [Nat.zero_mul, Nat.add_zero] at h0
      match o, h0 with
      | 0, h0 => simp at h0
      | 1, h0 => simp at h0
      | 2, h0 => simp at h0
      | 3, h0 => simp at h0
      | 4, h0 => simp at h0
      | 5, h0 => simp at h0
      | n + 6, h0 => simp at h0

theorem but_fill {w : World} {P : Nat} (v0 v1 v2 v3 v4 v5 : Value) :
    But P w ((((((w.setCell ⟨P, 0, none⟩ v0).setCell ⟨P, 1, none⟩ v1).setCell ⟨P, 2, none⟩ v2).setCell ⟨P, 3, none⟩ v3).setCell ⟨P, 4, none⟩ v4).setCell ⟨P, 5, none⟩ v5) :=
  ((((((But.refl P w).setCell 0 v0).setCell 1 v1).setCell 2 v2).setCell 3 v3).setCell 4 v4).setCell 5 v5

theorem FilesIn.apart {w w' : World} {P : Nat} {a : Option Addr} {fs : List FileD} (h : FilesIn w a fs) (ha : Apart a fs P) (hb : But P w w') : FilesIn w' a fs := by
  rcases ha with hn | ⟨b, o, rfl, hne⟩
  · exact Or.inl hn
  · exact h.but hb hne

theorem Owned.beside {w w' : World} {B P : Nat} {a : Option Addr} {fs : List FileD} (h : Owned w B a fs) (ha : Apart a fs P) (hb : But P w w') : Owned w' B a fs := by
  rcases h with h | ⟨g', o, cur, t, rfl, hB, hx, hf⟩
  · exact Or.inl h
  · rcases ha with hn | ⟨b, o', e, hne⟩
    · exact Or.inl hn
    · simp only [Option.some.injEq, Addr.mk.injEq, and_true] at e
      obtain ⟨rfl, rfl⟩ := e
      have he : w'.heap[g']? = w.heap[g']? := hb.block g' (lt_of_block hx) hne
      have hk : ∀ j, w'.cell? ⟨g', j, none⟩ = w.cell? ⟨g', j, none⟩ := fun j => World.cell?_of_block he
      exact Or.inr ⟨g', o, cur, t, rfl, hB, he.trans hx, fun i hi => by simp only [hk]; exact hf i hi⟩
end Go.Proofs.Ytndaihhjhllfcad
