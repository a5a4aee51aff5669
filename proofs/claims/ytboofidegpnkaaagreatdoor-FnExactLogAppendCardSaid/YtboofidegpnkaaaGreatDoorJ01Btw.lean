import Derived.WalkKit
import Derived.Below
import Derived.BigQuiet
import Derived.WalkLawsBesides
import Derived.WalkSpells
import Derived.Test.YtboofidegpnkaaaGreatDoorProg
namespace Go.Proofs.YtboofidegpnkaaaGreatDoor
open Go.RowKit
structure FileD where
  name : ByteArray
  data : ByteArray
  synced : Int
def FilesAt (w : World) (b o : Nat) (fs : List FileD) : Prop :=
  ∀ i (h : i < fs.length), w.cell? ⟨b, o + i * 3, none⟩ = some (.string fs[i].name) ∧
    w.cell? ⟨b, o + i * 3 + 1, none⟩ = some (.string fs[i].data) ∧ w.cell? ⟨b, o + i * 3 + 2, none⟩ = some (.int .i64 fs[i].synced)
theorem bcell {B : Nat} {W w1 : World} (hb : Below B W w1) : (∀ b o, b < B → w1.cell? ⟨b, o, none⟩ = W.cell? ⟨b, o, none⟩) ∧ (∀ b o, b < B → w1.frozen? ⟨b, o, none⟩ = W.frozen? ⟨b, o, none⟩) :=
  ⟨fun b o h => hb.cell (p := ⟨b, o, none⟩) h, fun b o h => hb.frozen (p := ⟨b, o, none⟩) h⟩
theorem ret_int {k : IntKind} {a b : Int} (h : a = b) : Ending.returned (.int k a) = .returned (.int k b) := by rw [h]
theorem ret_bool {a b : Bool} (h : a = b) : Ending.returned (.bool a) = .returned (.bool b) := by rw [h]
structure Later (w : World) where
  w' : World
  h : Below w.heap.size w w'
theorem Later.there (w : World) : Nonempty (Later w) := ⟨⟨w, Below.refl _ _⟩⟩
theorem Later.cell {w : World} (x : Later w) {b o : Nat} {v : Value} (h : w.cell? ⟨b, o, none⟩ = some v) : x.w'.cell? ⟨b, o, none⟩ = some v := by
  have hb : b < w.heap.size := by
    rcases Nat.lt_or_ge b w.heap.size with hlt | hge
    · exact hlt
    · simp [World.cell?, Array.getElem?_eq_none hge] at h
  rw [← h]; exact x.h.cell hb
theorem Later.cells {w : World} {b o : Nat} {v : Value} (h : w.cell? ⟨b, o, none⟩ = some v) : ∀ x : Later w, x.w'.cell? ⟨b, o, none⟩ = some v := fun x => x.cell h
theorem wp_region_later {P : Program} {id : Nat} {Q : Exit → Act → World → Prop} {a : Act} {w : World} {l : List Oper} (hm : P.follows .mixedOrders = true) (hB : Region.lexB .any l.toArray = true)
    (h : wpQuiet P l.toArray (fun w' => ∃ x : Later w, w' = x.w') (fun a' => ∀ w', (∃ x : Later w, w' = x.w') → Q .normal a' w') l a) : (Code.region id l.toArray true).wp P Q a w :=
  wp_region_quiet (C := fun w' => ∃ x : Later w, w' = x.w') hm hB ⟨⟨w.drew, (Below.refl _ _).drew⟩, rfl⟩ (by simpa using h)
theorem calls_later {P : Program} {f : FuncId} {args : Array Value} {w : World} {x : Later w} {v : Value}
    (h : Calls P f args x.w' fun e w'' => e = .returned v ∧ Below x.w'.heap.size x.w' w'') : Calls P f args x.w' fun e w'' => e = .returned v ∧ ∃ y : Later w, w'' = y.w' :=
  h.mono fun _ w'' ⟨he, hb⟩ => ⟨he, ⟨w'', x.h.trans (hb.mono x.h.size)⟩, rfl⟩
theorem calls_later_same {P : Program} {f : FuncId} {args : Array Value} {w : World} {x : Later w} {v : Value}
    (h : Calls P f args x.w' fun e w'' => e = .returned v ∧ w'' = x.w') : Calls P f args x.w' fun e w'' => e = .returned v ∧ ∃ y : Later w, w'' = y.w' :=
  h.mono fun _ _ ⟨he, hb⟩ => ⟨he, x, hb⟩
def szF (left : Int) (f : FileD) : Int := if (f.name.size + f.data.size : Int) ≤ left then left - f.name.size - f.data.size else -1
def FilesIn (w : World) (a : Option Addr) (fs : List FileD) : Prop := fs = [] ∨ ∃ b o, a = some ⟨b, o, none⟩ ∧ b < w.heap.size ∧ FilesAt w b o fs
theorem FilesIn.later {w w' : World} {a : Option Addr} {fs : List FileD} (h : FilesIn w a fs) (hb : Below w.heap.size w w') : FilesIn w' a fs := by
  rcases h with h | ⟨b, o, rfl, hlt, h⟩
  · exact Or.inl h
  · refine Or.inr ⟨b, o, rfl, Nat.lt_of_lt_of_le hlt hb.size, fun i hi => ?_⟩
    obtain ⟨h1, h2, h3⟩ := h i hi
    exact ⟨by rw [← h1]; exact hb.cell hlt, by rw [← h2]; exact hb.cell hlt, by rw [← h3]; exact hb.cell hlt⟩
theorem FilesIn.at {w : World} {a : Option Addr} {fs : List FileD} (h : FilesIn w a fs) {i : Nat} (hi : i < fs.length) :
    ∃ b o, a = some ⟨b, o, none⟩ ∧ b < w.heap.size ∧ w.cell? ⟨b, o + i * 3, none⟩ = some (.string fs[i].name) ∧
      w.cell? ⟨b, o + i * 3 + 1, none⟩ = some (.string fs[i].data) ∧ w.cell? ⟨b, o + i * 3 + 2, none⟩ = some (.int .i64 fs[i].synced) := by
  rcases h with rfl | ⟨b, o, rfl, hlt, h⟩
  · exact absurd hi (by simp)
  · exact ⟨b, o, rfl, hlt, h i hi⟩
theorem FilesIn.setCell {w : World} {g o : Nat} {fs : List FileD} (h : FilesIn w (some ⟨g, o, none⟩) fs) {p : Addr} (hp : p.block ≠ g) (v : Value) : FilesIn (w.setCell p v) (some ⟨g, o, none⟩) fs := by
  rcases h with h | ⟨b, o', e, hlt, h⟩
  · exact Or.inl h
  · simp only [Option.some.injEq, Addr.mk.injEq, and_true] at e
    obtain ⟨rfl, rfl⟩ := e
    have hk : ∀ j, (w.setCell p v).cell? ⟨g, j, none⟩ = w.cell? ⟨g, j, none⟩ := fun j => World.cell?_of_block (Below.heap_setCell w p v g (Ne.symm hp))
    refine Or.inr ⟨g, o, rfl, by simpa [World.setCell] using hlt, fun i hi => ?_⟩
    simp only [hk]
    exact h i hi
def bulk : List FileD → Nat
  | [] => 0
  | f :: r => f.name.size + f.data.size + bulk r
theorem bulk_append (a b : List FileD) : bulk (a ++ b) = bulk a + bulk b := by
  induction a with
  | nil => simp [bulk]
  | cons f r ih => simp [bulk, ih]; omega
theorem bulk_take_succ (fs : List FileD) (k : Nat) (h : k < fs.length) : bulk (fs.take (k + 1)) = bulk (fs.take k) + (fs[k].name.size + fs[k].data.size) := by
  rw [List.take_succ_eq_append_getElem h, bulk_append]; simp [bulk]
theorem bulk_take_le (fs : List FileD) (k : Nat) : bulk (fs.take k) ≤ bulk fs := by
  have := bulk_append (fs.take k) (fs.drop k)
  rw [List.take_append_drop] at this; omega
def sumLen : List FileD → Nat
  | [] => 0
  | f :: r => f.data.size + sumLen r
theorem sumLen_append (a b : List FileD) : sumLen (a ++ b) = sumLen a + sumLen b := by
  induction a with
  | nil => simp [sumLen]
  | cons f r ih => simp [sumLen, ih]; omega
theorem sumLen_take_succ (fs : List FileD) (k : Nat) (h : k < fs.length) : sumLen (fs.take (k + 1)) = sumLen (fs.take k) + fs[k].data.size := by
  rw [List.take_succ_eq_append_getElem h, sumLen_append]; simp [sumLen]
theorem sumLen_take_le (fs : List FileD) (k : Nat) : sumLen (fs.take k) ≤ sumLen fs := by
  have := sumLen_append (fs.take k) (fs.drop k)
  rw [List.take_append_drop] at this; omega
theorem sumLen_le_bulk (fs : List FileD) : sumLen fs ≤ bulk fs := by
  induction fs with
  | nil => exact Nat.le_refl _
  | cons f r ih => simp [sumLen, bulk]; omega
def szFs (left : Int) (fs : List FileD) : Int := if (fs.length + bulk fs : Int) ≤ left then left - fs.length - bulk fs else -1
def Short (fs : List FileD) : Prop := ∀ i (h : i < fs.length), fs[i].name.size ≤ maxLen ∧ fs[i].data.size ≤ maxLen
def BoxAt (w : World) (b : Nat) (v0 v1 v2 v3 v4 v5 : Value) : Prop :=
  w.cell? ⟨b, 0, none⟩ = some v0 ∧ w.cell? ⟨b, 1, none⟩ = some v1 ∧ w.cell? ⟨b, 2, none⟩ = some v2 ∧ w.cell? ⟨b, 3, none⟩ = some v3 ∧ w.cell? ⟨b, 4, none⟩ = some v4 ∧ w.cell? ⟨b, 5, none⟩ = some v5
theorem BoxAt.new (w : World) (v0 v1 v2 v3 v4 v5 : Value) (t : TypeId) : BoxAt (w.alloc (.cells #[v0, v1, v2, v3, v4, v5] t)) w.heap.size v0 v1 v2 v3 v4 v5 := by
  simp [BoxAt, go_sem]
theorem BoxAt.lt {w : World} {b : Nat} {v0 v1 v2 v3 v4 v5 : Value} (h : BoxAt w b v0 v1 v2 v3 v4 v5) : b < w.heap.size := by
  rcases Nat.lt_or_ge b w.heap.size with hlt | hge
  · exact hlt
  · have := h.1
    simp [World.cell?, Array.getElem?_eq_none hge] at this
theorem BoxAt.later {w w' : World} {b : Nat} {v0 v1 v2 v3 v4 v5 : Value} (h : BoxAt w b v0 v1 v2 v3 v4 v5) (hb : Below w.heap.size w w') : BoxAt w' b v0 v1 v2 v3 v4 v5 := by
  have hl := h.lt
  obtain ⟨h0, h1, h2, h3, h4, h5⟩ := h
  exact ⟨(hb.cell hl).trans h0, (hb.cell hl).trans h1, (hb.cell hl).trans h2, (hb.cell hl).trans h3, (hb.cell hl).trans h4, (hb.cell hl).trans h5⟩
theorem bto {a b c : World} (h : Below a.heap.size a b) (k : Below b.heap.size b c) : Below a.heap.size a c := h.trans (k.mono h.size)
theorem bnew (w : World) (o : Obj) : Below w.heap.size w (w.alloc o) := (Below.refl _ _).alloc (Nat.le_refl _) _
end Go.Proofs.YtboofidegpnkaaaGreatDoor
namespace Go.Proofs.YtboofidegpnkaaaGreatDoor
open Go.RowKit
def btwB (x lo hi : Int) : Bool := decide (lo ≤ x) && decide (x ≤ hi)
theorem between_any (x lo hi : Int) (w : World) : Calls Tryz.prog 16 #[.int .i64 x, .int .i64 lo, .int .i64 hi] w fun e w' => e = .returned (.bool (btwB x lo hi)) ∧ w' = w := by
  by_cases h1 : lo ≤ x
  · by_cases h2 : x ≤ hi
    · have e : btwB x lo hi = true := by simp [btwB, h1, h2]
      rw [e]
      go_enter Tryz.func16, Tryz.ntmps16
      go_wp2
      go_ret
      exact ⟨rfl, rfl⟩
    · have e : btwB x lo hi = false := by simp [btwB, h2]
      rw [e]
      go_enter Tryz.func16, Tryz.ntmps16
      go_wp2
      go_ret
      exact ⟨rfl, rfl⟩
  · have e : btwB x lo hi = false := by simp [btwB, h1]
    rw [e]
    go_enter Tryz.func16, Tryz.ntmps16
    go_wp2
    go_ret
    exact ⟨rfl, rfl⟩
theorem take_snoc (s : ByteArray) (k : Nat) (h : k < s.size) : s.data.toList.take (k + 1) = s.data.toList.take k ++ [s[k]] := by
  rw [List.take_succ_eq_append_getElem (by simpa using h)]; rfl
end Go.Proofs.YtboofidegpnkaaaGreatDoor
