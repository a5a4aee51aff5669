import Derived.Test.YtndaihhjhllfcadCells
namespace Go.Proofs.Ytndaihhjhllfcad
open Go.RowKit

/-- Every block that is no file's and no drive's lies as it lay. -/
def KeepO (w w' : World) : Prop := ∀ b cur t, Blk w b cur t → t ≠ 61 → t ≠ 73 → Blk w' b cur t
theorem KeepO.trans {a b c : World} (h : KeepO a b) (k : KeepO b c) : KeepO a c := fun x cur t hx h1 h2 => k x cur t (h x cur t hx h1 h2) h1 h2
theorem KeepO.of {w w' : World} (h : Below w.heap.size w w') : KeepO w w' := fun _ _ _ hx _ _ => hx.later h
theorem KeepO.keeps {S : Nat → Prop} {w w' : World} (h : Keeps S w w') (hS : ∀ k, S k → ∃ cur t, Blk w k cur t ∧ (t = 61 ∨ t = 73)) : KeepO w w' := fun x cur t hx h1 h2 => hx.keeps h (fun hs => by
  obtain ⟨cur', t', hb, ht⟩ := hS x hs
  have e := (show w.heap[x]? = _ from hx).symm.trans hb
  simp only [Option.some.injEq, Obj.cells.injEq] at e
  rcases ht with ht | ht
  · exact h1 (e.2.1.trans ht)
  · exact h2 (e.2.1.trans ht))
theorem KeepO.set {w : World} {g o : Nat} {cur : Array Value} {t : TypeId} (hb : Blk w g cur t) (ht : t = 61 ∨ t = 73) (v : Value) : KeepO w (w.setCell ⟨g, o, none⟩ v) :=
  KeepO.keeps (S := fun k => k = g) ((Keeps.refl (fun k => k = g) w).setCell (g := g) rfl o v) (fun k e => ⟨cur, t, by rw [e]; exact hb, ht⟩)

theorem own_file {w : World} {B : Nat} {v : Value} {n : Nat} {xs : List Value} (h : w.ownsRow B 61 3 v n xs) : ∀ g, v.ownBlock = some g → ∃ cur, Blk w g cur 61 := by
  intro g hg
  rcases h.2 with ⟨rfl, _⟩ | ⟨g', cap, cur, rfl, _, hb, _⟩
  · simp [Value.ownBlock] at hg
  · simp [Value.ownBlock] at hg
    subst hg
    exact ⟨cur, hb⟩

/-- What lay below B, and what is no file's and no drive's. -/
structure Rest (B : Nat) (w w' : World) : Prop where
  below : Below B w w'
  other : KeepO w w'
theorem Rest.trans {B : Nat} {a b c : World} (h : Rest B a b) (k : Rest B b c) : Rest B a c := ⟨h.below.trans k.below, h.other.trans k.other⟩
theorem Rest.of {B : Nat} {w w' : World} (h : Below w.heap.size w w') (hB : B ≤ w.heap.size) : Rest B w w' := ⟨h.mono hB, KeepO.of h⟩
theorem Rest.on {B : Nat} {a w w' : World} (h : Rest B a w) (k : Below w.heap.size w w') (hB : B ≤ w.heap.size) : Rest B a w' := h.trans (Rest.of k hB)
theorem Rest.set {B g o : Nat} {a w : World} {cur : Array Value} {t : TypeId} (h : Rest B a w) (hb : Blk w g cur t) (ht : t = 61 ∨ t = 73) (hg : B ≤ g) (v : Value) : Rest B a (w.setCell ⟨g, o, none⟩ v) :=
  ⟨h.below.setCell (by show B ≤ g; exact hg) _, h.other.trans (KeepO.set hb ht v)⟩
theorem Rest.but {B g : Nat} {a w w' : World} {cur : Array Value} {t : TypeId} (h : Rest B a w) (k : But g w w') (hb : Blk w g cur t) (ht : t = 61 ∨ t = 73) (hg : B ≤ g) (hB : B ≤ w.heap.size) : Rest B a w' :=
  ⟨h.below.trans (k.below hg hB), h.other.trans (KeepO.keeps (Keeps.but k) (fun j e => ⟨cur, t, by rw [e]; exact hb, ht⟩))⟩
theorem Rest.charge {B D : Nat} {fs : List FileD} {c k cr fl : Int} {dn : Bool} {v : Value} {w w1 : World} {o : Obj} (h : DriveAt w B D fs c k cr fl dn v) (hB : B ≤ w.heap.size) (hbut : But D (w.alloc o) w1) : Rest B w w1 :=
  (Rest.of (bnew w o) hB).but hbut (h.later (bnew w o)).blk (Or.inr rfl) h.from' (by simp; omega)
end Go.Proofs.Ytndaihhjhllfcad
