import Derived.Test.YtndaihhjhllfcadProg
import Derived.Test.YtndaihhjhllfcadStep2
import Derived.Test.YtndaihhjhllfcadValid
namespace Go.Proofs.Ytndaihhjhllfcad
open Go.RowKit

theorem stepR_code (fs : List FileD) (c k cr fl : Int) (dn : Bool) (op : OpD) : (stepR fs c k cr fl dn op).1 ≤ 6 := by
  unfold stepR
  split
  · show (doR fs c op).1 ≤ 6
    unfold doR
    simp only
    repeat' split
    all_goals simp
  · rcases charge_cases k cr fl dn with h | h | h <;> simp [h]

theorem Owned.set_below {w : World} {B : Nat} {a : Option Addr} {fs : List FileD} (h : Owned w B a fs) {p : Addr} (hp : p.block < B) (v : Value) : Owned (w.setCell p v) B a fs := by
  rcases h with h | ⟨g, o, cur, t, rfl, hB, hg, h⟩
  · exact Or.inl h
  · have hb := Below.heap_setCell w p v g (by omega)
    have hk : ∀ j, (w.setCell p v).cell? ⟨g, j, none⟩ = w.cell? ⟨g, j, none⟩ := fun j => World.cell?_of_block hb
    exact Or.inr ⟨g, o, cur, t, rfl, hB, hb.trans hg, fun i hi => by simp only [hk]; exact h i hi⟩

/-- Three blocks that a call makes first: the disk's, the operation's, the answer's. -/
theorem three_boxes {w w1 : World} {x y z : Array Value} {tx ty tz : TypeId} (hb : Below (((w.alloc (.cells x tx)).alloc (.cells y ty)).alloc (.cells z tz)).heap.size (((w.alloc (.cells x tx)).alloc (.cells y ty)).alloc (.cells z tz)) w1) :
    Blk w1 w.heap.size x tx ∧ Blk w1 (w.heap.size + 1) y ty ∧ Blk w1 (w.heap.size + 1 + 1) z tz ∧ Below w.heap.size w w1 := by
  refine ⟨?_, ?_, ?_, bto (bto (bto (bnew _ _) (bnew _ _)) (bnew _ _)) hb⟩
  · exact (Blk.later (Blk.later (Blk.later (g := w.heap.size) (heap_alloc_new w (.cells x tx)) (Below.refl _ _)) (bnew _ _)) (bnew _ _)).later hb
  · have h := Blk.later (g := (w.alloc (.cells x tx)).heap.size) (heap_alloc_new (w.alloc (.cells x tx)) (.cells y ty)) (bto (bnew _ _) hb)
    simpa using h
  · have h := Blk.later (g := ((w.alloc (.cells x tx)).alloc (.cells y ty)).heap.size) (heap_alloc_new ((w.alloc (.cells x tx)).alloc (.cells y ty)) (.cells z tz)) hb
    simpa using h

/-- What DiskStep answers: the code, the files, and the rest of the disk. -/
def outR (fs : List FileD) (c k cr fl : Int) (dn : Bool) (op : OpD) : Nat × List FileD × Int × Int × Int × Int × Bool :=
  if (diskB fs c k cr fl && opB op) = true then ((stepR fs c k cr fl dn op).1, (stepR fs c k cr fl dn op).2.1, c, (stepR fs c k cr fl dn op).2.2.1, cr, fl, (stepR fs c k cr fl dn op).2.2.2) else (6, [], 0, 0, 0, 0, false)

/-- The value of an answer. -/
def outV (R : Nat × List FileD × Int × Int × Int × Int × Bool) (a : Option Addr) (cap : Nat) : Value :=
  .tuple #[.agg #[.slice a R.2.1.length cap, .int .i64 R.2.2.1, .int .i64 R.2.2.2.1, .int .i64 R.2.2.2.2.1, .int .i64 R.2.2.2.2.2.1, .bool R.2.2.2.2.2.2], .int .i64 R.1]

end Go.Proofs.Ytndaihhjhllfcad
