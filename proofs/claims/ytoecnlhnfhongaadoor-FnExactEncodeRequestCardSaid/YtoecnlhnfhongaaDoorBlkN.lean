import Derived.Test.YtoecnlhnfhongaaDoorOwn
namespace Go.Proofs.YtoecnlhnfhongaaDoor
open Go.RowKit

theorem hid {p : Prop} (h : p) : Hid p := h
theorem Blk.new (w : World) (cs : Array Value) (t : TypeId) : Blk (w.alloc (.cells cs t)) w.heap.size cs t := heap_alloc_new _ _
theorem Blk.alloc {w : World} {g : Nat} {cur : Array Value} {t : TypeId} (h : Blk w g cur t) (o : Obj) : Blk (w.alloc o) g cur t := h.later (bnew _ _)
theorem Blk.but {w w' : World} {g g' : Nat} {cur : Array Value} {t : TypeId} (h : Blk w g cur t) (hb : But g' w w') (hne : g ≠ g') : Blk w' g cur t := (hb.block g (lt_of_block h) hne).trans h
end Go.Proofs.YtoecnlhnfhongaaDoor
