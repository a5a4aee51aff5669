import Derived.Test.YtndaihhjhllfcaaProg
import Derived.Test.YtndaihhjhllfcaaCfg
import Derived.Test.YtndaihhjhllfcaaCfgT
namespace Go.Proofs.Ytndaihhjhllfcaa
open Go.RowKit

set_option maxRecDepth 100000 in
set_option maxHeartbeats 1000000 in
theorem lawConfigOK (c : CfgD) (w : World) :
    Calls Try.prog 5 #[cfgV c] w fun e w' => e = .returned (.bool true) ∧ Below w.heap.size w w' := by
  have HT : Hid (∀ W, Calls Try.prog 13 #[cfgV c] W fun e w' => e = .returned (cfgV c) ∧ Below W.heap.size W w') := fun W => toConfig_any _ _ _ _ _ _ W
  have HS : Hid (∀ W, Calls Try.prog 12 #[cfgV c] W fun e w' => e = .returned (.bool (cfgB c)) ∧ Below W.heap.size W w') := fun W => specCfg_any c W
  have HI : Hid (∀ W, Calls Try.prog 14 #[cfgV c] W fun e w' => e = .returned (.bool (cfgB c)) ∧ Below W.heap.size W w') := fun W => implCfg_any c W
  generalize cfgB c = R at *
  unfold cfgV at *
  go_enter Try.func5, Try.ntmps5
  go_wp2_with fail
  refine (HT.out _).mono ?_
  rintro e w1 ⟨rfl, hb1⟩
  have B1 : Hid (Below w.heap.size w w1) := bto (bnew _ _) hb1
  have C1 : Hid (w1.heap[w.heap.size]? = some (.cells #[.int .i64 c.w, .int .i64 c.tl, .int .i64 c.ml, .int .i64 c.sh, .int .i64 c.ha, .int .i64 c.sg] 25 (0, 0))) := (hb1.block _ (by simp)).trans (heap_alloc_new _ _)
  clear hb1
  go_wp2_with fail
  refine (HS.out _).mono ?_
  rintro e w2 ⟨rfl, hb2⟩
  have B2 : Hid (Below w.heap.size w w2) := bto B1.out hb2
  have C2 : Hid (w2.heap[w.heap.size]? = some (.cells #[.int .i64 c.w, .int .i64 c.tl, .int .i64 c.ml, .int .i64 c.sh, .int .i64 c.ha, .int .i64 c.sg] 25 (0, 0))) := (hb2.block _ (Array.getElem?_eq_some_iff.1 C1.out).1).trans C1.out
  have x0 : w2.cell? ⟨w.heap.size, 0, none⟩ = some (.int .i64 c.w) := cell_of_row _ _ _ _ _ _ C2.out
  have x1 : w2.cell? ⟨w.heap.size, 1, none⟩ = some (.int .i64 c.tl) := cell_of_row _ _ _ _ _ _ C2.out
  have x2 : w2.cell? ⟨w.heap.size, 2, none⟩ = some (.int .i64 c.ml) := cell_of_row _ _ _ _ _ _ C2.out
  have x3 : w2.cell? ⟨w.heap.size, 3, none⟩ = some (.int .i64 c.sh) := cell_of_row _ _ _ _ _ _ C2.out
  have x4 : w2.cell? ⟨w.heap.size, 4, none⟩ = some (.int .i64 c.ha) := cell_of_row _ _ _ _ _ _ C2.out
  have x5 : w2.cell? ⟨w.heap.size, 5, none⟩ = some (.int .i64 c.sg) := cell_of_row _ _ _ _ _ _ C2.out
  clear hb2
  go_wp2_with fail
  refine (HT.out _).mono ?_
  rintro e w3 ⟨rfl, hb3⟩
  have B3 : Hid (Below w.heap.size w w3) := bto B2.out hb3
  clear hb3 x0 x1 x2 x3 x4 x5
  go_wp2_with fail
  refine (HI.out _).mono ?_
  rintro e w4 ⟨rfl, hb4⟩
  have B4 : Hid (Below w.heap.size w w4) := bto B3.out hb4
  clear hb4
  cases R <;> go_wp2 <;> go_ret <;> exact ⟨rfl, B4.out⟩
end Go.Proofs.Ytndaihhjhllfcaa
