import Derived.Test.YtmggmbidihjblaaDoorProg
import Derived.Test.YtmggmbidihjblaaDoorS7Pc
import Derived.Test.YtmggmbidihjblaaDoorI7Pr
namespace Go.Proofs.YtmggmbidihjblaaDoor
open Go.RowKit

set_option maxHeartbeats 2000000 in
set_option maxRecDepth 100000 in
theorem eqConfig_same (c0 c1 c2 c3 c4 c5 : Int) (w : World) :
    Calls Tryd.prog 6 #[.agg #[.int .i64 c0, .int .i64 c1, .int .i64 c2, .int .i64 c3, .int .i64 c4, .int .i64 c5], .agg #[.int .i64 c0, .int .i64 c1, .int .i64 c2, .int .i64 c3, .int .i64 c4, .int .i64 c5]] w fun e w' => e = .returned (.bool true) ∧ Below w.heap.size w w' := by
  go_enter Tryd.func6, Tryd.ntmps6
  go_wp2
  go_ret
  exact ⟨rfl, bto (bnew _ _) (bnew _ _)⟩

set_option maxHeartbeats 2000000 in
set_option maxRecDepth 100000 in
theorem lawPc_core (s : ByteArray) (c0 c1 c2 c3 c4 c5 rm : Int) (ok : Bool) (w : World) (hs : s.size ≤ 1048576)
    (HS : ∀ W, Calls Tryd.prog 4 #[.string s] W fun e w' => e = .returned (.tuple #[.agg #[.int .i64 c0, .int .i64 c1, .int .i64 c2, .int .i64 c3, .int .i64 c4, .int .i64 c5], .int .i64 rm, .bool ok]) ∧ Below W.heap.size W w')
    (HI : ∀ W, Below w.heap.size w W → Calls Tryd.prog 5 #[.string s] W fun e w' => e = .returned (.tuple #[.agg #[.int .i64 c0, .int .i64 c1, .int .i64 c2, .int .i64 c3, .int .i64 c4, .int .i64 c5], .int .i64 rm, .bool ok]) ∧ Below W.heap.size W w') :
    Calls Tryd.prog 3 #[.string s] w fun e w' => e = .returned (.bool true) ∧ Below w.heap.size w w' := by
  have HS1 := hid HS
  have HI1 := hid HI
  clear HS HI
  have HE : Hid (∀ W, Calls Tryd.prog 6 #[.agg #[.int .i64 c0, .int .i64 c1, .int .i64 c2, .int .i64 c3, .int .i64 c4, .int .i64 c5], .agg #[.int .i64 c0, .int .i64 c1, .int .i64 c2, .int .i64 c3, .int .i64 c4, .int .i64 c5]] W fun e w' => e = .returned (.bool true) ∧ Below W.heap.size W w') := fun W => eqConfig_same _ _ _ _ _ _ W
  go_enter Tryd.func3, Tryd.ntmps3
  go_wp2_with fail
  refine (HS1.out _).mono ?_
  rintro e w1 ⟨rfl, hb1⟩
  have HB1 : Hid (Below w.heap.size w w1) := hb1
  clear hb1
  go_wp2_with fail
  have HB2 : Hid (Below w.heap.size w (w1.alloc (.cells #[.int .i64 c0, .int .i64 c1, .int .i64 c2, .int .i64 c3, .int .i64 c4, .int .i64 c5] 23))) := bto HB1.out (bnew _ _)
  have HC2 : Hid (Blk (w1.alloc (.cells #[.int .i64 c0, .int .i64 c1, .int .i64 c2, .int .i64 c3, .int .i64 c4, .int .i64 c5] 23)) w1.heap.size #[.int .i64 c0, .int .i64 c1, .int .i64 c2, .int .i64 c3, .int .i64 c4, .int .i64 c5] 23) := Blk.new _ _ _
  refine (HI1.out _ HB2.out).mono ?_
  rintro e w3 ⟨rfl, hb3⟩
  have HB3 : Hid (Below w.heap.size w w3) := bto HB2.out hb3
  have HC3 : Hid (Blk w3 w1.heap.size #[.int .i64 c0, .int .i64 c1, .int .i64 c2, .int .i64 c3, .int .i64 c4, .int .i64 c5] 23) := HC2.out.later hb3
  have x0 := HC3.out.cell 0
  have x1 := HC3.out.cell 1
  have x2 := HC3.out.cell 2
  have x3 := HC3.out.cell 3
  have x4 := HC3.out.cell 4
  have x5 := HC3.out.cell 5
  have hlt3 := lt_of_block HC3.out
  have hne3 : ¬ w1.heap.size = w3.heap.size := by omega
  clear hb3 HB2 HC2
  go_wp2_with fail
  refine (HE.out _).mono ?_
  rintro e w4 ⟨rfl, hb4⟩
  have HB4 : Hid (Below w.heap.size w w4) := bto (bto HB3.out (bnew _ _)) hb4
  clear hb4
  cases ok <;> go_wp2 <;> go_ret <;> exact ⟨rfl, HB4.out⟩

set_option maxHeartbeats 2000000 in
set_option maxRecDepth 100000 in
theorem lawPc_long (s : ByteArray) (w : World) (hs : ¬ s.size ≤ 1048576) :
    Calls Tryd.prog 3 #[.string s] w fun e w' => e = .returned (.bool true) ∧ Below w.heap.size w w' := by
  go_enter Tryd.func3, Tryd.ntmps3
  go_wp2
  go_ret
  exact ⟨rfl, Below.refl _ _⟩

theorem lawPc (s : ByteArray) (w : World) (hy : SynTab w) (hG : 6 ≤ w.heap.size) :
    Calls Tryd.prog 3 #[.string s] w fun e w' => e = .returned (.bool true) ∧ Below w.heap.size w w' := by
  by_cases hs : s.size ≤ 1048576
  · have HS : ∀ W, Calls Tryd.prog 4 #[.string s] W fun e w' => e = .returned (pcR (pcV s.data.toList)) ∧ Below W.heap.size W w' := fun W => specPc_any s W hs
    have HI : ∀ W, Below w.heap.size w W → Calls Tryd.prog 5 #[.string s] W fun e w' => e = .returned (pcR (pcV s.data.toList)) ∧ Below W.heap.size W w' := fun W hW => implPc_any s W hs (hy.later hW hG) (Nat.le_trans hG hW.size)
    generalize pcV s.data.toList = R at HS HI
    match R, HS, HI with
    | none, HS, HI => exact lawPc_core s 0 0 0 0 0 0 0 false w hs HS HI
    | some (⟨a, b, c, d, e, g⟩, r), HS, HI => exact lawPc_core s a b c d e g r true w hs HS HI
  · exact lawPc_long s w hs
end Go.Proofs.YtmggmbidihjblaaDoor
