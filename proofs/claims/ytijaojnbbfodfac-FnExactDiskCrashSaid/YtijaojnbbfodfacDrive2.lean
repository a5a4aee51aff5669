import Derived.Test.YtijaojnbbfodfacProg
import Derived.Test.YtijaojnbbfodfacDrive
namespace Go.Proofs.Ytijaojnbbfodfac
open Go.RowKit

set_option maxHeartbeats 400000 in
theorem restart_any (D : Nat) (t : TypeId) (v0 v1 v2 v3 v4 v5 : Value) (w : World) (hb : Blk w D #[v0, v1, v2, v3, v4, v5] t) :
    Calls Try.prog 43 #[.pointer (some ⟨D, 0, none⟩)] w fun e w' => e = .returned (.tuple #[]) ∧ But D w w' ∧ Blk w' D #[v0, .int .i64 0, .int .i64 0, .bool false, v4, v5] t := by
  have c1 := hb.cell 1
  have c2 := hb.cell 2
  have c3 := hb.cell 3
  simp at c1 c2 c3
  have f1 := hb.free 1
  have f2 := hb.free 2
  have f3 := hb.free 3
  have HB : Hid (Blk w D #[v0, v1, v2, v3, v4, v5] t) := hb
  clear hb
  go_enter Try.func43, Try.ntmps43
  go_wp2
  go_end0
  refine ⟨rfl, (((But.refl _ _).setCell _ _).setCell _ _).setCell _ _, ?_⟩
  have := ((HB.out.set 1 (.int .i64 0)).set 2 (.int .i64 0)).set 3 (.bool false)
  simpa using this

set_option maxRecDepth 100000 in
set_option maxHeartbeats 1000000 in
theorem unmount_any (D : Nat) (t : TypeId) (a : Option Addr) (n cap : Nat) (c k cr fl : Int) (dn : Bool) (w : World) (hb : Blk w D #[.int .i64 k, .int .i64 cr, .int .i64 fl, .bool dn, .slice a n cap, .int .i64 c] t) :
    Calls Try.prog 44 #[.pointer (some ⟨D, 0, none⟩)] w fun e w' => e = .returned (.agg #[.slice a n cap, .int .i64 c, .int .i64 k, .int .i64 cr, .int .i64 fl, .bool dn]) ∧ Below w.heap.size w w' := by
  have hD : D < w.heap.size := lt_of_block hb
  have hb1 := hb.later (bnew w (.cells #[.slice none 0 0, .int .i64 0, .int .i64 0, .int .i64 0, .int .i64 0, .bool false] 36))
  have c0 := hb1.cell 0
  have c1 := hb1.cell 1
  have c2 := hb1.cell 2
  have c3 := hb1.cell 3
  have c4 := hb1.cell 4
  have c5 := hb1.cell 5
  simp only [List.getElem?_toArray, List.getElem?_cons_zero, List.getElem?_cons_succ] at c0 c1 c2 c3 c4 c5
  clear hb hb1
  go_enter Try.func44, Try.ntmps44
  go_wp2_with fail
  go_region
  go_wp2
  exact bodyPost_ret (v := .agg #[.slice a n cap, .int .i64 c, .int .i64 k, .int .i64 cr, .int .i64 fl, .bool dn]) (by simp [results, Try.results44, go_sem]) rfl ⟨rfl, (bnew _ _).drew⟩
end Go.Proofs.Ytijaojnbbfodfac
