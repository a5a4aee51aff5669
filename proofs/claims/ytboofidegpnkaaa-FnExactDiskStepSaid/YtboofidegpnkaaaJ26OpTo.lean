import Derived.Test.YtboofidegpnkaaaProg
import Derived.Test.YtboofidegpnkaaaJ08Del
namespace Go.Proofs.Ytboofidegpnkaaa
open Go.RowKit

def szO (left : Int) (op : OpD) : Int := if left - op.name.size < 0 then -1 else if left - op.name.size - op.to.size < 0 then -1 else if left - op.name.size - op.to.size - op.data.size < 0 then -1 else left - op.name.size - op.to.size - op.data.size

set_option maxHeartbeats 1000000 in
theorem szDiskOp_any (op : OpD) (left : Int) (w : World) (h0 : 0 ≤ left) (h1 : left ≤ 1048576) (hn : op.name.size ≤ maxLen) (ht : op.to.size ≤ maxLen) (hd : op.data.size ≤ maxLen) :
    Calls Try.prog 5 #[.agg #[.int .i64 op.kind, .string op.name, .string op.to, .string op.data, .int .i64 op.size], .int .i64 left] w fun e w' => e = .returned (.int .i64 (szO left op)) ∧ Below w.heap.size w w' := by
  unfold maxLen at hn ht hd
  obtain ⟨kd, nm, to, da, sz⟩ := op
  simp only at hn ht hd ⊢
  by_cases c1 : left - nm.size < 0
  · have E : Hid (szO left ⟨kd, nm, to, da, sz⟩ = -1) := by show _ = _; simp only [szO, if_pos c1]
    go_enter Try.func5, Try.ntmps5
    go_wp2
    go_ret
    exact ⟨ret_int E.out.symm, bnew _ _⟩
  · by_cases c2 : left - nm.size - to.size < 0
    · have E : Hid (szO left ⟨kd, nm, to, da, sz⟩ = -1) := by show _ = _; simp only [szO, if_neg c1, if_pos c2]
      go_enter Try.func5, Try.ntmps5
      go_wp2
      go_ret
      exact ⟨ret_int E.out.symm, bnew _ _⟩
    · by_cases c3 : left - nm.size - to.size - da.size < 0
      · have E : Hid (szO left ⟨kd, nm, to, da, sz⟩ = -1) := by show _ = _; simp only [szO, if_neg c1, if_neg c2, if_pos c3]
        go_enter Try.func5, Try.ntmps5
        go_wp2
        go_ret
        exact ⟨ret_int E.out.symm, bnew _ _⟩
      · have E : Hid (szO left ⟨kd, nm, to, da, sz⟩ = left - nm.size - to.size - da.size) := by show _ = _; simp only [szO, if_neg c1, if_neg c2, if_neg c3]
        go_enter Try.func5, Try.ntmps5
        go_wp2
        go_ret
        exact ⟨ret_int E.out.symm, bnew _ _⟩

theorem szO_bound {left : Int} {op : OpD} (h : ¬ szO left op < 0) : (op.name.size : Int) + op.to.size + op.data.size ≤ left := by
  unfold szO at h
  split at h
  · omega
  · split at h
    · omega
    · split at h
      · omega
      · omega

set_option maxRecDepth 100000 in
set_option maxHeartbeats 1000000 in
theorem toDiskOp_any (op : OpD) (w : World) :
    Calls Try.prog 8 #[.agg #[.int .i64 op.kind, .string op.name, .string op.to, .string op.data, .int .i64 op.size]] w fun e w' => e = .returned (.agg #[.int .i64 op.kind, .string op.name, .string op.to, .string op.data, .int .i64 op.size]) ∧ Below w.heap.size w w' := by
  go_enter Try.func8, Try.ntmps8
  go_wp2
  refine bodyPost_ret (v := .agg #[.int .i64 op.kind, .string op.name, .string op.to, .string op.data, .int .i64 op.size]) (by simp [results, Try.results8, go_sem]) rfl ⟨rfl, ?_⟩
  first
    | exact bto (bto (bnew _ _) (bnew _ _)) (bnew _ _)
    | (repeat (refine Below.setCell ?_ (by first | (simp; done) | (simp; omega)) _)
       exact bto (bto (bnew _ _) (bnew _ _)) (bnew _ _))
end Go.Proofs.Ytboofidegpnkaaa

