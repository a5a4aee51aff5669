import Derived.Test.YtndaihhjhllfcadProg
import Derived.Test.YtndaihhjhllfcadPropD
namespace Go.Proofs.Ytndaihhjhllfcad
open Go.RowKit

set_option maxRecDepth 100000 in
set_option maxHeartbeats 1000000 in
theorem opProper_any (op : OpD) (w : World) (hn : op.name.size ≤ maxLen) (ht : op.to.size ≤ maxLen) :
    Calls Try.prog 20 #[.agg #[.int .i64 op.kind, .string op.name, .string op.to, .string op.data, .int .i64 op.size]] w fun e w' => e = .returned (.bool (opB op)) ∧ Below w.heap.size w w' := by
  have HB : Hid (Below w.heap.size w (w.alloc (.cells #[.int .i64 op.kind, .string op.name, .string op.to, .string op.data, .int .i64 op.size] 35))) := bnew _ _
  by_cases h1 : op.kind < 1
  · have E : Hid (opB op = false) := by show _ = _; simp [opB, btwB]; omega
    go_enter Try.func20, Try.ntmps20
    go_wp2
    go_ret
    exact ⟨ret_bool E.out.symm, HB.out⟩
  · by_cases h2 : 6 < op.kind
    · have E : Hid (opB op = false) := by show _ = _; simp [opB, btwB]; omega
      go_enter Try.func20, Try.ntmps20
      go_wp2
      go_ret
      exact ⟨ret_bool E.out.symm, HB.out⟩
    · cases hq : nameB op.name with
      | false =>
        have HQ : Hid (nameB op.name = false) := hq
        have E : Hid (opB op = false) := by show _ = _; simp [opB, hq]
        clear hq
        go_enter Try.func20, Try.ntmps20
        go_wp2_with fail
        refine (isFileName_is HQ.out _ hn).mono ?_
        rintro e w' ⟨rfl, rfl⟩
        go_wp2
        go_ret
        exact ⟨ret_bool E.out.symm, HB.out⟩
      | true =>
        have HQ : Hid (nameB op.name = true) := hq
        have hbt : btwB op.kind 1 6 = true := by simp [btwB]; omega
        by_cases h5 : op.kind = 5
        · have E : Hid (opB op = nameB op.to) := by show _ = _; unfold opB; rw [hbt, hq]; simp [h5]
          clear hq hbt
          go_enter Try.func20, Try.ntmps20
          go_wp2_with fail
          refine (isFileName_is HQ.out _ hn).mono ?_
          rintro e w' ⟨rfl, rfl⟩
          go_wp2_with fail
          refine (isFileName_any op.to _ ht).mono ?_
          rintro e w' ⟨rfl, rfl⟩
          go_wp2
          go_ret
          exact ⟨ret_bool E.out.symm, bnew _ _⟩
        · have E : Hid (opB op = true) := by show _ = _; simp [opB, hq, hbt, h5]
          have h5' : (op.kind == 5) = false := by simpa using h5
          clear hq hbt
          go_enter Try.func20, Try.ntmps20
          go_wp2_with fail
          refine (isFileName_is HQ.out _ hn).mono ?_
          rintro e w' ⟨rfl, rfl⟩
          go_wp2
          go_ret
          exact ⟨ret_bool E.out.symm, HB.out⟩
end Go.Proofs.Ytndaihhjhllfcad
