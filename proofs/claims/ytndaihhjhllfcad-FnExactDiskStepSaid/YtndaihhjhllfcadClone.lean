import Derived.Test.YtndaihhjhllfcadProg
import Derived.Test.YtndaihhjhllfcadFlat
import Derived.Maps.AppendAt
import Derived.Lib.LazyBuf
namespace Go.Proofs.Ytndaihhjhllfcad
open Go.RowKit

theorem info_filex : ∃ i, Try.prog.info? 61 = some i ∧ i.zero = some (.agg #[.string ByteArray.empty, .string ByteArray.empty, .int .i64 0]) ∧ i.size = 3 ∧ i.bytes = 40 := by
  have h : (Try.prog.info? 61).map (fun i => (i.zero, i.size, i.bytes)) = some (some (.agg #[.string ByteArray.empty, .string ByteArray.empty, .int .i64 0]), 3, 40) := by kernel_rfl
  obtain ⟨i, hi, hzz⟩ := Option.map_eq_some_iff.1 h
  simp only [Prod.mk.injEq] at hzz
  exact ⟨i, hi, hzz⟩

set_option maxRecDepth 100000 in
set_option maxHeartbeats 1000000 in
theorem clone_any (a : Option Addr) (cap : Nat) (fs : List FileD) (w : World) (hf : FilesIn w a fs) (hlen : fs.length ≤ 1048576) :
    Calls Try.prog 38 #[.slice a fs.length cap] w fun e w' => ∃ v, e = .returned v ∧ w'.ownsRow w.heap.size 61 3 v fs.length (flat fs) ∧ Below w.heap.size w w' := by
  have heq := fun w' => Lib.run_eql_slice_nil (P := Try.prog) w' 29 61 a fs.length cap 0 0 Try.underlying29
  cases a with
  | none =>
    have h0 : fs = [] := by
      rcases hf with h | ⟨b, o, e, _⟩
      · exact h
      · exact absurd e (by simp)
    subst h0
    have heq2 := fun w' => Lib.run_eql_slice_nil (P := Try.prog) w' 29 61 none 0 cap 0 0 Try.underlying29
    clear heq
    go_enter Try.func38, Try.ntmps38
    go_wp2
    go_ret
    exact ⟨_, rfl, ⟨rfl, Or.inl ⟨rfl, rfl⟩⟩, Below.refl _ _⟩
  | some ad =>
    obtain ⟨i, hi, hz0, hz1, hz2⟩ := info_filex
    have hown : (w.alloc (.cells #[] 61)).ownsRow w.heap.size 61 3 (.slice (some ⟨w.heap.size, 0, none⟩) 0 0) 0 [] :=
      ⟨rfl, Or.inr ⟨w.heap.size, 0, #[], rfl, Nat.le_refl _, heap_alloc_new _ _, Nat.le_refl _, Nat.zero_le _, rfl, rfl⟩⟩
    have HO : Hid ((w.alloc (.cells #[] 61)).ownsRow w.heap.size 61 3 (.slice (some ⟨w.heap.size, 0, none⟩) 0 0) 0 []) := hown
    have hnews : ∀ j u, (flat fs)[j]? = some u → (w.alloc (.cells #[] 61)).cell? (ad.add j) = some u := by
      rcases hf.later (bnew w (.cells #[] 61)) with rfl | ⟨b, o, e, _, h⟩
      · intro j u h; simp [flat] at h
      · simp only [Option.some.injEq] at e
        subst e
        exact cells_of_files h
    have HN : Hid (∀ j u, (flat fs)[j]? = some u → (w.alloc (.cells #[] 61)).cell? (ad.add j) = some u) := hnews
    have HI : Hid (Try.prog.info? 61 = some i) := hi
    clear hf hown hnews hi
    go_enter Try.func38, Try.ntmps38
    go_wp2_with (at_builtin; refine wpList_append_own_at _ rfl _ _ _ rfl w.heap.size 61 i _ 3 40 Try.underlying29 HI.out hz0 hz1 hz2 rfl (by omega) (.slice (some ⟨w.heap.size, 0, none⟩) 0 0) 0 [] rfl HO.out ad fs.length cap (flat fs) rfl (flat_length fs) HN.out (flat_one_cell fs) (by simp [maxLen]; omega) (by omega) (by simp) ?_; intro v1 w1 hown1 hgrow _ _)
    go_ret
    simp only [Nat.zero_add, List.nil_append] at hown1
    refine ⟨v1, rfl, hown1, (bnew _ _).grown hgrow (by simp) (fun k hk => ?_)⟩
    simp [Value.ownBlock] at hk
    omega
end Go.Proofs.Ytndaihhjhllfcad
