import Derived.Test.YteohobkigjmjlaaDoorProg
import Derived.Test.YteohobkigjmjlaaDoorJ01U8L
import Derived.ProofKit
import Derived.OpenShut
import Derived.Deep.Slices
import Derived.Deep.Strs
namespace Go.Proofs.YteohobkigjmjlaaDoor
open Go.ChangeShapes Go.WideShapes Go.ChangeAt Go.RowKit Go.Deep

theorem cells_u8 : Tryd.prog.cellsOf 5 = 1 := by kernel_rfl

set_option maxRecDepth 100000 in
theorem open_u8 {H : Type} {enc : TypeId × Value → H} {W : World} {fuel : Nat} {v : Value} {x : DataW H × List MemPlace} (h : DataW.trod enc Tryd.prog W 0 (fun _ => true) true fuel 36 [v] = some x) :
    ∃ (a : Option Addr) (n cap : Nat), v = .slice a n cap ∧ n ≤ maxLen ∧ U8In W W.heap.size W.heap.size a n := by
  rcases open_ints Tryd.underlying36 Tryd.underlying5 cells_u8 h with ⟨hc, _⟩ | ⟨a, len, cap, zs, hc, _, hl, hm, hz, _, hcell, hwz⟩
  · exact ⟨none, 0, 0, by simpa using hc, Nat.zero_le _, Or.inl rfl⟩
  · simp only [if_true] at hz
    refine ⟨some a, len, cap, by simpa using hc, by omega, ?_⟩
    by_cases h0 : len = 0
    · exact Or.inl h0
    · obtain ⟨b, o, spot⟩ := a
      have hspot : spot = none := by simpa [Addr.add] using World.cell?_spot (hcell 0 (by omega))
      subst hspot
      have hlt : b < W.heap.size := by
        have hc0 := hcell 0 (by omega)
        rcases Nat.lt_or_ge b W.heap.size with hlt | hge
        · exact hlt
        · rw [Addr.add_lit] at hc0
          simp [World.cell?, Array.getElem?_eq_none hge] at hc0
      refine Or.inr ⟨b, o, rfl, by omega, hlt, fun i hi => ?_⟩
      have hci := hcell i (by omega)
      rw [Addr.add_lit, List.getD_eq_getElem?_getD] at hci
      have hr := range_u8 hwz i
      refine ⟨(zs[i]?.getD 0).toNat, by omega, ?_⟩
      rw [Int.toNat_of_nonneg hr.1]
      exact hci
end Go.Proofs.YteohobkigjmjlaaDoor

