import Derived.Test.YtnbkmmmlhlbfoaaGreatDoorJ25TenE
import Derived.Test.YtnbkmmmlhlbfoaaGreatDoorJ20SSta
import Derived.Test.YtnbkmmmlhlbfoaaGreatDoorJ13TenS
namespace Go.Proofs.YtnbkmmmlhlbfoaaGreatDoor
open Go.RowKit
theorem pair_bulk_at (ps : List PairD) (k : Nat) (h : k < ps.length) : ps[k].s.size ≤ pairBulk ps := by
  have h1 := pairBulk_take_succ ps k h
  have h2 := pairBulk_take_le ps (k + 1)
  omega
theorem fit_of {ts : List TenD} (h : ts.length + tensBulk ts ≤ 1048576) : FitT ts 1048576 ∧ BigT ts ∧ SmallT ts ∧ LenT ts := by
  have hb : ∀ i (hi : i < ts.length), tenBulk ts[i] ≤ 1048576 := fun i hi => by have := tenBulk_at ts i hi; omega
  have h1 : ∀ i (hi : i < ts.length), ts[i].name.size ≤ 1048576 ∧ ts[i].mets.length ≤ 1048576 ∧ ts[i].sers.length ≤ 1048576 ∧ pairBulk ts[i].mets ≤ 1048576 ∧ pairBulk ts[i].sers ≤ 1048576 := fun i hi => by have := hb i hi; unfold tenBulk at this; omega
  have h2 : ∀ i (hi : i < ts.length), (∀ j (h' : j < ts[i].mets.length), ts[i].mets[j].s.size ≤ 1000000000) ∧ (∀ j (h' : j < ts[i].sers.length), ts[i].sers[j].s.size ≤ 1000000000) := fun i hi =>
    ⟨fun j hj => by have := pair_bulk_at _ j hj; have := h1 i hi; omega, fun j hj => by have := pair_bulk_at _ j hj; have := h1 i hi; omega⟩
  refine ⟨fun i hi => ⟨?_, (h2 i hi).1, (h2 i hi).2, ?_, ?_, ?_⟩, fun i hi => ⟨?_, (h2 i hi).1, (h2 i hi).2, ?_, ?_⟩, fun i hi => ⟨?_, ?_⟩, fun i hi => ⟨?_, ?_⟩⟩ <;> (have := h1 i hi; unfold maxLen at *; omega)
end Go.Proofs.YtnbkmmmlhlbfoaaGreatDoor
