import Derived.Test.YtgnppdghjlnlhaaGreatDoorJ33SS8
import Derived.Test.YtgnppdghjlnlhaaGreatDoorJ35SEst
import Derived.Test.YtgnppdghjlnlhaaGreatDoorJ24PrE
import Derived.Test.YtgnppdghjlnlhaaGreatDoorJ25LogTo
namespace Go.Proofs.YtgnppdghjlnlhaaGreatDoor
open Go.RowKit
theorem pair_bulk_at' (ps : List PairD) (k : Nat) (h : k < ps.length) : ps[k].s.size ≤ pairBulk ps := by
  have h1 := pairBulk_take_succ ps k h
  have h2 := pairBulk_take_le ps (k + 1)
  omega
theorem encTs_le : ∀ (ts : List TenD), (encTs ts).size ≤ 17 * ts.length + 10 * tensBulk ts
  | [] => by simp [encTs, tensBulk]
  | t :: q => by
    have h1 := encTs_le q
    have h2 := encT_size t
    show (encT t ++ encTs q).size ≤ 17 * (q.length + 1) + 10 * (tenBulk t + tensBulk q)
    rw [ByteArray.size_append, h2]
    unfold tenBulk
    omega
theorem est_fit {ts : List TenD} (h : ts.length + tensBulk ts ≤ 1048576) : BigE ts ∧ SmallT ts ∧ LenT ts ∧ (encTs ts).size ≤ 100000000 := by
  have hb : ∀ i (hi : i < ts.length), tenBulk ts[i] ≤ 1048576 := fun i hi => by
    have h1 := tensBulk_take_succ ts i hi
    have h2 := tensBulk_take_le ts (i + 1)
    omega
  have h1 : ∀ i (hi : i < ts.length), ts[i].name.size ≤ 1048576 ∧ ts[i].mets.length ≤ 1048576 ∧ ts[i].sers.length ≤ 1048576 ∧ pairBulk ts[i].mets ≤ 1048576 ∧ pairBulk ts[i].sers ≤ 1048576 := fun i hi => by have := hb i hi; unfold tenBulk at this; omega
  have h2 : ∀ i (hi : i < ts.length), (∀ j (h' : j < ts[i].mets.length), ts[i].mets[j].s.size ≤ 1000000000) ∧ (∀ j (h' : j < ts[i].sers.length), ts[i].sers[j].s.size ≤ 1000000000) := fun i hi =>
    ⟨fun j hj => by have := pair_bulk_at' _ j hj; have := h1 i hi; omega, fun j hj => by have := pair_bulk_at' _ j hj; have := h1 i hi; omega⟩
  refine ⟨fun i hi => ⟨?_, ?_, ?_, (h2 i hi).1, (h2 i hi).2⟩, fun i hi => ⟨?_, ?_⟩, fun i hi => ⟨?_, ?_⟩, ?_⟩
  all_goals first | (have := h1 i hi; unfold maxLen at *; omega) | (have := h1 i hi; omega) | (have := encTs_le ts; omega)
end Go.Proofs.YtgnppdghjlnlhaaGreatDoor
