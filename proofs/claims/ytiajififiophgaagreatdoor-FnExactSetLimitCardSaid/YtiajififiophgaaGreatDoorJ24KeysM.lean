import Derived.Test.YtiajififiophgaaGreatDoorProg
import Derived.Test.YtiajififiophgaaGreatDoorJ06IdxA
import Derived.Test.YtiajififiophgaaGreatDoorJ23Iter
import Derived.Sort.Walk0
namespace Go.Proofs.YtiajififiophgaaGreatDoor
open Go.RowKit Go.Maps Go.Sort

theorem lt_le_bytes {x y : ByteArray} (h : blt x y = true) : x.data.toList ≤ y.data.toList := by
  unfold blt at h
  rw [bytesLess_eq, decide_eq_true_iff, ByteArray.toList_eq, ByteArray.toList_eq] at h
  exact List.le_of_lt h
/-- Keys that rise are what sorting gives. -/
theorem sort_rise {α : Type} {key : α → ByteArray} {L : List α} (hr : RiseBy key L) {ss : List (List UInt8)} (hp : ss.Perm (L.map fun p => (key p).data.toList)) :
    (ss.mergeSort (fun x y => decide (x ≤ y))) = L.map fun p => (key p).data.toList := by
  have h1 := (List.mergeSort_perm ss (fun x y => decide (x ≤ y))).trans hp
  have h2 : (ss.mergeSort (fun x y => decide (x ≤ y))).Pairwise (fun a b => a ≤ b) := by
    have := List.pairwise_mergeSort (le := fun (x y : List UInt8) => decide (x ≤ y)) (fun a b c h h' => by simp only [decide_eq_true_iff] at *; exact List.le_trans h h') (fun a b => by simp only [Bool.or_eq_true, decide_eq_true_iff]; exact List.le_total a b) ss
    simpa using this
  have h3 : (L.map fun p => (key p).data.toList).Pairwise (fun a b => a ≤ b) := List.pairwise_map.2 (hr.imp fun h => lt_le_bytes h)
  exact List.Perm.eq_of_pairwise (le := fun a b => a ≤ b) (fun a b _ _ h h' => List.le_antisymm h h') h2 h3 h1
theorem enc_keys {α : Type} (key : α → ByteArray) (L : List α) : (L.map fun p => (key p).data.toList).map encStr = L.map fun p => Value.string (key p) := by
  rw [List.map_map]
  exact List.map_congr_left fun p _ => by simp [encStr]
theorem row_base {w : World} {B B' : Nat} {e : TypeId} {size : Nat} {v : Value} {n : Nat} {xs : List Value} (h : w.ownsRow B e size v n xs) (hB : B' ≤ B) : w.ownsRow B' e size v n xs := by
  refine ⟨h.1, ?_⟩
  rcases h.2 with h0 | ⟨g, cap, cur, h1, h2, r⟩
  · exact Or.inl h0
  · exact Or.inr ⟨g, cap, cur, h1, Nat.le_trans hB h2, r⟩

set_option maxRecDepth 100000 in
set_option maxHeartbeats 1000000 in
theorem keys_any (x : Nat) (t : TenD) (S : Nat → Prop) (M : Nat) (w : World) (h : IdxAt w S x t M) (hl : t.sers.length ≤ 1000000000) :
    Calls Tryz.prog 60 #[.pointer (some ⟨x, 0, none⟩)] w fun e w' => ∃ v, e = .returned v ∧ w'.ownsRow w.heap.size 9 1 v t.sers.length (t.sers.map fun p => .string p.s) ∧ Below w.heap.size w w' := by
  obtain ⟨lm, sm, cm, iv, Q, hs, D, h⟩ := h
  have c2 : w.cell? ⟨x, 2, none⟩ = some (.map (some sm)) := h.blk.cell 2
  have hq : Q.length = t.sers.length := by rw [← h.q1, List.length_map]
  have hsz : Maps.size (mapOf (Q.map fun q => (q.1.s, pVal q.2))) = t.sers.length := by rw [size_by, hq]
  have HK : Hid (Calls Tryz.prog 109 #[.map (some sm)] w fun e w' => e = .returned (.func (.func 146) #[] #[.pointer (some ⟨w.heap.size, 0, none⟩)]) ∧ w' = w.alloc (.cells #[.map (some sm)] 153)) := callsIn_wide.1 (Tryz.maps_Keys_109 (some sm) w)
  have HS : Hid (Calls Tryz.prog 91 #[.func (.func 146) #[] #[.pointer (some ⟨w.heap.size, 0, none⟩)]] (w.alloc (.cells #[.map (some sm)] 153)) fun e w' => ∃ v, e = .returned v ∧ w'.ownsRow w.heap.size 9 1 v t.sers.length (t.sers.map fun p => .string p.s) ∧ Below w.heap.size w w') := by
    refine Calls.mono (callsIn_wide.1 (Tryz.slices_Sorted_keys_91_109 sm _ _ ptrElem w h.sers (by rw [hsz]; unfold maxLen; omega) (by rw [hsz]; omega))) ?_
    rintro e w1 ⟨v, ss, rfl, hp, hrow, _, hb⟩
    have hk : (strKeys (mapOf (Q.map fun q => (q.1.s, pVal q.2)))) = t.sers.map fun p => p.s.data.toList := by
      rw [strKeys_mapOf, List.map_map, ← h.q1, List.map_map]
      rfl
    rw [hk] at hp
    have hlen : ss.length = t.sers.length := by rw [hp.length_eq, List.length_map]
    rw [sort_rise (key := fun p : PairD => p.s) h.rs hp, enc_keys (fun p : PairD => p.s), hlen] at hrow
    exact ⟨v, rfl, row_base hrow (by simp), bto (bnew _ _) hb⟩
  clear h hq hsz
  go_enter Tryz.func60, Tryz.ntmps60
  go_wp2_with fail
  refine HK.out.mono ?_
  rintro e w1 ⟨rfl, rfl⟩
  go_wp2_with fail
  refine HS.out.mono ?_
  rintro e w2 ⟨v, rfl, hrow, hb⟩
  have HR := hid hrow
  have HB := hid hb
  clear hrow hb
  go_wp2
  go_ret
  exact ⟨v, rfl, HR.out, HB.out⟩
end Go.Proofs.YtiajififiophgaaGreatDoor

