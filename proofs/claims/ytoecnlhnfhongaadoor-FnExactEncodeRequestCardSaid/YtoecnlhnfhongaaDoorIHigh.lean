import Derived.Test.YtoecnlhnfhongaaDoorNumL
import Derived.Test.YtoecnlhnfhongaaDoorOwn
import Derived.Laws.MakeOwn
namespace Go.Proofs.YtoecnlhnfhongaaDoor
open Go.RowKit

theorem shrN_pow (v : Int) : ∀ k, shrN v k = v / 2 ^ (8 * k)
  | 0 => by simp [shrN]
  | k + 1 => by
    rw [shrN, shrN_pow v k, show 8 * (k + 1) = 8 * k + 8 by omega, Int.pow_add, Int.ediv_ediv_of_nonneg (Int.pow_nonneg (by omega))]
    rfl
theorem numI_get (v : Int) : ∀ n i, i < n → (numI v n)[i]? = some (shrN v (n - 1 - i) % 256)
  | 0, i, h => absurd h (by omega)
  | n + 1, 0, _ => by simp [numI]
  | n + 1, i + 1, h => by
    rw [numI, List.getElem?_cons_succ, numI_get v n i (by omega)]
    congr 3
    omega

set_option maxRecDepth 100000 in
set_option maxHeartbeats 1000000 in
theorem implHigh_any (n : Nat) (v : Int) (w : World) (hn : n ≤ 8) :
    Calls Tryd.prog 55 #[.int .i64 v, .int .i64 n] w fun e w' => e = .returned (.string (numS n v)) ∧ Below w.heap.size w w' := by
  obtain ⟨C, hC, hmk⟩ : ∃ C : Array Value, C.size = n ∧ (Instr.makeSlice 69 (.int .i64 n) (.int .i64 n)).run Tryd.prog w = .ok (.slice (some ⟨w.heap.size, 0, none⟩) n n) (w.alloc (.cells C 5)) := by
    obtain ⟨ti, hti, hz0, hz1, hz2⟩ := info_u8
    have h := run_make (P := Tryd.prog) w 69 5 ti _ Tryd.underlying69 hti hz0 .i64 .i64 (n : Int) (n : Int) (by omega) (by omega) (by rw [hz2]; omega) (by omega)
    rw [hz1, Int.toNat_natCast, Nat.mul_one] at h
    exact ⟨_, size_madeCells _ _, h⟩
  have HB : Hid (Blk (w.alloc (.cells C 5)) w.heap.size C 5) := heap_alloc_new _ _
  go_enter Tryd.func55, Tryd.ntmps55
  go_wp2
  go_loopw [6, 11] (fun _ c wr => ∃ (k : Nat) (cur : Array Value), k ≤ n ∧ c = .int .i64 k ∧ Hid (Blk wr w.heap.size cur 5) ∧ cur.size = n ∧ Hid (∀ i, i < k → cur[n - 1 - i]? = some (.int .u8 (shrN v i % 256))) ∧ Hid (Below w.heap.size w wr)) (fun _ c _ => n - (intOf c).toNat)
  case atStart => exact ⟨0, C, by omega, rfl, HB, hC, fun i hi => absurd hi (by omega), bnew _ _⟩
  case round =>
    obtain ⟨k, cur, hk, rfl, hblk, hcs, hcur, hbel⟩ := hrel
    by_cases hlt : k < n
    · obtain ⟨p, hp, hpn⟩ : ∃ p : Nat, (n : Int) - 1 - (k : Int) = (p : Int) ∧ Hid (p = n - 1 - k) := ⟨n - 1 - k, by omega, rfl⟩
      have hc : wr.cell? ⟨w.heap.size, p, none⟩ = some (cur[p]'(by have := hpn.out; omega)) := by rw [hblk.out.cell]; exact Array.getElem?_eq_getElem _
      have hf := hblk.out.free p
      go_wp2
      refine ⟨⟨k + 1, cur.setIfInBounds p (.int .u8 (v / 2 ^ (8 * k) % 256)), by omega, by go_num, hblk.out.set p _, by simp [hcs], ?_, hbel.out.setCell (p := ⟨w.heap.size, p, none⟩) (Nat.le_refl _) _⟩, by simp [intOf]; omega⟩
      intro i hi
      have hp2 := hpn.out
      rw [Array.getElem?_setIfInBounds]
      split
      · rename_i e
        have e2 : i = k := by omega
        subst e2
        rw [if_pos (by omega), shrN_pow]
      · rename_i e
        exact hcur.out i (by omega)
    · have e : k = n := by omega
      subst e
      have hcv : (convert 69 9 (.slice (some ⟨w.heap.size, 0, none⟩) k k)).run Tryd.prog wr = .ok (.string (numS k v)) wr := by
        refine run_convert_bytes_arg wr 69 5 Tryd.underlying69 Tryd.underlying5 w.heap.size 0 _ _ (numI v k) (numI_length v k) (fun i hi => ?_) 9 Tryd.underlying9
        rw [hblk.out.cell, Nat.zero_add]
        have h2 := hcur.out (k - 1 - i) (by omega)
        rw [show k - 1 - (k - 1 - i) = i by omega] at h2
        rw [h2]
        have h3 := numI_get v k i (by omega)
        simp [List.getD, h3]
      go_wp2
      go_ret
      exact ⟨rfl, hbel.out⟩
end Go.Proofs.YtoecnlhnfhongaaDoor
