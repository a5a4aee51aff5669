import Derived.Test.YtgpgacncmoiefaaProg
import Derived.Test.YtgpgacncmoiefaaCrcT
import Derived.Test.YtgpgacncmoiefaaOwn
import Derived.Laws.Tables
import Derived.Laws.CopyRow
namespace Go.Proofs.Ytgpgacncmoiefaa
open Go.RowKit

theorem zero_tab : ∃ Z : Array Value, Z = Array.replicate 256 (.int .u32 0) ∧ ∀ w, (zeroValue 98).run Try.prog w = .ok (.agg Z) w := ⟨_, rfl, fun _ => by kernel_rfl⟩
theorem store_same (P : Program) (w : World) (Z : Array Value) (t : TypeId) (h1 : ∀ v ∈ Z.toList, v.oneCell' = true) :
    (storeCells ⟨w.heap.size, 0, none⟩ Z.toList).run P (w.alloc (.cells Z t)) = .ok () (w.alloc (.cells Z t)) := by
  have hg : (w.alloc (.cells Z t)).heap[w.heap.size]? = some (.cells Z t (0, 0)) := heap_alloc_new _ _
  have h := run_storeCells_from (P := P) w.heap.size t Z.toList 0 Z _ hg (by simp) h1
  rw [h]
  simp only [List.take_zero, List.nil_append, Array.toArray_toList]
  rw [setRow_self _ _ Z t (0, 0) hg]
theorem and_one_u32 (a : Nat) (ha : a < 4294967296) : bits .and .u32 (a : Int) 1 = ((a % 2 : Nat) : Int) := by
  show IntKind.u32.wrap ((BitVec.ofInt 32 (a : Int) &&& BitVec.ofInt 32 ((1 : Nat) : Int)).toNat : Int) = _
  rw [BitVec.toNat_and, BitVec.ofInt_natCast, BitVec.ofInt_natCast, BitVec.toNat_ofNat, BitVec.toNat_ofNat, Nat.mod_eq_of_lt (by omega), Nat.mod_eq_of_lt (by omega), Nat.and_one_is_mod]
  simp only [IntKind.wrap, IntKind.bits, IntKind.signed]
  simp
  omega
theorem xor_u32 (a b : Nat) (ha : a < 4294967296) (hb : b < 4294967296) : bits .xor .u32 (a : Int) (b : Int) = ((a ^^^ b : Nat) : Int) := by
  have hx : a ^^^ b < 2 ^ 32 := Nat.xor_lt_two_pow (by omega) (by omega)
  show IntKind.u32.wrap ((BitVec.ofInt 32 (a : Int) ^^^ BitVec.ofInt 32 (b : Int)).toNat : Int) = _
  rw [BitVec.toNat_xor, BitVec.ofInt_natCast, BitVec.ofInt_natCast, BitVec.toNat_ofNat, BitVec.toNat_ofNat, Nat.mod_eq_of_lt (by omega), Nat.mod_eq_of_lt (by omega)]
  simp only [IntKind.wrap, IntKind.bits, IntKind.signed]
  simp
  omega

set_option maxRecDepth 100000 in
set_option maxHeartbeats 1000000 in
theorem makeTab_any (w : World) :
    Calls Try.prog 32 #[] w fun e w' => ∃ b cur, e = .returned (.pointer (some ⟨b, 0, none⟩)) ∧ w.heap.size ≤ b ∧ Blk w' b cur 98 ∧ (∀ i, i < 256 → cur[i]? = some (.int .u32 (crcT i : Nat))) ∧ Below w.heap.size w w' := by
  obtain ⟨Z, hZ, hz⟩ := zero_tab
  have HZ : Hid (Z = Array.replicate 256 (.int .u32 0)) := hZ
  have hzs : Z.size = 256 := by rw [hZ]; simp
  have hst := store_same Try.prog w Z 98 (by rw [hZ]; simp [Value.oneCell'])
  have hB : Blk (w.alloc (.cells Z 98)) w.heap.size Z 98 := heap_alloc_new _ _
  have HB : Hid (Blk (w.alloc (.cells Z 98)) w.heap.size Z 98) := hB
  clear hZ hB
  go_enter Try.func32, Try.ntmps32
  go_wp2
  go_loopw [2, 3, 5] (fun _ _ c wr => ∃ (k : Nat) (cur : Array Value), k ≤ 256 ∧ c = .int .i64 k ∧ Hid (Blk wr w.heap.size cur 98) ∧ cur.size = 256 ∧ Hid (∀ i, i < k → cur[i]? = some (.int .u32 (crcT i : Nat))) ∧ Hid (Below w.heap.size w wr)) (fun _ _ c _ => 256 - (intOf c).toNat)
  case atStart => exact ⟨0, Z, by omega, rfl, HB, hzs, fun i hi => absurd hi (by omega), bnew _ _⟩
  case round =>
    obtain ⟨k, cur, hk, rfl, hblk, hcs, hcur, hbel⟩ := hrel
    by_cases hlt : k < 256
    · go_wp2
      go_loop [3, 10] (fun x c => ∃ (j X : Nat), j ≤ 8 ∧ c = .int .i64 j ∧ x = .int .u32 X ∧ X < 4294967296 ∧ Hid (X = crcShs k j)) (fun _ c => 8 - (intOf c).toNat)
      case atStart => exact ⟨0, k, by omega, rfl, by go_num, by omega, rfl⟩
      case round =>
        obtain ⟨j, X, hj, rfl, rfl, hX, hx⟩ := hrel
        have ha := and_one_u32 X hX
        have hxr := xor_u32 (X / 2) 2197175160 (by omega) (by omega)
        by_cases h8 : j < 8
        · by_cases hodd : X % 2 = 1
          · rw [hodd] at ha
            go_wp2
            refine ⟨⟨j + 1, (X / 2) ^^^ 2197175160, by omega, by go_num, ?_, Nat.xor_lt_two_pow (n := 32) (by omega) (by omega), ?_⟩, by simp [intOf]; omega⟩
            · rw [← hxr]; congr 2
            · show _ = _
              rw [crcShs, ← hx.out, crcSh, if_pos hodd]
          · have h0 : X % 2 = 0 := by omega
            rw [h0] at ha
            go_wp2
            refine ⟨⟨j + 1, X / 2, by omega, by go_num, ?_, by omega, ?_⟩, by simp [intOf]; omega⟩
            · go_num
            · show _ = _
              rw [crcShs, ← hx.out, crcSh, if_neg hodd]
        · have e : j = 8 := by omega
          subst e
          have hc : wr.cell? ⟨w.heap.size, k, none⟩ = some (cur[k]'(by omega)) := by rw [hblk.out.cell]; exact Array.getElem?_eq_getElem _
          have hf := hblk.out.free k
          go_wp2
          refine ⟨⟨k + 1, cur.setIfInBounds k (.int .u32 X), by omega, by go_num, hblk.out.set k _, by simp [hcs], ?_, ?_⟩, by simp [intOf]; omega⟩
          · intro i hi
            rw [Array.getElem?_setIfInBounds]
            split
            · rename_i e
              subst e
              rw [if_pos (by omega), hx.out]
              rfl
            · exact hcur.out i (by omega)
          · exact hbel.out.setCell (p := ⟨w.heap.size, k, none⟩) (Nat.le_refl _) _
    · have e : k = 256 := by omega
      subst e
      go_wp2
      go_ret
      exact ⟨w.heap.size, cur, rfl, Nat.le_refl _, hblk.out, hcur.out, hbel.out⟩
end Go.Proofs.Ytgpgacncmoiefaa
