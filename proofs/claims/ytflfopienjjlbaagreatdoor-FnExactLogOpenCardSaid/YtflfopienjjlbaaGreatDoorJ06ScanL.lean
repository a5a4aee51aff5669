import Derived.Test.YtflfopienjjlbaaGreatDoorJ05CrcL
import Derived.Test.YtflfopienjjlbaaGreatDoorProg
import Derived.Test.YtflfopienjjlbaaGreatDoorJ03Nm
import Derived.Laws.Tables
import Derived.Laws.CopyRow
import Derived.Test.YtflfopienjjlbaaGreatDoorJ01SegOfL
import Derived.Deep.AppendLies
import Derived.Test.YtflfopienjjlbaaGreatDoorJ04Clone
import Derived.Laws.BytesArg
namespace Go.Proofs.YtflfopienjjlbaaGreatDoor
open Go.RowKit

/-- One shift of the table's. -/
def crcSh (x : Nat) : Nat := if x % 2 = 1 then (x / 2) ^^^ 2197175160 else x / 2
def crcShs (x : Nat) : Nat → Nat
  | 0 => x
  | k + 1 => crcSh (crcShs x k)
/-- What eight shifts make of a byte. -/
def crcT (i : Nat) : Nat := crcShs i 8

theorem crcSh_lt {x : Nat} (h : x < 4294967296) : crcSh x < 4294967296 := by
  unfold crcSh
  split
  · exact Nat.xor_lt_two_pow (n := 32) (by omega) (by omega)
  · omega
theorem crcShs_lt {x : Nat} (h : x < 4294967296) : ∀ k, crcShs x k < 4294967296
  | 0 => h
  | k + 1 => crcSh_lt (crcShs_lt h k)
theorem crcT_lt {i : Nat} (h : i < 256) : crcT i < 4294967296 := crcShs_lt (by omega) 8

theorem xor_odd (a b : Nat) : (a ^^^ b) % 2 = (a + b) % 2 := by
  have := Nat.xor_mod_two_eq_one (a := a) (b := b)
  omega
theorem crcSh_bit (r x : Nat) : crcSh (r ^^^ x) = crcBit r x ^^^ (x / 2) := by
  unfold crcSh crcBit
  rw [xor_odd, Nat.xor_div_two]
  split
  · rw [Nat.xor_assoc, Nat.xor_comm (x / 2), ← Nat.xor_assoc]
  · rfl
theorem crcShs_bits (r b : Nat) : ∀ k, crcShs (r ^^^ b) k = crcBits r b k ^^^ (b / 2 ^ k)
  | 0 => by simp [crcShs, crcBits]
  | k + 1 => by
    show crcSh (crcShs (r ^^^ b) k) = crcBit (crcBits r b k) (b / 2 ^ k) ^^^ (b / 2 ^ (k + 1))
    rw [crcShs_bits r b k, crcSh_bit, Nat.div_div_eq_div_mul, Nat.pow_succ]
theorem crcSh_even (x z : Nat) : crcSh (x ^^^ (2 * z)) = crcSh x ^^^ z := by
  unfold crcSh
  rw [xor_odd, Nat.xor_div_two, show (x + 2 * z) % 2 = x % 2 by omega, show 2 * z / 2 = z by omega]
  split
  · rw [Nat.xor_assoc, Nat.xor_comm z, ← Nat.xor_assoc]
  · rfl
theorem crcShs_even (x z : Nat) : ∀ k, crcShs (x ^^^ (2 ^ k * z)) k = crcShs x k ^^^ z
  | 0 => by simp [crcShs]
  | k + 1 => by
    show crcSh (crcShs (x ^^^ (2 ^ (k + 1) * z)) k) = crcSh (crcShs x k) ^^^ z
    rw [Nat.pow_succ, Nat.mul_assoc, crcShs_even x (2 * z) k, crcSh_even]
theorem crc_parts (r : Nat) : r = (r % 256) ^^^ (256 * (r / 256)) := by
  have h : 256 * (r / 256) + r % 256 = (2 ^ 8 * (r / 256)) ||| (r % 256) := Nat.two_pow_add_eq_or_of_lt (i := 8) (b := r % 256) (by omega) (r / 256)
  have h2 : (r % 256) ^^^ (256 * (r / 256)) = (2 ^ 8 * (r / 256)) ||| (r % 256) := by
    apply Nat.eq_of_testBit_eq
    intro i
    rw [Nat.testBit_xor, Nat.testBit_or, show 256 * (r / 256) = 2 ^ 8 * (r / 256) from rfl, Nat.testBit_two_pow_mul, show r % 256 = r % 2 ^ 8 from rfl, Nat.testBit_mod_two_pow]
    by_cases hi : i < 8
    · simp [hi, Nat.not_le.2 hi]
    · simp [hi, Nat.not_lt.1 hi]
  omega
theorem crc_table (r b : Nat) (hb : b < 256) : crcBits r b 8 = (r / 256) ^^^ crcT ((r % 256) ^^^ b) := by
  have h1 := crcShs_bits r b 8
  rw [show b / 2 ^ 8 = 0 by omega, Nat.xor_zero] at h1
  rw [← h1]
  have h2 := crcShs_even ((r % 256) ^^^ b) (r / 256) 8
  rw [show ((r % 256) ^^^ b) ^^^ (2 ^ 8 * (r / 256)) = r ^^^ b by
    rw [Nat.xor_assoc, Nat.xor_comm b, ← Nat.xor_assoc, show (2 ^ 8 * (r / 256)) = 256 * (r / 256) from rfl, ← crc_parts r]] at h2
  rw [h2, Nat.xor_comm]; rfl
end Go.Proofs.YtflfopienjjlbaaGreatDoor

namespace Go.Proofs.YtflfopienjjlbaaGreatDoor
open Go.RowKit

theorem zero_tab : ∃ Z : Array Value, Z = Array.replicate 256 (.int .u32 0) ∧ ∀ w, (zeroValue 133).run Tryz.prog w = .ok (.agg Z) w := ⟨_, rfl, fun _ => by kernel_rfl⟩
theorem store_same (P : Program) (w : World) (Z : Array Value) (t : TypeId) (h1 : ∀ v ∈ Z.toList, v.oneCell' = true) :
    (storeCells ⟨w.heap.size, 0, none⟩ Z.toList).run P (w.alloc (.cells Z t)) = .ok () (w.alloc (.cells Z t)) := by
  have hg : (w.alloc (.cells Z t)).heap[w.heap.size]? = some (.cells Z t (0, 0)) := heap_alloc_new _ _
  have h := run_storeCells_from (P := P) w.heap.size t Z.toList 0 Z _ hg (by simp) h1
  rw [h]
  simp only [List.take_zero, List.nil_append, Array.toArray_toList]
  rw [setRow_self _ _ Z t (0, 0) hg]
theorem and_one_u32 (a : Nat) (ha : a < 4294967296) : bits .and .u32 (a : Int) 1 = ((a % 2 : Nat) : Int) := by
  show IntKind.u32.wrap ((BitVec.ofInt 32 (a : Int) &&& BitVec.ofInt 32 ((1 : Nat) : Int)).toNat : Int) = _
  rw [BitVec.toNat_and, BitVec.ofInt_natCast, BitVec.ofInt_natCast, BitVec.toNat_ofNat, BitVec.toNat_ofNat, Nat.mod_eq_of_lt (by omega), Nat.mod_eq_of_lt (by omega), Nat.and_one_is_mod]
  simp only [IntKind.wrap, IntKind.bits, IntKind.signed]
  simp
  omega
theorem xor_u32 (a b : Nat) (ha : a < 4294967296) (hb : b < 4294967296) : bits .xor .u32 (a : Int) (b : Int) = ((a ^^^ b : Nat) : Int) := by
  have hx : a ^^^ b < 2 ^ 32 := Nat.xor_lt_two_pow (by omega) (by omega)
  show IntKind.u32.wrap ((BitVec.ofInt 32 (a : Int) ^^^ BitVec.ofInt 32 (b : Int)).toNat : Int) = _
  rw [BitVec.toNat_xor, BitVec.ofInt_natCast, BitVec.ofInt_natCast, BitVec.toNat_ofNat, BitVec.toNat_ofNat, Nat.mod_eq_of_lt (by omega), Nat.mod_eq_of_lt (by omega)]
  simp only [IntKind.wrap, IntKind.bits, IntKind.signed]
  simp
  omega

set_option maxRecDepth 100000 in
set_option maxHeartbeats 1000000 in
theorem makeTab_any (w : World) :
    Calls Tryz.prog 70 #[] w fun e w' => ∃ b cur, e = .returned (.pointer (some ⟨b, 0, none⟩)) ∧ w.heap.size ≤ b ∧ Blk w' b cur 133 ∧ (∀ i, i < 256 → cur[i]? = some (.int .u32 (crcT i : Nat))) ∧ Below w.heap.size w w' := by
  obtain ⟨Z, hZ, hz⟩ := zero_tab
  have HZ : Hid (Z = Array.replicate 256 (.int .u32 0)) := hZ
  have hzs : Z.size = 256 := by rw [hZ]; simp
  have hst := store_same Tryz.prog w Z 133 (by rw [hZ]; simp [Value.oneCell'])
  have hB : Blk (w.alloc (.cells Z 133)) w.heap.size Z 133 := heap_alloc_new _ _
  have HB : Hid (Blk (w.alloc (.cells Z 133)) w.heap.size Z 133) := hB
  clear hZ hB
  go_enter Tryz.func70, Tryz.ntmps70
  go_wp2
  go_loopw [2, 3, 5] (fun _ _ c wr => ∃ (k : Nat) (cur : Array Value), k ≤ 256 ∧ c = .int .i64 k ∧ Hid (Blk wr w.heap.size cur 133) ∧ cur.size = 256 ∧ Hid (∀ i, i < k → cur[i]? = some (.int .u32 (crcT i : Nat))) ∧ Hid (Below w.heap.size w wr)) (fun _ _ c _ => 256 - (intOf c).toNat)
  case atStart => exact ⟨0, Z, by omega, rfl, HB, hzs, fun i hi => absurd hi (by omega), bnew _ _⟩
  case round =>
    obtain ⟨k, cur, hk, rfl, hblk, hcs, hcur, hbel⟩ := hrel
    by_cases hlt : k < 256
    · go_wp2
      go_loop [3, 10] (fun x c => ∃ (j X : Nat), j ≤ 8 ∧ c = .int .i64 j ∧ x = .int .u32 X ∧ X < 4294967296 ∧ Hid (X = crcShs k j)) (fun _ c => 8 - (intOf c).toNat)
      case atStart => exact ⟨0, k, by omega, rfl, by go_num, by omega, rfl⟩
      case round =>
        obtain ⟨j, X, hj, rfl, rfl, hX, hx⟩ := hrel
        have ha := and_one_u32 X hX
        have hxr := xor_u32 (X / 2) 2197175160 (by omega) (by omega)
        by_cases h8 : j < 8
        · by_cases hodd : X % 2 = 1
          · rw [hodd] at ha
            go_wp2
            refine ⟨⟨j + 1, (X / 2) ^^^ 2197175160, by omega, by go_num, ?_, Nat.xor_lt_two_pow (n := 32) (by omega) (by omega), ?_⟩, by simp [intOf]; omega⟩
            · rw [← hxr]; congr 2
            · show _ = _
              rw [crcShs, ← hx.out, crcSh, if_pos hodd]
          · have h0 : X % 2 = 0 := by omega
            rw [h0] at ha
            go_wp2
            refine ⟨⟨j + 1, X / 2, by omega, by go_num, ?_, by omega, ?_⟩, by simp [intOf]; omega⟩
            · go_num
            · show _ = _
              rw [crcShs, ← hx.out, crcSh, if_neg hodd]
        · have e : j = 8 := by omega
          subst e
          have hc : wr.cell? ⟨w.heap.size, k, none⟩ = some (cur[k]'(by omega)) := by rw [hblk.out.cell]; exact Array.getElem?_eq_getElem _
          have hf := hblk.out.free k
          go_wp2
          refine ⟨⟨k + 1, cur.setIfInBounds k (.int .u32 X), by omega, by go_num, hblk.out.set k _, by simp [hcs], ?_, ?_⟩, by simp [intOf]; omega⟩
          · intro i hi
            rw [Array.getElem?_setIfInBounds]
            split
            · rename_i e
              subst e
              rw [if_pos (by omega), hx.out]
              rfl
            · exact hcur.out i (by omega)
          · exact hbel.out.setCell (p := ⟨w.heap.size, k, none⟩) (Nat.le_refl _) _
    · have e : k = 256 := by omega
      subst e
      go_wp2
      go_ret
      exact ⟨w.heap.size, cur, rfl, Nat.le_refl _, hblk.out, hcur.out, hbel.out⟩
end Go.Proofs.YtflfopienjjlbaaGreatDoor

namespace Go.Proofs.YtflfopienjjlbaaGreatDoor
open Go.RowKit

set_option maxRecDepth 100000 in
set_option maxHeartbeats 1000000 in
theorem specCrc_any (s : ByteArray) (w : World) (hs : s.size ≤ maxLen) :
    Calls Tryz.prog 105 #[.string s] w fun e w' => e = .returned (.int .i64 (crcV s : Nat)) ∧ w' = w := by
  unfold maxLen at hs
  go_enter Tryz.func105, Tryz.ntmps105
  go_wp2
  go_loop [3, 4, 5, 6, 7, 8] (fun r i _ _ _ _ => ∃ (j R : Nat), j ≤ s.size ∧ i = .int .i64 j ∧ r = .int .i64 R ∧ Hid (R = crcL (s.data.toList.take j))) (fun _ i _ _ _ _ => s.size - (intOf i).toNat)
  case atStart => exact ⟨0, 4294967295, Nat.zero_le _, rfl, rfl, rfl⟩
  case round =>
    obtain ⟨j, R, hj, rfl, rfl, hR⟩ := hrel
    have hRlt : R < 4294967296 := by rw [hR.out]; exact crcL_lt _
    by_cases hlt : j < s.size
    · have hU : s[j].toNat < 256 := s[j].toNat_lt
      go_wp2
      go_loop [3, 5, 6, 7, 8] (fun r k _ _ _ => ∃ (m S : Nat), m ≤ 8 ∧ k = .int .i64 m ∧ r = .int .i64 S ∧ Hid (S = crcBits R s[j].toNat m)) (fun _ k _ _ _ => 8 - (intOf k).toNat)
      case atStart => exact ⟨0, R, by omega, rfl, rfl, rfl⟩
      case round =>
        obtain ⟨m, S, hm, rfl, rfl, hS⟩ := hrel
        have hSlt : S < 4294967296 := by rw [hS.out]; exact crcBits_lt hRlt _
        by_cases hm8 : m < 8
        · go_wp2
          go_loop [6, 7] (fun x q => ∃ (t X : Nat), t ≤ m ∧ q = .int .i64 t ∧ x = .int .i64 X ∧ Hid (X = s[j].toNat / 2 ^ t)) (fun _ q => m - (intOf q).toNat)
          case atStart => exact ⟨0, s[j].toNat, by omega, rfl, rfl, by show _ = _; simp⟩
          case round =>
            obtain ⟨t, X, ht, rfl, rfl, hX⟩ := hrel
            have hXlt : X < 256 := by
              have : X ≤ s[j].toNat := by rw [hX.out]; exact Nat.div_le_self _ _
              omega
            by_cases htm : t < m
            · go_wp2
              exact ⟨⟨t + 1, X / 2, by omega, by go_num, by go_num, by show _ = _; rw [hX.out, Nat.div_div_eq_div_mul, Nat.pow_succ]⟩, by simp [intOf]; omega⟩
            · have e : t = m := by omega
              subst e
              by_cases hodd : (S + X) % 2 = 1
              · go_wp2
                have e2 : bits BinOp.xor IntKind.i64 ((S : Int) / 2) 2197175160 = (((S / 2) ^^^ 2197175160 : Nat) : Int) := xor_i64 (S / 2) 2197175160 (by omega) (by omega)
                rw [e2]
                exact ⟨⟨t + 1, _, by omega, by go_num, rfl, by show _ = _; rw [crcBits, crcBit, ← hS.out, ← hX.out, if_pos hodd]⟩, by simp [intOf]; omega⟩
              · go_wp2
                exact ⟨⟨t + 1, S / 2, by omega, by go_num, by go_num, by show _ = _; rw [crcBits, crcBit, ← hS.out, ← hX.out, if_neg hodd]⟩, by simp [intOf]; omega⟩
        · go_wp2
          have e : m = 8 := by omega
          subst e
          exact ⟨⟨j + 1, S, by omega, by go_num, rfl, by show _ = _; rw [take_snoc s j hlt, crcL_snoc, ← hR.out, crcByte, hS.out]⟩, by simp [intOf]; omega⟩
    · go_wp2
      go_ret
      refine ⟨ret_int ?_, rfl⟩
      rw [crcV, ← List.take_of_length_le (l := s.data.toList) (i := j) (by simp; omega), ← hR.out]
      omega
end Go.Proofs.YtflfopienjjlbaaGreatDoor

namespace Go.Proofs.YtflfopienjjlbaaGreatDoor
open Go.RowKit

theorem xor_u8 (a b : Nat) (ha : a < 256) (hb : b < 256) : bits .xor .u8 (a : Int) (b : Int) = ((a ^^^ b : Nat) : Int) := by
  have hx : a ^^^ b < 2 ^ 8 := Nat.xor_lt_two_pow (by omega) (by omega)
  show IntKind.u8.wrap ((BitVec.ofInt 8 (a : Int) ^^^ BitVec.ofInt 8 (b : Int)).toNat : Int) = _
  rw [BitVec.toNat_xor, BitVec.ofInt_natCast, BitVec.ofInt_natCast, BitVec.toNat_ofNat, BitVec.toNat_ofNat, Nat.mod_eq_of_lt (by omega), Nat.mod_eq_of_lt (by omega)]
  simp only [IntKind.wrap, IntKind.bits, IntKind.signed]
  simp
  omega

theorem not_u32 (a : Nat) (ha : a < 4294967296) : bits .xor .u32 IntKind.u32.max (a : Int) = ((4294967295 - a : Nat) : Int) := by
  have h1 : bits .xor .u32 IntKind.u32.max (a : Int) = ((4294967295 ^^^ a : Nat) : Int) := xor_u32 4294967295 a (by omega) ha
  have h2 : (4294967295 ^^^ a : Nat) = 4294967295 - a := by
    have e : (BitVec.allOnes 32 ^^^ BitVec.ofNat 32 a).toNat = (~~~ BitVec.ofNat 32 a).toNat := by rw [BitVec.allOnes_xor]
    rw [BitVec.toNat_xor, BitVec.toNat_allOnes, BitVec.toNat_not, BitVec.toNat_ofNat, Nat.mod_eq_of_lt (by omega)] at e
    exact e
  rw [h1, h2]

set_option maxRecDepth 100000 in
set_option maxHeartbeats 1000000 in
theorem tabSum_any (b : Nat) (cur : Array Value) (s : ByteArray) (w : World) (hs : s.size ≤ maxLen) (hB : Blk w b cur 133) (hcur : ∀ i, i < 256 → cur[i]? = some (.int .u32 (crcT i : Nat))) :
    Calls Tryz.prog 71 #[.pointer (some ⟨b, 0, none⟩), .string s] w fun e w' => e = .returned (.int .i64 (crcV s : Nat)) ∧ Below w.heap.size w w' := by
  have HB : Hid (Blk w b cur 133 ∧ ∀ i, i < 256 → cur[i]? = some (.int .u32 (crcT i : Nat))) := ⟨hB, hcur⟩
  clear hB hcur
  unfold maxLen at hs
  go_enter Tryz.func71, Tryz.ntmps71
  go_wp2
  go_loopw [5, 6, 9] (fun x _ c wr => ∃ (k X : Nat), k ≤ s.size ∧ c = .int .i64 k ∧ x = .int .u32 X ∧ X < 4294967296 ∧ Hid (X = crcL (s.data.toList.take k)) ∧ Hid (Below w.heap.size w wr)) (fun _ _ c _ => s.size - (intOf c).toNat)
  case atStart => exact ⟨0, 4294967295, by omega, rfl, rfl, by omega, by show _ = _; simp [crcL], Below.refl _ _⟩
  case round =>
    obtain ⟨k, X, hk, rfl, rfl, hX, hx, hbel⟩ := hrel
    by_cases hlt : k < s.size
    · have hc := (s[k]).toNat_lt
      obtain ⟨N, T, Y, hN, hT, hY, hxr, hxt, hcell, hcr⟩ : ∃ N T Y : Nat, N < 256 ∧ T < 4294967296 ∧ Y < 4294967296 ∧ bits .xor .u8 ((X : Int) % 256) ((s[k]).toNat : Int) = (N : Int) ∧ bits .xor .u32 ((X : Int) / 256) (T : Int) = (Y : Int) ∧ wr.cell? ⟨b, N, none⟩ = some (.int .u32 (T : Nat)) ∧ Hid (crcByte X s[k] = Y) := by
        have hxr := xor_u8 (X % 256) (s[k]).toNat (by omega) (by omega)
        have hi : (X % 256) ^^^ (s[k]).toNat < 256 := Nat.xor_lt_two_pow (n := 8) (by omega) (by omega)
        have hb' := HB.out.1.later hbel.out
        have hT := crcT_lt hi
        refine ⟨_, _, _, hi, hT, Nat.xor_lt_two_pow (n := 32) (by omega) hT, hxr, xor_u32 (X / 256) _ (by omega) hT, by rw [hb'.cell]; exact HB.out.2 _ hi, crc_table X _ (by omega)⟩
      go_wp2
      go_region
      go_wp2
      refine ⟨⟨k + 1, Y, by omega, by go_num, rfl, hY, ?_, hbel.out.drew⟩, by simp [intOf]; omega⟩
      show _ = _
      rw [take_snoc s k hlt, crcL_snoc, ← hx.out, hcr.out]
    · have e : k = s.size := by omega
      subst e
      have hn := not_u32 X hX
      go_wp2
      refine bodyPost_ret (v := .int .i64 (crcV s : Nat)) ?_ rfl ⟨rfl, hbel.out⟩
      have e2 : wrap64 ((4294967295 - X : Nat) : Int) = ((4294967295 - X : Nat) : Int) := by simp only [wrap64]; omega
      rw [e2, show crcV s = 4294967295 - X by rw [crcV, hx.out, List.take_of_length_le (by simp)]]
      simp [results, Tryz.results71, go_sem]
end Go.Proofs.YtflfopienjjlbaaGreatDoor

namespace Go.Proofs.YtflfopienjjlbaaGreatDoor
open Go.RowKit

/-- v without its lowest k bytes. -/
def shrN (v : Int) : Nat → Int
  | 0 => v
  | k + 1 => shrN v k / 256
/-- The lowest n bytes of v, the highest first. -/
def numI (v : Int) : Nat → List Int
  | 0 => []
  | n + 1 => shrN v n % 256 :: numI v n
def numS (n : Nat) (v : Int) : ByteArray := strOfNums (numI v n)
theorem numI_length (v : Int) : ∀ n, (numI v n).length = n
  | 0 => rfl
  | n + 1 => by simp [numI, numI_length v n]
theorem numS_size (n : Nat) (v : Int) : (numS n v).size = n := by
  rw [numS, strOfNums_size, numI_length]

theorem info_u8 : ∃ i, Tryz.prog.info? 5 = some i ∧ i.zero = some (.int .u8 0) ∧ i.size = 1 ∧ i.bytes = 1 := by
  have h : (Tryz.prog.info? 5).map (fun i => (i.zero, i.size, i.bytes)) = some (some (.int .u8 0), 1, 1) := by kernel_rfl
  obtain ⟨i, hi, hz⟩ := Option.map_eq_some_iff.1 h
  simp only [Prod.mk.injEq] at hz
  exact ⟨i, hi, hz.1, hz.2.1, hz.2.2⟩

theorem shrN_rng (v : Int) (h0 : -9223372036854775808 ≤ v) (h1 : v ≤ 9223372036854775807) : ∀ k, -9223372036854775808 ≤ shrN v k ∧ shrN v k ≤ 9223372036854775807
  | 0 => ⟨h0, h1⟩
  | k + 1 => by have := shrN_rng v h0 h1 k; unfold shrN; omega

/-- A row of bytes of the call's own, as a string. -/
theorem conv_row {w : World} {B : Nat} {av : Option Addr} {cv : Nat} {ys : List Int} (h : w.ownsRow B 5 1 (.slice av ys.length cv) ys.length (ys.map (Value.int .u8))) :
    (convert 41 9 (.slice av ys.length cv)).run Tryz.prog w = .ok (.string (strOfNums ys)) w := by
  rcases h.2 with ⟨he, hl⟩ | ⟨g, cap, cur, he, _, hg, hle, _, hsz, htk⟩
  · simp only [Value.slice.injEq] at he
    obtain ⟨rfl, h1, rfl⟩ := he
    have e : ys = [] := List.length_eq_zero_iff.1 h1
    subst e
    exact run_convert_bytes_nil w 41 5 Tryz.underlying41 Tryz.underlying5 _ _ 9 Tryz.underlying9
  · simp only [Value.slice.injEq] at he
    obtain ⟨rfl, _, rfl⟩ := he
    refine run_convert_bytes_arg w 41 5 Tryz.underlying41 Tryz.underlying5 g 0 _ _ ys rfl (fun i hi => ?_) 9 Tryz.underlying9
    rw [Nat.zero_add, cell_of_row w g i cur _ _ hg]
    have h2 : (cur.toList.take (ys.length * 1))[i]? = (ys.map (Value.int .u8))[i]? := by rw [htk]
    rw [List.getElem?_take_of_lt (by omega)] at h2
    rw [← Array.getElem?_toList, h2]
    simp [List.getD, List.getElem?_eq_getElem hi]

set_option maxRecDepth 100000 in
set_option maxHeartbeats 1000000 in
theorem specNum_any (n : Nat) (v : Int) (w : World) (hn : n ≤ 8) (h0 : -9223372036854775808 ≤ v) (h1 : v ≤ 9223372036854775807) :
    Calls Tryz.prog 104 #[.int .i64 n, .int .i64 v] w fun e w' => e = .returned (.string (numS n v)) ∧ Below w.heap.size w w' := by
  obtain ⟨ti, hti, hz0, hz1, hz2⟩ := info_u8
  have HI : Hid (Tryz.prog.info? 5 = some ti) := hti
  clear hti
  have HV : Hid (-9223372036854775808 ≤ v ∧ v ≤ 9223372036854775807) := ⟨h0, h1⟩
  clear h0 h1
  go_enter Tryz.func104, Tryz.ntmps104
  go_wp2
  go_loopw [5, 6, 7, 8] (fun out i _ _ wr => ∃ (m : Nat) (ys : List Int) (av : Option Addr) (cv : Nat), ys.length + m = n ∧ Hid (ys ++ numI v m = numI v n) ∧ i = .int .i64 ((m : Int) - 1) ∧ out = .slice av ys.length cv ∧ Hid (wr.ownsRow w.heap.size 5 1 (.slice av ys.length cv) ys.length (ys.map (Value.int .u8))) ∧ Below w.heap.size w wr) (fun _ i _ _ _ => ((intOf i) + 1).toNat)
  case atStart =>
    exact ⟨n, [], _, _, by simp, by show _ = _; simp, by simp, rfl, World.ownsRow_made w #[] 0 (Nat.le_refl _) (by simp [maxLen]) (by simp), bnew _ _⟩
  case round =>
    obtain ⟨m, ys, av, cv, hm, hnum, rfl, rfl, hrow, hbel⟩ := hrel
    by_cases hp : 0 < m
    · obtain ⟨r, rfl⟩ : ∃ r, m = r + 1 := ⟨m - 1, by omega⟩
      have er : ((r + 1 : Nat) : Int) - 1 = (r : Int) := by omega
      rw [er]
      clear er
      go_wp2
      go_loop [7, 8] (fun x k => ∃ (j : Nat) (X : Int), j ≤ r ∧ k = .int .i64 j ∧ x = .int .i64 X ∧ Hid (X = shrN v j)) (fun _ k => r - (intOf k).toNat)
      case atStart => exact ⟨0, v, Nat.zero_le _, rfl, rfl, rfl⟩
      case round =>
        obtain ⟨j, X, hj, rfl, rfl, hX⟩ := hrel
        by_cases hlt : j < r
        · go_wp2
          exact ⟨⟨j + 1, X / 256, by omega, by go_num, rfl, by show _ = _; rw [shrN, hX.out]⟩, by simp [intOf]; omega⟩
        · have e : j = r := by omega
          subst e
          have hsz := hbel.size
          go_wp2_with (at_builtin; refine wpList_append_lies _ rfl _ _ _ rfl w.heap.size 5 ti _ 1 1 Tryz.underlying41 HI.out hz0 hz1 hz2 rfl (by omega) (.slice av ys.length cv) ys.length (ys.map (Value.int .u8)) rfl (by exact row_later hrow.out (bnew _ _)) ⟨wr.heap.size, 0, none⟩ 1 1 [.int .u8 (X % 256)] rfl rfl (by exact World.news_of_block (heap_alloc_new _ _)) (by simp [Value.oneCell']) (by omega) (by simp [maxLen]; omega) (by omega) (by simp; omega) (wr.heap.size + 1) (by simp) ?_; intro g5 cap5 w5 hown5 hgrow5 hat5 hlt5)
          have hB5 : Below w.heap.size w w5 := (bto hbel (bnew _ _)).grown hgrow5 (by simp; omega) (fun q hq => by
            rcases hrow.out.2 with ⟨he, _⟩ | ⟨g, cap, cur, he, hB, _⟩
            · rw [he] at hq; simp [Value.ownBlock] at hq
            · rw [he] at hq; simp [Value.ownBlock] at hq; omega)
          have hxs : ys.map (Value.int .u8) ++ [Value.int .u8 (X % 256)] = (ys ++ [X % 256]).map (Value.int .u8) := by simp
          have hle : (ys ++ [X % 256]).length = ys.length + 1 := by simp
          rw [hxs, ← hle] at hown5
          refine ⟨⟨j, ys ++ [X % 256], some ⟨g5, 0, none⟩, cap5, by rw [hle]; omega, ?_, rfl, by rw [hle], hown5, hB5⟩, by simp [intOf]⟩
          show _ = _
          rw [← hnum.out, numI, hX.out]
          simp
    · have e : m = 0 := by omega
      subst e
      have hcv := conv_row hrow.out
      go_wp2
      go_ret
      refine ⟨congrArg (fun x => Ending.returned (.string x)) ?_, hbel⟩
      rw [numS, ← hnum.out, numI, List.append_nil]
end Go.Proofs.YtflfopienjjlbaaGreatDoor

namespace Go.Proofs.YtflfopienjjlbaaGreatDoor
open Go.RowKit

/-- The lowest n bytes of a natural number, the highest first. -/
def numN (v : Nat) : Nat → List Nat
  | 0 => []
  | n + 1 => v / 256 ^ n % 256 :: numN v n
theorem numN_length (v : Nat) : ∀ n, (numN v n).length = n
  | 0 => rfl
  | n + 1 => by simp [numN, numN_length v n]
theorem shrN_nat (v : Nat) : ∀ k, shrN (v : Int) k = ((v / 256 ^ k : Nat) : Int)
  | 0 => by simp [shrN]
  | k + 1 => by rw [shrN, shrN_nat v k, Nat.pow_succ, ← Nat.div_div_eq_div_mul]; omega
theorem numI_nat (v : Nat) : ∀ n, numI (v : Int) n = (numN v n).map (fun x : Nat => (x : Int))
  | 0 => rfl
  | n + 1 => by rw [numI, numN, List.map_cons, numI_nat v n, shrN_nat]; simp
theorem numN_add (a b n : Nat) : ∀ m, m ≤ n → numN (a * 256 ^ n + b) m = numN b m
  | 0, _ => rfl
  | m + 1, h => by
    rw [numN, numN, numN_add a b n m (by omega)]
    congr 1
    obtain ⟨d, rfl⟩ : ∃ d, n = m + 1 + d := ⟨n - (m + 1), by omega⟩
    have e : a * 256 ^ (m + 1 + d) + b = b + 256 ^ m * (a * 256 ^ d * 256) := by rw [Nat.pow_add, Nat.pow_succ, Nat.add_comm]; congr 1; ac_rfl
    rw [e, Nat.add_mul_div_left _ _ (Nat.pow_pos (by omega))]
    omega
theorem beL_cons (c : UInt8) (l : List UInt8) : beL (c :: l) = c.toNat * 256 ^ l.length + beL l := by
  have hg : ∀ (l : List UInt8) (v : Nat), l.foldl (fun v c => v * 256 + c.toNat) v = v * 256 ^ l.length + beL l := fun l => by
    induction l with
    | nil => intro v; simp [beL]
    | cons d l ih =>
      intro v
      have h1 := ih (v * 256 + d.toNat)
      have h2 := ih (0 * 256 + d.toNat)
      simp only [beL, List.foldl_cons, List.length_cons, Nat.pow_succ] at h1 h2 ⊢
      rw [h1, h2]
      simp only [Nat.add_mul, Nat.zero_mul, Nat.zero_add]
      rw [Nat.add_assoc]
      congr 1
      ac_rfl
  have := hg l (0 * 256 + c.toNat)
  simpa [beL] using this
/-- What was read off bytes is written as these bytes. -/
theorem numN_be : ∀ (l : List UInt8), numN (beL l) l.length = l.map (fun c => c.toNat)
  | [] => rfl
  | c :: l => by
    have hb := beL_lt l
    have hc := c.toNat_lt
    rw [List.length_cons, numN, beL_cons, numN_add _ _ _ _ (Nat.le_refl _), numN_be l, List.map_cons]
    congr 1
    rw [Nat.add_comm, Nat.mul_comm, Nat.add_mul_div_left _ _ (Nat.pow_pos (by omega)), Nat.div_eq_of_lt hb]
    omega
theorem numS_be (l : List UInt8) (n : Nat) (h : l.length = n) : numS n (beL l : Nat) = ⟨l.toArray⟩ := by
  subst h
  rw [numS, numI_nat, numN_be, strOfNums]
  congr 2
  rw [List.map_map, List.map_map]
  conv => rhs; rw [← List.map_id l]
  congr 1
  funext c
  simp
theorem be_numN (v : Nat) : ∀ n, beL ((numN v n).map UInt8.ofNat) = v % 256 ^ n
  | 0 => by simp [numN, beL, Nat.mod_one]
  | n + 1 => by
    rw [numN, List.map_cons, beL_cons, be_numN v n, List.length_map, numN_length, UInt8.toNat_ofNat_of_lt' (by show _ < 256; omega), Nat.pow_succ, Nat.mod_mul]
    rw [Nat.mul_comm, Nat.add_comm]
theorem numS_data (n v : Nat) : (numS n v).data.toList = (numN v n).map UInt8.ofNat := by
  rw [numS, numI_nat, strOfNums_data, List.map_map]
  congr 1
/-- What was written is read back. -/
theorem be_numS (n v : Nat) (h : v < 256 ^ n) : beL (numS n v).data.toList = v := by
  rw [numS_data, be_numN, Nat.mod_eq_of_lt h]
end Go.Proofs.YtflfopienjjlbaaGreatDoor

namespace Go.Proofs.YtflfopienjjlbaaGreatDoor
open Go.RowKit

theorem or_i64 (a b : Nat) (ha : a < 4611686018427387904) (hb : b < 4611686018427387904) : bits .or .i64 (a : Int) (b : Int) = ((a ||| b : Nat) : Int) := by
  have hx : a ||| b < 2 ^ 62 := Nat.or_lt_two_pow (by omega) (by omega)
  show IntKind.i64.wrap ((BitVec.ofInt 64 (a : Int) ||| BitVec.ofInt 64 (b : Int)).toNat : Int) = _
  rw [BitVec.toNat_or, BitVec.ofInt_natCast, BitVec.ofInt_natCast, BitVec.toNat_ofNat, BitVec.toNat_ofNat, Nat.mod_eq_of_lt (by omega), Nat.mod_eq_of_lt (by omega)]
  simp only [IntKind.wrap, IntKind.bits, IntKind.signed]
  simp
  omega
theorem or_low (a b : Nat) (hb : b < 256) (ha : a < 281474976710656) : bits .or .i64 ((a : Int) * 256) (b : Int) = ((a * 256 + b : Nat) : Int) := by
  have hx : a * 256 ||| b = a * 256 + b := by
    have := Nat.two_pow_add_eq_or_of_lt (i := 8) (b := b) (by omega) a
    rw [show 2 ^ 8 * a = a * 256 by omega] at this
    exact this.symm
  rw [← hx]
  exact or_i64 (a * 256) b (by omega) (by omega)

set_option maxRecDepth 100000 in
set_option maxHeartbeats 1000000 in
theorem implNum_any (s : ByteArray) (w : World) (hs : s.size ≤ 7) :
    Calls Tryz.prog 95 #[.string s] w fun e w' => e = .returned (.int .i64 (beL s.data.toList : Nat)) ∧ w' = w := by
  go_enter Tryz.func95, Tryz.ntmps95
  go_wp2
  go_loopw [3, 4, 7] (fun x _ c wr => ∃ (k X : Nat), k ≤ s.size ∧ c = .int .i64 k ∧ x = .int .i64 X ∧ X < 256 ^ k ∧ Hid (X = beL (s.data.toList.take k)) ∧ wr = w) (fun _ _ c _ => s.size - (intOf c).toNat)
  case atStart => exact ⟨0, 0, by omega, rfl, rfl, by simp, by show _ = _; simp [beL], rfl⟩
  case round =>
    obtain ⟨k, X, hk, rfl, rfl, hX, hx, rfl⟩ := hrel
    by_cases hlt : k < s.size
    · have hc := (s[k]).toNat_lt
      have hX6 : X < 281474976710656 := Nat.lt_of_lt_of_le hX (Nat.pow_le_pow_right (n := 256) (by omega) (show k ≤ 6 by omega))
      have ho := or_low X (s[k]).toNat (by omega) (by omega)
      go_wp2
      refine ⟨⟨k + 1, X * 256 + (s[k]).toNat, by omega, by go_num, ?_, ?_, ?_, trivial⟩, by simp [intOf]; omega⟩
      · go_num
      · rw [Nat.pow_succ]; omega
      · show _ = _
        rw [take_snoc s k hlt, beL_snoc, ← hx.out]
    · have e : k = s.size := by omega
      subst e
      go_wp2
      go_ret
      refine ⟨?_, rfl⟩
      show Ending.returned (.int .i64 (X : Nat)) = _
      rw [hx.out, List.take_of_length_le (by simp)]
end Go.Proofs.YtflfopienjjlbaaGreatDoor

namespace Go.Proofs.YtflfopienjjlbaaGreatDoor
open Go.RowKit

theorem fits_any (x : Int) (w : World) : Calls Tryz.prog 42 #[.int .i64 x] w fun e w' => e = .returned (.bool (btwB x 1 60000)) ∧ w' = w := by
  by_cases h1 : 1 ≤ x
  · by_cases h2 : x ≤ 60000
    · have e : btwB x 1 60000 = true := by simp [btwB, h1, h2]
      rw [e]
      go_enter Tryz.func42, Tryz.ntmps42
      go_wp2
      go_ret
      exact ⟨rfl, rfl⟩
    · have e : btwB x 1 60000 = false := by simp [btwB, h2]
      rw [e]
      go_enter Tryz.func42, Tryz.ntmps42
      go_wp2
      go_ret
      exact ⟨rfl, rfl⟩
  · have e : btwB x 1 60000 = false := by simp [btwB, h1]
    rw [e]
    go_enter Tryz.func42, Tryz.ntmps42
    go_wp2
    go_ret
    exact ⟨rfl, rfl⟩

end Go.Proofs.YtflfopienjjlbaaGreatDoor

namespace Go.Proofs.YtflfopienjjlbaaGreatDoor
open Go.RowKit

theorem bytes_ext {a b : ByteArray} (h : a.data.toList = b.data.toList) : a = b := by
  obtain ⟨⟨l⟩⟩ := a
  obtain ⟨⟨m⟩⟩ := b
  simp only at h
  rw [h]
theorem bytes_append (a b : ByteArray) : (a ++ b).data.toList = a.data.toList ++ b.data.toList := by simp
theorem bytes_part (d : ByteArray) (p n : Nat) : (d.extract p (p + n)).data.toList = sectL d p n := by
  simp [sectL, ByteArray.data_extract, Array.toList_extract]
theorem bytes_size (d : ByteArray) : d.data.toList.length = d.size := by simp

def frameS (p : ByteArray) : ByteArray := if 1 ≤ p.size ∧ p.size ≤ 60000 then numS 4 p.size ++ numS 4 (crcV p : Nat) ++ p else ByteArray.empty
/-- The length that the head of d tells. -/
def headN (d : ByteArray) : Nat := beL (sectL d 0 4)
def firstS (d : ByteArray) : ByteArray :=
  if d.size < 8 then ByteArray.empty
  else if d.size - 8 < headN d then ByteArray.empty
  else if frameS (d.extract 8 (8 + headN d)) = ByteArray.empty ∨ frameS (d.extract 8 (8 + headN d)) ≠ d.extract 0 (8 + headN d) then ByteArray.empty
  else d.extract 8 (8 + headN d)
/-- A frame begins d. -/
def FrameAt (d : ByteArray) : Prop := 8 ≤ d.size ∧ 1 ≤ headN d ∧ headN d ≤ 60000 ∧ headN d ≤ d.size - 8 ∧ beL (sectL d 4 4) = crcV (d.extract 8 (8 + headN d))
def frD (d : ByteArray) : Decidable (FrameAt d) := by unfold FrameAt; infer_instance
def frB (d : ByteArray) : Bool := @decide (FrameAt d) (frD d)
theorem frB_t {d : ByteArray} (h : FrameAt d) : frB d = true := @decide_eq_true _ (frD d) h
theorem frB_f {d : ByteArray} (h : ¬ FrameAt d) : frB d = false := @decide_eq_false _ (frD d) h

theorem part_size {d : ByteArray} {p n : Nat} (h : p + n ≤ d.size) : (d.extract p (p + n)).size = n := by rw [ByteArray.size_extract]; omega

theorem frameS_size {p : ByteArray} (h : 1 ≤ p.size ∧ p.size ≤ 60000) : (frameS p).size = 8 + p.size := by
  rw [frameS, if_pos h, ByteArray.size_append, ByteArray.size_append, numS_size, numS_size]

theorem frame_is {d : ByteArray} (h8 : 8 ≤ d.size) (h1 : 1 ≤ headN d) (h2 : headN d ≤ 60000) (h3 : headN d ≤ d.size - 8) :
    frameS (d.extract 8 (8 + headN d)) = d.extract 0 (8 + headN d) ↔ beL (sectL d 4 4) = crcV (d.extract 8 (8 + headN d)) := by
  have hz : (d.extract 8 (8 + headN d)).size = headN d := part_size (by omega)
  have hw : (d.extract 0 (8 + headN d)).data.toList = sectL d 0 4 ++ sectL d 4 4 ++ (d.extract 8 (8 + headN d)).data.toList := by
    have e0 := bytes_part d 0 (8 + headN d)
    rw [Nat.zero_add] at e0
    rw [e0, bytes_part]
    simp only [sectL, List.drop_zero]
    have hl := bytes_size d
    rw [show 8 + headN d = 4 + (4 + headN d) by omega, List.take_add, List.take_add, List.drop_drop]
    simp
  have hn : numS 4 (headN d : Nat) = ⟨(sectL d 0 4).toArray⟩ := numS_be _ 4 (sectL_length (by omega))
  rw [frameS, if_pos (by rw [hz]; exact ⟨h1, h2⟩), hz, hn]
  constructor
  · intro h
    have h' := congrArg (fun x : ByteArray => x.data.toList) h
    simp only [bytes_append] at h'
    rw [hw, List.append_left_inj, List.append_right_inj] at h'
    rw [← h', be_numS 4 _ (by have := crcV_lt (d.extract 8 (8 + headN d)); omega)]
  · intro h
    apply bytes_ext
    rw [bytes_append, bytes_append, hw, ← h, numS_be _ 4 (sectL_length (by omega))]

theorem firstS_eq (d : ByteArray) : firstS d = haveI := frD d; if FrameAt d then d.extract 8 (8 + headN d) else ByteArray.empty := by
  unfold firstS
  by_cases h8 : d.size < 8
  · rw [if_pos h8, if_neg (fun h => by have := h.1; omega)]
  · rw [if_neg h8]
    by_cases h3 : d.size - 8 < headN d
    · rw [if_pos h3, if_neg (fun h => by have := h.2.2.2.1; omega)]
    · rw [if_neg h3]
      have hz : (d.extract 8 (8 + headN d)).size = headN d := part_size (by omega)
      by_cases h1 : 1 ≤ headN d ∧ headN d ≤ 60000
      · have hne : frameS (d.extract 8 (8 + headN d)) ≠ ByteArray.empty := by
          intro e
          have := frameS_size (p := d.extract 8 (8 + headN d)) (by rw [hz]; exact h1)
          rw [e, ByteArray.size_empty] at this
          omega
        by_cases hc : beL (sectL d 4 4) = crcV (d.extract 8 (8 + headN d))
        · have hf := (frame_is (by omega) h1.1 h1.2 (by omega)).2 hc
          rw [if_neg (by intro h; rcases h with h | h; exact hne h; exact h hf), if_pos ⟨by omega, h1.1, h1.2, by omega, hc⟩]
        · have hf : ¬ frameS (d.extract 8 (8 + headN d)) = d.extract 0 (8 + headN d) := fun h => hc ((frame_is (by omega) h1.1 h1.2 (by omega)).1 h)
          rw [if_pos (Or.inr hf), if_neg (fun h => hc h.2.2.2.2)]
      · have he : frameS (d.extract 8 (8 + headN d)) = ByteArray.empty := by rw [frameS, if_neg (by rw [hz]; exact h1)]
        rw [if_pos (Or.inl he), if_neg (fun h => h1 ⟨h.2.1, h.2.2.1⟩)]

/-- The payloads from place p on, and where they end. -/
def scanR (d : ByteArray) : Nat → Nat → List ByteArray × Nat
  | 0, p => ([], p)
  | n + 1, p => haveI := frD (d.extract p d.size); if FrameAt (d.extract p d.size) then
      let q := (d.extract p d.size).extract 8 (8 + headN (d.extract p d.size))
      (q :: (scanR d n (p + 8 + q.size)).1, (scanR d n (p + 8 + q.size)).2) else ([], p)
def scanV (d : ByteArray) : List ByteArray × Nat := scanR d (d.size + 1) 0
end Go.Proofs.YtflfopienjjlbaaGreatDoor

