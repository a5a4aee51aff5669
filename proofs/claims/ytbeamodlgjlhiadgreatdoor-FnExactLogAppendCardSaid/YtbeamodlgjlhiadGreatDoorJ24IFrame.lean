import Derived.Test.YtbeamodlgjlhiadGreatDoorJ23Shelf
import Derived.Test.YtbeamodlgjlhiadGreatDoorJ12SegL
import Derived.Test.YtbeamodlgjlhiadGreatDoorJ01Sz
import Derived.Lib.LaidTab
import Derived.Lib.AppendIntMem
import Derived.Test.YtbeamodlgjlhiadGreatDoorProg
import Derived.Laws.Tables
import Derived.Laws.CopyRow
import Derived.Test.YtbeamodlgjlhiadGreatDoorJ02Nm
import Derived.Test.YtbeamodlgjlhiadGreatDoorJ20SFrame
import Derived.Laws.MakeOwn
import Derived.Test.YtbeamodlgjlhiadGreatDoorJ22ValidL
namespace Go.Proofs.YtbeamodlgjlhiadGreatDoor
open Go.RowKit

def PowTab (w : World) : Prop := Lib.TabIs Tryz.prog w "internal/strconv.uint64pow10" .u64 Lib.pow10Tab
theorem PowTab.later {w w' : World} (h : PowTab w) (hb : Below w.heap.size w w') : PowTab w' := by
  unfold PowTab Lib.TabIs World.var? at h ⊢
  cases hg : Tryz.prog.globalNamed "internal/strconv.uint64pow10" with
  | none => rw [hg] at h; cases h
  | some g =>
    rw [hg] at h
    simp only [Option.bind_some] at h ⊢
    have hlt : g < w.heap.size := by
      rcases Nat.lt_or_ge g w.heap.size with h' | h'
      · exact h'
      · rw [Array.getElem?_eq_none h'] at h; cases h
    rw [hb.block g hlt]
    exact h

theorem segN_of (n : Nat) (h : n < 1000000) : (⟨#[119, 97, 108, 45]⟩ : ByteArray) ++ (⟨(Lib.itoa ((1000000 + n : Nat) : Int)).toArray⟩ : ByteArray).extract 1 7 = segN n := by
  rw [itoa_seg n h]
  apply ByteArray.ext
  simp [segN, segD]

set_option maxRecDepth 100000 in
set_option maxHeartbeats 1000000 in
theorem implSeg_any (n : Int) (w : World) (htab : PowTab w) :
    Calls Tryz.prog 47 #[.int .i64 n] w fun e w' => e = .returned (.string (segS n)) ∧ Below w.heap.size w w' := by
  by_cases h : 1 ≤ n ∧ n ≤ 999999
  · obtain ⟨N, rfl⟩ := Int.eq_ofNat_of_zero_le (show 0 ≤ n by omega)
    have E : Hid (segS N = segN N) := if_pos h
    have hN0 : 1 ≤ N := by omega
    have hN1 : N ≤ 999999 := by omega
    have HI : Hid (Calls Tryz.prog 67 #[.int .i64 (1000000 + (N : Int))] w fun e w' => e = .returned (.string ⟨(Lib.itoa ((1000000 + N : Nat) : Int)).toArray⟩) ∧ Below w.heap.size w w') :=
      (Tryz.strconv_Itoa ((1000000 + N : Nat) : Int) (by omega) (by omega) w htab).mono (by
        rintro e w' ⟨rfl, k, os, rfl⟩
        exact ⟨rfl, Lib.below_grow _ _ (Nat.le_refl _) _ _⟩)
    have HX : Hid ((⟨#[119, 97, 108, 45]⟩ : ByteArray) ++ (⟨(Lib.itoa ((1000000 + N : Nat) : Int)).toArray⟩ : ByteArray).extract 1 7 = segN N) := segN_of N (by omega)
    have hz : (⟨(Lib.itoa ((1000000 + N : Nat) : Int)).toArray⟩ : ByteArray).size = 7 := by
      rw [itoa_seg N (by omega)]; simp [segD, ByteArray.size]
    generalize (⟨(Lib.itoa ((1000000 + N : Nat) : Int)).toArray⟩ : ByteArray) = X at *
    clear h htab
    go_enter Tryz.func47, Tryz.ntmps47
    go_wp2_with fail
    refine HI.out.mono ?_
    rintro e w1 ⟨rfl, hb1⟩
    have HB : Hid (Below w.heap.size w w1) := hb1
    clear hb1
    go_wp2
    go_ret
    refine ⟨?_, HB.out⟩
    rw [E.out, ← HX.out]
    rfl
  · have E : Hid (segS n = ByteArray.empty) := if_neg h
    by_cases h1 : n < 1
    · go_enter Tryz.func47, Tryz.ntmps47
      go_wp2
      go_ret
      exact ⟨by rw [E.out]; rfl, Below.refl _ _⟩
    · have h2 : 999999 < n := by omega
      clear h
      go_enter Tryz.func47, Tryz.ntmps47
      go_wp2
      go_ret
      exact ⟨by rw [E.out]; rfl, Below.refl _ _⟩
end Go.Proofs.YtbeamodlgjlhiadGreatDoor

namespace Go.Proofs.YtbeamodlgjlhiadGreatDoor
open Go.RowKit

/-- One shift of the table's. -/
def crcSh (x : Nat) : Nat := if x % 2 = 1 then (x / 2) ^^^ 2197175160 else x / 2
def crcShs (x : Nat) : Nat → Nat
  | 0 => x
  | k + 1 => crcSh (crcShs x k)
/-- What eight shifts make of a byte. -/
def crcT (i : Nat) : Nat := crcShs i 8

theorem crcSh_lt {x : Nat} (h : x < 4294967296) : crcSh x < 4294967296 := by
  unfold crcSh
  split
  · exact Nat.xor_lt_two_pow (n := 32) (by omega) (by omega)
  · omega
theorem crcShs_lt {x : Nat} (h : x < 4294967296) : ∀ k, crcShs x k < 4294967296
  | 0 => h
  | k + 1 => crcSh_lt (crcShs_lt h k)
theorem crcT_lt {i : Nat} (h : i < 256) : crcT i < 4294967296 := crcShs_lt (by omega) 8

theorem xor_odd (a b : Nat) : (a ^^^ b) % 2 = (a + b) % 2 := by
  have := Nat.xor_mod_two_eq_one (a := a) (b := b)
  omega
theorem crcSh_bit (r x : Nat) : crcSh (r ^^^ x) = crcBit r x ^^^ (x / 2) := by
  unfold crcSh crcBit
  rw [xor_odd, Nat.xor_div_two]
  split
  · rw [Nat.xor_assoc, Nat.xor_comm (x / 2), ← Nat.xor_assoc]
  · rfl
theorem crcShs_bits (r b : Nat) : ∀ k, crcShs (r ^^^ b) k = crcBits r b k ^^^ (b / 2 ^ k)
  | 0 => by simp [crcShs, crcBits]
  | k + 1 => by
    show crcSh (crcShs (r ^^^ b) k) = crcBit (crcBits r b k) (b / 2 ^ k) ^^^ (b / 2 ^ (k + 1))
    rw [crcShs_bits r b k, crcSh_bit, Nat.div_div_eq_div_mul, Nat.pow_succ]
theorem crcSh_even (x z : Nat) : crcSh (x ^^^ (2 * z)) = crcSh x ^^^ z := by
  unfold crcSh
  rw [xor_odd, Nat.xor_div_two, show (x + 2 * z) % 2 = x % 2 by omega, show 2 * z / 2 = z by omega]
  split
  · rw [Nat.xor_assoc, Nat.xor_comm z, ← Nat.xor_assoc]
  · rfl
theorem crcShs_even (x z : Nat) : ∀ k, crcShs (x ^^^ (2 ^ k * z)) k = crcShs x k ^^^ z
  | 0 => by simp [crcShs]
  | k + 1 => by
    show crcSh (crcShs (x ^^^ (2 ^ (k + 1) * z)) k) = crcSh (crcShs x k) ^^^ z
    rw [Nat.pow_succ, Nat.mul_assoc, crcShs_even x (2 * z) k, crcSh_even]
theorem crc_parts (r : Nat) : r = (r % 256) ^^^ (256 * (r / 256)) := by
  have h : 256 * (r / 256) + r % 256 = (2 ^ 8 * (r / 256)) ||| (r % 256) := Nat.two_pow_add_eq_or_of_lt (i := 8) (b := r % 256) (by omega) (r / 256)
  have h2 : (r % 256) ^^^ (256 * (r / 256)) = (2 ^ 8 * (r / 256)) ||| (r % 256) := by
    apply Nat.eq_of_testBit_eq
    intro i
    rw [Nat.testBit_xor, Nat.testBit_or, show 256 * (r / 256) = 2 ^ 8 * (r / 256) from rfl, Nat.testBit_two_pow_mul, show r % 256 = r % 2 ^ 8 from rfl, Nat.testBit_mod_two_pow]
    by_cases hi : i < 8
    · simp [hi, Nat.not_le.2 hi]
    · simp [hi, Nat.not_lt.1 hi]
  omega
theorem crc_table (r b : Nat) (hb : b < 256) : crcBits r b 8 = (r / 256) ^^^ crcT ((r % 256) ^^^ b) := by
  have h1 := crcShs_bits r b 8
  rw [show b / 2 ^ 8 = 0 by omega, Nat.xor_zero] at h1
  rw [← h1]
  have h2 := crcShs_even ((r % 256) ^^^ b) (r / 256) 8
  rw [show ((r % 256) ^^^ b) ^^^ (2 ^ 8 * (r / 256)) = r ^^^ b by
    rw [Nat.xor_assoc, Nat.xor_comm b, ← Nat.xor_assoc, show (2 ^ 8 * (r / 256)) = 256 * (r / 256) from rfl, ← crc_parts r]] at h2
  rw [h2, Nat.xor_comm]; rfl
end Go.Proofs.YtbeamodlgjlhiadGreatDoor

namespace Go.Proofs.YtbeamodlgjlhiadGreatDoor
open Go.RowKit

theorem zero_tab : ∃ Z : Array Value, Z = Array.replicate 256 (.int .u32 0) ∧ ∀ w, (zeroValue 127).run Tryz.prog w = .ok (.agg Z) w := ⟨_, rfl, fun _ => by kernel_rfl⟩
theorem store_same (P : Program) (w : World) (Z : Array Value) (t : TypeId) (h1 : ∀ v ∈ Z.toList, v.oneCell' = true) :
    (storeCells ⟨w.heap.size, 0, none⟩ Z.toList).run P (w.alloc (.cells Z t)) = .ok () (w.alloc (.cells Z t)) := by
  have hg : (w.alloc (.cells Z t)).heap[w.heap.size]? = some (.cells Z t (0, 0)) := heap_alloc_new _ _
  have h := run_storeCells_from (P := P) w.heap.size t Z.toList 0 Z _ hg (by simp) h1
  rw [h]
  simp only [List.take_zero, List.nil_append, Array.toArray_toList]
  rw [setRow_self _ _ Z t (0, 0) hg]
theorem and_one_u32 (a : Nat) (ha : a < 4294967296) : bits .and .u32 (a : Int) 1 = ((a % 2 : Nat) : Int) := by
  show IntKind.u32.wrap ((BitVec.ofInt 32 (a : Int) &&& BitVec.ofInt 32 ((1 : Nat) : Int)).toNat : Int) = _
  rw [BitVec.toNat_and, BitVec.ofInt_natCast, BitVec.ofInt_natCast, BitVec.toNat_ofNat, BitVec.toNat_ofNat, Nat.mod_eq_of_lt (by omega), Nat.mod_eq_of_lt (by omega), Nat.and_one_is_mod]
  simp only [IntKind.wrap, IntKind.bits, IntKind.signed]
  simp
  omega
theorem xor_u32 (a b : Nat) (ha : a < 4294967296) (hb : b < 4294967296) : bits .xor .u32 (a : Int) (b : Int) = ((a ^^^ b : Nat) : Int) := by
  have hx : a ^^^ b < 2 ^ 32 := Nat.xor_lt_two_pow (by omega) (by omega)
  show IntKind.u32.wrap ((BitVec.ofInt 32 (a : Int) ^^^ BitVec.ofInt 32 (b : Int)).toNat : Int) = _
  rw [BitVec.toNat_xor, BitVec.ofInt_natCast, BitVec.ofInt_natCast, BitVec.toNat_ofNat, BitVec.toNat_ofNat, Nat.mod_eq_of_lt (by omega), Nat.mod_eq_of_lt (by omega)]
  simp only [IntKind.wrap, IntKind.bits, IntKind.signed]
  simp
  omega

set_option maxRecDepth 100000 in
set_option maxHeartbeats 1000000 in
theorem makeTab_any (w : World) :
    Calls Tryz.prog 68 #[] w fun e w' => ∃ b cur, e = .returned (.pointer (some ⟨b, 0, none⟩)) ∧ w.heap.size ≤ b ∧ Blk w' b cur 127 ∧ (∀ i, i < 256 → cur[i]? = some (.int .u32 (crcT i : Nat))) ∧ Below w.heap.size w w' := by
  obtain ⟨Z, hZ, hz⟩ := zero_tab
  have HZ : Hid (Z = Array.replicate 256 (.int .u32 0)) := hZ
  have hzs : Z.size = 256 := by rw [hZ]; simp
  have hst := store_same Tryz.prog w Z 127 (by rw [hZ]; simp [Value.oneCell'])
  have hB : Blk (w.alloc (.cells Z 127)) w.heap.size Z 127 := heap_alloc_new _ _
  have HB : Hid (Blk (w.alloc (.cells Z 127)) w.heap.size Z 127) := hB
  clear hZ hB
  go_enter Tryz.func68, Tryz.ntmps68
  go_wp2
  go_loopw [2, 3, 5] (fun _ _ c wr => ∃ (k : Nat) (cur : Array Value), k ≤ 256 ∧ c = .int .i64 k ∧ Hid (Blk wr w.heap.size cur 127) ∧ cur.size = 256 ∧ Hid (∀ i, i < k → cur[i]? = some (.int .u32 (crcT i : Nat))) ∧ Hid (Below w.heap.size w wr)) (fun _ _ c _ => 256 - (intOf c).toNat)
  case atStart => exact ⟨0, Z, by omega, rfl, HB, hzs, fun i hi => absurd hi (by omega), bnew _ _⟩
  case round =>
    obtain ⟨k, cur, hk, rfl, hblk, hcs, hcur, hbel⟩ := hrel
    by_cases hlt : k < 256
    · go_wp2
      go_loop [3, 10] (fun x c => ∃ (j X : Nat), j ≤ 8 ∧ c = .int .i64 j ∧ x = .int .u32 X ∧ X < 4294967296 ∧ Hid (X = crcShs k j)) (fun _ c => 8 - (intOf c).toNat)
      case atStart => exact ⟨0, k, by omega, rfl, by go_num, by omega, rfl⟩
      case round =>
        obtain ⟨j, X, hj, rfl, rfl, hX, hx⟩ := hrel
        have ha := and_one_u32 X hX
        have hxr := xor_u32 (X / 2) 2197175160 (by omega) (by omega)
        by_cases h8 : j < 8
        · by_cases hodd : X % 2 = 1
          · rw [hodd] at ha
            go_wp2
            refine ⟨⟨j + 1, (X / 2) ^^^ 2197175160, by omega, by go_num, ?_, Nat.xor_lt_two_pow (n := 32) (by omega) (by omega), ?_⟩, by simp [intOf]; omega⟩
            · rw [← hxr]; congr 2
            · show _ = _
              rw [crcShs, ← hx.out, crcSh, if_pos hodd]
          · have h0 : X % 2 = 0 := by omega
            rw [h0] at ha
            go_wp2
            refine ⟨⟨j + 1, X / 2, by omega, by go_num, ?_, by omega, ?_⟩, by simp [intOf]; omega⟩
            · go_num
            · show _ = _
              rw [crcShs, ← hx.out, crcSh, if_neg hodd]
        · have e : j = 8 := by omega
          subst e
          have hc : wr.cell? ⟨w.heap.size, k, none⟩ = some (cur[k]'(by omega)) := by rw [hblk.out.cell]; exact Array.getElem?_eq_getElem _
          have hf := hblk.out.free k
          go_wp2
          refine ⟨⟨k + 1, cur.setIfInBounds k (.int .u32 X), by omega, by go_num, hblk.out.set k _, by simp [hcs], ?_, ?_⟩, by simp [intOf]; omega⟩
          · intro i hi
            rw [Array.getElem?_setIfInBounds]
            split
            · rename_i e
              subst e
              rw [if_pos (by omega), hx.out]
              rfl
            · exact hcur.out i (by omega)
          · exact hbel.out.setCell (p := ⟨w.heap.size, k, none⟩) (Nat.le_refl _) _
    · have e : k = 256 := by omega
      subst e
      go_wp2
      go_ret
      exact ⟨w.heap.size, cur, rfl, Nat.le_refl _, hblk.out, hcur.out, hbel.out⟩
end Go.Proofs.YtbeamodlgjlhiadGreatDoor

namespace Go.Proofs.YtbeamodlgjlhiadGreatDoor
open Go.RowKit

theorem xor_u8 (a b : Nat) (ha : a < 256) (hb : b < 256) : bits .xor .u8 (a : Int) (b : Int) = ((a ^^^ b : Nat) : Int) := by
  have hx : a ^^^ b < 2 ^ 8 := Nat.xor_lt_two_pow (by omega) (by omega)
  show IntKind.u8.wrap ((BitVec.ofInt 8 (a : Int) ^^^ BitVec.ofInt 8 (b : Int)).toNat : Int) = _
  rw [BitVec.toNat_xor, BitVec.ofInt_natCast, BitVec.ofInt_natCast, BitVec.toNat_ofNat, BitVec.toNat_ofNat, Nat.mod_eq_of_lt (by omega), Nat.mod_eq_of_lt (by omega)]
  simp only [IntKind.wrap, IntKind.bits, IntKind.signed]
  simp
  omega

theorem not_u32 (a : Nat) (ha : a < 4294967296) : bits .xor .u32 IntKind.u32.max (a : Int) = ((4294967295 - a : Nat) : Int) := by
  have h1 : bits .xor .u32 IntKind.u32.max (a : Int) = ((4294967295 ^^^ a : Nat) : Int) := xor_u32 4294967295 a (by omega) ha
  have h2 : (4294967295 ^^^ a : Nat) = 4294967295 - a := by
    have e : (BitVec.allOnes 32 ^^^ BitVec.ofNat 32 a).toNat = (~~~ BitVec.ofNat 32 a).toNat := by rw [BitVec.allOnes_xor]
    rw [BitVec.toNat_xor, BitVec.toNat_allOnes, BitVec.toNat_not, BitVec.toNat_ofNat, Nat.mod_eq_of_lt (by omega)] at e
    exact e
  rw [h1, h2]

set_option maxRecDepth 100000 in
set_option maxHeartbeats 1000000 in
theorem tabSum_any (b : Nat) (cur : Array Value) (s : ByteArray) (w : World) (hs : s.size ≤ maxLen) (hB : Blk w b cur 127) (hcur : ∀ i, i < 256 → cur[i]? = some (.int .u32 (crcT i : Nat))) :
    Calls Tryz.prog 69 #[.pointer (some ⟨b, 0, none⟩), .string s] w fun e w' => e = .returned (.int .i64 (crcV s : Nat)) ∧ Below w.heap.size w w' := by
  have HB : Hid (Blk w b cur 127 ∧ ∀ i, i < 256 → cur[i]? = some (.int .u32 (crcT i : Nat))) := ⟨hB, hcur⟩
  clear hB hcur
  unfold maxLen at hs
  go_enter Tryz.func69, Tryz.ntmps69
  go_wp2
  go_loopw [5, 6, 9] (fun x _ c wr => ∃ (k X : Nat), k ≤ s.size ∧ c = .int .i64 k ∧ x = .int .u32 X ∧ X < 4294967296 ∧ Hid (X = crcL (s.data.toList.take k)) ∧ Hid (Below w.heap.size w wr)) (fun _ _ c _ => s.size - (intOf c).toNat)
  case atStart => exact ⟨0, 4294967295, by omega, rfl, rfl, by omega, by show _ = _; simp [crcL], Below.refl _ _⟩
  case round =>
    obtain ⟨k, X, hk, rfl, rfl, hX, hx, hbel⟩ := hrel
    by_cases hlt : k < s.size
    · have hc := (s[k]).toNat_lt
      obtain ⟨N, T, Y, hN, hT, hY, hxr, hxt, hcell, hcr⟩ : ∃ N T Y : Nat, N < 256 ∧ T < 4294967296 ∧ Y < 4294967296 ∧ bits .xor .u8 ((X : Int) % 256) ((s[k]).toNat : Int) = (N : Int) ∧ bits .xor .u32 ((X : Int) / 256) (T : Int) = (Y : Int) ∧ wr.cell? ⟨b, N, none⟩ = some (.int .u32 (T : Nat)) ∧ Hid (crcByte X s[k] = Y) := by
        have hxr := xor_u8 (X % 256) (s[k]).toNat (by omega) (by omega)
        have hi : (X % 256) ^^^ (s[k]).toNat < 256 := Nat.xor_lt_two_pow (n := 8) (by omega) (by omega)
        have hb' := HB.out.1.later hbel.out
        have hT := crcT_lt hi
        refine ⟨_, _, _, hi, hT, Nat.xor_lt_two_pow (n := 32) (by omega) hT, hxr, xor_u32 (X / 256) _ (by omega) hT, by rw [hb'.cell]; exact HB.out.2 _ hi, crc_table X _ (by omega)⟩
      go_wp2
      go_region
      go_wp2
      refine ⟨⟨k + 1, Y, by omega, by go_num, rfl, hY, ?_, hbel.out.drew⟩, by simp [intOf]; omega⟩
      show _ = _
      rw [take_snoc s k hlt, crcL_snoc, ← hx.out, hcr.out]
    · have e : k = s.size := by omega
      subst e
      have hn := not_u32 X hX
      go_wp2
      refine bodyPost_ret (v := .int .i64 (crcV s : Nat)) ?_ rfl ⟨rfl, hbel.out⟩
      have e2 : wrap64 ((4294967295 - X : Nat) : Int) = ((4294967295 - X : Nat) : Int) := by simp only [wrap64]; omega
      rw [e2, show crcV s = 4294967295 - X by rw [crcV, hx.out, List.take_of_length_le (by simp)]]
      simp [results, Tryz.results69, go_sem]
end Go.Proofs.YtbeamodlgjlhiadGreatDoor

namespace Go.Proofs.YtbeamodlgjlhiadGreatDoor
open Go.RowKit

set_option maxRecDepth 100000 in
set_option maxHeartbeats 1000000 in
theorem implCrc_any (s : ByteArray) (w : World) (hs : s.size ≤ maxLen) :
    Calls Tryz.prog 49 #[.string s] w fun e w' => e = .returned (.int .i64 (crcV s : Nat)) ∧ Below w.heap.size w w' := by
  have HS : Hid (s.size ≤ maxLen) := hs
  clear hs
  go_enter Tryz.func49, Tryz.ntmps49
  go_wp2_with fail
  refine (makeTab_any _).mono ?_
  rintro e w1 ⟨b, cur, rfl, _, hB, hcur, hb1⟩
  have HB : Hid (Blk w1 b cur 127 ∧ (∀ i, i < 256 → cur[i]? = some (.int .u32 (crcT i : Nat))) ∧ Below w.heap.size w w1) := ⟨hB, hcur, hb1⟩
  clear hB hcur hb1
  go_wp2_with fail
  refine (tabSum_any b cur s _ HS.out HB.out.1 HB.out.2.1).mono ?_
  rintro e w2 ⟨rfl, hb2⟩
  have HB2 : Hid (Below w.heap.size w w2) := bto HB.out.2.2 hb2
  clear hb2
  go_wp2
  go_ret
  exact ⟨rfl, HB2.out⟩
end Go.Proofs.YtbeamodlgjlhiadGreatDoor

namespace Go.Proofs.YtbeamodlgjlhiadGreatDoor
open Go.RowKit

theorem shrN_pow (v : Int) : ∀ k, shrN v k = v / 2 ^ (8 * k)
  | 0 => by simp [shrN]
  | k + 1 => by
    rw [shrN, shrN_pow v k, show 8 * (k + 1) = 8 * k + 8 by omega, Int.pow_add, Int.ediv_ediv_of_nonneg (Int.pow_nonneg (by omega))]
    rfl
theorem numI_get (v : Int) : ∀ n i, i < n → (numI v n)[i]? = some (shrN v (n - 1 - i) % 256)
  | 0, i, h => absurd h (by omega)
  | n + 1, 0, _ => by simp [numI]
  | n + 1, i + 1, h => by
    rw [numI, List.getElem?_cons_succ, numI_get v n i (by omega)]
    congr 3
    omega

set_option maxRecDepth 100000 in
set_option maxHeartbeats 1000000 in
theorem implHigh_any (n : Nat) (v : Int) (w : World) (hn : n ≤ 8) :
    Calls Tryz.prog 48 #[.int .i64 v, .int .i64 n] w fun e w' => e = .returned (.string (numS n v)) ∧ Below w.heap.size w w' := by
  obtain ⟨C, hC, hmk⟩ : ∃ C : Array Value, C.size = n ∧ (Instr.makeSlice 70 (.int .i64 n) (.int .i64 n)).run Tryz.prog w = .ok (.slice (some ⟨w.heap.size, 0, none⟩) n n) (w.alloc (.cells C 5)) := by
    obtain ⟨ti, hti, hz0, hz1, hz2⟩ := info_u8
    have h := run_make (P := Tryz.prog) w 70 5 ti _ Tryz.underlying70 hti hz0 .i64 .i64 (n : Int) (n : Int) (by omega) (by omega) (by rw [hz2]; omega) (by omega)
    rw [hz1, Int.toNat_natCast, Nat.mul_one] at h
    exact ⟨_, size_madeCells _ _, h⟩
  have HB : Hid (Blk (w.alloc (.cells C 5)) w.heap.size C 5) := heap_alloc_new _ _
  go_enter Tryz.func48, Tryz.ntmps48
  go_wp2
  go_loopw [6, 11] (fun _ c wr => ∃ (k : Nat) (cur : Array Value), k ≤ n ∧ c = .int .i64 k ∧ Hid (Blk wr w.heap.size cur 5) ∧ cur.size = n ∧ Hid (∀ i, i < k → cur[n - 1 - i]? = some (.int .u8 (shrN v i % 256))) ∧ Hid (Below w.heap.size w wr)) (fun _ c _ => n - (intOf c).toNat)
  case atStart => exact ⟨0, C, by omega, rfl, HB, hC, fun i hi => absurd hi (by omega), bnew _ _⟩
  case round =>
    obtain ⟨k, cur, hk, rfl, hblk, hcs, hcur, hbel⟩ := hrel
    by_cases hlt : k < n
    · obtain ⟨p, hp, hpn⟩ : ∃ p : Nat, (n : Int) - 1 - (k : Int) = (p : Int) ∧ Hid (p = n - 1 - k) := ⟨n - 1 - k, by omega, rfl⟩
      have hc : wr.cell? ⟨w.heap.size, p, none⟩ = some (cur[p]'(by have := hpn.out; omega)) := by rw [hblk.out.cell]; exact Array.getElem?_eq_getElem _
      have hf := hblk.out.free p
      go_wp2
      refine ⟨⟨k + 1, cur.setIfInBounds p (.int .u8 (v / 2 ^ (8 * k) % 256)), by omega, by go_num, hblk.out.set p _, by simp [hcs], ?_, hbel.out.setCell (p := ⟨w.heap.size, p, none⟩) (Nat.le_refl _) _⟩, by simp [intOf]; omega⟩
      intro i hi
      have hp2 := hpn.out
      rw [Array.getElem?_setIfInBounds]
      split
      · rename_i e
        have e2 : i = k := by omega
        subst e2
        rw [if_pos (by omega), shrN_pow]
      · rename_i e
        exact hcur.out i (by omega)
    · have e : k = n := by omega
      subst e
      have hcv : (convert 70 9 (.slice (some ⟨w.heap.size, 0, none⟩) k k)).run Tryz.prog wr = .ok (.string (numS k v)) wr := by
        refine run_convert_bytes_arg wr 70 5 Tryz.underlying70 Tryz.underlying5 w.heap.size 0 _ _ (numI v k) (numI_length v k) (fun i hi => ?_) 9 Tryz.underlying9
        rw [hblk.out.cell, Nat.zero_add]
        have h2 := hcur.out (k - 1 - i) (by omega)
        rw [show k - 1 - (k - 1 - i) = i by omega] at h2
        rw [h2]
        have h3 := numI_get v k i (by omega)
        simp [List.getD, h3]
      go_wp2
      go_ret
      exact ⟨rfl, hbel.out⟩
end Go.Proofs.YtbeamodlgjlhiadGreatDoor

namespace Go.Proofs.YtbeamodlgjlhiadGreatDoor
open Go.RowKit

set_option maxRecDepth 100000 in
set_option maxHeartbeats 1000000 in
theorem implFrame_any (p : ByteArray) (w : World) (hs : p.size ≤ maxLen) :
    Calls Tryz.prog 26 #[.string p] w fun e w' => e = .returned (.string (frameS p)) ∧ Below w.heap.size w w' := by
  have HS : Hid (p.size ≤ maxLen) := hs
  unfold maxLen at hs
  have HF : Hid (∀ W, Calls Tryz.prog 39 #[.int .i64 (p.size : Int)] W fun e w' => e = .returned (.bool (btwB p.size 1 60000)) ∧ w' = W) := fun W => fits_any _ W
  by_cases h : 1 ≤ p.size ∧ p.size ≤ 60000
  · have hb : btwB p.size 1 60000 = true := by simp [btwB]; omega
    rw [hb] at HF
    have E : Hid (frameS p = numS 4 p.size ++ numS 4 (crcV p : Nat) ++ p) := if_pos h
    have h4 := numS_size 4 (p.size : Int)
    have h4' := numS_size 4 ((crcV p : Nat) : Int)
    have H1 : Hid (∀ W, Calls Tryz.prog 48 #[.int .i64 (p.size : Int), .int .i64 4] W fun e w' => e = .returned (.string (numS 4 p.size)) ∧ Below W.heap.size W w') := fun W => implHigh_any 4 _ W (by omega)
    have H2 : Hid (∀ W, Calls Tryz.prog 48 #[.int .i64 (crcV p : Nat), .int .i64 4] W fun e w' => e = .returned (.string (numS 4 (crcV p : Nat))) ∧ Below W.heap.size W w') := fun W => implHigh_any 4 _ W (by omega)
    generalize numS 4 (p.size : Int) = A at *
    generalize numS 4 ((crcV p : Nat) : Int) = B at *
    go_enter Tryz.func26, Tryz.ntmps26
    go_wp2_with (go_at_call 39; refine (HF.out _).mono ?_; rintro e w' ⟨rfl, hw⟩; replace hw := hw.symm; subst hw)
    refine (H1.out _).mono ?_
    rintro e w1 ⟨rfl, hb1⟩
    go_wp2_with fail
    refine (implCrc_any p _ HS.out).mono ?_
    rintro e w2 ⟨rfl, hb2⟩
    go_wp2_with fail
    refine (H2.out _).mono ?_
    rintro e w3 ⟨rfl, hb3⟩
    have HB : Hid (Below w.heap.size w w3) := bto (bto hb1 hb2) hb3
    clear hb1 hb2 hb3
    go_wp2
    go_ret
    exact ⟨ret_str E.out.symm, HB.out⟩
  · have hb : btwB p.size 1 60000 = false := by simp [btwB]; omega
    rw [hb] at HF
    have E : Hid (frameS p = ByteArray.empty) := if_neg h
    go_enter Tryz.func26, Tryz.ntmps26
    go_wp2_with (go_at_call 39; refine (HF.out _).mono ?_; rintro e w' ⟨rfl, hw⟩; replace hw := hw.symm; subst hw)
    go_ret
    exact ⟨ret_str E.out.symm, Below.refl _ _⟩
end Go.Proofs.YtbeamodlgjlhiadGreatDoor

