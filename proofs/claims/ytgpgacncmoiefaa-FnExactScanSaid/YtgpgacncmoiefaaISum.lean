import Derived.Test.YtgpgacncmoiefaaITab
import Derived.Test.YtgpgacncmoiefaaBtw
import Derived.Test.YtgpgacncmoiefaaSCrc
namespace Go.Proofs.Ytgpgacncmoiefaa
open Go.RowKit

theorem xor_u8 (a b : Nat) (ha : a < 256) (hb : b < 256) : bits .xor .u8 (a : Int) (b : Int) = ((a ^^^ b : Nat) : Int) := by
  have hx : a ^^^ b < 2 ^ 8 := Nat.xor_lt_two_pow (by omega) (by omega)
  show IntKind.u8.wrap ((BitVec.ofInt 8 (a : Int) ^^^ BitVec.ofInt 8 (b : Int)).toNat : Int) = _
  rw [BitVec.toNat_xor, BitVec.ofInt_natCast, BitVec.ofInt_natCast, BitVec.toNat_ofNat, BitVec.toNat_ofNat, Nat.mod_eq_of_lt (by omega), Nat.mod_eq_of_lt (by omega)]
  simp only [IntKind.wrap, IntKind.bits, IntKind.signed]
  simp
  omega

theorem not_u32 (a : Nat) (ha : a < 4294967296) : bits .xor .u32 IntKind.u32.max (a : Int) = ((4294967295 - a : Nat) : Int) := by
  have h1 : bits .xor .u32 IntKind.u32.max (a : Int) = ((4294967295 ^^^ a : Nat) : Int) := xor_u32 4294967295 a (by omega) ha
  have h2 : (4294967295 ^^^ a : Nat) = 4294967295 - a := by
    have e : (BitVec.allOnes 32 ^^^ BitVec.ofNat 32 a).toNat = (~~~ BitVec.ofNat 32 a).toNat := by rw [BitVec.allOnes_xor]
    rw [BitVec.toNat_xor, BitVec.toNat_allOnes, BitVec.toNat_not, BitVec.toNat_ofNat, Nat.mod_eq_of_lt (by omega)] at e
    exact e
  rw [h1, h2]

set_option maxRecDepth 100000 in
set_option maxHeartbeats 1000000 in
theorem tabSum_any (b : Nat) (cur : Array Value) (s : ByteArray) (w : World) (hs : s.size ≤ maxLen) (hB : Blk w b cur 98) (hcur : ∀ i, i < 256 → cur[i]? = some (.int .u32 (crcT i : Nat))) :
    Calls Try.prog 33 #[.pointer (some ⟨b, 0, none⟩), .string s] w fun e w' => e = .returned (.int .i64 (crcV s : Nat)) ∧ Below w.heap.size w w' := by
  have HB : Hid (Blk w b cur 98 ∧ ∀ i, i < 256 → cur[i]? = some (.int .u32 (crcT i : Nat))) := ⟨hB, hcur⟩
  clear hB hcur
  unfold maxLen at hs
  go_enter Try.func33, Try.ntmps33
  go_wp2
  go_loopw [5, 6, 9] (fun x _ c wr => ∃ (k X : Nat), k ≤ s.size ∧ c = .int .i64 k ∧ x = .int .u32 X ∧ X < 4294967296 ∧ Hid (X = crcL (s.data.toList.take k)) ∧ Hid (Below w.heap.size w wr)) (fun _ _ c _ => s.size - (intOf c).toNat)
  case atStart => exact ⟨0, 4294967295, by omega, rfl, rfl, by omega, by show _ = _; simp [crcL], Below.refl _ _⟩
  case round =>
    obtain ⟨k, X, hk, rfl, rfl, hX, hx, hbel⟩ := hrel
    by_cases hlt : k < s.size
    · have hc := (s[k]).toNat_lt
      obtain ⟨N, T, Y, hN, hT, hY, hxr, hxt, hcell, hcr⟩ : ∃ N T Y : Nat, N < 256 ∧ T < 4294967296 ∧ Y < 4294967296 ∧ bits .xor .u8 ((X : Int) % 256) ((s[k]).toNat : Int) = (N : Int) ∧ bits .xor .u32 ((X : Int) / 256) (T : Int) = (Y : Int) ∧ wr.cell? ⟨b, N, none⟩ = some (.int .u32 (T : Nat)) ∧ Hid (crcByte X s[k] = Y) := by
        have hxr := xor_u8 (X % 256) (s[k]).toNat (by omega) (by omega)
        have hi : (X % 256) ^^^ (s[k]).toNat < 256 := Nat.xor_lt_two_pow (n := 8) (by omega) (by omega)
        have hb' := HB.out.1.later hbel.out
        have hT := crcT_lt hi
        refine ⟨_, _, _, hi, hT, Nat.xor_lt_two_pow (n := 32) (by omega) hT, hxr, xor_u32 (X / 256) _ (by omega) hT, by rw [hb'.cell]; exact HB.out.2 _ hi, crc_table X _ (by omega)⟩
      go_wp2
      go_region
      go_wp2
      refine ⟨⟨k + 1, Y, by omega, by go_num, rfl, hY, ?_, hbel.out.drew⟩, by simp [intOf]; omega⟩
      show _ = _
      rw [take_snoc s k hlt, crcL_snoc, ← hx.out, hcr.out]
    · have e : k = s.size := by omega
      subst e
      have hn := not_u32 X hX
      go_wp2
      refine bodyPost_ret (v := .int .i64 (crcV s : Nat)) ?_ rfl ⟨rfl, hbel.out⟩
      have e2 : wrap64 ((4294967295 - X : Nat) : Int) = ((4294967295 - X : Nat) : Int) := by simp only [wrap64]; omega
      rw [e2, show crcV s = 4294967295 - X by rw [crcV, hx.out, List.take_of_length_le (by simp)]]
      simp [results, Try.results33, go_sem]
end Go.Proofs.Ytgpgacncmoiefaa
