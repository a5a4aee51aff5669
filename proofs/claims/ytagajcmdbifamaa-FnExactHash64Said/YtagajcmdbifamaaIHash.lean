import Derived.Test.YtagajcmdbifamaaProg
import Derived.Test.YtagajcmdbifamaaBase
import Derived.Test.YtagajcmdbifamaaHashL
namespace Go.Proofs.Ytagajcmdbifamaa
open Go.RowKit

set_option maxRecDepth 100000 in
set_option maxHeartbeats 1000000 in
theorem specHash_any (s : ByteArray) (w : World) (hs : s.size ≤ maxLen) :
    Calls Try.prog 10 #[.string s] w fun e w' => e = .returned (.int .i64 (w64 (hashL s.data.toList))) ∧ w' = w := by
  unfold maxLen at hs
  go_enter Try.func10, Try.ntmps10
  go_wp2
  go_loop [3, 4] (fun h i => ∃ (j R : Nat), j ≤ s.size ∧ i = .int .i64 j ∧ h = .int .i64 (w64 R) ∧ Hid (R = hashL (s.data.toList.take j))) (fun _ i => s.size - (intOf i).toNat)
  case atStart => exact ⟨0, hashL [], Nat.zero_le _, rfl, rfl, rfl⟩
  case round =>
    obtain ⟨j, R, hj, rfl, rfl, hR⟩ := hrel
    have HL : Hid (R < 18446744073709551616) := by show R < _; rw [hR.out]; exact hashL_lt _
    generalize hH : w64 R = H
    have HH : Hid (w64 R = H) := hH
    clear hH
    have hU : ∀ h : j < s.size, (s[j]'h).toNat < 256 := fun h => (s[j]'h).toNat_lt
    by_cases hlt : j < s.size
    · have hU2 := hU hlt
      clear hU
      go_wp2
      go_round
      case rel => exact ⟨j + 1, hashStep R s[j], by omega, by go_num, by rw [← stepI R s[j] HL.out, HH.out, IntKind.wrap_i64, wrap64], by show _ = _; rw [hash_take s j hlt, hR.out]⟩
      case measure => simp [intOf]; omega
    · go_wp2
      go_ret
      refine ⟨ret_int ?_, rfl⟩
      rw [← HH.out, hR.out, List.take_of_length_le (by simp; omega)]

set_option maxRecDepth 100000 in
set_option maxHeartbeats 1000000 in
theorem implHash_any (s : ByteArray) (w : World) (hs : s.size ≤ maxLen) :
    Calls Try.prog 11 #[.string s] w fun e w' => e = .returned (.int .i64 (w64 (hashL s.data.toList))) ∧ w' = w := by
  unfold maxLen at hs
  go_enter Try.func11, Try.ntmps11
  go_wp2
  go_loop [3, 4, 7] (fun h _ i => ∃ (j R : Nat), j ≤ s.size ∧ i = .int .i64 j ∧ h = .int .u64 (R : Nat) ∧ Hid (R = hashL (s.data.toList.take j))) (fun _ _ i => s.size - (intOf i).toNat)
  case atStart => exact ⟨0, hashL [], Nat.zero_le _, rfl, rfl, rfl⟩
  case round =>
    obtain ⟨j, R, hj, rfl, rfl, hR⟩ := hrel
    have HL : Hid (R < 18446744073709551616) := by show R < _; rw [hR.out]; exact hashL_lt _
    by_cases hlt : j < s.size
    · have hU : s[j].toNat < 256 := s[j].toNat_lt
      have hwu : IntKind.u64.wrap (s[j].toNat : Int) = (s[j].toNat : Int) := by rw [wrap_u64, Nat.mod_eq_of_lt (by omega)]
      go_wp2
      go_round
      case rel => exact ⟨j + 1, hashStep R s[j], by omega, by go_num, by rw [← stepU R s[j] HL.out], by show _ = _; rw [hash_take s j hlt, hR.out]⟩
      case measure => simp [intOf]; omega
    · go_wp2
      go_ret
      refine ⟨ret_int ?_, rfl⟩
      have e : R = hashL s.data.toList := by rw [hR.out, List.take_of_length_le (by simp; omega)]
      rw [show wrap64 (R : Int) = IntKind.i64.wrap (R : Int) by rw [IntKind.wrap_i64, wrap64], wrap_i64, Nat.mod_eq_of_lt HL.out, e]
end Go.Proofs.Ytagajcmdbifamaa
