import Derived.Test.YteohobkigjmjlaaDoorProg
import Derived.Test.YteohobkigjmjlaaDoorBeL
namespace Go.Proofs.YteohobkigjmjlaaDoor
open Go.RowKit

set_option maxHeartbeats 1000000 in
theorem specGet_any (s : ByteArray) (p n : Nat) (w : World) (hs : s.size ≤ maxLen) (h : p + n ≤ s.size) (hn : n ≤ 7) :
    Calls Tryd.prog 59 #[.string s, .int .i64 p, .int .i64 n] w fun e w' => e = .returned (.int .i64 (beL (sectL s p n) : Nat)) ∧ w' = w := by
  unfold maxLen at hs
  go_enter Tryd.func59, Tryd.ntmps59
  go_wp2
  go_loop [7, 8] (fun v i => ∃ (k V : Nat), k ≤ n ∧ i = .int .i64 k ∧ v = .int .i64 V ∧ Hid (V = beL (sectL s p k))) (fun _ i => n - (intOf i).toNat)
  case atStart => exact ⟨0, 0, Nat.zero_le _, rfl, rfl, rfl⟩
  case round =>
    obtain ⟨k, V, hk, rfl, rfl, hV⟩ := hrel
    have hlt64 : V < 72057594037927936 := by
      have h1 := beL_lt (sectL s p k)
      rw [sectL_length (by omega), ← hV.out] at h1
      have h2 : 256 ^ k ≤ 256 ^ 7 := Nat.pow_le_pow_right (by omega) (by omega)
      omega
    by_cases hlt : k < n
    · have hV7 : V * 256 + 255 < 9223372036854775807 := by
        have h1 := beL_lt (sectL s p k)
        rw [sectL_length (by omega), ← hV.out] at h1
        have h2 : 256 ^ k ≤ 256 ^ 6 := Nat.pow_le_pow_right (by omega) (by omega)
        omega
      have hi0 : (0 : Int) ≤ (p : Int) + (k : Int) := by omega
      have hi1 : (p : Int) + (k : Int) < (s.size : Int) := by omega
      have hi2 : p + k < s.size := by omega
      have hU := s[p + k].toNat_lt
      go_wp2
      exact ⟨⟨k + 1, V * 256 + s[p + k].toNat, by omega, by go_num, by go_num, by show _ = _; rw [sectL_snoc hi2, beL_snoc, hV.out]⟩, by simp [intOf]; omega⟩
    · go_wp2
      go_ret
      have e : k = n := by omega
      subst e
      exact ⟨ret_int (by rw [hV.out]), rfl⟩
end Go.Proofs.YteohobkigjmjlaaDoor
