import Derived.Test.YtgpgacncmoiefaaProg
import Derived.Test.YtgpgacncmoiefaaCrcL
import Derived.Test.YtgpgacncmoiefaaBtw
namespace Go.Proofs.Ytgpgacncmoiefaa
open Go.RowKit

set_option maxRecDepth 100000 in
set_option maxHeartbeats 1000000 in
theorem specCrc_any (s : ByteArray) (w : World) (hs : s.size ≤ maxLen) :
    Calls Try.prog 9 #[.string s] w fun e w' => e = .returned (.int .i64 (crcV s : Nat)) ∧ w' = w := by
  unfold maxLen at hs
  go_enter Try.func9, Try.ntmps9
  go_wp2
  go_loop [3, 4, 5, 6, 7, 8] (fun r i _ _ _ _ => ∃ (j R : Nat), j ≤ s.size ∧ i = .int .i64 j ∧ r = .int .i64 R ∧ Hid (R = crcL (s.data.toList.take j))) (fun _ i _ _ _ _ => s.size - (intOf i).toNat)
  case atStart => exact ⟨0, 4294967295, Nat.zero_le _, rfl, rfl, rfl⟩
  case round =>
    obtain ⟨j, R, hj, rfl, rfl, hR⟩ := hrel
    have hRlt : R < 4294967296 := by rw [hR.out]; exact crcL_lt _
    by_cases hlt : j < s.size
    · have hU : s[j].toNat < 256 := s[j].toNat_lt
      go_wp2
      go_loop [3, 5, 6, 7, 8] (fun r k _ _ _ => ∃ (m S : Nat), m ≤ 8 ∧ k = .int .i64 m ∧ r = .int .i64 S ∧ Hid (S = crcBits R s[j].toNat m)) (fun _ k _ _ _ => 8 - (intOf k).toNat)
      case atStart => exact ⟨0, R, by omega, rfl, rfl, rfl⟩
      case round =>
        obtain ⟨m, S, hm, rfl, rfl, hS⟩ := hrel
        have hSlt : S < 4294967296 := by rw [hS.out]; exact crcBits_lt hRlt _
        by_cases hm8 : m < 8
        · go_wp2
          go_loop [6, 7] (fun x q => ∃ (t X : Nat), t ≤ m ∧ q = .int .i64 t ∧ x = .int .i64 X ∧ Hid (X = s[j].toNat / 2 ^ t)) (fun _ q => m - (intOf q).toNat)
          case atStart => exact ⟨0, s[j].toNat, by omega, rfl, rfl, by show _ = _; simp⟩
          case round =>
            obtain ⟨t, X, ht, rfl, rfl, hX⟩ := hrel
            have hXlt : X < 256 := by
              have : X ≤ s[j].toNat := by rw [hX.out]; exact Nat.div_le_self _ _
              omega
            by_cases htm : t < m
            · go_wp2
              exact ⟨⟨t + 1, X / 2, by omega, by go_num, by go_num, by show _ = _; rw [hX.out, Nat.div_div_eq_div_mul, Nat.pow_succ]⟩, by simp [intOf]; omega⟩
            · have e : t = m := by omega
              subst e
              by_cases hodd : (S + X) % 2 = 1
              · go_wp2
                have e2 : bits BinOp.xor IntKind.i64 ((S : Int) / 2) 2197175160 = (((S / 2) ^^^ 2197175160 : Nat) : Int) := xor_i64 (S / 2) 2197175160 (by omega) (by omega)
                rw [e2]
                exact ⟨⟨t + 1, _, by omega, by go_num, rfl, by show _ = _; rw [crcBits, crcBit, ← hS.out, ← hX.out, if_pos hodd]⟩, by simp [intOf]; omega⟩
              · go_wp2
                exact ⟨⟨t + 1, S / 2, by omega, by go_num, by go_num, by show _ = _; rw [crcBits, crcBit, ← hS.out, ← hX.out, if_neg hodd]⟩, by simp [intOf]; omega⟩
        · go_wp2
          have e : m = 8 := by omega
          subst e
          exact ⟨⟨j + 1, S, by omega, by go_num, rfl, by show _ = _; rw [take_snoc s j hlt, crcL_snoc, ← hR.out, crcByte, hS.out]⟩, by simp [intOf]; omega⟩
    · go_wp2
      go_ret
      refine ⟨ret_int ?_, rfl⟩
      rw [crcV, ← List.take_of_length_le (l := s.data.toList) (i := j) (by simp; omega), ← hR.out]
      omega
end Go.Proofs.Ytgpgacncmoiefaa
