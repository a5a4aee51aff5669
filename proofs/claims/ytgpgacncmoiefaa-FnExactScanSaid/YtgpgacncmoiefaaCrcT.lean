import Derived.Test.YtgpgacncmoiefaaCrcL
namespace Go.Proofs.Ytgpgacncmoiefaa
open Go.RowKit

/-- One shift of the table's. -/
def crcSh (x : Nat) : Nat := if x % 2 = 1 then (x / 2) ^^^ 2197175160 else x / 2
def crcShs (x : Nat) : Nat → Nat
  | 0 => x
  | k + 1 => crcSh (crcShs x k)
/-- What eight shifts make of a byte. -/
def crcT (i : Nat) : Nat := crcShs i 8

theorem crcSh_lt {x : Nat} (h : x < 4294967296) : crcSh x < 4294967296 := by
  unfold crcSh
  split
  · exact Nat.xor_lt_two_pow (n := 32) (by omega) (by omega)
  · omega
theorem crcShs_lt {x : Nat} (h : x < 4294967296) : ∀ k, crcShs x k < 4294967296
  | 0 => h
  | k + 1 => crcSh_lt (crcShs_lt h k)
theorem crcT_lt {i : Nat} (h : i < 256) : crcT i < 4294967296 := crcShs_lt (by omega) 8

theorem xor_odd (a b : Nat) : (a ^^^ b) % 2 = (a + b) % 2 := by
  have := Nat.xor_mod_two_eq_one (a := a) (b := b)
  omega
theorem crcSh_bit (r x : Nat) : crcSh (r ^^^ x) = crcBit r x ^^^ (x / 2) := by
  unfold crcSh crcBit
  rw [xor_odd, Nat.xor_div_two]
  split
  · rw [Nat.xor_assoc, Nat.xor_comm (x / 2), ← Nat.xor_assoc]
  · rfl
theorem crcShs_bits (r b : Nat) : ∀ k, crcShs (r ^^^ b) k = crcBits r b k ^^^ (b / 2 ^ k)
  | 0 => by simp [crcShs, crcBits]
  | k + 1 => by
    show crcSh (crcShs (r ^^^ b) k) = crcBit (crcBits r b k) (b / 2 ^ k) ^^^ (b / 2 ^ (k + 1))
    rw [crcShs_bits r b k, crcSh_bit, Nat.div_div_eq_div_mul, Nat.pow_succ]
theorem crcSh_even (x z : Nat) : crcSh (x ^^^ (2 * z)) = crcSh x ^^^ z := by
  unfold crcSh
  rw [xor_odd, Nat.xor_div_two, show (x + 2 * z) % 2 = x % 2 by omega, show 2 * z / 2 = z by omega]
  split
  · rw [Nat.xor_assoc, Nat.xor_comm z, ← Nat.xor_assoc]
  · rfl
theorem crcShs_even (x z : Nat) : ∀ k, crcShs (x ^^^ (2 ^ k * z)) k = crcShs x k ^^^ z
  | 0 => by simp [crcShs]
  | k + 1 => by
    show crcSh (crcShs (x ^^^ (2 ^ (k + 1) * z)) k) = crcSh (crcShs x k) ^^^ z
    rw [Nat.pow_succ, Nat.mul_assoc, crcShs_even x (2 * z) k, crcSh_even]
theorem crc_parts (r : Nat) : r = (r % 256) ^^^ (256 * (r / 256)) := by
  have h : 256 * (r / 256) + r % 256 = (2 ^ 8 * (r / 256)) ||| (r % 256) := Nat.two_pow_add_eq_or_of_lt (i := 8) (b := r % 256) (by omega) (r / 256)
  have h2 : (r % 256) ^^^ (256 * (r / 256)) = (2 ^ 8 * (r / 256)) ||| (r % 256) := by
    apply Nat.eq_of_testBit_eq
    intro i
    rw [Nat.testBit_xor, Nat.testBit_or, show 256 * (r / 256) = 2 ^ 8 * (r / 256) from rfl, Nat.testBit_two_pow_mul, show r % 256 = r % 2 ^ 8 from rfl, Nat.testBit_mod_two_pow]
    by_cases hi : i < 8
    · simp [hi, Nat.not_le.2 hi]
    · simp [hi, Nat.not_lt.1 hi]
  omega
theorem crc_table (r b : Nat) (hb : b < 256) : crcBits r b 8 = (r / 256) ^^^ crcT ((r % 256) ^^^ b) := by
  have h1 := crcShs_bits r b 8
  rw [show b / 2 ^ 8 = 0 by omega, Nat.xor_zero] at h1
  rw [← h1]
  have h2 := crcShs_even ((r % 256) ^^^ b) (r / 256) 8
  rw [show ((r % 256) ^^^ b) ^^^ (2 ^ 8 * (r / 256)) = r ^^^ b by
    rw [Nat.xor_assoc, Nat.xor_comm b, ← Nat.xor_assoc, show (2 ^ 8 * (r / 256)) = 256 * (r / 256) from rfl, ← crc_parts r]] at h2
  rw [h2, Nat.xor_comm]; rfl
end Go.Proofs.Ytgpgacncmoiefaa
