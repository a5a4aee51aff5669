import Derived.Test.YtgpgacncmoiefaaBase
import Derived.Laws.Bits64
namespace Go.Proofs.Ytgpgacncmoiefaa
open Go.RowKit

/-- One bit of the register. -/
def crcBit (reg x : Nat) : Nat := if (reg + x) % 2 = 1 then (reg / 2) ^^^ 2197175160 else reg / 2
/-- The first k bits of a byte. -/
def crcBits (reg b : Nat) : Nat → Nat
  | 0 => reg
  | k + 1 => crcBit (crcBits reg b k) (b / 2 ^ k)
def crcByte (reg : Nat) (c : UInt8) : Nat := crcBits reg c.toNat 8
def crcL (l : List UInt8) : Nat := l.foldl crcByte 4294967295
def crcV (s : ByteArray) : Nat := 4294967295 - crcL s.data.toList

theorem crcBit_lt {reg x : Nat} (h : reg < 4294967296) : crcBit reg x < 4294967296 := by
  unfold crcBit
  split
  · exact Nat.xor_lt_two_pow (n := 32) (by omega) (by omega)
  · omega
theorem crcBits_lt {reg b : Nat} (h : reg < 4294967296) : ∀ k, crcBits reg b k < 4294967296
  | 0 => h
  | k + 1 => crcBit_lt (crcBits_lt h k)
theorem crcL_lt (l : List UInt8) : crcL l < 4294967296 := by
  have hg : ∀ (l : List UInt8) (r : Nat), r < 4294967296 → l.foldl crcByte r < 4294967296 := fun l => by
    induction l with
    | nil => exact fun r h => h
    | cons c l ih => exact fun r h => ih _ (crcBits_lt h 8)
  exact hg l _ (by omega)
theorem crcL_snoc (l : List UInt8) (c : UInt8) : crcL (l ++ [c]) = crcByte (crcL l) c := by simp [crcL]
theorem crcV_lt (s : ByteArray) : crcV s < 4294967296 := by unfold crcV; omega

theorem xor_i64 (a b : Nat) (ha : a < 4611686018427387904) (hb : b < 4611686018427387904) : bits .xor .i64 (a : Int) (b : Int) = ((a ^^^ b : Nat) : Int) := by
  have hx : a ^^^ b < 2 ^ 62 := Nat.xor_lt_two_pow (by omega) (by omega)
  show IntKind.i64.wrap ((BitVec.ofInt 64 (a : Int) ^^^ BitVec.ofInt 64 (b : Int)).toNat : Int) = _
  rw [BitVec.toNat_xor, BitVec.ofInt_natCast, BitVec.ofInt_natCast, BitVec.toNat_ofNat, BitVec.toNat_ofNat, Nat.mod_eq_of_lt (by omega), Nat.mod_eq_of_lt (by omega)]
  simp only [IntKind.wrap, IntKind.bits, IntKind.signed]
  simp
  omega
end Go.Proofs.Ytgpgacncmoiefaa
