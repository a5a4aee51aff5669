/- The verifier's own text: FNV-1a over bytes, as numbers below 2^64. -/
import Derived.WalkKit
import Derived.Below
namespace Go.Proofs.Ytagajcmdbifamaa
open Go.RowKit

def hashStep (r : Nat) (c : UInt8) : Nat := ((r ^^^ c.toNat) * 1099511628211) % 18446744073709551616
def hashFrom (r : Nat) (l : List UInt8) : Nat := l.foldl hashStep r
def hashL (l : List UInt8) : Nat := hashFrom 14695981039346656037 l
def w64 (r : Nat) : Int := if r < 9223372036854775808 then (r : Int) else (r : Int) - 18446744073709551616

theorem hashFrom_snoc (r : Nat) (l : List UInt8) (c : UInt8) : hashFrom r (l ++ [c]) = hashStep (hashFrom r l) c := by
  unfold hashFrom
  rw [List.foldl_append, List.foldl_cons, List.foldl_nil]
theorem hashL_snoc (l : List UInt8) (c : UInt8) : hashL (l ++ [c]) = hashStep (hashL l) c := hashFrom_snoc _ l c
theorem hashStep_lt (r : Nat) (c : UInt8) : hashStep r c < 18446744073709551616 := by unfold hashStep; omega
theorem hashL_lt (l : List UInt8) : hashL l < 18446744073709551616 := by
  rcases List.eq_nil_or_concat l with rfl | ⟨l', c, rfl⟩
  · decide
  · rw [List.concat_eq_append, hashL_snoc]; exact hashStep_lt _ _
theorem hash_take (s : ByteArray) (k : Nat) (h : k < s.size) : hashL (s.data.toList.take (k + 1)) = hashStep (hashL (s.data.toList.take k)) s[k] := by
  have hl : k < s.data.toList.length := by simpa using h
  rw [List.take_succ_eq_append_getElem hl, hashL_snoc]; rfl

theorem wrap_i64 (n : Nat) : IntKind.i64.wrap (n : Int) = w64 (n % 18446744073709551616) := by
  simp only [IntKind.wrap, IntKind.bits, IntKind.signed, w64]
  simp
  split <;> split <;> omega
theorem wrap_u64 (n : Nat) : IntKind.u64.wrap (n : Int) = ((n % 18446744073709551616 : Nat) : Int) := by
  simp only [IntKind.wrap, IntKind.bits, IntKind.signed]
  simp

theorem wrap_congr (a b : Int) (h : a % 18446744073709551616 = b % 18446744073709551616) : IntKind.i64.wrap a = IntKind.i64.wrap b := by
  simp only [IntKind.wrap, IntKind.bits, IntKind.signed]
  simp [h]
theorem w64_mod (r : Nat) : w64 r % 18446744073709551616 = (r : Int) % 18446744073709551616 := by
  unfold w64; split <;> omega

theorem ofInt_w64 (r : Nat) : BitVec.ofInt 64 (w64 r) = BitVec.ofNat 64 r := by
  apply BitVec.eq_of_toNat_eq
  rw [BitVec.toNat_ofInt, BitVec.toNat_ofNat]
  have := w64_mod r
  simp
  omega

theorem xor_lt64 (r : Nat) (c : UInt8) (h : r < 18446744073709551616) : r ^^^ c.toNat < 18446744073709551616 :=
  Nat.xor_lt_two_pow (n := 64) (by omega) (by have := c.toNat_lt; omega)

theorem xor_w64 (r : Nat) (c : UInt8) (h : r < 18446744073709551616) : bits .xor .i64 (w64 r) (c.toNat : Int) = w64 (r ^^^ c.toNat) := by
  have hc := c.toNat_lt
  have hx := xor_lt64 r c h
  show IntKind.i64.wrap ((BitVec.ofInt 64 (w64 r) ^^^ BitVec.ofInt 64 (c.toNat : Int)).toNat : Int) = _
  rw [ofInt_w64 r, BitVec.ofInt_natCast, BitVec.toNat_xor, BitVec.toNat_ofNat, BitVec.toNat_ofNat, Nat.mod_eq_of_lt h, Nat.mod_eq_of_lt (by omega), wrap_i64, Nat.mod_eq_of_lt hx]

theorem xor_u64 (r : Nat) (c : UInt8) (h : r < 18446744073709551616) : bits .xor .u64 (r : Int) (c.toNat : Int) = ((r ^^^ c.toNat : Nat) : Int) := by
  have hc := c.toNat_lt
  have hx := xor_lt64 r c h
  show IntKind.u64.wrap ((BitVec.ofInt 64 (r : Int) ^^^ BitVec.ofInt 64 (c.toNat : Int)).toNat : Int) = _
  rw [BitVec.ofInt_natCast, BitVec.ofInt_natCast, BitVec.toNat_xor, BitVec.toNat_ofNat, BitVec.toNat_ofNat, Nat.mod_eq_of_lt h, Nat.mod_eq_of_lt (by omega), wrap_u64, Nat.mod_eq_of_lt hx]

theorem stepI (r : Nat) (c : UInt8) (h : r < 18446744073709551616) : IntKind.i64.wrap (bits .xor .i64 (w64 r) (c.toNat : Int) * 1099511628211) = w64 (hashStep r c) := by
  rw [xor_w64 r c h, hashStep, ← wrap_i64]
  apply wrap_congr
  rw [Int.mul_emod, w64_mod _, ← Int.mul_emod]
  rfl
theorem stepU (r : Nat) (c : UInt8) (h : r < 18446744073709551616) : IntKind.u64.wrap (bits .xor .u64 (r : Int) (c.toNat : Int) * 1099511628211) = ((hashStep r c : Nat) : Int) := by
  rw [xor_u64 r c h, hashStep, ← wrap_u64]
  rfl
end Go.Proofs.Ytagajcmdbifamaa
