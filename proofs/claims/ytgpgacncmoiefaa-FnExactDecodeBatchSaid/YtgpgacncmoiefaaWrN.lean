/- The verifier's own text: numbers of eight bytes, and who is short; split off BatD. -/
import Derived.Test.YtgpgacncmoiefaaRdL
namespace Go.Proofs.Ytgpgacncmoiefaa
open Go.RowKit

def I64 (v : Int) : Prop := -9223372036854775808 ≤ v ∧ v ≤ 9223372036854775807
def wrapN (n : Nat) : Int := IntKind.i64.wrap (n : Int)
theorem wrapN_eq (n : Nat) : wrapN n = if n % 18446744073709551616 < 9223372036854775808 then ((n % 18446744073709551616 : Nat) : Int) else ((n % 18446744073709551616 : Nat) : Int) - 18446744073709551616 := by
  unfold wrapN IntKind.wrap
  simp [IntKind.bits, IntKind.signed]
  split <;> split <;> omega
theorem wrapN_small {n : Nat} (h : n < 9223372036854775808) : wrapN n = (n : Int) := by rw [wrapN_eq, if_pos (by omega)]; omega
theorem wrapN_rng (n : Nat) : I64 (wrapN n) := by rw [wrapN_eq]; unfold I64; split <;> omega

/-- The eight bytes of a number, read again, are the number. -/
theorem numS_mod (n : Nat) (v : Int) : numS n v = numS n ((v % (256 ^ n : Nat)).toNat : Nat) := by
  have key : ∀ m, m ≤ n → numI v m = numI ((v % (256 ^ n : Nat)).toNat : Nat) m := by
    intro m
    induction m with
    | zero => intro _; rfl
    | succ m ih =>
      intro hm
      rw [numI, numI, ih (by omega)]
      congr 1
      have sh : ∀ (u : Int) k, shrN u k = u / ((256 ^ k : Nat) : Int) := by
        intro u k
        induction k with
        | zero => simp [shrN]
        | succ k ih => rw [shrN, ih, Int.ediv_ediv_of_nonneg (Int.natCast_nonneg _), Nat.pow_succ, Int.natCast_mul]; rfl
      have h0 : 0 ≤ v % ((256 ^ n : Nat) : Int) := Int.emod_nonneg _ (by have := Nat.pow_pos (n := n) (show 0 < 256 by omega); omega)
      rw [sh, sh, Int.toNat_of_nonneg h0]
      obtain ⟨d, hd⟩ : ∃ d, n = m + 1 + d := ⟨n - m - 1, by omega⟩
      have e : ((256 ^ n : Nat) : Int) = ((256 ^ m : Nat) : Int) * (256 * ((256 ^ d : Nat) : Int)) := by
        subst hd
        rw [Nat.pow_add, Nat.pow_add, Nat.pow_one, Nat.mul_assoc, Int.natCast_mul, Int.natCast_mul]
        rfl
      have hp : (0 : Int) < ((256 ^ m : Nat) : Int) := by have := Nat.pow_pos (n := m) (show 0 < 256 by omega); omega
      generalize ((256 ^ m : Nat) : Int) = A at *
      generalize ((256 ^ d : Nat) : Int) = D at *
      rw [e]
      have h1 : v % (A * (256 * D)) = v - A * (256 * D * (v / (A * (256 * D)))) := by
        rw [Int.emod_def]; congr 1; rw [Int.mul_assoc]
      rw [h1, show v - A * (256 * D * (v / (A * (256 * D)))) = v + A * (-(256 * D * (v / (A * (256 * D))))) by rw [Int.mul_neg]; rfl, Int.add_mul_ediv_left _ _ (by omega)]
      rw [show -(256 * D * (v / (A * (256 * D)))) = 256 * (-(D * (v / (A * (256 * D))))) by rw [Int.mul_neg, Int.mul_assoc], Int.add_mul_emod_self_left]
  show strOfNums _ = strOfNums _
  rw [key n (Nat.le_refl _)]
theorem be_numS8 (v : Int) (h : I64 v) : wrapN (beL (numS 8 v).data.toList) = v := by
  obtain ⟨h0, h1⟩ := h
  have e256 : ((256 ^ 8 : Nat) : Int) = 18446744073709551616 := by decide
  have hm : ((v % ((256 ^ 8 : Nat) : Int)).toNat : Int) = v % 18446744073709551616 := by rw [e256]; omega
  rw [numS_mod, be_numS 8 _ (by
    have : (256 : Nat) ^ 8 = 18446744073709551616 := by decide
    rw [this]
    omega), wrapN_eq]
  split <;> omega

/-- Whoever was short stays so. -/
theorem take_short {n : Nat} {r : Rd} (h : r.short = true) : (takeR n r).2.short = true := by
  unfold takeR; split <;> simp [h]
theorem num_short {k : Nat} {r : Rd} (h : r.short = true) : (numR k r).2.short = true := by rw [numR]; exact take_short h
theorem text_short {k : Nat} {r : Rd} (h : r.short = true) : (textR k r).2.short = true := by rw [textR]; exact take_short (num_short h)
theorem num_full {k : Nat} {r : Rd} {v : Int} {q : ByteArray} (h : r.rest = numS k v ++ q) : numR k r = (beL (numS k v).data.toList, ⟨q, r.short⟩) := by
  have h1 := take_full (n := k) h (numS_size k _)
  unfold numR
  rw [h1]
end Go.Proofs.Ytgpgacncmoiefaa
