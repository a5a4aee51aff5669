/- The verifier's own text: taking an encoding apart from its beginning on. -/
import Derived.Test.YteohobkigjmjlaaDoorS8L
namespace Go.Proofs.YteohobkigjmjlaaDoor
open Go.RowKit

theorem bext {x y : ByteArray} (h : x.data.toList = y.data.toList) : x = y := by
  cases x; cases y
  simp only [ByteArray.mk.injEq]
  exact Array.toList_inj.1 h
theorem blist_append (x y : ByteArray) : (x ++ y).data.toList = x.data.toList ++ y.data.toList := by simp
theorem blist_extract (s : ByteArray) (i j : Nat) : (s.extract i j).data.toList = (s.data.toList.take j).drop i := by
  rw [ByteArray.data_extract, Array.toList_extract, List.extract_eq_drop_take']
theorem bsize (s : ByteArray) : s.size = s.data.toList.length := by simp

structure Rd where
  rest : ByteArray
  short : Bool
def takeR (n : Nat) (r : Rd) : ByteArray × Rd := if r.rest.size < n then (ByteArray.empty, ⟨r.rest, true⟩) else (r.rest.extract 0 n, ⟨r.rest.extract n r.rest.size, r.short⟩)
def numR (k : Nat) (r : Rd) : Nat × Rd := (beL (takeR k r).1.data.toList, (takeR k r).2)
def textR (k : Nat) (r : Rd) : ByteArray × Rd := takeR (numR k r).1 (numR k r).2
theorem take_le (n : Nat) (r : Rd) : (takeR n r).1.size ≤ n ∧ (takeR n r).1.size ≤ r.rest.size ∧ (takeR n r).2.rest.size ≤ r.rest.size := by
  unfold takeR
  split
  · exact ⟨by simp, by simp, Nat.le_refl _⟩
  · refine ⟨?_, ?_, ?_⟩ <;> simp <;> omega
theorem take_sound {n : Nat} {r : Rd} (h : (takeR n r).2.short = false) : r.short = false ∧ (takeR n r).1.size = n ∧ r.rest = (takeR n r).1 ++ (takeR n r).2.rest := by
  unfold takeR at *
  split at h
  · exact absurd h (by simp)
  · rename_i hn
    rw [if_neg hn]
    refine ⟨h, by simp; omega, ?_⟩
    apply bext
    rw [blist_append, blist_extract, blist_extract, List.drop_zero, bsize, List.take_length, List.take_append_drop]
theorem take_full {n : Nat} {r : Rd} {t q : ByteArray} (h : r.rest = t ++ q) (hn : t.size = n) : takeR n r = (t, ⟨q, r.short⟩) := by
  have hz : r.rest.size = n + q.size := by rw [h, ByteArray.size_append, hn]
  unfold takeR
  rw [if_neg (by omega)]
  have e1 : r.rest.extract 0 n = t := by
    apply bext
    rw [blist_extract, List.drop_zero, h, blist_append, ← hn, bsize, List.take_left]
  have e2 : r.rest.extract n r.rest.size = q := by
    apply bext
    rw [blist_extract, bsize r.rest, List.take_length, h, blist_append, ← hn, bsize, List.drop_left]
  rw [e1, e2]
theorem text_sound {k : Nat} {r : Rd} (h : (textR k r).2.short = false) : r.short = false ∧ r.rest = numS k ((textR k r).1.size : Nat) ++ ((textR k r).1 ++ (textR k r).2.rest) := by
  obtain ⟨h1, h2, h3⟩ := take_sound (r := (numR k r).2) h
  obtain ⟨g1, g2, g3⟩ := take_sound (n := k) (r := r) h1
  refine ⟨g1, ?_⟩
  have e : numS k ((textR k r).1.size : Nat) = (takeR k r).1 := by
    show numS k ((takeR (numR k r).1 (numR k r).2).1.size : Nat) = _
    rw [h2]
    have := numS_be (takeR k r).1.data.toList k (by rw [← bsize]; exact g2)
    show numS k (beL (takeR k r).1.data.toList : Nat) = _
    rw [this]
  rw [e]
  have h3' : (takeR k r).2.rest = (textR k r).1 ++ (textR k r).2.rest := h3
  rw [← h3']
  exact g3
theorem text_full {k : Nat} {r : Rd} {t q : ByteArray} (h : r.rest = numS k (t.size : Nat) ++ (t ++ q)) (hk : t.size < 256 ^ k) : textR k r = (t, ⟨q, r.short⟩) := by
  have h1 := take_full (n := k) h (numS_size k _)
  have e1 : (numR k r).1 = t.size := by
    show beL (takeR k r).1.data.toList = _
    rw [h1]
    exact be_numS k t.size hk
  have e2 : (numR k r).2 = ⟨t ++ q, r.short⟩ := by
    show (takeR k r).2 = _
    rw [h1]
  rw [textR, e1, e2]
  exact take_full rfl rfl
theorem text_le (k : Nat) (r : Rd) : (textR k r).1.size ≤ r.rest.size ∧ (textR k r).2.rest.size ≤ r.rest.size := by
  have h1 := take_le k r
  have h2 := take_le (numR k r).1 (numR k r).2
  have e : (numR k r).2 = (takeR k r).2 := rfl
  rw [e] at h2
  exact ⟨by have := h2.2.1; unfold textR; rw [e]; omega, by have := h2.2.2; unfold textR; rw [e]; omega⟩
theorem num_lt (k : Nat) (r : Rd) : (numR k r).1 < 256 ^ k := by
  have h := beL_lt (takeR k r).1.data.toList
  have h1 := (take_le k r).1
  have h2 : 256 ^ (takeR k r).1.data.toList.length ≤ 256 ^ k := Nat.pow_le_pow_right (by omega) (by rw [← bsize]; exact h1)
  show beL (takeR k r).1.data.toList < _
  omega
end Go.Proofs.YteohobkigjmjlaaDoor
