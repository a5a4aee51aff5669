import Derived.Test.YteohobkigjmjlaaDoorProg
import Derived.Test.YteohobkigjmjlaaDoorRdL
import Derived.Test.YteohobkigjmjlaaDoorSGet
namespace Go.Proofs.YteohobkigjmjlaaDoor
open Go.RowKit

def partZ (s : ByteArray) (p n : Nat) : Nat := beL (sectL s p n)
/-- The part of s at p: its length in n bytes, then its bytes; and the place behind it. -/
def partN (s : ByteArray) (p n : Nat) : Option (ByteArray × Nat) := if p + n ≤ s.size ∧ p + n + partZ s p n ≤ s.size then some (s.extract (p + n) (p + n + partZ s p n), p + n + partZ s p n) else none

theorem ret_part {t u : ByteArray} {a b : Int} (h1 : t = u) (h2 : a = b) : Ending.returned (.tuple #[.string t, .int .i64 a]) = .returned (.tuple #[.string u, .int .i64 b]) := by rw [h1, h2]
theorem specPart_neg (s : ByteArray) (n : Nat) (w : World) :
    Calls Tryd.prog 40 #[.string s, .int .i64 (-1), .int .i64 (n : Nat)] w fun e w' => e = .returned (.tuple #[.string ByteArray.empty, .int .i64 (-1)]) ∧ w' = w := by
  go_enter Tryd.func40, Tryd.ntmps40
  go_wp2
  go_ret2
  exact ⟨rfl, rfl⟩
set_option maxRecDepth 100000 in
set_option maxHeartbeats 1000000 in
theorem specPart_none (s : ByteArray) (p n : Nat) (w : World) (hs : s.size ≤ 1000000000) (hp : p ≤ 1000000000) (hn : n ≤ 2) (h : partN s p n = none) :
    Calls Tryd.prog 40 #[.string s, .int .i64 (p : Nat), .int .i64 (n : Nat)] w fun e w' => e = .returned (.tuple #[.string ByteArray.empty, .int .i64 (-1)]) ∧ w' = w := by
  by_cases h1 : p + n ≤ s.size
  · have HG : Hid (∀ W, Calls Tryd.prog 59 #[.string s, .int .i64 (p : Nat), .int .i64 (n : Nat)] W fun e w' => e = .returned (.int .i64 (partZ s p n : Nat)) ∧ w' = W) := fun W => specGet_any s p n W (by unfold maxLen; omega) h1 (by omega)
    have h2 : ¬ p + n + partZ s p n ≤ s.size := fun h2 => by
      unfold partN at h
      rw [if_pos ⟨h1, h2⟩] at h
      exact absurd h (by simp)
    have hz : partZ s p n < 65536 := by
      have h3 := beL_lt (sectL s p n)
      rw [sectL_length h1] at h3
      have h4 : 256 ^ n ≤ 256 ^ 2 := Nat.pow_le_pow_right (by omega) hn
      unfold partZ
      omega
    clear h
    generalize partZ s p n = Z at *
    go_enter Tryd.func40, Tryd.ntmps40
    go_wp2_with fail
    refine (HG.out _).mono ?_
    rintro e w1 ⟨rfl, hw⟩
    replace hw := hw.symm
    subst hw
    go_wp2
    go_ret2
    exact ⟨rfl, rfl⟩
  · clear h
    go_enter Tryd.func40, Tryd.ntmps40
    go_wp2
    go_ret2
    exact ⟨rfl, rfl⟩
set_option maxRecDepth 100000 in
set_option maxHeartbeats 1000000 in
theorem specPart_some (s : ByteArray) (p n : Nat) (t : ByteArray) (q : Nat) (w : World) (hs : s.size ≤ 1000000000) (hn : n ≤ 2) (h : partN s p n = some (t, q)) :
    Calls Tryd.prog 40 #[.string s, .int .i64 (p : Nat), .int .i64 (n : Nat)] w fun e w' => e = .returned (.tuple #[.string t, .int .i64 (q : Nat)]) ∧ w' = w := by
  unfold partN at h
  split at h
  · rename_i hh
    obtain ⟨h1, h2⟩ := hh
    simp only [Option.some.injEq, Prod.mk.injEq] at h
    have HG : Hid (∀ W, Calls Tryd.prog 59 #[.string s, .int .i64 (p : Nat), .int .i64 (n : Nat)] W fun e w' => e = .returned (.int .i64 (partZ s p n : Nat)) ∧ w' = W) := fun W => specGet_any s p n W (by unfold maxLen; omega) h1 (by omega)
    have HT : Hid (s.extract (p + n) (p + n + partZ s p n) = t ∧ p + n + partZ s p n = q) := h
    clear h
    generalize partZ s p n = Z at *
    go_enter Tryd.func40, Tryd.ntmps40
    go_wp2_with fail
    refine (HG.out _).mono ?_
    rintro e w1 ⟨rfl, hw⟩
    replace hw := hw.symm
    subst hw
    go_wp2
    go_ret2
    exact ⟨ret_part HT.out.1 (by rw [← HT.out.2]; go_num), rfl⟩
  · exact absurd h (by simp)
theorem part_at {s t : ByteArray} {n p : Nat} {pre post : List UInt8} (h : s.data.toList = pre ++ ((numS n (t.size : Nat)).data.toList ++ (t.data.toList ++ post))) (hp : pre.length = p) (ht : t.size < 256 ^ n) : partN s p n = some (t, p + n + t.size) := by
  have hnz : (numS n (t.size : Nat)).data.toList.length = n := by rw [← bsize]; exact numS_size n _
  have hz : partZ s p n = t.size := by
    unfold partZ sectL
    rw [h, ← hp, List.drop_left]
    have e : ((numS n (t.size : Nat)).data.toList ++ (t.data.toList ++ post)).take n = (numS n (t.size : Nat)).data.toList := List.take_left' hnz
    rw [e]
    exact be_numS n t.size ht
  have hsz : s.size = p + n + t.size + post.length := by
    rw [bsize, h]
    simp only [List.length_append]
    rw [hp, hnz, ← bsize]
    omega
  unfold partN
  rw [hz, if_pos ⟨by omega, by omega⟩]
  congr 2
  apply bext
  rw [blist_extract, h, ← List.append_assoc, ← List.append_assoc]
  have hl : (pre ++ (numS n (t.size : Nat)).data.toList).length = p + n := by rw [List.length_append, hp, hnz]
  have hl2 : (pre ++ (numS n (t.size : Nat)).data.toList ++ t.data.toList).length = p + n + t.size := by rw [List.length_append, hl, ← bsize]
  rw [List.take_left' hl2, List.drop_left' hl]
theorem part_le {s : ByteArray} {p n : Nat} {t : ByteArray} {q : Nat} (h : partN s p n = some (t, q)) : q ≤ s.size ∧ t.size ≤ s.size ∧ p + n ≤ q := by
  unfold partN at h
  split at h
  · rename_i hh
    simp only [Option.some.injEq, Prod.mk.injEq] at h
    obtain ⟨rfl, rfl⟩ := h
    refine ⟨hh.2, ?_, by omega⟩
    simp
    omega
  · exact absurd h (by simp)
end Go.Proofs.YteohobkigjmjlaaDoor
