import Derived.Test.YtgpgacncmoiefaaProg
import Derived.Test.YtgpgacncmoiefaaLooN
namespace Go.Proofs.Ytgpgacncmoiefaa
open Go.RowKit

theorem wrap_step (X b : Nat) : wrap64 (wrap64 ((X : Int) * 256) + (b : Int)) = wrapN (X * 256 + b) := by
  rw [wrapN_eq]
  unfold wrap64
  split <;> omega
set_option maxRecDepth 100000 in
set_option maxHeartbeats 1000000 in
theorem specGetW_any (s : ByteArray) (p n : Nat) (w : World) (hs : s.size ≤ maxLen) (h : p + n ≤ s.size) (hn : n ≤ 8) :
    Calls Try.prog 67 #[.string s, .int .i64 p, .int .i64 n] w fun e w' => e = .returned (.int .i64 (wrapN (beL (sectL s p n)))) ∧ w' = w := by
  unfold maxLen at hs
  go_enter Try.func67, Try.ntmps67
  go_wp2
  go_loop [7, 8] (fun v i => ∃ (k V : Nat) (Z : Int), k ≤ n ∧ i = .int .i64 k ∧ v = .int .i64 Z ∧ Hid (Z = wrapN V) ∧ Hid (V = beL (sectL s p k))) (fun _ i => n - (intOf i).toNat)
  case atStart => exact ⟨0, 0, 0, Nat.zero_le _, rfl, rfl, by show _ = _; rw [wrapN_small (by omega)]; rfl, rfl⟩
  case round =>
    obtain ⟨k, V, Z, hk, rfl, rfl, hZ, hV⟩ := hrel
    by_cases hlt : k < n
    · have hV7 : V < 72057594037927936 := by
        have h1 := beL_lt (sectL s p k)
        rw [sectL_length (by omega), ← hV.out] at h1
        have h2 : 256 ^ k ≤ 256 ^ 7 := Nat.pow_le_pow_right (by omega) (by omega)
        omega
      obtain rfl : Z = (V : Int) := by rw [hZ.out, wrapN_small (by omega)]
      have hi0 : (0 : Int) ≤ (p : Int) + (k : Int) := by omega
      have hi1 : (p : Int) + (k : Int) < (s.size : Int) := by omega
      have hi2 : p + k < s.size := by omega
      have hU := s[p + k].toNat_lt
      have hw := wrap_step V s[p + k].toNat
      go_wp2
      refine ⟨⟨k + 1, V * 256 + s[p + k].toNat, wrapN (V * 256 + s[p + k].toNat), by omega, by go_num, ?_, rfl, by show _ = _; rw [sectL_snoc hi2, beL_snoc, hV.out]⟩, by simp [intOf]; omega⟩
      exact congrArg (Value.int .i64) hw
    · go_wp2
      go_ret
      have e : k = n := by omega
      subst e
      exact ⟨ret_int (by rw [hZ.out, hV.out]), rfl⟩

theorem ret_numI {a b : Int} {c d : Int} (h1 : a = b) (h2 : c = d) : Ending.returned (.tuple #[.int .i64 a, .int .i64 c]) = .returned (.tuple #[.int .i64 b, .int .i64 d]) := by rw [h1, h2]
set_option maxRecDepth 100000 in
set_option maxHeartbeats 1000000 in
theorem specNumL_any (s : ByteArray) (n : Nat) (p : Option Nat) (w : World) (hs : s.size ≤ 1000000000) (hp : ∀ q, p = some q → q ≤ 1000000000) (hn : n ≤ 8) :
    Calls Try.prog 54 #[.string s, .int .i64 (posV p), .int .i64 (n : Nat)] w fun e w' => e = .returned (.tuple #[.int .i64 (wrapN (lNum s n p).1), .int .i64 (posV (lNum s n p).2)]) ∧ w' = w := by
  have e0 : wrapN 0 = 0 := wrapN_small (by omega)
  cases p with
  | none =>
    show Calls _ _ #[.string s, .int .i64 (-1), .int .i64 (n : Nat)] w fun e w' => e = .returned (.tuple #[.int .i64 (wrapN 0), .int .i64 (-1)]) ∧ w' = w
    rw [e0]
    go_enter Try.func54, Try.ntmps54
    go_wp2
    go_ret2
    exact ⟨rfl, rfl⟩
  | some q =>
    have hq := hp q rfl
    rw [lNum_some]
    show Calls _ _ #[.string s, .int .i64 (q : Nat), .int .i64 (n : Nat)] w fun e w' => e = .returned (.tuple #[.int .i64 (wrapN (if q + n ≤ s.size then (beL (sectL s q n), some (q + n)) else (0, none)).1), .int .i64 (posV (if q + n ≤ s.size then (beL (sectL s q n), some (q + n)) else (0, none)).2)]) ∧ w' = w
    clear hp
    by_cases h : q + n ≤ s.size
    · rw [if_pos h]
      have HG : Hid (∀ W, Calls Try.prog 67 #[.string s, .int .i64 (q : Nat), .int .i64 (n : Nat)] W fun e w' => e = .returned (.int .i64 (wrapN (beL (sectL s q n)))) ∧ w' = W) := fun W => specGetW_any s q n W (by unfold maxLen; omega) h hn
      show Calls _ _ #[.string s, .int .i64 (q : Nat), .int .i64 (n : Nat)] w fun e w' => e = .returned (.tuple #[.int .i64 (wrapN (beL (sectL s q n))), .int .i64 ((q + n : Nat) : Int)]) ∧ w' = w
      generalize wrapN (beL (sectL s q n)) = V at *
      have h' : ¬ ((q : Int) + (n : Int) > (s.size : Int)) := by omega
      go_enter Try.func54, Try.ntmps54
      go_wp2_with fail
      refine (HG.out _).mono ?_
      rintro e w1 ⟨rfl, hw⟩
      replace hw := hw.symm
      subst hw
      go_wp2
      go_ret2
      exact ⟨ret_numI rfl (by omega), rfl⟩
    · rw [if_neg h]
      show Calls _ _ #[.string s, .int .i64 (q : Nat), .int .i64 (n : Nat)] w fun e w' => e = .returned (.tuple #[.int .i64 (wrapN 0), .int .i64 (-1)]) ∧ w' = w
      rw [e0]
      have h' : (q : Int) + (n : Int) > (s.size : Int) := by omega
      go_enter Try.func54, Try.ntmps54
      go_wp2
      go_ret2
      exact ⟨rfl, rfl⟩
theorem specPartL_any (s : ByteArray) (n : Nat) (p : Option Nat) (w : World) (hs : s.size ≤ 1000000000) (hp : ∀ q, p = some q → q ≤ 1000000000) (hn : n ≤ 2) :
    Calls Try.prog 55 #[.string s, .int .i64 (posV p), .int .i64 (n : Nat)] w fun e w' => e = .returned (.tuple #[.string (lPart s n p).1, .int .i64 (posV (lPart s n p).2)]) ∧ w' = w := by
  cases p with
  | none => exact specPart_neg s n w
  | some q =>
    cases h : partN s q n with
    | none => rw [lPart_not h]; exact specPart_none s q n w hs (hp q rfl) hn h
    | some tr =>
      obtain ⟨t, r⟩ := tr
      rw [lPart_at h]
      exact specPart_some s q n t r w hs hn h
theorem lNum_le {s : ByteArray} {n : Nat} {p : Option Nat} {q : Nat} (h : (lNum s n p).2 = some q) : q ≤ s.size := by
  cases p with
  | none => exact absurd h (by simp [lNum])
  | some p =>
    rw [lNum_some] at h
    split at h
    · simp at h; omega
    · simp at h
theorem lPart_le {s : ByteArray} {n : Nat} {p : Option Nat} {q : Nat} (h : (lPart s n p).2 = some q) : q ≤ s.size := by
  cases p with
  | none => exact absurd h (by simp [lPart])
  | some p =>
    cases hh : partN s p n with
    | none => rw [lPart_not hh] at h; simp at h
    | some tr =>
      obtain ⟨t, r⟩ := tr
      rw [lPart_at hh] at h
      simp at h
      have := (part_le hh).1
      omega
end Go.Proofs.Ytgpgacncmoiefaa
