import Derived.Test.YtoecnlhnfhongaaGreatDoorProg
import Derived.Test.YtoecnlhnfhongaaGreatDoorJ02BatL
import Derived.Test.YtoecnlhnfhongaaGreatDoorJ09Win
namespace Go.Proofs.YtoecnlhnfhongaaGreatDoor
open Go.RowKit

theorem if_iff {C D : Prop} [Decidable C] [Decidable D] {α : Type} {x y : α} (h : C ↔ D) : (if C then x else y) = if D then x else y := by
  by_cases c : C
  · rw [if_pos c, if_pos (h.1 c)]
  · rw [if_neg c, if_neg (fun d => c (h.2 d))]
theorem ret_two {a b c d : Int} (h1 : a = c) (h2 : b = d) : Ending.returned (.tuple #[.int .i64 a, .int .i64 b]) = .returned (.tuple #[.int .i64 c, .int .i64 d]) := by rw [h1, h2]

/-- The bits that the first j bytes give. -/
def bitsN (t : ByteArray) (v : Nat) : Nat → Nat
  | 0 => v
  | j + 1 => bitsN t v j * 64 + byteAt t (j + 1) % 64

/-- What is said of a rune of n bytes whose first gives v. -/
def runeIf (t : ByteArray) (n v least : Nat) : Nat × Nat :=
  if n ≤ t.size ∧ (∀ k, k < n → 1 ≤ k → byteAt t k / 64 = 2) ∧ least ≤ bitsN t v (n - 1) ∧ okR (bitsN t v (n - 1)) then (bitsN t v (n - 1), n) else (0, 0)

theorem l3r_2 (t : ByteArray) (h : byteAt t 0 / 32 = 6) : l3r t = runeIf t 2 (byteAt t 0 % 32) 128 := by
  have h0 := byteAt_lt t 0
  rw [l3r_two t h, runeIf]
  have e : bitsN t (byteAt t 0 % 32) (2 - 1) = byteAt t 0 % 32 * 64 + byteAt t 1 % 64 := rfl
  rw [e]
  refine if_iff ?_
  constructor
  · rintro ⟨h1, h2, h3⟩
    refine ⟨h1, fun k _ _ => ?_, h3, by unfold okR okRb; simp; omega⟩
    have : k = 1 := by omega
    subst this; exact h2
  · rintro ⟨h1, h2, h3, _⟩; exact ⟨h1, h2 1 (by omega) (by omega), h3⟩
theorem l3r_3 (t : ByteArray) (h : byteAt t 0 / 16 = 14) : l3r t = runeIf t 3 (byteAt t 0 % 16) 2048 := by
  rw [l3r_three t h, runeIf]
  have e : bitsN t (byteAt t 0 % 16) (3 - 1) = (byteAt t 0 % 16 * 64 + byteAt t 1 % 64) * 64 + byteAt t 2 % 64 := rfl
  rw [e]
  refine if_iff ?_
  constructor
  · rintro ⟨h1, h2, h3, h4, h5⟩
    refine ⟨h1, fun k _ _ => ?_, h4, h5⟩
    have : k = 1 ∨ k = 2 := by omega
    rcases this with rfl | rfl
    · exact h2
    · exact h3
  · rintro ⟨h1, h2, h3, h4⟩; exact ⟨h1, h2 1 (by omega) (by omega), h2 2 (by omega) (by omega), h3, h4⟩
theorem l3r_4 (t : ByteArray) (h : byteAt t 0 / 8 = 30) : l3r t = runeIf t 4 (byteAt t 0 % 8) 65536 := by
  rw [l3r_four t h, runeIf]
  have e : bitsN t (byteAt t 0 % 8) (4 - 1) = ((byteAt t 0 % 8 * 64 + byteAt t 1 % 64) * 64 + byteAt t 2 % 64) * 64 + byteAt t 3 % 64 := rfl
  rw [e]
  refine if_iff ?_
  constructor
  · rintro ⟨h1, h2, h3, h4, h5, h6⟩
    refine ⟨h1, fun k _ _ => ?_, h5, h6⟩
    have : k = 1 ∨ k = 2 ∨ k = 3 := by omega
    rcases this with rfl | rfl | rfl
    · exact h2
    · exact h3
    · exact h4
  · rintro ⟨h1, h2, h3, h4⟩; exact ⟨h1, h2 1 (by omega) (by omega), h2 2 (by omega) (by omega), h2 3 (by omega) (by omega), h3, h4⟩
theorem bitsN_lt (t : ByteArray) (v : Nat) : ∀ j, bitsN t v j < (v + 1) * 64 ^ j
  | 0 => by simp [bitsN]
  | j + 1 => by
    have := bitsN_lt t v j
    rw [bitsN, Nat.pow_succ, ← Nat.mul_assoc]
    omega

set_option maxRecDepth 100000 in
set_option maxHeartbeats 2000000 in
theorem specRune_any (t : ByteArray) (w : World) (h0 : 0 < t.size) (hs : t.size ≤ maxLen) :
    Calls Tryz.prog 64 #[.string t] w fun e w' => e = .returned (.tuple #[.int .i64 ((l3r t).1 : Nat), .int .i64 ((l3r t).2 : Nat)]) ∧ w' = w := by
  unfold maxLen at hs
  have hU : t[0].toNat < 256 := t[0].toNat_lt
  have HE0 : Hid (t[0].toNat = byteAt t 0) := byteAt_eq t 0 h0
  by_cases h1 : t[0].toNat < 128
  · have E : Hid (l3r t = (t[0].toNat, 1)) := by show _ = _; rw [HE0.out]; exact l3r_one t (by rw [← HE0.out]; exact h1)
    rw [E.out]
    go_enter Tryz.func64, Tryz.ntmps64
    go_wp2
    go_ret2
    exact ⟨rfl, rfl⟩
  by_cases h2 : t[0].toNat / 32 = 6
  · have E : Hid (l3r t = runeIf t 2 (t[0].toNat % 32) 128) := by show _ = _; rw [HE0.out]; exact l3r_2 t (by rw [← HE0.out]; exact h2)
    by_cases hz : t.size < 2
    · have E2 : Hid (l3r t = (0, 0)) := by show _ = _; rw [E.out, runeIf, if_neg (fun h => by have := h.1; omega)]
      rw [E2.out]
      go_enter Tryz.func64, Tryz.ntmps64
      go_wp2
      go_ret2
      exact ⟨rfl, rfl⟩
    have hb0 : ((t[0].toNat : Int) / 32 == 6) = true := by simp; omega
    go_enter Tryz.func64, Tryz.ntmps64
    go_wp2
    go_loop [6, 8] (fun v i => ∃ j V : Nat, 1 ≤ j ∧ j ≤ 2 ∧ i = .int .i64 j ∧ v = .int .i64 V ∧ V < 8388608 ∧ Hid (V = bitsN t (t[0].toNat % 32) (j - 1) ∧ ∀ k, k < j → 1 ≤ k → byteAt t k / 64 = 2)) (fun _ i => 2 - (intOf i).toNat)
    case atStart => exact ⟨1, t[0].toNat % 32, by omega, by omega, rfl, by go_num, by omega, rfl, fun k hk h => absurd h (by omega)⟩
    case round =>
      obtain ⟨j, V, hj1, hj, rfl, rfl, hV, HR⟩ := hrel
      by_cases hlt : j < 2
      · have hjs : j < t.size := by omega
        have hU2 : t[j].toNat < 256 := t[j].toNat_lt
        have HE : Hid (t[j].toNat = byteAt t j) := byteAt_eq t j hjs
        by_cases hc : t[j].toNat / 64 = 2
        · have hcb : ((t[j].toNat : Int) / 64 != 2) = false := by simp; omega
          go_wp2
          refine ⟨⟨j + 1, V * 64 + t[j].toNat % 64, by omega, by omega, by go_num, by go_num, ?_, ?_, ?_⟩, by simp [intOf]; omega⟩
          · have h1 := bitsN_lt t (t[0].toNat % 32) j
            have h2 : bitsN t (t[0].toNat % 32) j = V * 64 + t[j].toNat % 64 := by
              obtain ⟨m, rfl⟩ : ∃ m, j = m + 1 := ⟨j - 1, by omega⟩
              rw [bitsN, HE.out, HR.out.1]; rfl
            rw [h2] at h1
            have h3 : 64 ^ j ≤ 64 ^ 1 := Nat.pow_le_pow_right (by omega) (by omega)
            have h4 : (t[0].toNat % 32 + 1) * 64 ^ j ≤ 32 * 64 ^ 1 := Nat.mul_le_mul (by omega) h3
            omega
          · obtain ⟨m, rfl⟩ : ∃ m, j = m + 1 := ⟨j - 1, by omega⟩
            show _ = bitsN t _ (m + 1)
            rw [bitsN, HE.out, HR.out.1]; rfl
          · intro k hk hk1
            by_cases e : k = j
            · subst e; rw [← HE.out]; exact hc
            · exact HR.out.2 k (by omega) hk1
        · have hcb : ((t[j].toNat : Int) / 64 != 2) = true := by simp; omega
          have E2 : Hid (l3r t = (0, 0)) := by show _ = _; rw [E.out, runeIf, if_neg (fun h => hc (by rw [HE.out]; exact h.2.1 j hlt hj1))]
          go_wp2
          go_ret2
          exact ⟨ret_two (by simp [E2.out]) (by simp [E2.out]), rfl⟩
      · have ej : j = 2 := by omega
        subst ej
        have HV : Hid (bitsN t (t[0].toNat % 32) (2 - 1) = V) := HR.out.1.symm
        by_cases c1 : V < 128
        · have E2 : Hid (l3r t = (0, 0)) := by show _ = _; rw [E.out, runeIf, HV.out, if_neg (fun h => by have := h.2.2.1; omega)]
          go_wp2
          go_ret2
          exact ⟨ret_two (by simp [E2.out]) (by simp [E2.out]), rfl⟩
        by_cases c2 : 1114111 < V
        · have E2 : Hid (l3r t = (0, 0)) := by show _ = _; rw [E.out, runeIf, HV.out, if_neg (fun h => by have := (okR_is h.2.2.2).1; omega)]
          go_wp2
          go_ret2
          exact ⟨ret_two (by simp [E2.out]) (by simp [E2.out]), rfl⟩
        by_cases c3 : 55296 ≤ V ∧ V ≤ 57343
        · have E2 : Hid (l3r t = (0, 0)) := by show _ = _; rw [E.out, runeIf, HV.out, if_neg (fun h => (okR_is h.2.2.2).2 c3)]
          have HB : Hid (btwB (V : Int) 55296 57343 = true) := by show _ = _; simp [btwB]; omega
          go_wp2_with fail
          refine (between_any _ _ _ _).mono ?_
          rintro e w1 ⟨rfl, hw⟩
          rw [HB.out]
          replace hw := hw.symm
          subst hw
          go_wp2
          go_ret2
          exact ⟨ret_two (by simp [E2.out]) (by simp [E2.out]), rfl⟩
        · have E2 : Hid (l3r t = (V, 2)) := by show _ = _; rw [E.out, runeIf, HV.out, if_pos ⟨by omega, HR.out.2, by omega, okR_mk ⟨by omega, c3⟩⟩]
          have HB : Hid (btwB (V : Int) 55296 57343 = false) := by show _ = _; simp [btwB]; omega
          go_wp2_with fail
          refine (between_any _ _ _ _).mono ?_
          rintro e w1 ⟨rfl, hw⟩
          rw [HB.out]
          replace hw := hw.symm
          subst hw
          go_wp2
          go_ret2
          exact ⟨ret_two (by simp [E2.out]) (by simp [E2.out]), rfl⟩
  by_cases h3 : t[0].toNat / 16 = 14
  · have E : Hid (l3r t = runeIf t 3 (t[0].toNat % 16) 2048) := by show _ = _; rw [HE0.out]; exact l3r_3 t (by rw [← HE0.out]; exact h3)
    by_cases hz : t.size < 3
    · have E2 : Hid (l3r t = (0, 0)) := by show _ = _; rw [E.out, runeIf, if_neg (fun h => by have := h.1; omega)]
      rw [E2.out]
      go_enter Tryz.func64, Tryz.ntmps64
      go_wp2
      go_ret2
      exact ⟨rfl, rfl⟩
    have hb0 : ((t[0].toNat : Int) / 16 == 14) = true := by simp; omega
    have hb2 : ((t[0].toNat : Int) / 32 == 6) = false := by simp; omega
    go_enter Tryz.func64, Tryz.ntmps64
    go_wp2
    go_loop [6, 8] (fun v i => ∃ j V : Nat, 1 ≤ j ∧ j ≤ 3 ∧ i = .int .i64 j ∧ v = .int .i64 V ∧ V < 8388608 ∧ Hid (V = bitsN t (t[0].toNat % 16) (j - 1) ∧ ∀ k, k < j → 1 ≤ k → byteAt t k / 64 = 2)) (fun _ i => 3 - (intOf i).toNat)
    case atStart => exact ⟨1, t[0].toNat % 16, by omega, by omega, rfl, by go_num, by omega, rfl, fun k hk h => absurd h (by omega)⟩
    case round =>
      obtain ⟨j, V, hj1, hj, rfl, rfl, hV, HR⟩ := hrel
      by_cases hlt : j < 3
      · have hjs : j < t.size := by omega
        have hU2 : t[j].toNat < 256 := t[j].toNat_lt
        have HE : Hid (t[j].toNat = byteAt t j) := byteAt_eq t j hjs
        by_cases hc : t[j].toNat / 64 = 2
        · have hcb : ((t[j].toNat : Int) / 64 != 2) = false := by simp; omega
          go_wp2
          refine ⟨⟨j + 1, V * 64 + t[j].toNat % 64, by omega, by omega, by go_num, by go_num, ?_, ?_, ?_⟩, by simp [intOf]; omega⟩
          · have h1 := bitsN_lt t (t[0].toNat % 16) j
            have h2 : bitsN t (t[0].toNat % 16) j = V * 64 + t[j].toNat % 64 := by
              obtain ⟨m, rfl⟩ : ∃ m, j = m + 1 := ⟨j - 1, by omega⟩
              rw [bitsN, HE.out, HR.out.1]; rfl
            rw [h2] at h1
            have h3 : 64 ^ j ≤ 64 ^ 2 := Nat.pow_le_pow_right (by omega) (by omega)
            have h4 : (t[0].toNat % 16 + 1) * 64 ^ j ≤ 16 * 64 ^ 2 := Nat.mul_le_mul (by omega) h3
            omega
          · obtain ⟨m, rfl⟩ : ∃ m, j = m + 1 := ⟨j - 1, by omega⟩
            show _ = bitsN t _ (m + 1)
            rw [bitsN, HE.out, HR.out.1]; rfl
          · intro k hk hk1
            by_cases e : k = j
            · subst e; rw [← HE.out]; exact hc
            · exact HR.out.2 k (by omega) hk1
        · have hcb : ((t[j].toNat : Int) / 64 != 2) = true := by simp; omega
          have E2 : Hid (l3r t = (0, 0)) := by show _ = _; rw [E.out, runeIf, if_neg (fun h => hc (by rw [HE.out]; exact h.2.1 j hlt hj1))]
          go_wp2
          go_ret2
          exact ⟨ret_two (by simp [E2.out]) (by simp [E2.out]), rfl⟩
      · have ej : j = 3 := by omega
        subst ej
        have HV : Hid (bitsN t (t[0].toNat % 16) (3 - 1) = V) := HR.out.1.symm
        by_cases c1 : V < 2048
        · have E2 : Hid (l3r t = (0, 0)) := by show _ = _; rw [E.out, runeIf, HV.out, if_neg (fun h => by have := h.2.2.1; omega)]
          go_wp2
          go_ret2
          exact ⟨ret_two (by simp [E2.out]) (by simp [E2.out]), rfl⟩
        by_cases c2 : 1114111 < V
        · have E2 : Hid (l3r t = (0, 0)) := by show _ = _; rw [E.out, runeIf, HV.out, if_neg (fun h => by have := (okR_is h.2.2.2).1; omega)]
          go_wp2
          go_ret2
          exact ⟨ret_two (by simp [E2.out]) (by simp [E2.out]), rfl⟩
        by_cases c3 : 55296 ≤ V ∧ V ≤ 57343
        · have E2 : Hid (l3r t = (0, 0)) := by show _ = _; rw [E.out, runeIf, HV.out, if_neg (fun h => (okR_is h.2.2.2).2 c3)]
          have HB : Hid (btwB (V : Int) 55296 57343 = true) := by show _ = _; simp [btwB]; omega
          go_wp2_with fail
          refine (between_any _ _ _ _).mono ?_
          rintro e w1 ⟨rfl, hw⟩
          rw [HB.out]
          replace hw := hw.symm
          subst hw
          go_wp2
          go_ret2
          exact ⟨ret_two (by simp [E2.out]) (by simp [E2.out]), rfl⟩
        · have E2 : Hid (l3r t = (V, 3)) := by show _ = _; rw [E.out, runeIf, HV.out, if_pos ⟨by omega, HR.out.2, by omega, okR_mk ⟨by omega, c3⟩⟩]
          have HB : Hid (btwB (V : Int) 55296 57343 = false) := by show _ = _; simp [btwB]; omega
          go_wp2_with fail
          refine (between_any _ _ _ _).mono ?_
          rintro e w1 ⟨rfl, hw⟩
          rw [HB.out]
          replace hw := hw.symm
          subst hw
          go_wp2
          go_ret2
          exact ⟨ret_two (by simp [E2.out]) (by simp [E2.out]), rfl⟩
  by_cases h4 : t[0].toNat / 8 = 30
  · have E : Hid (l3r t = runeIf t 4 (t[0].toNat % 8) 65536) := by show _ = _; rw [HE0.out]; exact l3r_4 t (by rw [← HE0.out]; exact h4)
    by_cases hz : t.size < 4
    · have E2 : Hid (l3r t = (0, 0)) := by show _ = _; rw [E.out, runeIf, if_neg (fun h => by have := h.1; omega)]
      rw [E2.out]
      go_enter Tryz.func64, Tryz.ntmps64
      go_wp2
      go_ret2
      exact ⟨rfl, rfl⟩
    have hb0 : ((t[0].toNat : Int) / 8 == 30) = true := by simp; omega
    have hb2 : ((t[0].toNat : Int) / 32 == 6) = false := by simp; omega
    have hb3 : ((t[0].toNat : Int) / 16 == 14) = false := by simp; omega
    go_enter Tryz.func64, Tryz.ntmps64
    go_wp2
    go_loop [6, 8] (fun v i => ∃ j V : Nat, 1 ≤ j ∧ j ≤ 4 ∧ i = .int .i64 j ∧ v = .int .i64 V ∧ V < 8388608 ∧ Hid (V = bitsN t (t[0].toNat % 8) (j - 1) ∧ ∀ k, k < j → 1 ≤ k → byteAt t k / 64 = 2)) (fun _ i => 4 - (intOf i).toNat)
    case atStart => exact ⟨1, t[0].toNat % 8, by omega, by omega, rfl, by go_num, by omega, rfl, fun k hk h => absurd h (by omega)⟩
    case round =>
      obtain ⟨j, V, hj1, hj, rfl, rfl, hV, HR⟩ := hrel
      by_cases hlt : j < 4
      · have hjs : j < t.size := by omega
        have hU2 : t[j].toNat < 256 := t[j].toNat_lt
        have HE : Hid (t[j].toNat = byteAt t j) := byteAt_eq t j hjs
        by_cases hc : t[j].toNat / 64 = 2
        · have hcb : ((t[j].toNat : Int) / 64 != 2) = false := by simp; omega
          go_wp2
          refine ⟨⟨j + 1, V * 64 + t[j].toNat % 64, by omega, by omega, by go_num, by go_num, ?_, ?_, ?_⟩, by simp [intOf]; omega⟩
          · have h1 := bitsN_lt t (t[0].toNat % 8) j
            have h2 : bitsN t (t[0].toNat % 8) j = V * 64 + t[j].toNat % 64 := by
              obtain ⟨m, rfl⟩ : ∃ m, j = m + 1 := ⟨j - 1, by omega⟩
              rw [bitsN, HE.out, HR.out.1]; rfl
            rw [h2] at h1
            have h3 : 64 ^ j ≤ 64 ^ 3 := Nat.pow_le_pow_right (by omega) (by omega)
            have h4 : (t[0].toNat % 8 + 1) * 64 ^ j ≤ 8 * 64 ^ 3 := Nat.mul_le_mul (by omega) h3
            omega
          · obtain ⟨m, rfl⟩ : ∃ m, j = m + 1 := ⟨j - 1, by omega⟩
            show _ = bitsN t _ (m + 1)
            rw [bitsN, HE.out, HR.out.1]; rfl
          · intro k hk hk1
            by_cases e : k = j
            · subst e; rw [← HE.out]; exact hc
            · exact HR.out.2 k (by omega) hk1
        · have hcb : ((t[j].toNat : Int) / 64 != 2) = true := by simp; omega
          have E2 : Hid (l3r t = (0, 0)) := by show _ = _; rw [E.out, runeIf, if_neg (fun h => hc (by rw [HE.out]; exact h.2.1 j hlt hj1))]
          go_wp2
          go_ret2
          exact ⟨ret_two (by simp [E2.out]) (by simp [E2.out]), rfl⟩
      · have ej : j = 4 := by omega
        subst ej
        have HV : Hid (bitsN t (t[0].toNat % 8) (4 - 1) = V) := HR.out.1.symm
        by_cases c1 : V < 65536
        · have E2 : Hid (l3r t = (0, 0)) := by show _ = _; rw [E.out, runeIf, HV.out, if_neg (fun h => by have := h.2.2.1; omega)]
          go_wp2
          go_ret2
          exact ⟨ret_two (by simp [E2.out]) (by simp [E2.out]), rfl⟩
        by_cases c2 : 1114111 < V
        · have E2 : Hid (l3r t = (0, 0)) := by show _ = _; rw [E.out, runeIf, HV.out, if_neg (fun h => by have := (okR_is h.2.2.2).1; omega)]
          go_wp2
          go_ret2
          exact ⟨ret_two (by simp [E2.out]) (by simp [E2.out]), rfl⟩
        by_cases c3 : 55296 ≤ V ∧ V ≤ 57343
        · exfalso; omega
        · have E2 : Hid (l3r t = (V, 4)) := by show _ = _; rw [E.out, runeIf, HV.out, if_pos ⟨by omega, HR.out.2, by omega, okR_mk ⟨by omega, c3⟩⟩]
          have HB : Hid (btwB (V : Int) 55296 57343 = false) := by show _ = _; simp [btwB]; omega
          go_wp2_with fail
          refine (between_any _ _ _ _).mono ?_
          rintro e w1 ⟨rfl, hw⟩
          rw [HB.out]
          replace hw := hw.symm
          subst hw
          go_wp2
          go_ret2
          exact ⟨ret_two (by simp [E2.out]) (by simp [E2.out]), rfl⟩
  have E : Hid (l3r t = (0, 0)) := by
    show _ = _
    rw [HE0.out] at h1 h2 h3 h4
    exact l3r_none t (by omega) h2 h3 h4
  have hb2 : ((t[0].toNat : Int) / 32 == 6) = false := by simp; omega
  have hb3 : ((t[0].toNat : Int) / 16 == 14) = false := by simp; omega
  have hb4 : ((t[0].toNat : Int) / 8 == 30) = false := by simp; omega
  rw [E.out]
  go_enter Tryz.func64, Tryz.ntmps64
  go_wp2
  go_ret2
  exact ⟨rfl, rfl⟩
end Go.Proofs.YtoecnlhnfhongaaGreatDoor

