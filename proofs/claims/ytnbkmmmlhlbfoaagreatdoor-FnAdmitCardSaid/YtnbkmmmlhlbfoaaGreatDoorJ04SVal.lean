import Derived.Test.YtnbkmmmlhlbfoaaGreatDoorProg
import Derived.Test.YtnbkmmmlhlbfoaaGreatDoorJ03INum
import Derived.Test.YtnbkmmmlhlbfoaaGreatDoorJ01DrawV
import Derived.Test.YtnbkmmmlhlbfoaaGreatDoorJ02AppA
import Derived.Deep.AppendLies
namespace Go.Proofs.YtnbkmmmlhlbfoaaGreatDoor
open Go.RowKit
def RB (w : World) (B : Nat) (r : Rd) : Prop := Blk w B #[.string r.rest, .bool r.short] 110
set_option maxRecDepth 100000 in
set_option maxHeartbeats 1000000 in
theorem take_any (B : Nat) (r : Rd) (n : Nat) (w : World) (hB : RB w B r) (hn : n ≤ 70000) (hs : r.rest.size ≤ 1000000000) :
    Calls Tryz.prog 104 #[.pointer (some ⟨B, 0, none⟩), .int .i64 (n : Nat)] w fun e w' => e = .returned (.string (takeR n r).1) ∧ RB w' B (takeR n r).2 ∧ But B w w' := by
  have HB : Hid (RB w B r) := hB
  have x0 := Blk.cell hB 0
  have x1 := Blk.cell hB 1
  simp only [List.getElem?_toArray, List.getElem?_cons_zero, List.getElem?_cons_succ] at x0 x1
  have f0 := Blk.free hB 0
  have f1 := Blk.free hB 1
  obtain ⟨rest, short⟩ := r
  simp only at x0 x1 hs
  clear hB
  by_cases h : rest.size < n
  · have E : Hid (takeR n ⟨rest, short⟩ = (ByteArray.empty, ⟨rest, true⟩)) := by show _ = _; unfold takeR; rw [if_pos h]
    rw [E.out]
    go_enter Tryz.func104, Tryz.ntmps104
    go_wp2
    go_ret
    exact ⟨rfl, Blk.set HB.out 1 (.bool true), (But.refl _ _).setCell _ _⟩
  · have E : Hid (takeR n ⟨rest, short⟩ = (rest.extract 0 n, ⟨rest.extract n rest.size, short⟩)) := by show _ = _; unfold takeR; rw [if_neg h]
    have h' : ¬ ((rest.size : Int) < (n : Int)) := by omega
    rw [E.out]
    go_enter Tryz.func104, Tryz.ntmps104
    go_wp2
    go_ret
    exact ⟨rfl, Blk.set HB.out 0 (.string (rest.extract n rest.size)), (But.refl _ _).setCell _ _⟩
set_option maxRecDepth 100000 in
theorem number_any (B : Nat) (r : Rd) (k : Nat) (w : World) (hB : RB w B r) (hk : k ≤ 2) (hs : r.rest.size ≤ 1000000000) :
    Calls Tryz.prog 86 #[.pointer (some ⟨B, 0, none⟩), .int .i64 (k : Nat)] w fun e w' => e = .returned (.int .i64 ((numR k r).1 : Nat)) ∧ RB w' B (numR k r).2 ∧ But B w w' := by
  have HC : Hid (Calls Tryz.prog 104 #[.pointer (some ⟨B, 0, none⟩), .int .i64 (k : Nat)] w fun e w' => e = .returned (.string (takeR k r).1) ∧ RB w' B (takeR k r).2 ∧ But B w w') := take_any B r k w hB (by omega) hs
  have HN : Hid (∀ W, Calls Tryz.prog 103 #[.string (takeR k r).1] W fun e w' => e = .returned (.int .i64 (beL (takeR k r).1.data.toList : Nat)) ∧ w' = W) := fun W => implNum_any _ W (by have := (take_le k r).1; omega)
  show Calls _ _ _ _ fun e w' => e = .returned (.int .i64 (beL (takeR k r).1.data.toList : Nat)) ∧ RB w' B (takeR k r).2 ∧ But B w w'
  clear hB
  generalize beL (takeR k r).1.data.toList = N at *
  generalize (takeR k r).1 = T at *
  generalize (takeR k r).2 = r' at *
  go_enter Tryz.func86, Tryz.ntmps86
  go_wp2_with fail
  refine HC.out.mono ?_
  rintro e w1 ⟨rfl, hr1, hb1⟩
  have H1 : Hid (RB w1 B r' ∧ But B w w1) := ⟨hr1, hb1⟩
  clear hr1 hb1 HC
  go_wp2_with fail
  refine (HN.out _).mono ?_
  rintro e w2 ⟨rfl, hw⟩
  replace hw := hw.symm
  subst hw
  go_wp2
  go_ret
  exact ⟨rfl, H1.out⟩
set_option maxRecDepth 100000 in
theorem text_any (B : Nat) (r : Rd) (k : Nat) (w : World) (hB : RB w B r) (hk : k ≤ 2) (hs : r.rest.size ≤ 1000000000) :
    Calls Tryz.prog 87 #[.pointer (some ⟨B, 0, none⟩), .int .i64 (k : Nat)] w fun e w' => e = .returned (.string (textR k r).1) ∧ RB w' B (textR k r).2 ∧ But B w w' := by
  have HC : Hid (Calls Tryz.prog 86 #[.pointer (some ⟨B, 0, none⟩), .int .i64 (k : Nat)] w fun e w' => e = .returned (.int .i64 ((numR k r).1 : Nat)) ∧ RB w' B (numR k r).2 ∧ But B w w') := number_any B r k w hB hk hs
  have hlt : (numR k r).1 < 65536 := by
    have h1 := num_lt k r
    have h2 : 256 ^ k ≤ 256 ^ 2 := Nat.pow_le_pow_right (by omega) hk
    omega
  have hsz : (numR k r).2.rest.size ≤ 1000000000 := by
    have := (take_le k r).2.2
    show (takeR k r).2.rest.size ≤ _
    omega
  have HT : Hid (∀ W, RB W B (numR k r).2 → Calls Tryz.prog 104 #[.pointer (some ⟨B, 0, none⟩), .int .i64 ((numR k r).1 : Nat)] W fun e w' => e = .returned (.string (textR k r).1) ∧ RB w' B (textR k r).2 ∧ But B W w') := fun W h => take_any B _ _ W h (by omega) hsz
  clear hB
  generalize (textR k r).1 = T at *
  generalize (textR k r).2 = r' at *
  generalize (numR k r).1 = N at *
  generalize (numR k r).2 = r1 at *
  go_enter Tryz.func87, Tryz.ntmps87
  go_wp2_with fail
  refine HC.out.mono ?_
  rintro e w1 ⟨rfl, hr1, hb1⟩
  have H1 : Hid (RB w1 B r1 ∧ But B w w1) := ⟨hr1, hb1⟩
  clear hr1 hb1 HC
  go_wp2_with fail
  refine (HT.out _ H1.out.1).mono ?_
  rintro e w2 ⟨rfl, hr2, hb2⟩
  have H2 : Hid (RB w2 B r' ∧ But B w w2) := ⟨hr2, H1.out.2.trans hb2⟩
  clear hr2 hb2
  go_wp2
  go_ret
  exact ⟨rfl, H2.out⟩
theorem row_but0 {w w' : World} {B base : Nat} {e : TypeId} {size : Nat} {v : Value} {n : Nat} {xs : List Value} (h : w.ownsRow base e size v n xs) (hb : But B w w') (hB : B < base) : w'.ownsRow base e size v n xs := by
  obtain ⟨h1, h2⟩ := h
  refine ⟨h1, ?_⟩
  rcases h2 with h2 | ⟨g, cap, cur, hv, hg, hh, r⟩
  · exact Or.inl h2
  · exact Or.inr ⟨g, cap, cur, hv, hg, (hb.block g (lt_of_block hh) (by omega)).trans hh, r⟩
theorem But.alloc {B : Nat} {w w' : World} (h : But B w w') (o : Obj) : But B w (w'.alloc o) := h.trans (But.of (bnew _ _))
end Go.Proofs.YtnbkmmmlhlbfoaaGreatDoor
namespace Go.Proofs.YtnbkmmmlhlbfoaaGreatDoor
open Go.RowKit
set_option maxRecDepth 100000 in
theorem whole_any (B : Nat) (r : Rd) (w : World) (hB : RB w B r) :
    Calls Tryz.prog 59 #[.pointer (some ⟨B, 0, none⟩)] w fun e w' => e = .returned (.bool (wholeB r)) ∧ w' = w := by
  have x0 := Blk.cell hB 0
  have x1 := Blk.cell hB 1
  simp only [List.getElem?_toArray, List.getElem?_cons_zero, List.getElem?_cons_succ] at x0 x1
  have HE : Hid (ByteArray.empty.toList = []) := by show _ = _; rw [ByteArray.toList_eq]; rfl
  obtain ⟨rest, short⟩ := r
  simp only at x0 x1
  clear hB
  cases short with
  | true =>
    have E : Hid (wholeB ⟨rest, true⟩ = false) := rfl
    go_enter Tryz.func59, Tryz.ntmps59
    go_wp2
    go_ret
    exact ⟨ret_bool E.out.symm, rfl⟩
  | false =>
    have E : Hid (wholeB ⟨rest, false⟩ = rest.toList.isEmpty) := by
      show _ = _
      unfold wholeB
      rw [HE.out]
      cases rest.toList <;> rfl
    go_enter Tryz.func59, Tryz.ntmps59
    go_wp2
    go_ret
    exact ⟨ret_bool E.out.symm, rfl⟩
end Go.Proofs.YtnbkmmmlhlbfoaaGreatDoor
namespace Go.Proofs.YtnbkmmmlhlbfoaaGreatDoor
open Go.RowKit
theorem nameB_not {s : ByteArray} (h : ¬ nameOK s) : nameB s = false := decide_eq_false h
theorem nameB_yes {s : ByteArray} (h : nameOK s) : nameB s = true := decide_eq_true h
set_option maxRecDepth 100000 in
set_option maxHeartbeats 1000000 in
theorem specName_any (s : ByteArray) (w : World) (hs : s.size ≤ maxLen) :
    Calls Tryz.prog 92 #[.string s] w fun e w' => e = .returned (.bool (nameB s)) ∧ w' = w := by
  unfold maxLen at hs
  by_cases h1 : 1 ≤ s.size ∧ s.size ≤ 64
  · have hb : btwB (s.size : Int) 1 64 = true := by simp [btwB]; omega
    have HB : Hid (btwB (s.size : Int) 1 64 = true) := hb
    clear hb
    have h0 : 0 < s.size := by omega
    have h64 : s.size ≤ 64 := h1.2
    have hU : s[0].toNat < 256 := s[0].toNat_lt
    have HE0 : Hid (s[0].toNat = byteAt s 0) := byteAt_eq s 0 h0
    by_cases hd : 48 ≤ s[0].toNat ∧ s[0].toNat ≤ 57
    · have E : Hid (nameB s = false) := nameB_not (fun h => by
        have := h.2.2 0 h0
        unfold nameC alphaN at this
        rw [← HE0.out] at this
        omega)
      have hd1 : ¬ ((s[0].toNat : Int) < 48) := by omega
      have hd2 : ¬ ((57 : Int) < (s[0].toNat : Int)) := by omega
      clear hd h1
      go_enter Tryz.func92, Tryz.ntmps92
      go_wp2_with fail
      refine (between_any _ _ _ _).mono ?_
      rintro e w1 ⟨rfl, hw⟩
      rw [HB.out]
      replace hw := hw.symm
      subst hw
      go_wp2
      go_ret
      exact ⟨ret_bool E.out.symm, rfl⟩
    · have HD : Hid (¬ (48 ≤ byteAt s 0 ∧ byteAt s 0 ≤ 57)) := by show ¬ _; rw [← HE0.out]; exact hd
      have hd1 : (s[0].toNat : Int) < 48 ∨ (57 : Int) < (s[0].toNat : Int) := by omega
      clear hd h1
      go_enter Tryz.func92, Tryz.ntmps92
      go_wp2_with fail
      refine (between_any _ _ _ _).mono ?_
      rintro e w1 ⟨rfl, hw⟩
      rw [HB.out]
      replace hw := hw.symm
      subst hw
      go_wp2
      all_goals
        go_loop [3, 4] (fun i _ => ∃ j : Nat, j ≤ s.size ∧ i = .int .i64 j ∧ Hid (∀ k, k < j → nameC s k)) (fun i _ => s.size - (intOf i).toNat)
        case atStart => exact ⟨0, Nat.zero_le _, rfl, fun k hk => absurd hk (by omega)⟩
        case round =>
          obtain ⟨j, hj, rfl, HA⟩ := hrel
          by_cases hlt : j < s.size
          · have hU2 : s[j].toNat < 256 := s[j].toNat_lt
            have HE : Hid (s[j].toNat = byteAt s j) := byteAt_eq s j hlt
            have HD2 : Hid (j = 0 → ¬ (48 ≤ s[j].toNat ∧ s[j].toNat ≤ 57)) := fun e => by subst e; rw [HE.out]; exact HD.out
            clear hd1 hU
            by_cases hc : s[j].toNat = 95
            · have hcb : ((s[j].toNat : Int) != 95) = false := by simp; omega
              go_wp2
              all_goals
                refine ⟨⟨j + 1, by omega, by go_num, ?_⟩, by simp [intOf]; omega⟩
                show ∀ k, _
                intro k hk
                by_cases e : k = j
                · subst e; unfold nameC alphaN; rw [← HE.out]; omega
                · exact HA.out k (by omega)
            · have hcb : ((s[j].toNat : Int) != 95) = true := by simp; omega
              go_wp2
              all_goals first
                | (go_ret
                   refine ⟨ret_bool (nameB_not ?_).symm, rfl⟩
                   intro h
                   have := h.2.2 j hlt
                   unfold nameC alphaN digitN at this
                   rw [← HE.out] at this
                   omega)
                | (refine ⟨⟨j + 1, by omega, by go_num, ?_⟩, by simp [intOf]; omega⟩
                   show ∀ k, _
                   intro k hk
                   by_cases e : k = j
                   · subst e
                     have := HD2.out
                     unfold nameC alphaN digitN
                     rw [← HE.out]
                     omega
                   · exact HA.out k (by omega))
                | (exfalso; rename_i hx; simp at hx; omega)
          · go_wp2
            go_ret
            exact ⟨ret_bool (nameB_yes ⟨by omega, h64, fun i hi => HA.out i (by omega)⟩).symm, rfl⟩
  · have hb : btwB (s.size : Int) 1 64 = false := by simp [btwB]; omega
    have HB : Hid (btwB (s.size : Int) 1 64 = false) := hb
    have E : Hid (nameB s = false) := nameB_not (fun h => h1 ⟨h.1, h.2.1⟩)
    clear hb h1
    go_enter Tryz.func92, Tryz.ntmps92
    go_wp2_with fail
    refine (between_any _ _ _ _).mono ?_
    rintro e w1 ⟨rfl, hw⟩
    rw [HB.out]
    replace hw := hw.symm
    subst hw
    go_wp2
    go_ret
    exact ⟨ret_bool E.out.symm, rfl⟩
end Go.Proofs.YtnbkmmmlhlbfoaaGreatDoor
namespace Go.Proofs.YtnbkmmmlhlbfoaaGreatDoor
open Go.RowKit
theorem if_iff {C D : Prop} [Decidable C] [Decidable D] {α : Type} {x y : α} (h : C ↔ D) : (if C then x else y) = if D then x else y := by
  by_cases c : C
  · rw [if_pos c, if_pos (h.1 c)]
  · rw [if_neg c, if_neg (fun d => c (h.2 d))]
theorem ret_two {a b c d : Int} (h1 : a = c) (h2 : b = d) : Ending.returned (.tuple #[.int .i64 a, .int .i64 b]) = .returned (.tuple #[.int .i64 c, .int .i64 d]) := by rw [h1, h2]
def bitsN (t : ByteArray) (v : Nat) : Nat → Nat
  | 0 => v
  | j + 1 => bitsN t v j * 64 + byteAt t (j + 1) % 64
def runeIf (t : ByteArray) (n v least : Nat) : Nat × Nat :=
  if n ≤ t.size ∧ (∀ k, k < n → 1 ≤ k → byteAt t k / 64 = 2) ∧ least ≤ bitsN t v (n - 1) ∧ okR (bitsN t v (n - 1)) then (bitsN t v (n - 1), n) else (0, 0)
theorem l3r_2 (t : ByteArray) (h : byteAt t 0 / 32 = 6) : l3r t = runeIf t 2 (byteAt t 0 % 32) 128 := by
  have h0 := byteAt_lt t 0
  rw [l3r_two t h, runeIf]
  have e : bitsN t (byteAt t 0 % 32) (2 - 1) = byteAt t 0 % 32 * 64 + byteAt t 1 % 64 := rfl
  rw [e]
  refine if_iff ?_
  constructor
  · rintro ⟨h1, h2, h3⟩
    refine ⟨h1, fun k _ _ => ?_, h3, by unfold okR okRb; simp; omega⟩
    have : k = 1 := by omega
    subst this; exact h2
  · rintro ⟨h1, h2, h3, _⟩; exact ⟨h1, h2 1 (by omega) (by omega), h3⟩
theorem l3r_3 (t : ByteArray) (h : byteAt t 0 / 16 = 14) : l3r t = runeIf t 3 (byteAt t 0 % 16) 2048 := by
  rw [l3r_three t h, runeIf]
  have e : bitsN t (byteAt t 0 % 16) (3 - 1) = (byteAt t 0 % 16 * 64 + byteAt t 1 % 64) * 64 + byteAt t 2 % 64 := rfl
  rw [e]
  refine if_iff ?_
  constructor
  · rintro ⟨h1, h2, h3, h4, h5⟩
    refine ⟨h1, fun k _ _ => ?_, h4, h5⟩
    have : k = 1 ∨ k = 2 := by omega
    rcases this with rfl | rfl
    · exact h2
    · exact h3
  · rintro ⟨h1, h2, h3, h4⟩; exact ⟨h1, h2 1 (by omega) (by omega), h2 2 (by omega) (by omega), h3, h4⟩
theorem l3r_4 (t : ByteArray) (h : byteAt t 0 / 8 = 30) : l3r t = runeIf t 4 (byteAt t 0 % 8) 65536 := by
  rw [l3r_four t h, runeIf]
  have e : bitsN t (byteAt t 0 % 8) (4 - 1) = ((byteAt t 0 % 8 * 64 + byteAt t 1 % 64) * 64 + byteAt t 2 % 64) * 64 + byteAt t 3 % 64 := rfl
  rw [e]
  refine if_iff ?_
  constructor
  · rintro ⟨h1, h2, h3, h4, h5, h6⟩
    refine ⟨h1, fun k _ _ => ?_, h5, h6⟩
    have : k = 1 ∨ k = 2 ∨ k = 3 := by omega
    rcases this with rfl | rfl | rfl
    · exact h2
    · exact h3
    · exact h4
  · rintro ⟨h1, h2, h3, h4⟩; exact ⟨h1, h2 1 (by omega) (by omega), h2 2 (by omega) (by omega), h2 3 (by omega) (by omega), h3, h4⟩
theorem bitsN_lt (t : ByteArray) (v : Nat) : ∀ j, bitsN t v j < (v + 1) * 64 ^ j
  | 0 => by simp [bitsN]
  | j + 1 => by
    have := bitsN_lt t v j
    rw [bitsN, Nat.pow_succ, ← Nat.mul_assoc]
    omega
set_option maxRecDepth 100000 in
set_option maxHeartbeats 2000000 in
theorem specRune_any (t : ByteArray) (w : World) (h0 : 0 < t.size) (hs : t.size ≤ maxLen) :
    Calls Tryz.prog 94 #[.string t] w fun e w' => e = .returned (.tuple #[.int .i64 ((l3r t).1 : Nat), .int .i64 ((l3r t).2 : Nat)]) ∧ w' = w := by
  unfold maxLen at hs
  have hU : t[0].toNat < 256 := t[0].toNat_lt
  have HE0 : Hid (t[0].toNat = byteAt t 0) := byteAt_eq t 0 h0
  by_cases h1 : t[0].toNat < 128
  · have E : Hid (l3r t = (t[0].toNat, 1)) := by show _ = _; rw [HE0.out]; exact l3r_one t (by rw [← HE0.out]; exact h1)
    rw [E.out]
    go_enter Tryz.func94, Tryz.ntmps94
    go_wp2
    go_ret2
    exact ⟨rfl, rfl⟩
  by_cases h2 : t[0].toNat / 32 = 6
  · have E : Hid (l3r t = runeIf t 2 (t[0].toNat % 32) 128) := by show _ = _; rw [HE0.out]; exact l3r_2 t (by rw [← HE0.out]; exact h2)
    by_cases hz : t.size < 2
    · have E2 : Hid (l3r t = (0, 0)) := by show _ = _; rw [E.out, runeIf, if_neg (fun h => by have := h.1; omega)]
      rw [E2.out]
      go_enter Tryz.func94, Tryz.ntmps94
      go_wp2
      go_ret2
      exact ⟨rfl, rfl⟩
    have hb0 : ((t[0].toNat : Int) / 32 == 6) = true := by simp; omega
    go_enter Tryz.func94, Tryz.ntmps94
    go_wp2
    go_loop [6, 8] (fun v i => ∃ j V : Nat, 1 ≤ j ∧ j ≤ 2 ∧ i = .int .i64 j ∧ v = .int .i64 V ∧ V < 8388608 ∧ Hid (V = bitsN t (t[0].toNat % 32) (j - 1) ∧ ∀ k, k < j → 1 ≤ k → byteAt t k / 64 = 2)) (fun _ i => 2 - (intOf i).toNat)
    case atStart => exact ⟨1, t[0].toNat % 32, by omega, by omega, rfl, by go_num, by omega, rfl, fun k hk h => absurd h (by omega)⟩
    case round =>
      obtain ⟨j, V, hj1, hj, rfl, rfl, hV, HR⟩ := hrel
      by_cases hlt : j < 2
      · have hjs : j < t.size := by omega
        have hU2 : t[j].toNat < 256 := t[j].toNat_lt
        have HE : Hid (t[j].toNat = byteAt t j) := byteAt_eq t j hjs
        by_cases hc : t[j].toNat / 64 = 2
        · have hcb : ((t[j].toNat : Int) / 64 != 2) = false := by simp; omega
          go_wp2
          refine ⟨⟨j + 1, V * 64 + t[j].toNat % 64, by omega, by omega, by go_num, by go_num, ?_, ?_, ?_⟩, by simp [intOf]; omega⟩
          · have h1 := bitsN_lt t (t[0].toNat % 32) j
            have h2 : bitsN t (t[0].toNat % 32) j = V * 64 + t[j].toNat % 64 := by
              obtain ⟨m, rfl⟩ : ∃ m, j = m + 1 := ⟨j - 1, by omega⟩
              rw [bitsN, HE.out, HR.out.1]; rfl
            rw [h2] at h1
            have h3 : 64 ^ j ≤ 64 ^ 1 := Nat.pow_le_pow_right (by omega) (by omega)
            have h4 : (t[0].toNat % 32 + 1) * 64 ^ j ≤ 32 * 64 ^ 1 := Nat.mul_le_mul (by omega) h3
            omega
          · obtain ⟨m, rfl⟩ : ∃ m, j = m + 1 := ⟨j - 1, by omega⟩
            show _ = bitsN t _ (m + 1)
            rw [bitsN, HE.out, HR.out.1]; rfl
          · intro k hk hk1
            by_cases e : k = j
            · subst e; rw [← HE.out]; exact hc
            · exact HR.out.2 k (by omega) hk1
        · have hcb : ((t[j].toNat : Int) / 64 != 2) = true := by simp; omega
          have E2 : Hid (l3r t = (0, 0)) := by show _ = _; rw [E.out, runeIf, if_neg (fun h => hc (by rw [HE.out]; exact h.2.1 j hlt hj1))]
          go_wp2
          go_ret2
          exact ⟨ret_two (by simp [E2.out]) (by simp [E2.out]), rfl⟩
      · have ej : j = 2 := by omega
        subst ej
        have HV : Hid (bitsN t (t[0].toNat % 32) (2 - 1) = V) := HR.out.1.symm
        by_cases c1 : V < 128
        · have E2 : Hid (l3r t = (0, 0)) := by show _ = _; rw [E.out, runeIf, HV.out, if_neg (fun h => by have := h.2.2.1; omega)]
          go_wp2
          go_ret2
          exact ⟨ret_two (by simp [E2.out]) (by simp [E2.out]), rfl⟩
        by_cases c2 : 1114111 < V
        · have E2 : Hid (l3r t = (0, 0)) := by show _ = _; rw [E.out, runeIf, HV.out, if_neg (fun h => by have := (okR_is h.2.2.2).1; omega)]
          go_wp2
          go_ret2
          exact ⟨ret_two (by simp [E2.out]) (by simp [E2.out]), rfl⟩
        by_cases c3 : 55296 ≤ V ∧ V ≤ 57343
        · have E2 : Hid (l3r t = (0, 0)) := by show _ = _; rw [E.out, runeIf, HV.out, if_neg (fun h => (okR_is h.2.2.2).2 c3)]
          have HB : Hid (btwB (V : Int) 55296 57343 = true) := by show _ = _; simp [btwB]; omega
          go_wp2_with fail
          refine (between_any _ _ _ _).mono ?_
          rintro e w1 ⟨rfl, hw⟩
          rw [HB.out]
          replace hw := hw.symm
          subst hw
          go_wp2
          go_ret2
          exact ⟨ret_two (by simp [E2.out]) (by simp [E2.out]), rfl⟩
        · have E2 : Hid (l3r t = (V, 2)) := by show _ = _; rw [E.out, runeIf, HV.out, if_pos ⟨by omega, HR.out.2, by omega, okR_mk ⟨by omega, c3⟩⟩]
          have HB : Hid (btwB (V : Int) 55296 57343 = false) := by show _ = _; simp [btwB]; omega
          go_wp2_with fail
          refine (between_any _ _ _ _).mono ?_
          rintro e w1 ⟨rfl, hw⟩
          rw [HB.out]
          replace hw := hw.symm
          subst hw
          go_wp2
          go_ret2
          exact ⟨ret_two (by simp [E2.out]) (by simp [E2.out]), rfl⟩
  by_cases h3 : t[0].toNat / 16 = 14
  · have E : Hid (l3r t = runeIf t 3 (t[0].toNat % 16) 2048) := by show _ = _; rw [HE0.out]; exact l3r_3 t (by rw [← HE0.out]; exact h3)
    by_cases hz : t.size < 3
    · have E2 : Hid (l3r t = (0, 0)) := by show _ = _; rw [E.out, runeIf, if_neg (fun h => by have := h.1; omega)]
      rw [E2.out]
      go_enter Tryz.func94, Tryz.ntmps94
      go_wp2
      go_ret2
      exact ⟨rfl, rfl⟩
    have hb0 : ((t[0].toNat : Int) / 16 == 14) = true := by simp; omega
    have hb2 : ((t[0].toNat : Int) / 32 == 6) = false := by simp; omega
    go_enter Tryz.func94, Tryz.ntmps94
    go_wp2
    go_loop [6, 8] (fun v i => ∃ j V : Nat, 1 ≤ j ∧ j ≤ 3 ∧ i = .int .i64 j ∧ v = .int .i64 V ∧ V < 8388608 ∧ Hid (V = bitsN t (t[0].toNat % 16) (j - 1) ∧ ∀ k, k < j → 1 ≤ k → byteAt t k / 64 = 2)) (fun _ i => 3 - (intOf i).toNat)
    case atStart => exact ⟨1, t[0].toNat % 16, by omega, by omega, rfl, by go_num, by omega, rfl, fun k hk h => absurd h (by omega)⟩
    case round =>
      obtain ⟨j, V, hj1, hj, rfl, rfl, hV, HR⟩ := hrel
      by_cases hlt : j < 3
      · have hjs : j < t.size := by omega
        have hU2 : t[j].toNat < 256 := t[j].toNat_lt
        have HE : Hid (t[j].toNat = byteAt t j) := byteAt_eq t j hjs
        by_cases hc : t[j].toNat / 64 = 2
        · have hcb : ((t[j].toNat : Int) / 64 != 2) = false := by simp; omega
          go_wp2
          refine ⟨⟨j + 1, V * 64 + t[j].toNat % 64, by omega, by omega, by go_num, by go_num, ?_, ?_, ?_⟩, by simp [intOf]; omega⟩
          · have h1 := bitsN_lt t (t[0].toNat % 16) j
            have h2 : bitsN t (t[0].toNat % 16) j = V * 64 + t[j].toNat % 64 := by
              obtain ⟨m, rfl⟩ : ∃ m, j = m + 1 := ⟨j - 1, by omega⟩
              rw [bitsN, HE.out, HR.out.1]; rfl
            rw [h2] at h1
            have h3 : 64 ^ j ≤ 64 ^ 2 := Nat.pow_le_pow_right (by omega) (by omega)
            have h4 : (t[0].toNat % 16 + 1) * 64 ^ j ≤ 16 * 64 ^ 2 := Nat.mul_le_mul (by omega) h3
            omega
          · obtain ⟨m, rfl⟩ : ∃ m, j = m + 1 := ⟨j - 1, by omega⟩
            show _ = bitsN t _ (m + 1)
            rw [bitsN, HE.out, HR.out.1]; rfl
          · intro k hk hk1
            by_cases e : k = j
            · subst e; rw [← HE.out]; exact hc
            · exact HR.out.2 k (by omega) hk1
        · have hcb : ((t[j].toNat : Int) / 64 != 2) = true := by simp; omega
          have E2 : Hid (l3r t = (0, 0)) := by show _ = _; rw [E.out, runeIf, if_neg (fun h => hc (by rw [HE.out]; exact h.2.1 j hlt hj1))]
          go_wp2
          go_ret2
          exact ⟨ret_two (by simp [E2.out]) (by simp [E2.out]), rfl⟩
      · have ej : j = 3 := by omega
        subst ej
        have HV : Hid (bitsN t (t[0].toNat % 16) (3 - 1) = V) := HR.out.1.symm
        by_cases c1 : V < 2048
        · have E2 : Hid (l3r t = (0, 0)) := by show _ = _; rw [E.out, runeIf, HV.out, if_neg (fun h => by have := h.2.2.1; omega)]
          go_wp2
          go_ret2
          exact ⟨ret_two (by simp [E2.out]) (by simp [E2.out]), rfl⟩
        by_cases c2 : 1114111 < V
        · have E2 : Hid (l3r t = (0, 0)) := by show _ = _; rw [E.out, runeIf, HV.out, if_neg (fun h => by have := (okR_is h.2.2.2).1; omega)]
          go_wp2
          go_ret2
          exact ⟨ret_two (by simp [E2.out]) (by simp [E2.out]), rfl⟩
        by_cases c3 : 55296 ≤ V ∧ V ≤ 57343
        · have E2 : Hid (l3r t = (0, 0)) := by show _ = _; rw [E.out, runeIf, HV.out, if_neg (fun h => (okR_is h.2.2.2).2 c3)]
          have HB : Hid (btwB (V : Int) 55296 57343 = true) := by show _ = _; simp [btwB]; omega
          go_wp2_with fail
          refine (between_any _ _ _ _).mono ?_
          rintro e w1 ⟨rfl, hw⟩
          rw [HB.out]
          replace hw := hw.symm
          subst hw
          go_wp2
          go_ret2
          exact ⟨ret_two (by simp [E2.out]) (by simp [E2.out]), rfl⟩
        · have E2 : Hid (l3r t = (V, 3)) := by show _ = _; rw [E.out, runeIf, HV.out, if_pos ⟨by omega, HR.out.2, by omega, okR_mk ⟨by omega, c3⟩⟩]
          have HB : Hid (btwB (V : Int) 55296 57343 = false) := by show _ = _; simp [btwB]; omega
          go_wp2_with fail
          refine (between_any _ _ _ _).mono ?_
          rintro e w1 ⟨rfl, hw⟩
          rw [HB.out]
          replace hw := hw.symm
          subst hw
          go_wp2
          go_ret2
          exact ⟨ret_two (by simp [E2.out]) (by simp [E2.out]), rfl⟩
  by_cases h4 : t[0].toNat / 8 = 30
  · have E : Hid (l3r t = runeIf t 4 (t[0].toNat % 8) 65536) := by show _ = _; rw [HE0.out]; exact l3r_4 t (by rw [← HE0.out]; exact h4)
    by_cases hz : t.size < 4
    · have E2 : Hid (l3r t = (0, 0)) := by show _ = _; rw [E.out, runeIf, if_neg (fun h => by have := h.1; omega)]
      rw [E2.out]
      go_enter Tryz.func94, Tryz.ntmps94
      go_wp2
      go_ret2
      exact ⟨rfl, rfl⟩
    have hb0 : ((t[0].toNat : Int) / 8 == 30) = true := by simp; omega
    have hb2 : ((t[0].toNat : Int) / 32 == 6) = false := by simp; omega
    have hb3 : ((t[0].toNat : Int) / 16 == 14) = false := by simp; omega
    go_enter Tryz.func94, Tryz.ntmps94
    go_wp2
    go_loop [6, 8] (fun v i => ∃ j V : Nat, 1 ≤ j ∧ j ≤ 4 ∧ i = .int .i64 j ∧ v = .int .i64 V ∧ V < 8388608 ∧ Hid (V = bitsN t (t[0].toNat % 8) (j - 1) ∧ ∀ k, k < j → 1 ≤ k → byteAt t k / 64 = 2)) (fun _ i => 4 - (intOf i).toNat)
    case atStart => exact ⟨1, t[0].toNat % 8, by omega, by omega, rfl, by go_num, by omega, rfl, fun k hk h => absurd h (by omega)⟩
    case round =>
      obtain ⟨j, V, hj1, hj, rfl, rfl, hV, HR⟩ := hrel
      by_cases hlt : j < 4
      · have hjs : j < t.size := by omega
        have hU2 : t[j].toNat < 256 := t[j].toNat_lt
        have HE : Hid (t[j].toNat = byteAt t j) := byteAt_eq t j hjs
        by_cases hc : t[j].toNat / 64 = 2
        · have hcb : ((t[j].toNat : Int) / 64 != 2) = false := by simp; omega
          go_wp2
          refine ⟨⟨j + 1, V * 64 + t[j].toNat % 64, by omega, by omega, by go_num, by go_num, ?_, ?_, ?_⟩, by simp [intOf]; omega⟩
          · have h1 := bitsN_lt t (t[0].toNat % 8) j
            have h2 : bitsN t (t[0].toNat % 8) j = V * 64 + t[j].toNat % 64 := by
              obtain ⟨m, rfl⟩ : ∃ m, j = m + 1 := ⟨j - 1, by omega⟩
              rw [bitsN, HE.out, HR.out.1]; rfl
            rw [h2] at h1
            have h3 : 64 ^ j ≤ 64 ^ 3 := Nat.pow_le_pow_right (by omega) (by omega)
            have h4 : (t[0].toNat % 8 + 1) * 64 ^ j ≤ 8 * 64 ^ 3 := Nat.mul_le_mul (by omega) h3
            omega
          · obtain ⟨m, rfl⟩ : ∃ m, j = m + 1 := ⟨j - 1, by omega⟩
            show _ = bitsN t _ (m + 1)
            rw [bitsN, HE.out, HR.out.1]; rfl
          · intro k hk hk1
            by_cases e : k = j
            · subst e; rw [← HE.out]; exact hc
            · exact HR.out.2 k (by omega) hk1
        · have hcb : ((t[j].toNat : Int) / 64 != 2) = true := by simp; omega
          have E2 : Hid (l3r t = (0, 0)) := by show _ = _; rw [E.out, runeIf, if_neg (fun h => hc (by rw [HE.out]; exact h.2.1 j hlt hj1))]
          go_wp2
          go_ret2
          exact ⟨ret_two (by simp [E2.out]) (by simp [E2.out]), rfl⟩
      · have ej : j = 4 := by omega
        subst ej
        have HV : Hid (bitsN t (t[0].toNat % 8) (4 - 1) = V) := HR.out.1.symm
        by_cases c1 : V < 65536
        · have E2 : Hid (l3r t = (0, 0)) := by show _ = _; rw [E.out, runeIf, HV.out, if_neg (fun h => by have := h.2.2.1; omega)]
          go_wp2
          go_ret2
          exact ⟨ret_two (by simp [E2.out]) (by simp [E2.out]), rfl⟩
        by_cases c2 : 1114111 < V
        · have E2 : Hid (l3r t = (0, 0)) := by show _ = _; rw [E.out, runeIf, HV.out, if_neg (fun h => by have := (okR_is h.2.2.2).1; omega)]
          go_wp2
          go_ret2
          exact ⟨ret_two (by simp [E2.out]) (by simp [E2.out]), rfl⟩
        by_cases c3 : 55296 ≤ V ∧ V ≤ 57343
        · exfalso; omega
        · have E2 : Hid (l3r t = (V, 4)) := by show _ = _; rw [E.out, runeIf, HV.out, if_pos ⟨by omega, HR.out.2, by omega, okR_mk ⟨by omega, c3⟩⟩]
          have HB : Hid (btwB (V : Int) 55296 57343 = false) := by show _ = _; simp [btwB]; omega
          go_wp2_with fail
          refine (between_any _ _ _ _).mono ?_
          rintro e w1 ⟨rfl, hw⟩
          rw [HB.out]
          replace hw := hw.symm
          subst hw
          go_wp2
          go_ret2
          exact ⟨ret_two (by simp [E2.out]) (by simp [E2.out]), rfl⟩
  have E : Hid (l3r t = (0, 0)) := by
    show _ = _
    rw [HE0.out] at h1 h2 h3 h4
    exact l3r_none t (by omega) h2 h3 h4
  have hb2 : ((t[0].toNat : Int) / 32 == 6) = false := by simp; omega
  have hb3 : ((t[0].toNat : Int) / 16 == 14) = false := by simp; omega
  have hb4 : ((t[0].toNat : Int) / 8 == 30) = false := by simp; omega
  rw [E.out]
  go_enter Tryz.func94, Tryz.ntmps94
  go_wp2
  go_ret2
  exact ⟨rfl, rfl⟩
end Go.Proofs.YtnbkmmmlhlbfoaaGreatDoor
namespace Go.Proofs.YtnbkmmmlhlbfoaaGreatDoor
open Go.RowKit
def NumsIn (w : World) (a : Option Addr) (l : List Int) : Prop := l = [] ∨ ∃ b o, a = some ⟨b, o, none⟩ ∧ b < w.heap.size ∧ ∀ i (h : i < l.length), w.cell? ⟨b, o + i, none⟩ = some (.int .i64 l[i])
theorem NumsIn.at {w : World} {a : Option Addr} {l : List Int} (h : NumsIn w a l) {i : Nat} (hi : i < l.length) : ∃ b o, a = some ⟨b, o, none⟩ ∧ b < w.heap.size ∧ w.cell? ⟨b, o + i, none⟩ = some (.int .i64 l[i]) := by
  rcases h with rfl | ⟨b, o, rfl, hlt, h⟩
  · exact absurd hi (by simp)
  · exact ⟨b, o, rfl, hlt, h i hi⟩
theorem nums_of_row {w : World} {B : Nat} {e : TypeId} {a : Option Addr} {cap : Nat} {l : List Int} (h : w.ownsRow B e 1 (.slice a l.length cap) l.length (l.map (Value.int .i64))) : NumsIn w a l := by
  rcases h.2 with ⟨_, hl⟩ | ⟨g, cap', cur, he, hB, hg, _, _, hsz, htk⟩
  · exact Or.inl (List.length_eq_zero_iff.1 hl)
  · simp only [Value.slice.injEq] at he
    refine Or.inr ⟨g, 0, he.1, lt_of_block hg, fun i hi => ?_⟩
    rw [Nat.zero_add, cell_of_row w g i cur _ _ hg]
    have h2 : (cur.toList.take (l.length * 1))[i]? = (l.map (Value.int .i64))[i]? := by rw [htk]
    rw [List.getElem?_take_of_lt (by omega)] at h2
    rw [← Array.getElem?_toList, h2]
    simp [List.getElem?_eq_getElem hi]
theorem info_num : ∃ i, Tryz.prog.info? 3 = some i ∧ i.zero = some (.int .i64 0) ∧ i.size = 1 ∧ i.bytes = 8 := by
  have h : (Tryz.prog.info? 3).map (fun i => (i.zero, i.size, i.bytes)) = some (some (.int .i64 0), 1, 8) := by kernel_rfl
  obtain ⟨i, hi, hz⟩ := Option.map_eq_some_iff.1 h
  simp only [Prod.mk.injEq] at hz
  exact ⟨i, hi, hz.1, hz.2.1, hz.2.2⟩
end Go.Proofs.YtnbkmmmlhlbfoaaGreatDoor
namespace Go.Proofs.YtnbkmmmlhlbfoaaGreatDoor
open Go.RowKit
def runI (acc : List Nat) : List Int := acc.map fun (r : Nat) => (r : Int)
theorem runI_len (acc : List Nat) : (runI acc).length = acc.length := by simp [runI]
theorem runI_snoc (acc : List Nat) (r : Nat) : runI (acc ++ [r]) = runI acc ++ [(r : Int)] := by simp [runI]
theorem ctl_btw (r : Nat) (h : ¬ r < 32) : btwB (r : Int) 127 159 = ctl r := by
  unfold btwB ctl
  rw [Bool.eq_iff_iff]
  simp
  omega
theorem any_split (l : List Nat) (k : Nat) (h : k < l.length) : l.any ctl = ((l.take k).any ctl || (ctl l[k] || (l.drop (k + 1)).any ctl)) := by
  have e := List.take_append_drop k l
  rw [List.drop_eq_getElem_cons h] at e
  rw [← List.any_cons, ← List.any_append, e]
set_option maxRecDepth 100000 in
set_option maxHeartbeats 2000000 in
theorem specVal_any (s : ByteArray) (w : World) (hs : s.size ≤ 1000000000) :
    Calls Tryz.prog 72 #[.string s] w fun e w' => e = .returned (.int .i64 (valV s : Nat)) ∧ Below w.heap.size w w' := by
  obtain ⟨ti, hti, hz0, hz1, hz2⟩ := info_num
  have HI : Hid (Tryz.prog.info? 3 = some ti) := hti
  clear hti
  go_enter Tryz.func72, Tryz.ntmps72
  go_wp2
  go_loopw [3, 4, 5, 6] (fun out at_ _ _ wr => ∃ (p : Nat) (acc : List Nat) (av : Option Addr) (cv : Nat), p ≤ s.size ∧ acc.length ≤ p ∧ Hid (RInv s p acc ∧ ∀ i (h : i < acc.length), acc[i] ≤ 1114111) ∧ at_ = .int .i64 p ∧ out = .slice av acc.length cv ∧ Hid (wr.ownsRow w.heap.size 3 1 (.slice av acc.length cv) acc.length ((runI acc).map (Value.int .i64))) ∧ Below w.heap.size w wr) (fun _ at_ _ _ _ => s.size - (intOf at_).toNat)
  case atStart =>
    exact ⟨0, [], _, _, Nat.zero_le _, Nat.zero_le _, ⟨RInv.start s, fun i h => absurd h (by simp)⟩, rfl, rfl, World.ownsRow_made w #[] 0 (Nat.le_refl _) (by simp [maxLen]) (by simp), bnew _ _⟩
  case round =>
    obtain ⟨p, acc, av, cv, hp, hac, HR, rfl, rfl, hrow, hbel⟩ := hrel
    have hsz := hbel.size
    by_cases hlt : p < s.size
    · have hz : (s.extract p s.size).size = s.size - p := by simp
      have hfi := fun W => specRune_any (s.extract p s.size) W (by omega) (by unfold maxLen; omega)
      rw [l3r_at] at hfi
      by_cases hd : Utf8.decode s p = (65533, 1)
      · rw [if_pos hd] at hfi
        have HFI : Hid (∀ W, Calls Tryz.prog 94 #[.string (s.extract p s.size)] W fun e w' => e = .returned (.tuple #[.int .i64 0, .int .i64 0]) ∧ w' = W) := hfi
        have HE : Hid (valV s = 42) := HR.out.1.bad hlt hd
        clear hfi hd hz
        go_wp2_with fail
        refine (HFI.out _).mono ?_
        rintro e w1 ⟨rfl, hw⟩
        replace hw := hw.symm
        subst hw
        go_wp2
        go_ret
        exact ⟨ret_int (by rw [HE.out]; rfl), hbel⟩
      · rw [if_neg hd] at hfi
        have hpos := decode_pos s p
        have hfit := decode_fits s p hlt hd
        have hrun := decode_rune s p
        have HST : Hid (RInv s (p + (Utf8.decode s p).2) (acc ++ [(Utf8.decode s p).1])) := HR.out.1.step hlt hd
        generalize (Utf8.decode s p).1 = R at *
        generalize (Utf8.decode s p).2 = N at *
        have HFI : Hid (∀ W, Calls Tryz.prog 94 #[.string (s.extract p s.size)] W fun e w' => e = .returned (.tuple #[.int .i64 (R : Nat), .int .i64 (N : Nat)]) ∧ w' = W) := hfi
        have hn0 : ((N : Int) == 0) = false := by simp; omega
        obtain ⟨hr1, hr2⟩ := hrun
        clear hfi hd hz
        go_wp2_with fail
        refine (HFI.out _).mono ?_
        rintro e w1 ⟨rfl, hw⟩
        replace hw := hw.symm
        subst hw
        go_wp2_with (at_builtin; refine wpList_append_lies _ rfl _ _ _ rfl w.heap.size 3 ti _ 1 8 Tryz.underlying79 HI.out hz0 hz1 hz2 rfl (by omega) (.slice av acc.length cv) acc.length ((runI acc).map (Value.int .i64)) rfl (by exact row_later hrow.out (bnew _ _)) ⟨wr.heap.size, 0, none⟩ 1 1 [.int .i64 (R : Int)] rfl rfl (by exact World.news_of_block (heap_alloc_new _ _)) (by simp [Value.oneCell']) (by omega) (by simp [maxLen]; omega) (by omega) (by simp; omega) (wr.heap.size + 1) (by simp) ?_; intro g5 cap5 w5 hown5 hgrow5 hat5 hlt5)
        have hB5 : Below w.heap.size w w5 := (bto hbel (bnew _ _)).grown hgrow5 (by simp; omega) (fun q hq => by
          rcases hrow.out.2 with ⟨he, _⟩ | ⟨g, cap, cur, he, hB, _⟩
          · rw [he] at hq; simp [Value.ownBlock] at hq
          · rw [he] at hq; simp [Value.ownBlock] at hq; omega)
        have hxs : (runI acc).map (Value.int .i64) ++ [Value.int .i64 (R : Int)] = (runI (acc ++ [R])).map (Value.int .i64) := by simp [runI_snoc]
        have hle : (acc ++ [R]).length = acc.length + 1 := by simp
        rw [hxs, ← hle] at hown5
        refine ⟨⟨p + N, acc ++ [R], some ⟨g5, 0, none⟩, cap5, by omega, by rw [hle]; omega, ⟨HST.out, fun i hi => ?_⟩, by go_num, by rw [hle], hown5, hB5⟩, by simp [intOf]; omega⟩
        by_cases e : i < acc.length
        · rw [List.getElem_append_left e]; exact HR.out.2 i e
        · rw [List.getElem_append_right (by omega)]; simp; exact hr1
    · have HE : Hid (valV s = endV acc) := HR.out.1.done (by omega)
      by_cases h128 : 128 < acc.length
      · have HE2 : Hid (valV s = 43) := by show _ = _; rw [HE.out, endV, if_pos h128]
        go_wp2
        go_ret
        exact ⟨ret_int (by rw [HE2.out]; rfl), hbel⟩
      · have HE2 : Hid (valV s = if acc.any ctl = true then 44 else 0) := by show _ = _; rw [HE.out, endV, if_neg h128]
        have HN : Hid (NumsIn wr av (runI acc)) := nums_of_row (by rw [runI_len]; exact hrow.out)
        have HA : Hid (∀ i (h : i < acc.length), acc[i] ≤ 1114111) := HR.out.2
        clear hrow HR HE
        go_wp2
        go_loop [8, 35] (fun _ i => ∃ k : Nat, k ≤ acc.length ∧ i = .int .i64 k ∧ Hid ((acc.take k).any ctl = false)) (fun _ i => acc.length - (intOf i).toNat)
        case atStart => exact ⟨0, Nat.zero_le _, rfl, by show _ = _; simp⟩
        case round =>
          obtain ⟨k, hk, rfl, HK⟩ := hrel
          by_cases hlk : k < acc.length
          · obtain ⟨b, o, rfl, hb, c0⟩ := HN.out.at (i := k) (by rw [runI_len]; exact hlk)
            have hr := HA.out k hlk
            have e0 : (runI acc)[k]'(by rw [runI_len]; exact hlk) = ((acc[k] : Nat) : Int) := by simp [runI]
            rw [e0] at c0
            have HYES : Hid (ctl acc[k] = true → valV s = 44) := fun h => by rw [HE2.out, any_split acc k hlk, h]; simp
            have HNO : Hid (ctl acc[k] = false → (acc.take (k + 1)).any ctl = false) := fun h => by rw [List.take_succ_eq_append_getElem hlk, List.any_append, HK.out]; simp [h]
            have HB := ctl_btw acc[k]
            clear e0
            generalize acc[k] = R at *
            by_cases h32 : R < 32
            · have E : Hid (ctl R = true) := by show _ = _; simp [ctl, h32]
              clear HB
              go_wp2
              go_ret
              exact ⟨ret_int (by rw [HYES.out E.out]; rfl), hbel⟩
            · have HBT : Hid (btwB (R : Int) 127 159 = ctl R) := HB h32
              clear HB
              by_cases hc : ctl R = true
              · have HB2 : Hid (btwB (R : Int) 127 159 = true) := HBT.out.trans hc
                have HC : Hid (ctl R = true) := hc
                clear hc
                go_wp2_with fail
                refine (between_any _ _ _ _).mono ?_
                rintro e w1 ⟨rfl, hw⟩
                rw [HB2.out]
                replace hw := hw.symm
                subst hw
                go_wp2
                go_ret
                exact ⟨ret_int (by rw [HYES.out HC.out]; rfl), hbel⟩
              · have HC : Hid (ctl R = false) := by show _ = _; simpa using hc
                have HB2 : Hid (btwB (R : Int) 127 159 = false) := HBT.out.trans HC.out
                clear hc
                go_wp2_with fail
                refine (between_any _ _ _ _).mono ?_
                rintro e w1 ⟨rfl, hw⟩
                rw [HB2.out]
                replace hw := hw.symm
                subst hw
                go_wp2
                exact ⟨⟨k + 1, by omega, by go_num, HNO.out HC.out⟩, by simp [intOf]; omega⟩
          · have HV : Hid (valV s = 0) := by
              show _ = _
              have := HK.out
              rw [List.take_of_length_le (by omega)] at this
              rw [HE2.out, this]; rfl
            go_wp2
            go_ret
            exact ⟨ret_int (by rw [HV.out]; rfl), hbel⟩
end Go.Proofs.YtnbkmmmlhlbfoaaGreatDoor
