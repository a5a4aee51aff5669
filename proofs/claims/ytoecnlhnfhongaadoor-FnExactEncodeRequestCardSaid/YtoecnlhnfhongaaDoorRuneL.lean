/- The verifier's own text: what a value's runes are, and its fault. -/
import Derived.WalkKit
import Derived.Below
import Derived.Laws.RangeAny
import Derived.Lib.RuneCountTail
namespace Go.Proofs.YtoecnlhnfhongaaDoor
open Go.RowKit

def runesFrom (s : ByteArray) : Nat → Nat → Option (List Nat)
  | 0, _ => some []
  | b + 1, p => if p < s.size then (if Utf8.decode s p = (65533, 1) then none else (runesFrom s b (p + (Utf8.decode s p).2)).map ((Utf8.decode s p).1 :: ·)) else some []
def ctl (r : Nat) : Bool := decide (r < 32) || (decide (127 ≤ r) && decide (r ≤ 159))
def endV (l : List Nat) : Nat := if 128 < l.length then 43 else if l.any ctl = true then 44 else 0
def valV (s : ByteArray) : Nat := match runesFrom s s.size 0 with
  | none => 42
  | some l => endV l
/-- Up to place p the runes are acc. -/
def RInv (s : ByteArray) (p : Nat) (acc : List Nat) : Prop := acc.length ≤ p ∧ ∃ b, s.size ≤ p + b ∧ runesFrom s s.size 0 = (runesFrom s b p).map (acc ++ ·)

theorem RInv.start (s : ByteArray) : RInv s 0 [] := ⟨Nat.le_refl _, s.size, by omega, by simp⟩
theorem decode_pos (s : ByteArray) (p : Nat) : 1 ≤ (Utf8.decode s p).2 := by
  simp only [Utf8.decode]
  repeat' split
  all_goals simp_all
theorem RInv.step {s : ByteArray} {p : Nat} {acc : List Nat} (h : RInv s p acc) (hp : p < s.size) (hd : Utf8.decode s p ≠ (65533, 1)) : RInv s (p + (Utf8.decode s p).2) (acc ++ [(Utf8.decode s p).1]) := by
  obtain ⟨hl, b, hb, e⟩ := h
  have h1 := decode_pos s p
  cases b with
  | zero => omega
  | succ b =>
    refine ⟨by simp; omega, b, by omega, ?_⟩
    rw [e, runesFrom, if_pos hp, if_neg hd]
    cases runesFrom s b (p + (Utf8.decode s p).2) <;> simp
theorem RInv.bad {s : ByteArray} {p : Nat} {acc : List Nat} (h : RInv s p acc) (hp : p < s.size) (hd : Utf8.decode s p = (65533, 1)) : valV s = 42 := by
  obtain ⟨hl, b, hb, e⟩ := h
  cases b with
  | zero => omega
  | succ b =>
    rw [runesFrom, if_pos hp, if_pos hd] at e
    rw [valV, e]
    rfl
theorem RInv.done {s : ByteArray} {p : Nat} {acc : List Nat} (h : RInv s p acc) (hp : s.size ≤ p) : valV s = endV acc := by
  obtain ⟨hl, b, hb, e⟩ := h
  have : runesFrom s b p = some [] := by
    cases b with
    | zero => rfl
    | succ b => rw [runesFrom, if_neg (by omega)]
  rw [this] at e
  rw [valV, e]
  simp
theorem decode_at (s : ByteArray) (p : Nat) : Utf8.decode (s.extract p s.size) 0 = Utf8.decode s p := Lib.tail_decode s p 0
theorem valV_le (s : ByteArray) : valV s ≤ 44 := by
  unfold valV endV
  split
  · omega
  · split
    · omega
    · split <;> omega

/-- The rune with which t begins, and its width; nothing if none begins there. -/
def l3r (t : ByteArray) : Nat × Nat := if Utf8.decode t 0 = (65533, 1) then (0, 0) else Utf8.decode t 0
def byteAt (t : ByteArray) (k : Nat) : Nat := (t.get! k).toNat
theorem byteAt_lt (t : ByteArray) (k : Nat) : byteAt t k < 256 := (t.get! k).toNat_lt
theorem byteAt_eq (t : ByteArray) (k : Nat) (h : k < t.size) : t[k].toNat = byteAt t k := by
  have := get_at t k h
  rw [Nat.add_zero] at this
  rw [byteAt, this]

/-- The decoder over four bytes; c: is there such a byte, and does it go on. -/
def decN (b0 b1 b2 b3 : Nat) (c1 c2 c3 : Bool) : Nat × Nat :=
  if b0 < 128 then (b0, 1)
  else if (b0 / 32 == 6 && c1) = true then (if 128 ≤ b0 % 32 * 64 + b1 % 64 then (b0 % 32 * 64 + b1 % 64, 2) else (65533, 1))
  else if (b0 / 16 == 14 && c1 && c2) = true then (if (decide (2048 ≤ b0 % 16 * 4096 + b1 % 64 * 64 + b2 % 64) && Utf8.valid ((b0 % 16 * 4096 + b1 % 64 * 64 + b2 % 64 : Nat) : Int)) = true then (b0 % 16 * 4096 + b1 % 64 * 64 + b2 % 64, 3) else (65533, 1))
  else if (b0 / 8 == 30 && c1 && c2 && c3) = true then (if (decide (65536 ≤ b0 % 8 * 262144 + b1 % 64 * 4096 + b2 % 64 * 64 + b3 % 64) && Utf8.valid ((b0 % 8 * 262144 + b1 % 64 * 4096 + b2 % 64 * 64 + b3 % 64 : Nat) : Int)) = true then (b0 % 8 * 262144 + b1 % 64 * 4096 + b2 % 64 * 64 + b3 % 64, 4) else (65533, 1))
  else (65533, 1)
def cont (t : ByteArray) (k : Nat) : Bool := decide (k < t.size) && byteAt t k / 64 == 2
theorem cont_iff (t : ByteArray) (k : Nat) : cont t k = true ↔ k < t.size ∧ byteAt t k / 64 = 2 := by simp [cont]
theorem decode_N (t : ByteArray) (p : Nat) : Utf8.decode t p = decN (byteAt t p) (byteAt t (p + 1)) (byteAt t (p + 2)) (byteAt t (p + 3)) (cont t (p + 1)) (cont t (p + 2)) (cont t (p + 3)) := rfl
def okRb (v : Nat) : Bool := decide (v ≤ 1114111 ∧ ¬ (55296 ≤ v ∧ v ≤ 57343))
abbrev okR (v : Nat) : Prop := okRb v = true
theorem okR_mk {v : Nat} (h : v ≤ 1114111 ∧ ¬ (55296 ≤ v ∧ v ≤ 57343)) : okR v := decide_eq_true h
theorem okR_is {v : Nat} (h : okR v) : v ≤ 1114111 ∧ ¬ (55296 ≤ v ∧ v ≤ 57343) := of_decide_eq_true h
theorem valid_okR (v : Nat) : Utf8.valid (v : Int) = decide (okR v) := by
  unfold Utf8.valid okR okRb
  rw [Bool.eq_iff_iff]
  simp
  omega

theorem decN_two {b0 b1 b2 b3 : Nat} {c1 c2 c3 : Bool} (h : b0 / 32 = 6) : decN b0 b1 b2 b3 c1 c2 c3 = if c1 = true ∧ 128 ≤ b0 % 32 * 64 + b1 % 64 then (b0 % 32 * 64 + b1 % 64, 2) else (65533, 1) := by
  have h3 : (b0 / 16 == 14) = false := by simp; omega
  have h4 : (b0 / 8 == 30) = false := by simp; omega
  unfold decN
  rw [if_neg (by omega), h, h3, h4]
  cases c1 <;> simp
theorem decN_three {b0 b1 b2 b3 : Nat} {c1 c2 c3 : Bool} (h : b0 / 16 = 14) :
    decN b0 b1 b2 b3 c1 c2 c3 = if c1 = true ∧ c2 = true ∧ 2048 ≤ (b0 % 16 * 64 + b1 % 64) * 64 + b2 % 64 ∧ okR ((b0 % 16 * 64 + b1 % 64) * 64 + b2 % 64) then ((b0 % 16 * 64 + b1 % 64) * 64 + b2 % 64, 3) else (65533, 1) := by
  have h2 : (b0 / 32 == 6) = false := by simp; omega
  have h4 : (b0 / 8 == 30) = false := by simp; omega
  have e : b0 % 16 * 4096 + b1 % 64 * 64 + b2 % 64 = (b0 % 16 * 64 + b1 % 64) * 64 + b2 % 64 := by omega
  unfold decN
  rw [if_neg (by omega), h2, h, h4, e, valid_okR]
  cases c1 <;> cases c2 <;> simp [okR]
theorem decN_four {b0 b1 b2 b3 : Nat} {c1 c2 c3 : Bool} (h : b0 / 8 = 30) :
    decN b0 b1 b2 b3 c1 c2 c3 = if c1 = true ∧ c2 = true ∧ c3 = true ∧ 65536 ≤ ((b0 % 8 * 64 + b1 % 64) * 64 + b2 % 64) * 64 + b3 % 64 ∧ okR (((b0 % 8 * 64 + b1 % 64) * 64 + b2 % 64) * 64 + b3 % 64) then (((b0 % 8 * 64 + b1 % 64) * 64 + b2 % 64) * 64 + b3 % 64, 4) else (65533, 1) := by
  have h2 : (b0 / 32 == 6) = false := by simp; omega
  have h3 : (b0 / 16 == 14) = false := by simp; omega
  have e : b0 % 8 * 262144 + b1 % 64 * 4096 + b2 % 64 * 64 + b3 % 64 = ((b0 % 8 * 64 + b1 % 64) * 64 + b2 % 64) * 64 + b3 % 64 := by omega
  unfold decN
  rw [if_neg (by omega), h2, h3, h, e]
  simp only [valid_okR]
  cases c1 <;> cases c2 <;> cases c3 <;> simp [okR]
theorem decN_one {b0 b1 b2 b3 : Nat} {c1 c2 c3 : Bool} (h : b0 < 128) : decN b0 b1 b2 b3 c1 c2 c3 = (b0, 1) := by unfold decN; rw [if_pos h]
theorem decN_none {b0 b1 b2 b3 : Nat} {c1 c2 c3 : Bool} (h0 : 128 ≤ b0) (h2 : b0 / 32 ≠ 6) (h3 : b0 / 16 ≠ 14) (h4 : b0 / 8 ≠ 30) : decN b0 b1 b2 b3 c1 c2 c3 = (65533, 1) := by
  have h2 : (b0 / 32 == 6) = false := by simp [h2]
  have h3 : (b0 / 16 == 14) = false := by simp [h3]
  have h4 : (b0 / 8 == 30) = false := by simp [h4]
  unfold decN
  rw [if_neg (by omega), h2, h3, h4]
  simp
/-- What the decoder says: a fault, or a rune of so many bytes, which are there. -/
theorem decN_says {b0 b1 b2 b3 : Nat} {c1 c2 c3 : Bool} : decN b0 b1 b2 b3 c1 c2 c3 = (65533, 1) ∨ ((decN b0 b1 b2 b3 c1 c2 c3).1 ≤ 1114111 ∧ ((decN b0 b1 b2 b3 c1 c2 c3).2 = 1 ∨ (decN b0 b1 b2 b3 c1 c2 c3).2 = 2 ∧ c1 = true ∨ (decN b0 b1 b2 b3 c1 c2 c3).2 = 3 ∧ c2 = true ∨ (decN b0 b1 b2 b3 c1 c2 c3).2 = 4 ∧ c3 = true)) := by
  by_cases h1 : b0 < 128
  · rw [decN_one h1]; right; exact ⟨by simp; omega, Or.inl rfl⟩
  by_cases h2 : b0 / 32 = 6
  · rw [decN_two h2]
    split
    · rename_i h; right; exact ⟨by simp; omega, Or.inr (Or.inl ⟨rfl, h.1⟩)⟩
    · exact Or.inl rfl
  by_cases h3 : b0 / 16 = 14
  · rw [decN_three h3]
    split
    · rename_i h; right; exact ⟨(okR_is h.2.2.2).1, Or.inr (Or.inr (Or.inl ⟨rfl, h.2.1⟩))⟩
    · exact Or.inl rfl
  by_cases h4 : b0 / 8 = 30
  · rw [decN_four h4]
    split
    · rename_i h; right; exact ⟨(okR_is h.2.2.2.2).1, Or.inr (Or.inr (Or.inr ⟨rfl, h.2.2.1⟩))⟩
    · exact Or.inl rfl
  · rw [decN_none (by omega) h2 h3 h4]; exact Or.inl rfl

theorem decode_fits (s : ByteArray) (p : Nat) (hp : p < s.size) (h : Utf8.decode s p ≠ (65533, 1)) : p + (Utf8.decode s p).2 ≤ s.size := by
  rw [decode_N] at h ⊢
  rcases decN_says with h' | ⟨_, h' | ⟨e, h'⟩ | ⟨e, h'⟩ | ⟨e, h'⟩⟩
  · exact absurd h' h
  · rw [h']; omega
  · rw [e]; have := ((cont_iff _ _).1 h').1; omega
  · rw [e]; have := ((cont_iff _ _).1 h').1; omega
  · rw [e]; have := ((cont_iff _ _).1 h').1; omega
theorem decode_rune (s : ByteArray) (p : Nat) : (Utf8.decode s p).1 ≤ 1114111 ∧ (Utf8.decode s p).2 ≤ 4 := by
  rw [decode_N]
  rcases decN_says with h' | ⟨h, h' | ⟨e, h'⟩ | ⟨e, h'⟩ | ⟨e, h'⟩⟩
  · rw [h']; exact ⟨by simp, by simp⟩
  · exact ⟨h, by omega⟩
  · exact ⟨h, by omega⟩
  · exact ⟨h, by omega⟩
  · exact ⟨h, by omega⟩

theorem l3r_one (t : ByteArray) (h : byteAt t 0 < 128) : l3r t = (byteAt t 0, 1) := by
  rw [l3r, decode_N, decN_one h, if_neg]
  simp only [Prod.mk.injEq, and_true]
  omega
theorem l3r_if {t : ByteArray} {C D : Prop} [Decidable C] [Decidable D] {v n : Nat} (h : Utf8.decode t 0 = if C then (v, n) else (65533, 1)) (hn : n ≠ 1) (hC : C ↔ D) : l3r t = if D then (v, n) else (0, 0) := by
  unfold l3r
  rw [h]
  by_cases c : C
  · rw [if_pos c, if_pos (hC.1 c), if_neg (by simp; exact fun _ => hn)]
  · rw [if_neg c, if_neg (fun h => c (hC.2 h)), if_pos rfl]
theorem l3r_two (t : ByteArray) (h : byteAt t 0 / 32 = 6) :
    l3r t = if 2 ≤ t.size ∧ byteAt t 1 / 64 = 2 ∧ 128 ≤ byteAt t 0 % 32 * 64 + byteAt t 1 % 64 then (byteAt t 0 % 32 * 64 + byteAt t 1 % 64, 2) else (0, 0) := by
  refine l3r_if ((decode_N t 0).trans (decN_two h)) (by omega) ?_
  rw [Nat.zero_add, cont_iff]
  constructor
  · rintro ⟨⟨h1, h2⟩, h3⟩; exact ⟨h1, h2, h3⟩
  · rintro ⟨h1, h2, h3⟩; exact ⟨⟨h1, h2⟩, h3⟩
theorem l3r_three (t : ByteArray) (h : byteAt t 0 / 16 = 14) :
    l3r t = if 3 ≤ t.size ∧ byteAt t 1 / 64 = 2 ∧ byteAt t 2 / 64 = 2 ∧ 2048 ≤ (byteAt t 0 % 16 * 64 + byteAt t 1 % 64) * 64 + byteAt t 2 % 64 ∧ okR ((byteAt t 0 % 16 * 64 + byteAt t 1 % 64) * 64 + byteAt t 2 % 64) then ((byteAt t 0 % 16 * 64 + byteAt t 1 % 64) * 64 + byteAt t 2 % 64, 3) else (0, 0) := by
  refine l3r_if ((decode_N t 0).trans (decN_three h)) (by omega) ?_
  rw [Nat.zero_add, Nat.zero_add, cont_iff, cont_iff]
  constructor
  · rintro ⟨⟨_, h2⟩, ⟨h1, h3⟩, h4⟩; exact ⟨h1, h2, h3, h4⟩
  · rintro ⟨h1, h2, h3, h4⟩; exact ⟨⟨by omega, h2⟩, ⟨h1, h3⟩, h4⟩
theorem l3r_four (t : ByteArray) (h : byteAt t 0 / 8 = 30) :
    l3r t = if 4 ≤ t.size ∧ byteAt t 1 / 64 = 2 ∧ byteAt t 2 / 64 = 2 ∧ byteAt t 3 / 64 = 2 ∧ 65536 ≤ ((byteAt t 0 % 8 * 64 + byteAt t 1 % 64) * 64 + byteAt t 2 % 64) * 64 + byteAt t 3 % 64 ∧ okR (((byteAt t 0 % 8 * 64 + byteAt t 1 % 64) * 64 + byteAt t 2 % 64) * 64 + byteAt t 3 % 64) then (((byteAt t 0 % 8 * 64 + byteAt t 1 % 64) * 64 + byteAt t 2 % 64) * 64 + byteAt t 3 % 64, 4) else (0, 0) := by
  refine l3r_if ((decode_N t 0).trans (decN_four h)) (by omega) ?_
  rw [Nat.zero_add, Nat.zero_add, Nat.zero_add, cont_iff, cont_iff, cont_iff]
  constructor
  · rintro ⟨⟨_, h2⟩, ⟨_, h3⟩, ⟨h1, h4⟩, h5⟩; exact ⟨h1, h2, h3, h4, h5⟩
  · rintro ⟨h1, h2, h3, h4, h5⟩; exact ⟨⟨by omega, h2⟩, ⟨by omega, h3⟩, ⟨h1, h4⟩, h5⟩
theorem l3r_none (t : ByteArray) (h0 : 128 ≤ byteAt t 0) (h2 : byteAt t 0 / 32 ≠ 6) (h3 : byteAt t 0 / 16 ≠ 14) (h4 : byteAt t 0 / 8 ≠ 30) : l3r t = (0, 0) := by
  rw [l3r, decode_N, decN_none h0 h2 h3 h4, if_pos rfl]
theorem l3r_at (s : ByteArray) (p : Nat) : l3r (s.extract p s.size) = if Utf8.decode s p = (65533, 1) then (0, 0) else Utf8.decode s p := by rw [l3r, decode_at]
end Go.Proofs.YtoecnlhnfhongaaDoor
