import Derived.WalkKit
import Derived.Below
import Derived.Laws.RangeAny
import Derived.Lib.RuneCountTail
import Derived.Test.YtoecnlhnfhongaaGreatDoorJ08LabB
import Derived.Test.YtoecnlhnfhongaaGreatDoorJ01RdL
import Derived.Test.YtoecnlhnfhongaaGreatDoorProg
import Derived.Test.YtoecnlhnfhongaaGreatDoorJ02BatL
namespace Go.Proofs.YtoecnlhnfhongaaGreatDoor
open Go.RowKit

def runesFrom (s : ByteArray) : Nat → Nat → Option (List Nat)
  | 0, _ => some []
  | b + 1, p => if p < s.size then (if Utf8.decode s p = (65533, 1) then none else (runesFrom s b (p + (Utf8.decode s p).2)).map ((Utf8.decode s p).1 :: ·)) else some []
def ctl (r : Nat) : Bool := decide (r < 32) || (decide (127 ≤ r) && decide (r ≤ 159))
def endV (l : List Nat) : Nat := if 128 < l.length then 43 else if l.any ctl = true then 44 else 0
def valV (s : ByteArray) : Nat := match runesFrom s s.size 0 with
  | none => 42
  | some l => endV l
/-- Up to place p the runes are acc. -/
def RInv (s : ByteArray) (p : Nat) (acc : List Nat) : Prop := acc.length ≤ p ∧ ∃ b, s.size ≤ p + b ∧ runesFrom s s.size 0 = (runesFrom s b p).map (acc ++ ·)

theorem RInv.start (s : ByteArray) : RInv s 0 [] := ⟨Nat.le_refl _, s.size, by omega, by simp⟩
theorem decode_pos (s : ByteArray) (p : Nat) : 1 ≤ (Utf8.decode s p).2 := by
  simp only [Utf8.decode]
  repeat' split
  all_goals simp_all
theorem RInv.step {s : ByteArray} {p : Nat} {acc : List Nat} (h : RInv s p acc) (hp : p < s.size) (hd : Utf8.decode s p ≠ (65533, 1)) : RInv s (p + (Utf8.decode s p).2) (acc ++ [(Utf8.decode s p).1]) := by
  obtain ⟨hl, b, hb, e⟩ := h
  have h1 := decode_pos s p
  cases b with
  | zero => omega
  | succ b =>
    refine ⟨by simp; omega, b, by omega, ?_⟩
    rw [e, runesFrom, if_pos hp, if_neg hd]
    cases runesFrom s b (p + (Utf8.decode s p).2) <;> simp
theorem RInv.bad {s : ByteArray} {p : Nat} {acc : List Nat} (h : RInv s p acc) (hp : p < s.size) (hd : Utf8.decode s p = (65533, 1)) : valV s = 42 := by
  obtain ⟨hl, b, hb, e⟩ := h
  cases b with
  | zero => omega
  | succ b =>
    rw [runesFrom, if_pos hp, if_pos hd] at e
    rw [valV, e]
    rfl
theorem RInv.done {s : ByteArray} {p : Nat} {acc : List Nat} (h : RInv s p acc) (hp : s.size ≤ p) : valV s = endV acc := by
  obtain ⟨hl, b, hb, e⟩ := h
  have : runesFrom s b p = some [] := by
    cases b with
    | zero => rfl
    | succ b => rw [runesFrom, if_neg (by omega)]
  rw [this] at e
  rw [valV, e]
  simp
theorem decode_at (s : ByteArray) (p : Nat) : Utf8.decode (s.extract p s.size) 0 = Utf8.decode s p := Lib.tail_decode s p 0
theorem valV_le (s : ByteArray) : valV s ≤ 44 := by
  unfold valV endV
  split
  · omega
  · split
    · omega
    · split <;> omega

/-- The rune with which t begins, and its width; nothing if none begins there. -/
def l3r (t : ByteArray) : Nat × Nat := if Utf8.decode t 0 = (65533, 1) then (0, 0) else Utf8.decode t 0
def byteAt (t : ByteArray) (k : Nat) : Nat := (t.get! k).toNat
theorem byteAt_lt (t : ByteArray) (k : Nat) : byteAt t k < 256 := (t.get! k).toNat_lt
theorem byteAt_eq (t : ByteArray) (k : Nat) (h : k < t.size) : t[k].toNat = byteAt t k := by
  have := get_at t k h
  rw [Nat.add_zero] at this
  rw [byteAt, this]

/-- The decoder over four bytes; c: is there such a byte, and does it go on. -/
def decN (b0 b1 b2 b3 : Nat) (c1 c2 c3 : Bool) : Nat × Nat :=
  if b0 < 128 then (b0, 1)
  else if (b0 / 32 == 6 && c1) = true then (if 128 ≤ b0 % 32 * 64 + b1 % 64 then (b0 % 32 * 64 + b1 % 64, 2) else (65533, 1))
  else if (b0 / 16 == 14 && c1 && c2) = true then (if (decide (2048 ≤ b0 % 16 * 4096 + b1 % 64 * 64 + b2 % 64) && Utf8.valid ((b0 % 16 * 4096 + b1 % 64 * 64 + b2 % 64 : Nat) : Int)) = true then (b0 % 16 * 4096 + b1 % 64 * 64 + b2 % 64, 3) else (65533, 1))
  else if (b0 / 8 == 30 && c1 && c2 && c3) = true then (if (decide (65536 ≤ b0 % 8 * 262144 + b1 % 64 * 4096 + b2 % 64 * 64 + b3 % 64) && Utf8.valid ((b0 % 8 * 262144 + b1 % 64 * 4096 + b2 % 64 * 64 + b3 % 64 : Nat) : Int)) = true then (b0 % 8 * 262144 + b1 % 64 * 4096 + b2 % 64 * 64 + b3 % 64, 4) else (65533, 1))
  else (65533, 1)
def cont (t : ByteArray) (k : Nat) : Bool := decide (k < t.size) && byteAt t k / 64 == 2
theorem cont_iff (t : ByteArray) (k : Nat) : cont t k = true ↔ k < t.size ∧ byteAt t k / 64 = 2 := by simp [cont]
theorem decode_N (t : ByteArray) (p : Nat) : Utf8.decode t p = decN (byteAt t p) (byteAt t (p + 1)) (byteAt t (p + 2)) (byteAt t (p + 3)) (cont t (p + 1)) (cont t (p + 2)) (cont t (p + 3)) := rfl
def okRb (v : Nat) : Bool := decide (v ≤ 1114111 ∧ ¬ (55296 ≤ v ∧ v ≤ 57343))
abbrev okR (v : Nat) : Prop := okRb v = true
theorem okR_mk {v : Nat} (h : v ≤ 1114111 ∧ ¬ (55296 ≤ v ∧ v ≤ 57343)) : okR v := decide_eq_true h
theorem okR_is {v : Nat} (h : okR v) : v ≤ 1114111 ∧ ¬ (55296 ≤ v ∧ v ≤ 57343) := of_decide_eq_true h
theorem valid_okR (v : Nat) : Utf8.valid (v : Int) = decide (okR v) := by
  unfold Utf8.valid okR okRb
  rw [Bool.eq_iff_iff]
  simp
  omega

theorem decN_two {b0 b1 b2 b3 : Nat} {c1 c2 c3 : Bool} (h : b0 / 32 = 6) : decN b0 b1 b2 b3 c1 c2 c3 = if c1 = true ∧ 128 ≤ b0 % 32 * 64 + b1 % 64 then (b0 % 32 * 64 + b1 % 64, 2) else (65533, 1) := by
  have h3 : (b0 / 16 == 14) = false := by simp; omega
  have h4 : (b0 / 8 == 30) = false := by simp; omega
  unfold decN
  rw [if_neg (by omega), h, h3, h4]
  cases c1 <;> simp
theorem decN_three {b0 b1 b2 b3 : Nat} {c1 c2 c3 : Bool} (h : b0 / 16 = 14) :
    decN b0 b1 b2 b3 c1 c2 c3 = if c1 = true ∧ c2 = true ∧ 2048 ≤ (b0 % 16 * 64 + b1 % 64) * 64 + b2 % 64 ∧ okR ((b0 % 16 * 64 + b1 % 64) * 64 + b2 % 64) then ((b0 % 16 * 64 + b1 % 64) * 64 + b2 % 64, 3) else (65533, 1) := by
  have h2 : (b0 / 32 == 6) = false := by simp; omega
  have h4 : (b0 / 8 == 30) = false := by simp; omega
  have e : b0 % 16 * 4096 + b1 % 64 * 64 + b2 % 64 = (b0 % 16 * 64 + b1 % 64) * 64 + b2 % 64 := by omega
  unfold decN
  rw [if_neg (by omega), h2, h, h4, e, valid_okR]
  cases c1 <;> cases c2 <;> simp [okR]
theorem decN_four {b0 b1 b2 b3 : Nat} {c1 c2 c3 : Bool} (h : b0 / 8 = 30) :
    decN b0 b1 b2 b3 c1 c2 c3 = if c1 = true ∧ c2 = true ∧ c3 = true ∧ 65536 ≤ ((b0 % 8 * 64 + b1 % 64) * 64 + b2 % 64) * 64 + b3 % 64 ∧ okR (((b0 % 8 * 64 + b1 % 64) * 64 + b2 % 64) * 64 + b3 % 64) then (((b0 % 8 * 64 + b1 % 64) * 64 + b2 % 64) * 64 + b3 % 64, 4) else (65533, 1) := by
  have h2 : (b0 / 32 == 6) = false := by simp; omega
  have h3 : (b0 / 16 == 14) = false := by simp; omega
  have e : b0 % 8 * 262144 + b1 % 64 * 4096 + b2 % 64 * 64 + b3 % 64 = ((b0 % 8 * 64 + b1 % 64) * 64 + b2 % 64) * 64 + b3 % 64 := by omega
  unfold decN
  rw [if_neg (by omega), h2, h3, h, e]
  simp only [valid_okR]
  cases c1 <;> cases c2 <;> cases c3 <;> simp [okR]
theorem decN_one {b0 b1 b2 b3 : Nat} {c1 c2 c3 : Bool} (h : b0 < 128) : decN b0 b1 b2 b3 c1 c2 c3 = (b0, 1) := by unfold decN; rw [if_pos h]
theorem decN_none {b0 b1 b2 b3 : Nat} {c1 c2 c3 : Bool} (h0 : 128 ≤ b0) (h2 : b0 / 32 ≠ 6) (h3 : b0 / 16 ≠ 14) (h4 : b0 / 8 ≠ 30) : decN b0 b1 b2 b3 c1 c2 c3 = (65533, 1) := by
  have h2 : (b0 / 32 == 6) = false := by simp [h2]
  have h3 : (b0 / 16 == 14) = false := by simp [h3]
  have h4 : (b0 / 8 == 30) = false := by simp [h4]
  unfold decN
  rw [if_neg (by omega), h2, h3, h4]
  simp
/-- What the decoder says: a fault, or a rune of so many bytes, which are there. -/
theorem decN_says {b0 b1 b2 b3 : Nat} {c1 c2 c3 : Bool} : decN b0 b1 b2 b3 c1 c2 c3 = (65533, 1) ∨ ((decN b0 b1 b2 b3 c1 c2 c3).1 ≤ 1114111 ∧ ((decN b0 b1 b2 b3 c1 c2 c3).2 = 1 ∨ (decN b0 b1 b2 b3 c1 c2 c3).2 = 2 ∧ c1 = true ∨ (decN b0 b1 b2 b3 c1 c2 c3).2 = 3 ∧ c2 = true ∨ (decN b0 b1 b2 b3 c1 c2 c3).2 = 4 ∧ c3 = true)) := by
  by_cases h1 : b0 < 128
  · rw [decN_one h1]; right; exact ⟨by simp; omega, Or.inl rfl⟩
  by_cases h2 : b0 / 32 = 6
  · rw [decN_two h2]
    split
    · rename_i h; right; exact ⟨by simp; omega, Or.inr (Or.inl ⟨rfl, h.1⟩)⟩
    · exact Or.inl rfl
  by_cases h3 : b0 / 16 = 14
  · rw [decN_three h3]
    split
    · rename_i h; right; exact ⟨(okR_is h.2.2.2).1, Or.inr (Or.inr (Or.inl ⟨rfl, h.2.1⟩))⟩
    · exact Or.inl rfl
  by_cases h4 : b0 / 8 = 30
  · rw [decN_four h4]
    split
    · rename_i h; right; exact ⟨(okR_is h.2.2.2.2).1, Or.inr (Or.inr (Or.inr ⟨rfl, h.2.2.1⟩))⟩
    · exact Or.inl rfl
  · rw [decN_none (by omega) h2 h3 h4]; exact Or.inl rfl

theorem decode_fits (s : ByteArray) (p : Nat) (hp : p < s.size) (h : Utf8.decode s p ≠ (65533, 1)) : p + (Utf8.decode s p).2 ≤ s.size := by
  rw [decode_N] at h ⊢
  rcases decN_says with h' | ⟨_, h' | ⟨e, h'⟩ | ⟨e, h'⟩ | ⟨e, h'⟩⟩
  · exact absurd h' h
  · rw [h']; omega
  · rw [e]; have := ((cont_iff _ _).1 h').1; omega
  · rw [e]; have := ((cont_iff _ _).1 h').1; omega
  · rw [e]; have := ((cont_iff _ _).1 h').1; omega
theorem decode_rune (s : ByteArray) (p : Nat) : (Utf8.decode s p).1 ≤ 1114111 ∧ (Utf8.decode s p).2 ≤ 4 := by
  rw [decode_N]
  rcases decN_says with h' | ⟨h, h' | ⟨e, h'⟩ | ⟨e, h'⟩ | ⟨e, h'⟩⟩
  · rw [h']; exact ⟨by simp, by simp⟩
  · exact ⟨h, by omega⟩
  · exact ⟨h, by omega⟩
  · exact ⟨h, by omega⟩
  · exact ⟨h, by omega⟩

theorem l3r_one (t : ByteArray) (h : byteAt t 0 < 128) : l3r t = (byteAt t 0, 1) := by
  rw [l3r, decode_N, decN_one h, if_neg]
  simp only [Prod.mk.injEq, and_true]
  omega
theorem l3r_if {t : ByteArray} {C D : Prop} [Decidable C] [Decidable D] {v n : Nat} (h : Utf8.decode t 0 = if C then (v, n) else (65533, 1)) (hn : n ≠ 1) (hC : C ↔ D) : l3r t = if D then (v, n) else (0, 0) := by
  unfold l3r
  rw [h]
  by_cases c : C
  · rw [if_pos c, if_pos (hC.1 c), if_neg (by simp; exact fun _ => hn)]
  · rw [if_neg c, if_neg (fun h => c (hC.2 h)), if_pos rfl]
theorem l3r_two (t : ByteArray) (h : byteAt t 0 / 32 = 6) :
    l3r t = if 2 ≤ t.size ∧ byteAt t 1 / 64 = 2 ∧ 128 ≤ byteAt t 0 % 32 * 64 + byteAt t 1 % 64 then (byteAt t 0 % 32 * 64 + byteAt t 1 % 64, 2) else (0, 0) := by
  refine l3r_if ((decode_N t 0).trans (decN_two h)) (by omega) ?_
  rw [Nat.zero_add, cont_iff]
  constructor
  · rintro ⟨⟨h1, h2⟩, h3⟩; exact ⟨h1, h2, h3⟩
  · rintro ⟨h1, h2, h3⟩; exact ⟨⟨h1, h2⟩, h3⟩
theorem l3r_three (t : ByteArray) (h : byteAt t 0 / 16 = 14) :
    l3r t = if 3 ≤ t.size ∧ byteAt t 1 / 64 = 2 ∧ byteAt t 2 / 64 = 2 ∧ 2048 ≤ (byteAt t 0 % 16 * 64 + byteAt t 1 % 64) * 64 + byteAt t 2 % 64 ∧ okR ((byteAt t 0 % 16 * 64 + byteAt t 1 % 64) * 64 + byteAt t 2 % 64) then ((byteAt t 0 % 16 * 64 + byteAt t 1 % 64) * 64 + byteAt t 2 % 64, 3) else (0, 0) := by
  refine l3r_if ((decode_N t 0).trans (decN_three h)) (by omega) ?_
  rw [Nat.zero_add, Nat.zero_add, cont_iff, cont_iff]
  constructor
  · rintro ⟨⟨_, h2⟩, ⟨h1, h3⟩, h4⟩; exact ⟨h1, h2, h3, h4⟩
  · rintro ⟨h1, h2, h3, h4⟩; exact ⟨⟨by omega, h2⟩, ⟨h1, h3⟩, h4⟩
theorem l3r_four (t : ByteArray) (h : byteAt t 0 / 8 = 30) :
    l3r t = if 4 ≤ t.size ∧ byteAt t 1 / 64 = 2 ∧ byteAt t 2 / 64 = 2 ∧ byteAt t 3 / 64 = 2 ∧ 65536 ≤ ((byteAt t 0 % 8 * 64 + byteAt t 1 % 64) * 64 + byteAt t 2 % 64) * 64 + byteAt t 3 % 64 ∧ okR (((byteAt t 0 % 8 * 64 + byteAt t 1 % 64) * 64 + byteAt t 2 % 64) * 64 + byteAt t 3 % 64) then (((byteAt t 0 % 8 * 64 + byteAt t 1 % 64) * 64 + byteAt t 2 % 64) * 64 + byteAt t 3 % 64, 4) else (0, 0) := by
  refine l3r_if ((decode_N t 0).trans (decN_four h)) (by omega) ?_
  rw [Nat.zero_add, Nat.zero_add, Nat.zero_add, cont_iff, cont_iff, cont_iff]
  constructor
  · rintro ⟨⟨_, h2⟩, ⟨_, h3⟩, ⟨h1, h4⟩, h5⟩; exact ⟨h1, h2, h3, h4, h5⟩
  · rintro ⟨h1, h2, h3, h4, h5⟩; exact ⟨⟨by omega, h2⟩, ⟨by omega, h3⟩, ⟨h1, h4⟩, h5⟩
theorem l3r_none (t : ByteArray) (h0 : 128 ≤ byteAt t 0) (h2 : byteAt t 0 / 32 ≠ 6) (h3 : byteAt t 0 / 16 ≠ 14) (h4 : byteAt t 0 / 8 ≠ 30) : l3r t = (0, 0) := by
  rw [l3r, decode_N, decN_none h0 h2 h3 h4, if_pos rfl]
theorem l3r_at (s : ByteArray) (p : Nat) : l3r (s.extract p s.size) = if Utf8.decode s p = (65533, 1) then (0, 0) else Utf8.decode s p := by rw [l3r, decode_at]
end Go.Proofs.YtoecnlhnfhongaaGreatDoor

namespace Go.Proofs.YtoecnlhnfhongaaGreatDoor
open Go.RowKit

abbrev alphaN (c : Nat) : Prop := (65 ≤ c ∧ c ≤ 90) ∨ (97 ≤ c ∧ c ≤ 122) ∨ c = 95
abbrev digitN (c : Nat) : Prop := 48 ≤ c ∧ c ≤ 57
abbrev nameC (s : ByteArray) (i : Nat) : Prop := alphaN (byteAt s i) ∨ (digitN (byteAt s i) ∧ 0 < i)
abbrev nameOK (s : ByteArray) : Prop := 1 ≤ s.size ∧ s.size ≤ 64 ∧ ∀ i, i < s.size → nameC s i
def nameB (s : ByteArray) : Bool := decide (nameOK s)

def labV (l : LabD) : Nat := if nameB l.name = true then valV l.value else 41
def firstBad : List LabD → Nat → Option (Nat × Nat)
  | [], _ => none
  | l :: r, i => if labV l = 0 then firstBad r (i + 1) else some (labV l, i)
def sameN (x l : LabD) : Bool := x.name.toList == l.name.toList
def firstTw : List LabD → List LabD → Nat → Option Nat
  | _, [], _ => none
  | seen, l :: r, i => if seen.any (fun x => sameN x l) = true then some i else firstTw (seen ++ [l]) r (i + 1)
def mname : ByteArray := ⟨#[95, 95, 110, 97, 109, 101, 95, 95]⟩
def isMet (l : LabD) : Bool := l.name.toList == mname.toList
def isEmp (l : LabD) : Bool := l.value.toList == ByteArray.empty.toList
def lessN (x y : LabD) : Bool := Op.bytesLess x.name.toList y.name.toList
def metV : List LabD → ByteArray
  | [] => ByteArray.empty
  | l :: r => if isMet l = true then l.value else metV r
def keptL (ls : List LabD) : List LabD := ls.filter (fun l => !isEmp l)
def metB (ls : List LabD) : Bool := ls.any (fun l => !isEmp l && isMet l)
def posI (l : LabD) : List LabD → Nat
  | [] => 0
  | x :: r => if lessN x l = true then posI l r + 1 else 0
def insL (l : LabD) (out : List LabD) : List LabD := out.take (posI l out) ++ l :: out.drop (posI l out)
def insAll (out : List LabD) : List LabD → List LabD
  | [] => out
  | l :: r => insAll (if isEmp l = true then out else insL l out) r
def canonR (ls : List LabD) : List LabD × Nat × Nat :=
  if 16 < ls.length then ([], 40, 0) else match firstBad ls 0 with
  | some (c, i) => ([], c, i)
  | none => match firstTw [] ls 0 with
    | some i => ([], 45, i)
    | none => if metB ls = true then (insAll [] ls, 0, 0) else ([], 46, 0)

theorem posI_le (l : LabD) : ∀ out, posI l out ≤ out.length
  | [] => Nat.le_refl _
  | x :: r => by
    have := posI_le l r
    rw [posI]
    split
    · simp; omega
    · simp
theorem posI_step (l : LabD) (out : List LabD) (k : Nat) (hk : k < out.length) : posI l (out.drop k) = if lessN out[k] l = true then posI l (out.drop (k + 1)) + 1 else 0 := by
  rw [List.drop_eq_getElem_cons hk, posI]
theorem insL_length (l : LabD) (out : List LabD) : (insL l out).length = out.length + 1 := by
  have := posI_le l out
  simp [insL]
  omega
theorem insL_perm (l : LabD) (out : List LabD) : (insL l out).Perm (l :: out) := by
  unfold insL
  refine List.perm_middle.trans ?_
  rw [List.take_append_drop]
theorem insAll_perm : ∀ (ls out : List LabD), (insAll out ls).Perm (out ++ keptL ls)
  | [], out => by simp [insAll, keptL]
  | l :: r, out => by
    rw [insAll, keptL, List.filter_cons]
    by_cases h : isEmp l = true
    · rw [if_pos h, if_neg (by simp [h])]
      exact insAll_perm r out
    · rw [if_neg h, if_pos (by simpa using h)]
      refine (insAll_perm r _).trans ?_
      refine ((insL_perm l out).append_right _).trans ?_
      exact (List.perm_middle (l₁ := out) (a := l) (l₂ := keptL r)).symm
theorem keptL_len (ls : List LabD) : (keptL ls).length ≤ ls.length := List.length_filter_le _ _
theorem insAll_len (ls : List LabD) : (insAll [] ls).length = (keptL ls).length := by
  have := (insAll_perm ls []).length_eq
  simpa using this

def Le (x y : LabD) : Prop := lessN y x = false
theorem posI_head (l : LabD) : ∀ (out : List LabD), ∀ x ∈ out.take (posI l out), lessN x l = true
  | [], x, h => by simp at h
  | y :: r, x, h => by
    rw [posI] at h
    split at h
    · rename_i hy
      rw [List.take_succ_cons, List.mem_cons] at h
      rcases h with rfl | h
      · exact hy
      · exact posI_head l r x h
    · simp at h
theorem posI_tail (l : LabD) : ∀ (out : List LabD), out.Pairwise Le → ∀ x ∈ out.drop (posI l out), lessN x l = false
  | [], _, x, h => by simp at h
  | y :: r, hp, x, h => by
    rw [posI] at h
    rw [List.pairwise_cons] at hp
    split at h
    · rw [List.drop_succ_cons] at h
      exact posI_tail l r hp.2 x h
    · rename_i hy
      rw [List.drop_zero, List.mem_cons] at h
      have hy' : lessN y l = false := by simpa using hy
      rcases h with rfl | h
      · exact hy'
      · have h1 := hp.1 x h
        unfold Le at h1
        cases hx : lessN x l
        · rfl
        · exfalso
          by_cases e : y.name.toList = l.name.toList
          · unfold lessN at h1 hx; rw [e] at h1; rw [h1] at hx; exact absurd hx (by simp)
          · have h2 : lessN l y = true := less_total _ _ hy' e
            have h3 : lessN x y = true := less_trans _ _ _ hx h2
            rw [h3] at h1; exact absurd h1 (by simp)
theorem le_trans_L {x y z : LabD} (h1 : Le x y) (h2 : Le y z) : Le x z := by
  unfold Le at *
  cases hx : lessN z x
  · rfl
  · exfalso
    by_cases e : y.name.toList = x.name.toList
    · unfold lessN at h2 hx; rw [e] at h2; rw [h2] at hx; exact absurd hx (by simp)
    · have h3 : lessN x y = true := less_total _ _ h1 e
      have h4 : lessN z y = true := less_trans _ _ _ hx h3
      rw [h4] at h2; exact absurd h2 (by simp)
theorem insL_sorted (l : LabD) (out : List LabD) (h : out.Pairwise Le) : (insL l out).Pairwise Le := by
  unfold insL
  have hh := posI_head l out
  have ht := posI_tail l out h
  rw [List.pairwise_append]
  refine ⟨h.sublist (List.take_sublist _ _), ?_, ?_⟩
  · rw [List.pairwise_cons]
    exact ⟨fun x hx => ht x hx, h.sublist (List.drop_sublist _ _)⟩
  · intro a ha b hb
    have h1 : Le a l := less_asymm (hh a ha)
    rw [List.mem_cons] at hb
    rcases hb with rfl | hb
    · exact h1
    · exact le_trans_L h1 (ht b hb)
theorem insAll_sorted : ∀ (ls out : List LabD), out.Pairwise Le → (insAll out ls).Pairwise Le
  | [], out, h => h
  | l :: r, out, h => by
    rw [insAll]
    refine insAll_sorted r _ ?_
    split
    · exact h
    · exact insL_sorted l out h

/-- No name twice. -/
def NoTw (ls : List LabD) : Prop := ls.Pairwise (fun x y => x.name ≠ y.name)
theorem sameN_iff (x l : LabD) : sameN x l = true ↔ x.name = l.name := by
  unfold sameN
  rw [beq_iff_eq]
  exact ⟨fun h => toList_inj h, fun h => by rw [h]⟩
theorem firstTw_none : ∀ (r seen : List LabD) (i : Nat), NoTw seen → firstTw seen r i = none → NoTw (seen ++ r)
  | [], seen, _, h, _ => by simpa using h
  | l :: r, seen, i, h, hn => by
    rw [firstTw] at hn
    split at hn
    · exact absurd hn (by simp)
    · rename_i hs
      have : NoTw (seen ++ [l]) := by
        unfold NoTw
        rw [List.pairwise_append]
        refine ⟨h, List.pairwise_singleton _ _, fun a ha b hb => ?_⟩
        rw [List.mem_singleton] at hb
        subst hb
        intro e
        apply hs
        rw [List.any_eq_true]
        exact ⟨a, ha, (sameN_iff _ _).2 e⟩
      have := firstTw_none r _ _ this hn
      simpa using this
theorem noTw_of (ls : List LabD) (h : firstTw [] ls 0 = none) : NoTw ls := by
  have := firstTw_none ls [] 0 (by exact List.Pairwise.nil) h
  simpa using this
theorem noTw_eq {ls : List LabD} (h : NoTw ls) {x y : LabD} (hx : x ∈ ls) (hy : y ∈ ls) (e : x.name = y.name) : x = y := by
  induction ls with
  | nil => exact absurd hx (by simp)
  | cons l r ih =>
    unfold NoTw at h
    rw [List.pairwise_cons] at h
    rw [List.mem_cons] at hx hy
    rcases hx with rfl | hx
    · rcases hy with rfl | hy
      · rfl
      · exact absurd e (h.1 y hy)
    · rcases hy with rfl | hy
      · exact absurd e.symm (h.1 x hx)
      · exact ih h.2 hx hy
/-- What is a sorted row of the kept labels is the form. -/
theorem sorted_is {ls out : List LabD} (h : NoTw ls) (hp : out.Perm (keptL ls)) (hs : out.Pairwise Le) : out = insAll [] ls := by
  have hp2 := (insAll_perm ls []).trans (by rw [List.nil_append])
  refine List.Perm.eq_of_pairwise (le := Le) ?_ hs (insAll_sorted ls [] List.Pairwise.nil) (hp.trans hp2.symm)
  intro a b ha hb h1 h2
  have ha' : a ∈ ls := (List.mem_filter.1 (hp.mem_iff.1 ha)).1
  have hb' : b ∈ ls := (List.mem_filter.1 (hp2.mem_iff.1 hb)).1
  refine noTw_eq h ha' hb' ?_
  by_cases e : a.name = b.name
  · exact e
  · have h3 : lessN b a = true := less_total _ _ h2 (fun e' => e (toList_inj e'))
    unfold Le at h1
    rw [h3] at h1
    exact absurd h1 (by simp)
/-- The metric is there just where its label has a value. -/
theorem metV_iff : ∀ (ls : List LabD), NoTw ls → ((metV ls).toList == ByteArray.empty.toList) = !metB ls
  | [], _ => by simp [metV, metB]
  | l :: r, h => by
    unfold NoTw at h
    rw [List.pairwise_cons] at h
    rw [metV, metB, List.any_cons]
    by_cases hm : isMet l = true
    · rw [if_pos hm, hm, Bool.and_true]
      have hr : (r.any fun l => !isEmp l && isMet l) = false := by
        rw [List.any_eq_false]
        intro x hx hc
        rw [Bool.and_eq_true] at hc
        have e1 : l.name = mname := toList_inj (by simpa [isMet] using hm)
        have e2 : x.name = mname := toList_inj (by simpa [isMet] using hc.2)
        exact h.1 x hx (by rw [e1, e2])
      rw [hr, Bool.or_false, Bool.not_not]
      rfl
    · rw [if_neg hm]
      have hm' : isMet l = false := by simpa using hm
      rw [hm', Bool.and_false, Bool.false_or]
      exact metV_iff r h.2

theorem canon_many {ls : List LabD} (h : 16 < ls.length) : canonR ls = ([], 40, 0) := by unfold canonR; rw [if_pos h]
theorem canon_bad {ls : List LabD} (h : ¬ 16 < ls.length) {c i : Nat} (hb : firstBad ls 0 = some (c, i)) : canonR ls = ([], c, i) := by unfold canonR; rw [if_neg h, hb]
theorem canon_twice {ls : List LabD} (h : ¬ 16 < ls.length) (hb : firstBad ls 0 = none) {i : Nat} (ht : firstTw [] ls 0 = some i) : canonR ls = ([], 45, i) := by unfold canonR; rw [if_neg h, hb, ht]
theorem canon_met {ls : List LabD} (h : ¬ 16 < ls.length) (hb : firstBad ls 0 = none) (ht : firstTw [] ls 0 = none) (hm : metB ls = false) : canonR ls = ([], 46, 0) := by
  unfold canonR; rw [if_neg h, hb, ht]; simp [hm]
theorem canon_ok {ls : List LabD} (h : ¬ 16 < ls.length) (hb : firstBad ls 0 = none) (ht : firstTw [] ls 0 = none) (hm : metB ls = true) : canonR ls = (insAll [] ls, 0, 0) := by
  unfold canonR; rw [if_neg h, hb, ht]; simp [hm]

theorem firstBad_step (ls : List LabD) (k : Nat) (hk : k < ls.length) : firstBad (ls.drop k) k = if labV ls[k] = 0 then firstBad (ls.drop (k + 1)) (k + 1) else some (labV ls[k], k) := by
  rw [List.drop_eq_getElem_cons hk, firstBad]
theorem firstTw_step (ls : List LabD) (k : Nat) (hk : k < ls.length) : firstTw (ls.take k) (ls.drop k) k = if (ls.take k).any (fun x => sameN x ls[k]) = true then some k else firstTw (ls.take (k + 1)) (ls.drop (k + 1)) (k + 1) := by
  rw [List.drop_eq_getElem_cons hk, firstTw, List.take_succ_eq_append_getElem hk]
theorem metV_step (ls : List LabD) (k : Nat) (hk : k < ls.length) : metV (ls.drop k) = if isMet ls[k] = true then ls[k].value else metV (ls.drop (k + 1)) := by
  rw [List.drop_eq_getElem_cons hk, metV]
theorem insAll_step (out ls : List LabD) (k : Nat) (hk : k < ls.length) : insAll out (ls.drop k) = insAll (if isEmp ls[k] = true then out else insL ls[k] out) (ls.drop (k + 1)) := by
  rw [List.drop_eq_getElem_cons hk, insAll]
theorem metB_take (ls : List LabD) (k : Nat) (hk : k < ls.length) : metB (ls.take (k + 1)) = (metB (ls.take k) || (!isEmp ls[k] && isMet ls[k])) := by
  rw [List.take_succ_eq_append_getElem hk, metB, List.any_append]
  simp [metB]
theorem keptL_take (ls : List LabD) (k : Nat) (hk : k < ls.length) : keptL (ls.take (k + 1)) = keptL (ls.take k) ++ if isEmp ls[k] = true then [] else [ls[k]] := by
  rw [List.take_succ_eq_append_getElem hk, keptL, List.filter_append, keptL]
  congr 1
  by_cases h : isEmp ls[k] = true <;> simp [h]
end Go.Proofs.YtoecnlhnfhongaaGreatDoor

namespace Go.Proofs.YtoecnlhnfhongaaGreatDoor
open Go.RowKit

def eqLabB (x y : LabD) : Bool := x.name.toList == y.name.toList && x.value.toList == y.value.toList
def sameLs : List LabD → List LabD → Bool
  | [], [] => true
  | x :: r, y :: q => eqLabB x y && sameLs r q
  | _, _ => false
theorem eqLabB_iff (x y : LabD) : eqLabB x y = true ↔ x = y := by
  unfold eqLabB
  rw [Bool.and_eq_true, beq_iff_eq, beq_iff_eq]
  constructor
  · rintro ⟨h1, h2⟩
    cases x; cases y
    simp only [LabD.mk.injEq]
    exact ⟨toList_inj h1, toList_inj h2⟩
  · rintro rfl; exact ⟨rfl, rfl⟩
theorem sameLs_iff : ∀ (a b : List LabD), sameLs a b = true ↔ a = b
  | [], [] => by simp [sameLs]
  | [], _ :: _ => by simp [sameLs]
  | _ :: _, [] => by simp [sameLs]
  | x :: r, y :: q => by
    rw [sameLs, Bool.and_eq_true, eqLabB_iff, sameLs_iff r q]
    simp
theorem sameLs_len {a b : List LabD} (h : a.length ≠ b.length) : sameLs a b = false := by
  rw [Bool.eq_false_iff]
  intro h'
  exact h (by rw [(sameLs_iff a b).1 h'])
theorem sameLs_drop (a b : List LabD) (k : Nat) (ha : k < a.length) (hb : k < b.length) : sameLs (a.drop k) (b.drop k) = (eqLabB a[k] b[k] && sameLs (a.drop (k + 1)) (b.drop (k + 1))) := by
  rw [List.drop_eq_getElem_cons ha, List.drop_eq_getElem_cons hb, sameLs]

def canB (ls : List LabD) : Bool := decide ((canonR ls).2.1 = 0) && sameLs (canonR ls).1 ls
def tailB : List LabD → ByteArray
  | [] => ByteArray.empty
  | l :: r => s8B l.name ++ s16B l.value ++ tailB r
def keyB (ls : List LabD) : ByteArray := numS 1 (ls.length : Nat) ++ tailB ls
def keyV (ls : List LabD) : ByteArray := if canB ls = true then keyB ls else ByteArray.empty

theorem tailB_append : ∀ (a b : List LabD), tailB (a ++ b) = tailB a ++ tailB b
  | [], b => by simp [tailB]
  | l :: r, b => by
    show s8B l.name ++ s16B l.value ++ tailB (r ++ b) = s8B l.name ++ s16B l.value ++ tailB r ++ tailB b
    rw [tailB_append r b, ByteArray.append_assoc (b := tailB r)]
theorem tailB_take (ls : List LabD) (k : Nat) (h : k < ls.length) : tailB (ls.take (k + 1)) = tailB (ls.take k) ++ (s8B ls[k].name ++ s16B ls[k].value) := by
  rw [List.take_succ_eq_append_getElem h, tailB_append]
  simp [tailB]
theorem canon_len0 (ls : List LabD) : (canonR ls).1.length ≤ 16 := by
  unfold canonR
  split
  · simp
  · rename_i h16
    split
    · simp
    · split
      · simp
      · split
        · simp only
          rw [insAll_len]
          have := keptL_len ls
          omega
        · simp
theorem canon_some16 {ls : List LabD} (h : (canonR ls).2.1 = 0) : ls.length ≤ 16 := by
  unfold canonR at h
  split at h
  · exact absurd h (by simp)
  · omega
theorem can_le {ls : List LabD} (h : canB ls = true) : ls.length ≤ 16 := by
  unfold canB at h
  rw [Bool.and_eq_true, decide_eq_true_eq] at h
  exact canon_some16 h.1
theorem can_form {ls : List LabD} (h : canB ls = true) : canonR ls = (ls, 0, (canonR ls).2.2) := by
  unfold canB at h
  rw [Bool.and_eq_true, decide_eq_true_eq] at h
  have h2 := (sameLs_iff _ _).1 h.2
  have h1 := h.1
  generalize canonR ls = c at *
  obtain ⟨x, y, z⟩ := c
  simp only at h1 h2
  rw [h1, h2]
end Go.Proofs.YtoecnlhnfhongaaGreatDoor

namespace Go.Proofs.YtoecnlhnfhongaaGreatDoor
open Go.RowKit

def labR (r : Rd) : LabD × Rd := (⟨(textR 1 r).1, (textR 2 (textR 1 r).2).1⟩, (textR 2 (textR 1 r).2).2)
def rdK (r : Rd) : Nat → List LabD × Rd
  | 0 => ([], r)
  | k + 1 => ((rdK r k).1 ++ [(labR (rdK r k).2).1], (labR (rdK r k).2).2)
def cntR (key : ByteArray) : Nat := (numR 1 ⟨key, false⟩).1
def rdAll (key : ByteArray) : List LabD × Rd := rdK (numR 1 ⟨key, false⟩).2 (cntR key)
def wholeB (r : Rd) : Bool := !r.short && (r.rest.toList == ByteArray.empty.toList)
def decV (key : ByteArray) : List LabD × Bool := if (wholeB (rdAll key).2 && canB (rdAll key).1) = true then ((rdAll key).1, true) else ([], false)

theorem labR_eq (r : Rd) : labR r = (⟨(textR 1 r).1, (textR 2 (textR 1 r).2).1⟩, (textR 2 (textR 1 r).2).2) := by rw [labR]
theorem rdK_succ (r : Rd) (k : Nat) : rdK r (k + 1) = ((rdK r k).1 ++ [(labR (rdK r k).2).1], (labR (rdK r k).2).2) := by rw [rdK]
theorem rdK_length (r : Rd) : ∀ k, (rdK r k).1.length = k
  | 0 => rfl
  | k + 1 => by rw [rdK]; simp [rdK_length r k]
theorem lab_sound {r : Rd} (h : (labR r).2.short = false) : r.short = false ∧ r.rest = s8B (labR r).1.name ++ s16B (labR r).1.value ++ (labR r).2.rest := by
  obtain ⟨h1, h2⟩ := text_sound (k := 2) (r := (textR 1 r).2) h
  obtain ⟨g1, g2⟩ := text_sound (k := 1) (r := r) h1
  refine ⟨g1, ?_⟩
  rw [g2, h2]
  apply bext
  simp [labR, s8B, s16B]
theorem lab_full {r : Rd} {l : LabD} {q : ByteArray} (h : r.rest = s8B l.name ++ s16B l.value ++ q) (h1 : l.name.size < 256) (h2 : l.value.size < 65536) : labR r = (l, ⟨q, r.short⟩) := by
  have e : r.rest = numS 1 (l.name.size : Nat) ++ (l.name ++ (s16B l.value ++ q)) := by
    rw [h]; apply bext; simp [s8B]
  have e1 := text_full e (by omega)
  have e2 : textR 2 (textR 1 r).2 = (l.value, ⟨q, r.short⟩) := by
    rw [e1]
    exact text_full (r := ⟨s16B l.value ++ q, r.short⟩) (by show s16B l.value ++ q = _; apply bext; simp [s16B]) (by omega)
  rw [labR, e2, e1]
theorem rd_sound {r : Rd} (k : Nat) : (rdK r k).2.short = false → r.short = false ∧ r.rest = tailB (rdK r k).1 ++ (rdK r k).2.rest := by
  induction k with
  | zero =>
    intro h
    refine ⟨h, ?_⟩
    show r.rest = ByteArray.empty ++ r.rest
    apply bext
    simp
  | succ k ih =>
    intro h
    rw [rdK_succ] at h ⊢
    simp only at h ⊢
    obtain ⟨h1, h2⟩ := lab_sound h
    obtain ⟨g1, g2⟩ := ih h1
    refine ⟨g1, ?_⟩
    generalize rdK r k = R at *
    generalize labR R.2 = L at *
    rw [g2, h2, tailB_append]
    have e3 : tailB [L.1] = s8B L.1.name ++ s16B L.1.value := by
      show s8B L.1.name ++ s16B L.1.value ++ ByteArray.empty = _
      apply bext
      simp
    rw [e3]
    apply bext
    simp
def SmallL (ls : List LabD) : Prop := ∀ i (h : i < ls.length), ls[i].name.size < 256 ∧ ls[i].value.size < 65536
theorem rd_full {r : Rd} {ls : List LabD} {q : ByteArray} (h : r.rest = tailB ls ++ q) (hs : SmallL ls) : ∀ k, k ≤ ls.length → rdK r k = (ls.take k, ⟨tailB (ls.drop k) ++ q, r.short⟩)
  | 0, _ => by
    cases r
    simp only at h
    simp [rdK, h]
  | k + 1, hk => by
    have ih := rd_full h hs k (by omega)
    have e : tailB (ls.drop k) ++ q = s8B ls[k].name ++ s16B ls[k].value ++ (tailB (ls.drop (k + 1)) ++ q) := by
      rw [List.drop_eq_getElem_cons (by omega)]
      apply bext
      simp [tailB]
    have hl := lab_full (r := ⟨tailB (ls.drop k) ++ q, r.short⟩) e (hs k (by omega)).1 (hs k (by omega)).2
    rw [rdK_succ, ih, hl, List.take_succ_eq_append_getElem (by omega)]

theorem runes_size (s : ByteArray) : ∀ (b p : Nat) (l : List Nat), s.size ≤ p + b → runesFrom s b p = some l → s.size ≤ p + 4 * l.length
  | 0, p, l, hb, _ => by omega
  | b + 1, p, l, hb, h => by
    rw [runesFrom] at h
    split at h
    · split at h
      · exact absurd h (by simp)
      · obtain ⟨l', hl', rfl⟩ := Option.map_eq_some_iff.1 h
        have h1 := decode_pos s p
        have h4 := (decode_rune s p).2
        have := runes_size s b _ l' (by omega) hl'
        simp
        omega
    · omega
theorem val_size {s : ByteArray} (h : valV s = 0) : s.size ≤ 512 := by
  unfold valV at h
  split at h
  · exact absurd h (by simp)
  · rename_i l hl
    unfold endV at h
    split at h
    · exact absurd h (by simp)
    · have := runes_size s s.size 0 l (by omega) hl
      omega
theorem firstBad_none : ∀ (ls : List LabD) (j : Nat), firstBad ls j = none → ∀ i (h : i < ls.length), labV ls[i] = 0
  | [], _, _, i, h => absurd h (by simp)
  | l :: r, j, hn, i, h => by
    rw [firstBad] at hn
    split at hn
    · rename_i h0
      cases i with
      | zero => exact h0
      | succ i => exact firstBad_none r _ hn i (by simpa using h)
    · exact absurd hn (by simp)
theorem firstBad_ne : ∀ (l : List LabD) (j c i : Nat), firstBad l j = some (c, i) → c ≠ 0
  | [], _, _, _, h => by simp [firstBad] at h
  | x :: r, j, c, i, h => by
    rw [firstBad] at h
    split at h
    · exact firstBad_ne r _ _ _ h
    · rename_i hx
      simp only [Option.some.injEq, Prod.mk.injEq] at h
      rw [← h.1]
      exact hx
theorem can_small {ls : List LabD} (h : canB ls = true) : SmallL ls := by
  have hc := can_form h
  have h16 := can_le h
  have h0 : (canonR ls).2.1 = 0 := by rw [hc]
  have hb : firstBad ls 0 = none := by
    cases hb : firstBad ls 0 with
    | none => rfl
    | some ci =>
      obtain ⟨c, i⟩ := ci
      rw [canon_bad (by omega) hb] at h0
      exact absurd h0 (firstBad_ne ls 0 c i hb)
  intro i hi
  have hl := firstBad_none ls 0 hb i hi
  unfold labV at hl
  split at hl
  · rename_i hn
    have hn' : nameOK ls[i].name := by simpa [nameB] using hn
    have := val_size hl
    exact ⟨by have := hn'.2.1; omega, by omega⟩
  · exact absurd hl (by simp)

theorem dec_full {ls : List LabD} (h : canB ls = true) : decV (keyB ls) = (ls, true) := by
  have h16 := can_le h
  have hs := can_small h
  have h1 : takeR 1 ⟨keyB ls, false⟩ = (numS 1 (ls.length : Nat), ⟨tailB ls, false⟩) := take_full rfl (numS_size 1 _)
  have hc : cntR (keyB ls) = ls.length := by
    show beL (takeR 1 ⟨keyB ls, false⟩).1.data.toList = _
    rw [h1]
    exact be_numS 1 ls.length (by omega)
  have hn : (numR 1 ⟨keyB ls, false⟩).2 = ⟨tailB ls, false⟩ := by
    show (takeR 1 ⟨keyB ls, false⟩).2 = _
    rw [h1]
  have ha : rdAll (keyB ls) = (ls, ⟨ByteArray.empty, false⟩) := by
    unfold rdAll
    rw [hc, hn]
    have e := rd_full (r := ⟨tailB ls, false⟩) (q := ByteArray.empty) (by apply bext; simp) hs ls.length (Nat.le_refl _)
    rw [e, List.take_length, List.drop_length]
    simp [tailB]
  unfold decV
  rw [ha]
  simp only
  rw [if_pos (by simp [wholeB, h])]
theorem dec_key {key : ByteArray} (h : (decV key).2 = true) : canB (decV key).1 = true ∧ keyB (decV key).1 = key := by
  unfold decV at h ⊢
  split at h
  · rename_i hw
    rw [if_pos hw]
    rw [Bool.and_eq_true] at hw
    refine ⟨hw.2, ?_⟩
    have hwh := hw.1
    unfold wholeB at hwh
    rw [Bool.and_eq_true] at hwh
    have hsh : (rdAll key).2.short = false := by simpa using hwh.1
    have hre : (rdAll key).2.rest = ByteArray.empty := toList_inj (by simpa using hwh.2)
    obtain ⟨g1, g2⟩ := rd_sound (r := (numR 1 ⟨key, false⟩).2) (cntR key) hsh
    obtain ⟨k1, k2, k3⟩ := take_sound (n := 1) (r := ⟨key, false⟩) g1
    have hl : (rdAll key).1.length = cntR key := rdK_length _ _
    have e : numS 1 ((rdAll key).1.length : Nat) = (takeR 1 ⟨key, false⟩).1 := by
      rw [hl]
      have := numS_be (takeR 1 ⟨key, false⟩).1.data.toList 1 (by rw [← bsize]; exact k2)
      show numS 1 (beL (takeR 1 ⟨key, false⟩).1.data.toList : Nat) = _
      rw [this]
    show numS 1 ((rdAll key).1.length : Nat) ++ tailB (rdAll key).1 = key
    have g2' : (takeR 1 ⟨key, false⟩).2.rest = tailB (rdAll key).1 ++ (rdAll key).2.rest := g2
    have k3' : key = (takeR 1 ⟨key, false⟩).1 ++ (takeR 1 ⟨key, false⟩).2.rest := k3
    rw [e]
    conv => rhs; rw [k3', g2', hre]
    apply bext
    simp
  · exact absurd h (by simp)
theorem dec_not {key : ByteArray} (h : (decV key).2 = false) : decV key = ([], false) ∧ ∀ ls, canB ls = true → keyB ls ≠ key := by
  refine ⟨?_, fun ls hc e => ?_⟩
  · unfold decV at h ⊢
    split at h
    · exact absurd h (by simp)
    · rename_i hw; rw [if_neg hw]
  · rw [← e, dec_full hc] at h
    exact absurd h (by simp)

theorem rd_big (r : Rd) (k : Nat) : (rdK r k).2.rest.size ≤ r.rest.size ∧ ∀ i (h : i < (rdK r k).1.length), (rdK r k).1[i].name.size ≤ r.rest.size ∧ (rdK r k).1[i].value.size ≤ r.rest.size := by
  induction k with
  | zero => exact ⟨Nat.le_refl _, fun i h => absurd h (by simp [rdK])⟩
  | succ k ih =>
    have h1 := text_le 1 (rdK r k).2
    have h2 := text_le 2 (textR 1 (rdK r k).2).2
    rw [rdK_succ, labR_eq]
    generalize rdK r k = R at *
    generalize textR 1 R.2 = t1 at *
    generalize textR 2 t1.2 = t2 at *
    refine ⟨by have := ih.1; simp only; omega, fun i hi => ?_⟩
    simp only at hi
    by_cases e : i < R.1.length
    · simp only [List.getElem_append_left e]; exact ih.2 i e
    · have hlen : i = R.1.length := by simp at hi; omega
      subst hlen
      simp only [List.getElem_concat_length]
      have := ih.1
      exact ⟨by omega, by omega⟩
theorem rdAll_big (key : ByteArray) : ∀ i (h : i < (rdAll key).1.length), (rdAll key).1[i].name.size ≤ key.size ∧ (rdAll key).1[i].value.size ≤ key.size := by
  intro i hi
  have h1 := (rd_big (numR 1 ⟨key, false⟩).2 (cntR key)).2 i hi
  have h2 := (take_le 1 ⟨key, false⟩).2.2
  have h3 : (numR 1 ⟨key, false⟩).2.rest.size ≤ key.size := h2
  exact ⟨Nat.le_trans h1.1 h3, Nat.le_trans h1.2 h3⟩
end Go.Proofs.YtoecnlhnfhongaaGreatDoor

namespace Go.Proofs.YtoecnlhnfhongaaGreatDoor
open Go.RowKit

theorem within_any (x hi : Int) (w : World) : Calls Tryz.prog 36 #[.int .i64 x, .int .i64 hi] w fun e w' => e = .returned (.bool (btwB x 0 hi)) ∧ w' = w := by
  by_cases h1 : 0 ≤ x
  · by_cases h2 : x ≤ hi
    · have e : btwB x 0 hi = true := by simp [btwB, h1, h2]
      rw [e]
      go_enter Tryz.func36, Tryz.ntmps36
      go_wp2
      go_ret
      exact ⟨rfl, rfl⟩
    · have e : btwB x 0 hi = false := by simp [btwB, h2]
      rw [e]
      go_enter Tryz.func36, Tryz.ntmps36
      go_wp2
      go_ret
      exact ⟨rfl, rfl⟩
  · have e : btwB x 0 hi = false := by simp [btwB, h1]
    rw [e]
    go_enter Tryz.func36, Tryz.ntmps36
    go_wp2
    go_ret
    exact ⟨rfl, rfl⟩

end Go.Proofs.YtoecnlhnfhongaaGreatDoor

