import Derived.WalkKit
import Derived.Below
import Derived.Laws.RangeAny
import Derived.Lib.RuneCountTail
import Derived.Test.YtojeemogabhaoaaGreatDoorJ03LabB
import Derived.Test.YtojeemogabhaoaaGreatDoorJ02Ord
import Derived.Test.YtojeemogabhaoaaGreatDoorJ01BlkN
import Derived.Deep.AppendLies
import Derived.Test.YtojeemogabhaoaaGreatDoorProg
import Derived.Laws.BytesArg
namespace Go.Proofs.YtojeemogabhaoaaGreatDoor
open Go.RowKit
def runesFrom (s : ByteArray) : Nat → Nat → Option (List Nat)
  | 0, _ => some []
  | b + 1, p => if p < s.size then (if Utf8.decode s p = (65533, 1) then none else (runesFrom s b (p + (Utf8.decode s p).2)).map ((Utf8.decode s p).1 :: ·)) else some []
def ctl (r : Nat) : Bool := decide (r < 32) || (decide (127 ≤ r) && decide (r ≤ 159))
def endV (l : List Nat) : Nat := if 128 < l.length then 43 else if l.any ctl = true then 44 else 0
def valV (s : ByteArray) : Nat := match runesFrom s s.size 0 with
  | none => 42
  | some l => endV l
def RInv (s : ByteArray) (p : Nat) (acc : List Nat) : Prop := acc.length ≤ p ∧ ∃ b, s.size ≤ p + b ∧ runesFrom s s.size 0 = (runesFrom s b p).map (acc ++ ·)
theorem RInv.start (s : ByteArray) : RInv s 0 [] := ⟨Nat.le_refl _, s.size, by omega, by simp⟩
theorem decode_pos (s : ByteArray) (p : Nat) : 1 ≤ (Utf8.decode s p).2 := by
  simp only [Utf8.decode]
  repeat' split
  all_goals simp_all
theorem RInv.step {s : ByteArray} {p : Nat} {acc : List Nat} (h : RInv s p acc) (hp : p < s.size) (hd : Utf8.decode s p ≠ (65533, 1)) : RInv s (p + (Utf8.decode s p).2) (acc ++ [(Utf8.decode s p).1]) := by
  obtain ⟨hl, b, hb, e⟩ := h
  have h1 := decode_pos s p
  cases b with
  | zero => omega
  | succ b =>
    refine ⟨by simp; omega, b, by omega, ?_⟩
    rw [e, runesFrom, if_pos hp, if_neg hd]
    cases runesFrom s b (p + (Utf8.decode s p).2) <;> simp
theorem RInv.bad {s : ByteArray} {p : Nat} {acc : List Nat} (h : RInv s p acc) (hp : p < s.size) (hd : Utf8.decode s p = (65533, 1)) : valV s = 42 := by
  obtain ⟨hl, b, hb, e⟩ := h
  cases b with
  | zero => omega
  | succ b =>
    rw [runesFrom, if_pos hp, if_pos hd] at e
    rw [valV, e]
    rfl
theorem RInv.done {s : ByteArray} {p : Nat} {acc : List Nat} (h : RInv s p acc) (hp : s.size ≤ p) : valV s = endV acc := by
  obtain ⟨hl, b, hb, e⟩ := h
  have : runesFrom s b p = some [] := by
    cases b with
    | zero => rfl
    | succ b => rw [runesFrom, if_neg (by omega)]
  rw [this] at e
  rw [valV, e]
  simp
theorem decode_at (s : ByteArray) (p : Nat) : Utf8.decode (s.extract p s.size) 0 = Utf8.decode s p := Lib.tail_decode s p 0
theorem valV_le (s : ByteArray) : valV s ≤ 44 := by
  unfold valV endV
  split
  · omega
  · split
    · omega
    · split <;> omega
def l3r (t : ByteArray) : Nat × Nat := if Utf8.decode t 0 = (65533, 1) then (0, 0) else Utf8.decode t 0
def byteAt (t : ByteArray) (k : Nat) : Nat := (t.get! k).toNat
theorem byteAt_lt (t : ByteArray) (k : Nat) : byteAt t k < 256 := (t.get! k).toNat_lt
theorem byteAt_eq (t : ByteArray) (k : Nat) (h : k < t.size) : t[k].toNat = byteAt t k := by
  have := get_at t k h
  rw [Nat.add_zero] at this
  rw [byteAt, this]
def decN (b0 b1 b2 b3 : Nat) (c1 c2 c3 : Bool) : Nat × Nat :=
  if b0 < 128 then (b0, 1)
  else if (b0 / 32 == 6 && c1) = true then (if 128 ≤ b0 % 32 * 64 + b1 % 64 then (b0 % 32 * 64 + b1 % 64, 2) else (65533, 1))
  else if (b0 / 16 == 14 && c1 && c2) = true then (if (decide (2048 ≤ b0 % 16 * 4096 + b1 % 64 * 64 + b2 % 64) && Utf8.valid ((b0 % 16 * 4096 + b1 % 64 * 64 + b2 % 64 : Nat) : Int)) = true then (b0 % 16 * 4096 + b1 % 64 * 64 + b2 % 64, 3) else (65533, 1))
  else if (b0 / 8 == 30 && c1 && c2 && c3) = true then (if (decide (65536 ≤ b0 % 8 * 262144 + b1 % 64 * 4096 + b2 % 64 * 64 + b3 % 64) && Utf8.valid ((b0 % 8 * 262144 + b1 % 64 * 4096 + b2 % 64 * 64 + b3 % 64 : Nat) : Int)) = true then (b0 % 8 * 262144 + b1 % 64 * 4096 + b2 % 64 * 64 + b3 % 64, 4) else (65533, 1))
  else (65533, 1)
def cont (t : ByteArray) (k : Nat) : Bool := decide (k < t.size) && byteAt t k / 64 == 2
theorem cont_iff (t : ByteArray) (k : Nat) : cont t k = true ↔ k < t.size ∧ byteAt t k / 64 = 2 := by simp [cont]
theorem decode_N (t : ByteArray) (p : Nat) : Utf8.decode t p = decN (byteAt t p) (byteAt t (p + 1)) (byteAt t (p + 2)) (byteAt t (p + 3)) (cont t (p + 1)) (cont t (p + 2)) (cont t (p + 3)) := rfl
def okRb (v : Nat) : Bool := decide (v ≤ 1114111 ∧ ¬ (55296 ≤ v ∧ v ≤ 57343))
abbrev okR (v : Nat) : Prop := okRb v = true
theorem okR_mk {v : Nat} (h : v ≤ 1114111 ∧ ¬ (55296 ≤ v ∧ v ≤ 57343)) : okR v := decide_eq_true h
theorem okR_is {v : Nat} (h : okR v) : v ≤ 1114111 ∧ ¬ (55296 ≤ v ∧ v ≤ 57343) := of_decide_eq_true h
theorem valid_okR (v : Nat) : Utf8.valid (v : Int) = decide (okR v) := by
  unfold Utf8.valid okR okRb
  rw [Bool.eq_iff_iff]
  simp
  omega
theorem decN_two {b0 b1 b2 b3 : Nat} {c1 c2 c3 : Bool} (h : b0 / 32 = 6) : decN b0 b1 b2 b3 c1 c2 c3 = if c1 = true ∧ 128 ≤ b0 % 32 * 64 + b1 % 64 then (b0 % 32 * 64 + b1 % 64, 2) else (65533, 1) := by
  have h3 : (b0 / 16 == 14) = false := by simp; omega
  have h4 : (b0 / 8 == 30) = false := by simp; omega
  unfold decN
  rw [if_neg (by omega), h, h3, h4]
  cases c1 <;> simp
theorem decN_three {b0 b1 b2 b3 : Nat} {c1 c2 c3 : Bool} (h : b0 / 16 = 14) :
    decN b0 b1 b2 b3 c1 c2 c3 = if c1 = true ∧ c2 = true ∧ 2048 ≤ (b0 % 16 * 64 + b1 % 64) * 64 + b2 % 64 ∧ okR ((b0 % 16 * 64 + b1 % 64) * 64 + b2 % 64) then ((b0 % 16 * 64 + b1 % 64) * 64 + b2 % 64, 3) else (65533, 1) := by
  have h2 : (b0 / 32 == 6) = false := by simp; omega
  have h4 : (b0 / 8 == 30) = false := by simp; omega
  have e : b0 % 16 * 4096 + b1 % 64 * 64 + b2 % 64 = (b0 % 16 * 64 + b1 % 64) * 64 + b2 % 64 := by omega
  unfold decN
  rw [if_neg (by omega), h2, h, h4, e, valid_okR]
  cases c1 <;> cases c2 <;> simp [okR]
theorem decN_four {b0 b1 b2 b3 : Nat} {c1 c2 c3 : Bool} (h : b0 / 8 = 30) :
    decN b0 b1 b2 b3 c1 c2 c3 = if c1 = true ∧ c2 = true ∧ c3 = true ∧ 65536 ≤ ((b0 % 8 * 64 + b1 % 64) * 64 + b2 % 64) * 64 + b3 % 64 ∧ okR (((b0 % 8 * 64 + b1 % 64) * 64 + b2 % 64) * 64 + b3 % 64) then (((b0 % 8 * 64 + b1 % 64) * 64 + b2 % 64) * 64 + b3 % 64, 4) else (65533, 1) := by
  have h2 : (b0 / 32 == 6) = false := by simp; omega
  have h3 : (b0 / 16 == 14) = false := by simp; omega
  have e : b0 % 8 * 262144 + b1 % 64 * 4096 + b2 % 64 * 64 + b3 % 64 = ((b0 % 8 * 64 + b1 % 64) * 64 + b2 % 64) * 64 + b3 % 64 := by omega
  unfold decN
  rw [if_neg (by omega), h2, h3, h, e]
  simp only [valid_okR]
  cases c1 <;> cases c2 <;> cases c3 <;> simp [okR]
theorem decN_one {b0 b1 b2 b3 : Nat} {c1 c2 c3 : Bool} (h : b0 < 128) : decN b0 b1 b2 b3 c1 c2 c3 = (b0, 1) := by unfold decN; rw [if_pos h]
theorem decN_none {b0 b1 b2 b3 : Nat} {c1 c2 c3 : Bool} (h0 : 128 ≤ b0) (h2 : b0 / 32 ≠ 6) (h3 : b0 / 16 ≠ 14) (h4 : b0 / 8 ≠ 30) : decN b0 b1 b2 b3 c1 c2 c3 = (65533, 1) := by
  have h2 : (b0 / 32 == 6) = false := by simp [h2]
  have h3 : (b0 / 16 == 14) = false := by simp [h3]
  have h4 : (b0 / 8 == 30) = false := by simp [h4]
  unfold decN
  rw [if_neg (by omega), h2, h3, h4]
  simp
theorem decN_says {b0 b1 b2 b3 : Nat} {c1 c2 c3 : Bool} : decN b0 b1 b2 b3 c1 c2 c3 = (65533, 1) ∨ ((decN b0 b1 b2 b3 c1 c2 c3).1 ≤ 1114111 ∧ ((decN b0 b1 b2 b3 c1 c2 c3).2 = 1 ∨ (decN b0 b1 b2 b3 c1 c2 c3).2 = 2 ∧ c1 = true ∨ (decN b0 b1 b2 b3 c1 c2 c3).2 = 3 ∧ c2 = true ∨ (decN b0 b1 b2 b3 c1 c2 c3).2 = 4 ∧ c3 = true)) := by
  by_cases h1 : b0 < 128
  · rw [decN_one h1]; right; exact ⟨by simp; omega, Or.inl rfl⟩
  by_cases h2 : b0 / 32 = 6
  · rw [decN_two h2]
    split
    · rename_i h; right; exact ⟨by simp; omega, Or.inr (Or.inl ⟨rfl, h.1⟩)⟩
    · exact Or.inl rfl
  by_cases h3 : b0 / 16 = 14
  · rw [decN_three h3]
    split
    · rename_i h; right; exact ⟨(okR_is h.2.2.2).1, Or.inr (Or.inr (Or.inl ⟨rfl, h.2.1⟩))⟩
    · exact Or.inl rfl
  by_cases h4 : b0 / 8 = 30
  · rw [decN_four h4]
    split
    · rename_i h; right; exact ⟨(okR_is h.2.2.2.2).1, Or.inr (Or.inr (Or.inr ⟨rfl, h.2.2.1⟩))⟩
    · exact Or.inl rfl
  · rw [decN_none (by omega) h2 h3 h4]; exact Or.inl rfl
theorem decode_fits (s : ByteArray) (p : Nat) (hp : p < s.size) (h : Utf8.decode s p ≠ (65533, 1)) : p + (Utf8.decode s p).2 ≤ s.size := by
  rw [decode_N] at h ⊢
  rcases decN_says with h' | ⟨_, h' | ⟨e, h'⟩ | ⟨e, h'⟩ | ⟨e, h'⟩⟩
  · exact absurd h' h
  · rw [h']; omega
  · rw [e]; have := ((cont_iff _ _).1 h').1; omega
  · rw [e]; have := ((cont_iff _ _).1 h').1; omega
  · rw [e]; have := ((cont_iff _ _).1 h').1; omega
theorem decode_rune (s : ByteArray) (p : Nat) : (Utf8.decode s p).1 ≤ 1114111 ∧ (Utf8.decode s p).2 ≤ 4 := by
  rw [decode_N]
  rcases decN_says with h' | ⟨h, h' | ⟨e, h'⟩ | ⟨e, h'⟩ | ⟨e, h'⟩⟩
  · rw [h']; exact ⟨by simp, by simp⟩
  · exact ⟨h, by omega⟩
  · exact ⟨h, by omega⟩
  · exact ⟨h, by omega⟩
  · exact ⟨h, by omega⟩
theorem l3r_one (t : ByteArray) (h : byteAt t 0 < 128) : l3r t = (byteAt t 0, 1) := by
  rw [l3r, decode_N, decN_one h, if_neg]
  simp only [Prod.mk.injEq, and_true]
  omega
theorem l3r_if {t : ByteArray} {C D : Prop} [Decidable C] [Decidable D] {v n : Nat} (h : Utf8.decode t 0 = if C then (v, n) else (65533, 1)) (hn : n ≠ 1) (hC : C ↔ D) : l3r t = if D then (v, n) else (0, 0) := by
  unfold l3r
  rw [h]
  by_cases c : C
  · rw [if_pos c, if_pos (hC.1 c), if_neg (by simp; exact fun _ => hn)]
  · rw [if_neg c, if_neg (fun h => c (hC.2 h)), if_pos rfl]
theorem l3r_two (t : ByteArray) (h : byteAt t 0 / 32 = 6) :
    l3r t = if 2 ≤ t.size ∧ byteAt t 1 / 64 = 2 ∧ 128 ≤ byteAt t 0 % 32 * 64 + byteAt t 1 % 64 then (byteAt t 0 % 32 * 64 + byteAt t 1 % 64, 2) else (0, 0) := by
  refine l3r_if ((decode_N t 0).trans (decN_two h)) (by omega) ?_
  rw [Nat.zero_add, cont_iff]
  constructor
  · rintro ⟨⟨h1, h2⟩, h3⟩; exact ⟨h1, h2, h3⟩
  · rintro ⟨h1, h2, h3⟩; exact ⟨⟨h1, h2⟩, h3⟩
theorem l3r_three (t : ByteArray) (h : byteAt t 0 / 16 = 14) :
    l3r t = if 3 ≤ t.size ∧ byteAt t 1 / 64 = 2 ∧ byteAt t 2 / 64 = 2 ∧ 2048 ≤ (byteAt t 0 % 16 * 64 + byteAt t 1 % 64) * 64 + byteAt t 2 % 64 ∧ okR ((byteAt t 0 % 16 * 64 + byteAt t 1 % 64) * 64 + byteAt t 2 % 64) then ((byteAt t 0 % 16 * 64 + byteAt t 1 % 64) * 64 + byteAt t 2 % 64, 3) else (0, 0) := by
  refine l3r_if ((decode_N t 0).trans (decN_three h)) (by omega) ?_
  rw [Nat.zero_add, Nat.zero_add, cont_iff, cont_iff]
  constructor
  · rintro ⟨⟨_, h2⟩, ⟨h1, h3⟩, h4⟩; exact ⟨h1, h2, h3, h4⟩
  · rintro ⟨h1, h2, h3, h4⟩; exact ⟨⟨by omega, h2⟩, ⟨h1, h3⟩, h4⟩
theorem l3r_four (t : ByteArray) (h : byteAt t 0 / 8 = 30) :
    l3r t = if 4 ≤ t.size ∧ byteAt t 1 / 64 = 2 ∧ byteAt t 2 / 64 = 2 ∧ byteAt t 3 / 64 = 2 ∧ 65536 ≤ ((byteAt t 0 % 8 * 64 + byteAt t 1 % 64) * 64 + byteAt t 2 % 64) * 64 + byteAt t 3 % 64 ∧ okR (((byteAt t 0 % 8 * 64 + byteAt t 1 % 64) * 64 + byteAt t 2 % 64) * 64 + byteAt t 3 % 64) then (((byteAt t 0 % 8 * 64 + byteAt t 1 % 64) * 64 + byteAt t 2 % 64) * 64 + byteAt t 3 % 64, 4) else (0, 0) := by
  refine l3r_if ((decode_N t 0).trans (decN_four h)) (by omega) ?_
  rw [Nat.zero_add, Nat.zero_add, Nat.zero_add, cont_iff, cont_iff, cont_iff]
  constructor
  · rintro ⟨⟨_, h2⟩, ⟨_, h3⟩, ⟨h1, h4⟩, h5⟩; exact ⟨h1, h2, h3, h4, h5⟩
  · rintro ⟨h1, h2, h3, h4, h5⟩; exact ⟨⟨by omega, h2⟩, ⟨by omega, h3⟩, ⟨h1, h4⟩, h5⟩
theorem l3r_none (t : ByteArray) (h0 : 128 ≤ byteAt t 0) (h2 : byteAt t 0 / 32 ≠ 6) (h3 : byteAt t 0 / 16 ≠ 14) (h4 : byteAt t 0 / 8 ≠ 30) : l3r t = (0, 0) := by
  rw [l3r, decode_N, decN_none h0 h2 h3 h4, if_pos rfl]
theorem l3r_at (s : ByteArray) (p : Nat) : l3r (s.extract p s.size) = if Utf8.decode s p = (65533, 1) then (0, 0) else Utf8.decode s p := by rw [l3r, decode_at]
end Go.Proofs.YtojeemogabhaoaaGreatDoor
namespace Go.Proofs.YtojeemogabhaoaaGreatDoor
open Go.RowKit
abbrev alphaN (c : Nat) : Prop := (65 ≤ c ∧ c ≤ 90) ∨ (97 ≤ c ∧ c ≤ 122) ∨ c = 95
abbrev digitN (c : Nat) : Prop := 48 ≤ c ∧ c ≤ 57
abbrev nameC (s : ByteArray) (i : Nat) : Prop := alphaN (byteAt s i) ∨ (digitN (byteAt s i) ∧ 0 < i)
abbrev nameOK (s : ByteArray) : Prop := 1 ≤ s.size ∧ s.size ≤ 64 ∧ ∀ i, i < s.size → nameC s i
def nameB (s : ByteArray) : Bool := decide (nameOK s)
def labV (l : LabD) : Nat := if nameB l.name = true then valV l.value else 41
def firstBad : List LabD → Nat → Option (Nat × Nat)
  | [], _ => none
  | l :: r, i => if labV l = 0 then firstBad r (i + 1) else some (labV l, i)
def sameN (x l : LabD) : Bool := x.name.toList == l.name.toList
def firstTw : List LabD → List LabD → Nat → Option Nat
  | _, [], _ => none
  | seen, l :: r, i => if seen.any (fun x => sameN x l) = true then some i else firstTw (seen ++ [l]) r (i + 1)
def mname : ByteArray := ⟨#[95, 95, 110, 97, 109, 101, 95, 95]⟩
def isMet (l : LabD) : Bool := l.name.toList == mname.toList
def isEmp (l : LabD) : Bool := l.value.toList == ByteArray.empty.toList
def lessN (x y : LabD) : Bool := Op.bytesLess x.name.toList y.name.toList
def metV : List LabD → ByteArray
  | [] => ByteArray.empty
  | l :: r => if isMet l = true then l.value else metV r
def keptL (ls : List LabD) : List LabD := ls.filter (fun l => !isEmp l)
def metB (ls : List LabD) : Bool := ls.any (fun l => !isEmp l && isMet l)
def posI (l : LabD) : List LabD → Nat
  | [] => 0
  | x :: r => if lessN x l = true then posI l r + 1 else 0
def insL (l : LabD) (out : List LabD) : List LabD := out.take (posI l out) ++ l :: out.drop (posI l out)
def insAll (out : List LabD) : List LabD → List LabD
  | [] => out
  | l :: r => insAll (if isEmp l = true then out else insL l out) r
def canonR (ls : List LabD) : List LabD × Nat × Nat :=
  if 16 < ls.length then ([], 40, 0) else match firstBad ls 0 with
  | some (c, i) => ([], c, i)
  | none => match firstTw [] ls 0 with
    | some i => ([], 45, i)
    | none => if metB ls = true then (insAll [] ls, 0, 0) else ([], 46, 0)
theorem posI_le (l : LabD) : ∀ out, posI l out ≤ out.length
  | [] => Nat.le_refl _
  | x :: r => by
    have := posI_le l r
    rw [posI]
    split
    · simp; omega
    · simp
theorem posI_step (l : LabD) (out : List LabD) (k : Nat) (hk : k < out.length) : posI l (out.drop k) = if lessN out[k] l = true then posI l (out.drop (k + 1)) + 1 else 0 := by
  rw [List.drop_eq_getElem_cons hk, posI]
theorem insL_length (l : LabD) (out : List LabD) : (insL l out).length = out.length + 1 := by
  have := posI_le l out
  simp [insL]
  omega
theorem insL_perm (l : LabD) (out : List LabD) : (insL l out).Perm (l :: out) := by
  unfold insL
  refine List.perm_middle.trans ?_
  rw [List.take_append_drop]
theorem insAll_perm : ∀ (ls out : List LabD), (insAll out ls).Perm (out ++ keptL ls)
  | [], out => by simp [insAll, keptL]
  | l :: r, out => by
    rw [insAll, keptL, List.filter_cons]
    by_cases h : isEmp l = true
    · rw [if_pos h, if_neg (by simp [h])]
      exact insAll_perm r out
    · rw [if_neg h, if_pos (by simpa using h)]
      refine (insAll_perm r _).trans ?_
      refine ((insL_perm l out).append_right _).trans ?_
      exact (List.perm_middle (l₁ := out) (a := l) (l₂ := keptL r)).symm
theorem keptL_len (ls : List LabD) : (keptL ls).length ≤ ls.length := List.length_filter_le _ _
theorem insAll_len (ls : List LabD) : (insAll [] ls).length = (keptL ls).length := by
  have := (insAll_perm ls []).length_eq
  simpa using this
def Le (x y : LabD) : Prop := lessN y x = false
theorem posI_head (l : LabD) : ∀ (out : List LabD), ∀ x ∈ out.take (posI l out), lessN x l = true
  | [], x, h => by simp at h
  | y :: r, x, h => by
    rw [posI] at h
    split at h
    · rename_i hy
      rw [List.take_succ_cons, List.mem_cons] at h
      rcases h with rfl | h
      · exact hy
      · exact posI_head l r x h
    · simp at h
theorem posI_tail (l : LabD) : ∀ (out : List LabD), out.Pairwise Le → ∀ x ∈ out.drop (posI l out), lessN x l = false
  | [], _, x, h => by simp at h
  | y :: r, hp, x, h => by
    rw [posI] at h
    rw [List.pairwise_cons] at hp
    split at h
    · rw [List.drop_succ_cons] at h
      exact posI_tail l r hp.2 x h
    · rename_i hy
      rw [List.drop_zero, List.mem_cons] at h
      have hy' : lessN y l = false := by simpa using hy
      rcases h with rfl | h
      · exact hy'
      · have h1 := hp.1 x h
        unfold Le at h1
        cases hx : lessN x l
        · rfl
        · exfalso
          by_cases e : y.name.toList = l.name.toList
          · unfold lessN at h1 hx; rw [e] at h1; rw [h1] at hx; exact absurd hx (by simp)
          · have h2 : lessN l y = true := less_total _ _ hy' e
            have h3 : lessN x y = true := less_trans _ _ _ hx h2
            rw [h3] at h1; exact absurd h1 (by simp)
theorem le_trans_L {x y z : LabD} (h1 : Le x y) (h2 : Le y z) : Le x z := by
  unfold Le at *
  cases hx : lessN z x
  · rfl
  · exfalso
    by_cases e : y.name.toList = x.name.toList
    · unfold lessN at h2 hx; rw [e] at h2; rw [h2] at hx; exact absurd hx (by simp)
    · have h3 : lessN x y = true := less_total _ _ h1 e
      have h4 : lessN z y = true := less_trans _ _ _ hx h3
      rw [h4] at h2; exact absurd h2 (by simp)
theorem insL_sorted (l : LabD) (out : List LabD) (h : out.Pairwise Le) : (insL l out).Pairwise Le := by
  unfold insL
  have hh := posI_head l out
  have ht := posI_tail l out h
  rw [List.pairwise_append]
  refine ⟨h.sublist (List.take_sublist _ _), ?_, ?_⟩
  · rw [List.pairwise_cons]
    exact ⟨fun x hx => ht x hx, h.sublist (List.drop_sublist _ _)⟩
  · intro a ha b hb
    have h1 : Le a l := less_asymm (hh a ha)
    rw [List.mem_cons] at hb
    rcases hb with rfl | hb
    · exact h1
    · exact le_trans_L h1 (ht b hb)
theorem insAll_sorted : ∀ (ls out : List LabD), out.Pairwise Le → (insAll out ls).Pairwise Le
  | [], out, h => h
  | l :: r, out, h => by
    rw [insAll]
    refine insAll_sorted r _ ?_
    split
    · exact h
    · exact insL_sorted l out h
def NoTw (ls : List LabD) : Prop := ls.Pairwise (fun x y => x.name ≠ y.name)
theorem sameN_iff (x l : LabD) : sameN x l = true ↔ x.name = l.name := by
  unfold sameN
  rw [beq_iff_eq]
  exact ⟨fun h => toList_inj h, fun h => by rw [h]⟩
theorem firstTw_none : ∀ (r seen : List LabD) (i : Nat), NoTw seen → firstTw seen r i = none → NoTw (seen ++ r)
  | [], seen, _, h, _ => by simpa using h
  | l :: r, seen, i, h, hn => by
    rw [firstTw] at hn
    split at hn
    · exact absurd hn (by simp)
    · rename_i hs
      have : NoTw (seen ++ [l]) := by
        unfold NoTw
        rw [List.pairwise_append]
        refine ⟨h, List.pairwise_singleton _ _, fun a ha b hb => ?_⟩
        rw [List.mem_singleton] at hb
        subst hb
        intro e
        apply hs
        rw [List.any_eq_true]
        exact ⟨a, ha, (sameN_iff _ _).2 e⟩
      have := firstTw_none r _ _ this hn
      simpa using this
theorem noTw_of (ls : List LabD) (h : firstTw [] ls 0 = none) : NoTw ls := by
  have := firstTw_none ls [] 0 (by exact List.Pairwise.nil) h
  simpa using this
theorem noTw_eq {ls : List LabD} (h : NoTw ls) {x y : LabD} (hx : x ∈ ls) (hy : y ∈ ls) (e : x.name = y.name) : x = y := by
  induction ls with
  | nil => exact absurd hx (by simp)
  | cons l r ih =>
    unfold NoTw at h
    rw [List.pairwise_cons] at h
    rw [List.mem_cons] at hx hy
    rcases hx with rfl | hx
    · rcases hy with rfl | hy
      · rfl
      · exact absurd e (h.1 y hy)
    · rcases hy with rfl | hy
      · exact absurd e.symm (h.1 x hx)
      · exact ih h.2 hx hy
theorem sorted_is {ls out : List LabD} (h : NoTw ls) (hp : out.Perm (keptL ls)) (hs : out.Pairwise Le) : out = insAll [] ls := by
  have hp2 := (insAll_perm ls []).trans (by rw [List.nil_append])
  refine List.Perm.eq_of_pairwise (le := Le) ?_ hs (insAll_sorted ls [] List.Pairwise.nil) (hp.trans hp2.symm)
  intro a b ha hb h1 h2
  have ha' : a ∈ ls := (List.mem_filter.1 (hp.mem_iff.1 ha)).1
  have hb' : b ∈ ls := (List.mem_filter.1 (hp2.mem_iff.1 hb)).1
  refine noTw_eq h ha' hb' ?_
  by_cases e : a.name = b.name
  · exact e
  · have h3 : lessN b a = true := less_total _ _ h2 (fun e' => e (toList_inj e'))
    unfold Le at h1
    rw [h3] at h1
    exact absurd h1 (by simp)
theorem metV_iff : ∀ (ls : List LabD), NoTw ls → ((metV ls).toList == ByteArray.empty.toList) = !metB ls
  | [], _ => by simp [metV, metB]
  | l :: r, h => by
    unfold NoTw at h
    rw [List.pairwise_cons] at h
    rw [metV, metB, List.any_cons]
    by_cases hm : isMet l = true
    · rw [if_pos hm, hm, Bool.and_true]
      have hr : (r.any fun l => !isEmp l && isMet l) = false := by
        rw [List.any_eq_false]
        intro x hx hc
        rw [Bool.and_eq_true] at hc
        have e1 : l.name = mname := toList_inj (by simpa [isMet] using hm)
        have e2 : x.name = mname := toList_inj (by simpa [isMet] using hc.2)
        exact h.1 x hx (by rw [e1, e2])
      rw [hr, Bool.or_false, Bool.not_not]
      rfl
    · rw [if_neg hm]
      have hm' : isMet l = false := by simpa using hm
      rw [hm', Bool.and_false, Bool.false_or]
      exact metV_iff r h.2
theorem canon_many {ls : List LabD} (h : 16 < ls.length) : canonR ls = ([], 40, 0) := by unfold canonR; rw [if_pos h]
theorem canon_bad {ls : List LabD} (h : ¬ 16 < ls.length) {c i : Nat} (hb : firstBad ls 0 = some (c, i)) : canonR ls = ([], c, i) := by unfold canonR; rw [if_neg h, hb]
theorem canon_twice {ls : List LabD} (h : ¬ 16 < ls.length) (hb : firstBad ls 0 = none) {i : Nat} (ht : firstTw [] ls 0 = some i) : canonR ls = ([], 45, i) := by unfold canonR; rw [if_neg h, hb, ht]
theorem canon_met {ls : List LabD} (h : ¬ 16 < ls.length) (hb : firstBad ls 0 = none) (ht : firstTw [] ls 0 = none) (hm : metB ls = false) : canonR ls = ([], 46, 0) := by
  unfold canonR; rw [if_neg h, hb, ht]; simp [hm]
theorem canon_ok {ls : List LabD} (h : ¬ 16 < ls.length) (hb : firstBad ls 0 = none) (ht : firstTw [] ls 0 = none) (hm : metB ls = true) : canonR ls = (insAll [] ls, 0, 0) := by
  unfold canonR; rw [if_neg h, hb, ht]; simp [hm]
theorem firstBad_step (ls : List LabD) (k : Nat) (hk : k < ls.length) : firstBad (ls.drop k) k = if labV ls[k] = 0 then firstBad (ls.drop (k + 1)) (k + 1) else some (labV ls[k], k) := by
  rw [List.drop_eq_getElem_cons hk, firstBad]
theorem firstTw_step (ls : List LabD) (k : Nat) (hk : k < ls.length) : firstTw (ls.take k) (ls.drop k) k = if (ls.take k).any (fun x => sameN x ls[k]) = true then some k else firstTw (ls.take (k + 1)) (ls.drop (k + 1)) (k + 1) := by
  rw [List.drop_eq_getElem_cons hk, firstTw, List.take_succ_eq_append_getElem hk]
theorem metV_step (ls : List LabD) (k : Nat) (hk : k < ls.length) : metV (ls.drop k) = if isMet ls[k] = true then ls[k].value else metV (ls.drop (k + 1)) := by
  rw [List.drop_eq_getElem_cons hk, metV]
theorem insAll_step (out ls : List LabD) (k : Nat) (hk : k < ls.length) : insAll out (ls.drop k) = insAll (if isEmp ls[k] = true then out else insL ls[k] out) (ls.drop (k + 1)) := by
  rw [List.drop_eq_getElem_cons hk, insAll]
theorem metB_take (ls : List LabD) (k : Nat) (hk : k < ls.length) : metB (ls.take (k + 1)) = (metB (ls.take k) || (!isEmp ls[k] && isMet ls[k])) := by
  rw [List.take_succ_eq_append_getElem hk, metB, List.any_append]
  simp [metB]
theorem keptL_take (ls : List LabD) (k : Nat) (hk : k < ls.length) : keptL (ls.take (k + 1)) = keptL (ls.take k) ++ if isEmp ls[k] = true then [] else [ls[k]] := by
  rw [List.take_succ_eq_append_getElem hk, keptL, List.filter_append, keptL]
  congr 1
  by_cases h : isEmp ls[k] = true <;> simp [h]
end Go.Proofs.YtojeemogabhaoaaGreatDoor
namespace Go.Proofs.YtojeemogabhaoaaGreatDoor
open Go.RowKit
def beL (l : List UInt8) : Nat := l.foldl (fun v c => v * 256 + c.toNat) 0
theorem beL_snoc (l : List UInt8) (c : UInt8) : beL (l ++ [c]) = beL l * 256 + c.toNat := by simp [beL]
theorem beL_lt (l : List UInt8) : beL l < 256 ^ l.length := by
  have hg : ∀ (n : Nat) (l : List UInt8), l.length = n → beL l < 256 ^ n := fun n => by
    induction n with
    | zero => intro l h; rw [List.length_eq_zero_iff.1 h]; decide
    | succ n ih =>
      intro l h
      have hne : l ≠ [] := by intro e; rw [e] at h; simp at h
      rw [← List.dropLast_concat_getLast hne, beL_snoc]
      have h1 := ih l.dropLast (by simp [h])
      have h2 := (l.getLast hne).toNat_lt
      rw [Nat.pow_succ]
      omega
  exact hg _ l rfl
def sectL (s : ByteArray) (p n : Nat) : List UInt8 := (s.data.toList.drop p).take n
theorem sectL_length {s : ByteArray} {p n : Nat} (h : p + n ≤ s.size) : (sectL s p n).length = n := by
  have : s.data.toList.length = s.size := by simp
  simp only [sectL, List.length_take, List.length_drop]
  omega
theorem sectL_snoc {s : ByteArray} {p k : Nat} (h : p + k < s.size) : sectL s p (k + 1) = sectL s p k ++ [s[p + k]] := by
  have hl : s.data.toList.length = s.size := by simp
  unfold sectL
  rw [List.take_succ_eq_append_getElem (by rw [List.length_drop, hl]; omega), List.getElem_drop]
  rfl
end Go.Proofs.YtojeemogabhaoaaGreatDoor
namespace Go.Proofs.YtojeemogabhaoaaGreatDoor
open Go.RowKit
def flat (fs : List FileD) : List Value := fs.flatMap fun f => [.string f.name, .string f.data, .int .i64 f.synced]
theorem flat_append (a b : List FileD) : flat (a ++ b) = flat a ++ flat b := by simp [flat]
theorem flat_one (f : FileD) : flat [f] = [.string f.name, .string f.data, .int .i64 f.synced] := rfl
theorem flat_length (fs : List FileD) : (flat fs).length = fs.length * 3 := by
  induction fs with
  | nil => rfl
  | cons f r ih => simp [flat] at *; omega
theorem flat_get : ∀ (fs : List FileD) (j : Nat) (h : j < fs.length), (flat fs)[j * 3]? = some (.string fs[j].name) ∧ (flat fs)[j * 3 + 1]? = some (.string fs[j].data) ∧ (flat fs)[j * 3 + 2]? = some (.int .i64 fs[j].synced)
  | [], _, h => absurd h (by simp)
  | f :: r, 0, _ => by simp [flat]
  | f :: r, j + 1, h => by
    have ih := flat_get r j (by simpa using h)
    have e : flat (f :: r) = [.string f.name, .string f.data, .int .i64 f.synced] ++ flat r := rfl
    rw [e]
    have e1 : (j + 1) * 3 = 3 + j * 3 := by omega
    have e2 : (j + 1) * 3 + 1 = 3 + (j * 3 + 1) := by omega
    have e3 : (j + 1) * 3 + 2 = 3 + (j * 3 + 2) := by omega
    have hq : ∀ p, ([.string f.name, .string f.data, .int .i64 f.synced] ++ flat r)[3 + p]? = (flat r)[p]? := fun p => by
      rw [List.getElem?_append_right (by simp)]; simp
    rw [e3, e2, e1, hq, hq, hq]
    exact ih
theorem flat_one_cell (fs : List FileD) : ∀ u ∈ flat fs, u.oneCell' = true := by
  intro u hu
  simp only [flat, List.mem_flatMap, List.mem_cons, List.not_mem_nil, or_false] at hu
  obtain ⟨f, _, rfl | rfl | rfl⟩ := hu <;> rfl
theorem owned_of_row {w : World} {B : Nat} {e : TypeId} {v : Value} {fs : List FileD} (h : w.ownsRow B e 3 v fs.length (flat fs)) : ∃ a cap, v = .slice a fs.length cap ∧ Owned w B a fs := by
  rcases h.2 with ⟨rfl, h0⟩ | ⟨g, cap, cur, rfl, hB, hg, _, _, _, ht⟩
  · have : fs = [] := List.length_eq_zero_iff.1 h0
    subst this
    exact ⟨none, 0, rfl, Or.inl rfl⟩
  · refine ⟨_, cap, rfl, Or.inr ⟨g, 0, cur, e, rfl, hB, hg, filesAt_of_rows hg fun j hj => ?_⟩⟩
    have key : ∀ p v, (flat fs)[p]? = some v → cur[p]? = some v := fun p v hp => by
      rw [← ht] at hp
      have hlt := (List.getElem?_eq_some_iff.1 hp).1
      rw [List.length_take] at hlt
      rw [List.getElem?_take_of_lt (by omega)] at hp
      simpa using hp
    obtain ⟨a1, a2, a3⟩ := flat_get fs j hj
    refine ⟨?_, ?_, ?_⟩
    · rw [Nat.zero_add]; exact key _ _ a1
    · rw [Nat.zero_add]; exact key _ _ a2
    · rw [Nat.zero_add]; exact key _ _ a3
theorem row_later {w w' : World} {B : Nat} {e : TypeId} {size : Nat} {v : Value} {n : Nat} {xs : List Value} (h : w.ownsRow B e size v n xs) (hb : Below w.heap.size w w') : w'.ownsRow B e size v n xs := by
  obtain ⟨h1, h2⟩ := h
  refine ⟨h1, ?_⟩
  rcases h2 with h2 | ⟨g, cap, cur, hv, hB, hg, r⟩
  · exact Or.inl h2
  · exact Or.inr ⟨g, cap, cur, hv, hB, (hb.block g (lt_of_block hg)).trans hg, r⟩
theorem row_set_below {w : World} {B : Nat} {e : TypeId} {size : Nat} {v : Value} {n : Nat} {xs : List Value} (h : w.ownsRow B e size v n xs) {p : Addr} (hp : p.block < B) (u : Value) : (w.setCell p u).ownsRow B e size v n xs := by
  obtain ⟨h1, h2⟩ := h
  refine ⟨h1, ?_⟩
  rcases h2 with h2 | ⟨g, cap, cur, hv, hB, hg, r⟩
  · exact Or.inl h2
  · exact Or.inr ⟨g, cap, cur, hv, hB, (Below.heap_setCell w p u g (by omega)).trans hg, r⟩
theorem cells_of_files {w : World} {b o : Nat} {fs : List FileD} (h : FilesAt w b o fs) : ∀ j u, (flat fs)[j]? = some u → w.cell? ((⟨b, o, none⟩ : Addr).add j) = some u := by
  intro j u hu
  have hlt := (List.getElem?_eq_some_iff.1 hu).1
  rw [flat_length] at hlt
  have hj : j / 3 < fs.length := by omega
  obtain ⟨a1, a2, a3⟩ := flat_get fs (j / 3) hj
  obtain ⟨c1, c2, c3⟩ := h (j / 3) hj
  have hadd : (⟨b, o, none⟩ : Addr).add j = ⟨b, o + j, none⟩ := by unfold Addr.add; split <;> simp_all
  rw [hadd]
  have hm : j % 3 = 0 ∨ j % 3 = 1 ∨ j % 3 = 2 := by omega
  rcases hm with hm | hm | hm
  · have e : j = j / 3 * 3 := by omega
    rw [e] at hu
    rw [a1] at hu
    rw [show o + j = o + j / 3 * 3 by omega, c1]; exact hu
  · have e : j = j / 3 * 3 + 1 := by omega
    rw [e] at hu
    rw [a2] at hu
    rw [show o + j = o + j / 3 * 3 + 1 by omega, c2]; exact hu
  · have e : j = j / 3 * 3 + 2 := by omega
    rw [e] at hu
    rw [a3] at hu
    rw [show o + j = o + j / 3 * 3 + 2 by omega, c3]; exact hu
end Go.Proofs.YtojeemogabhaoaaGreatDoor
namespace Go.Proofs.YtojeemogabhaoaaGreatDoor
open Go.RowKit
def shrN (v : Int) : Nat → Int
  | 0 => v
  | k + 1 => shrN v k / 256
def numI (v : Int) : Nat → List Int
  | 0 => []
  | n + 1 => shrN v n % 256 :: numI v n
def numS (n : Nat) (v : Int) : ByteArray := strOfNums (numI v n)
theorem numI_length (v : Int) : ∀ n, (numI v n).length = n
  | 0 => rfl
  | n + 1 => by simp [numI, numI_length v n]
theorem numS_size (n : Nat) (v : Int) : (numS n v).size = n := by
  rw [numS, strOfNums_size, numI_length]
theorem info_u8 : ∃ i, Tryz.prog.info? 5 = some i ∧ i.zero = some (.int .u8 0) ∧ i.size = 1 ∧ i.bytes = 1 := by
  have h : (Tryz.prog.info? 5).map (fun i => (i.zero, i.size, i.bytes)) = some (some (.int .u8 0), 1, 1) := by kernel_rfl
  obtain ⟨i, hi, hz⟩ := Option.map_eq_some_iff.1 h
  simp only [Prod.mk.injEq] at hz
  exact ⟨i, hi, hz.1, hz.2.1, hz.2.2⟩
theorem shrN_rng (v : Int) (h0 : -9223372036854775808 ≤ v) (h1 : v ≤ 9223372036854775807) : ∀ k, -9223372036854775808 ≤ shrN v k ∧ shrN v k ≤ 9223372036854775807
  | 0 => ⟨h0, h1⟩
  | k + 1 => by have := shrN_rng v h0 h1 k; unfold shrN; omega
theorem conv_row {w : World} {B : Nat} {av : Option Addr} {cv : Nat} {ys : List Int} (h : w.ownsRow B 5 1 (.slice av ys.length cv) ys.length (ys.map (Value.int .u8))) :
    (convert 147 9 (.slice av ys.length cv)).run Tryz.prog w = .ok (.string (strOfNums ys)) w := by
  rcases h.2 with ⟨he, hl⟩ | ⟨g, cap, cur, he, _, hg, hle, _, hsz, htk⟩
  · simp only [Value.slice.injEq] at he
    obtain ⟨rfl, h1, rfl⟩ := he
    have e : ys = [] := List.length_eq_zero_iff.1 h1
    subst e
    exact run_convert_bytes_nil w 147 5 Tryz.underlying147 Tryz.underlying5 _ _ 9 Tryz.underlying9
  · simp only [Value.slice.injEq] at he
    obtain ⟨rfl, _, rfl⟩ := he
    refine run_convert_bytes_arg w 147 5 Tryz.underlying147 Tryz.underlying5 g 0 _ _ ys rfl (fun i hi => ?_) 9 Tryz.underlying9
    rw [Nat.zero_add, cell_of_row w g i cur _ _ hg]
    have h2 : (cur.toList.take (ys.length * 1))[i]? = (ys.map (Value.int .u8))[i]? := by rw [htk]
    rw [List.getElem?_take_of_lt (by omega)] at h2
    rw [← Array.getElem?_toList, h2]
    simp [List.getD, List.getElem?_eq_getElem hi]
set_option maxRecDepth 100000 in
set_option maxHeartbeats 1000000 in
theorem specNum_any (n : Nat) (v : Int) (w : World) (hn : n ≤ 8) (h0 : -9223372036854775808 ≤ v) (h1 : v ≤ 9223372036854775807) :
    Calls Tryz.prog 106 #[.int .i64 n, .int .i64 v] w fun e w' => e = .returned (.string (numS n v)) ∧ Below w.heap.size w w' := by
  obtain ⟨ti, hti, hz0, hz1, hz2⟩ := info_u8
  have HI : Hid (Tryz.prog.info? 5 = some ti) := hti
  clear hti
  have HV : Hid (-9223372036854775808 ≤ v ∧ v ≤ 9223372036854775807) := ⟨h0, h1⟩
  clear h0 h1
  go_enter Tryz.func106, Tryz.ntmps106
  go_wp2
  go_loopw [5, 6, 7, 8] (fun out i _ _ wr => ∃ (m : Nat) (ys : List Int) (av : Option Addr) (cv : Nat), ys.length + m = n ∧ Hid (ys ++ numI v m = numI v n) ∧ i = .int .i64 ((m : Int) - 1) ∧ out = .slice av ys.length cv ∧ Hid (wr.ownsRow w.heap.size 5 1 (.slice av ys.length cv) ys.length (ys.map (Value.int .u8))) ∧ Below w.heap.size w wr) (fun _ i _ _ _ => ((intOf i) + 1).toNat)
  case atStart =>
    exact ⟨n, [], _, _, by simp, by show _ = _; simp, by simp, rfl, World.ownsRow_made w #[] 0 (Nat.le_refl _) (by simp [maxLen]) (by simp), bnew _ _⟩
  case round =>
    obtain ⟨m, ys, av, cv, hm, hnum, rfl, rfl, hrow, hbel⟩ := hrel
    by_cases hp : 0 < m
    · obtain ⟨r, rfl⟩ : ∃ r, m = r + 1 := ⟨m - 1, by omega⟩
      have er : ((r + 1 : Nat) : Int) - 1 = (r : Int) := by omega
      rw [er]
      clear er
      go_wp2
      go_loop [7, 8] (fun x k => ∃ (j : Nat) (X : Int), j ≤ r ∧ k = .int .i64 j ∧ x = .int .i64 X ∧ Hid (X = shrN v j)) (fun _ k => r - (intOf k).toNat)
      case atStart => exact ⟨0, v, Nat.zero_le _, rfl, rfl, rfl⟩
      case round =>
        obtain ⟨j, X, hj, rfl, rfl, hX⟩ := hrel
        by_cases hlt : j < r
        · go_wp2
          exact ⟨⟨j + 1, X / 256, by omega, by go_num, rfl, by show _ = _; rw [shrN, hX.out]⟩, by simp [intOf]; omega⟩
        · have e : j = r := by omega
          subst e
          have hsz := hbel.size
          go_wp2_with (at_builtin; refine wpList_append_lies _ rfl _ _ _ rfl w.heap.size 5 ti _ 1 1 Tryz.underlying147 HI.out hz0 hz1 hz2 rfl (by omega) (.slice av ys.length cv) ys.length (ys.map (Value.int .u8)) rfl (by exact row_later hrow.out (bnew _ _)) ⟨wr.heap.size, 0, none⟩ 1 1 [.int .u8 (X % 256)] rfl rfl (by exact World.news_of_block (heap_alloc_new _ _)) (by simp [Value.oneCell']) (by omega) (by simp [maxLen]; omega) (by omega) (by simp; omega) (wr.heap.size + 1) (by simp) ?_; intro g5 cap5 w5 hown5 hgrow5 hat5 hlt5)
          have hB5 : Below w.heap.size w w5 := (bto hbel (bnew _ _)).grown hgrow5 (by simp; omega) (fun q hq => by
            rcases hrow.out.2 with ⟨he, _⟩ | ⟨g, cap, cur, he, hB, _⟩
            · rw [he] at hq; simp [Value.ownBlock] at hq
            · rw [he] at hq; simp [Value.ownBlock] at hq; omega)
          have hxs : ys.map (Value.int .u8) ++ [Value.int .u8 (X % 256)] = (ys ++ [X % 256]).map (Value.int .u8) := by simp
          have hle : (ys ++ [X % 256]).length = ys.length + 1 := by simp
          rw [hxs, ← hle] at hown5
          refine ⟨⟨j, ys ++ [X % 256], some ⟨g5, 0, none⟩, cap5, by rw [hle]; omega, ?_, rfl, by rw [hle], hown5, hB5⟩, by simp [intOf]⟩
          show _ = _
          rw [← hnum.out, numI, hX.out]
          simp
    · have e : m = 0 := by omega
      subst e
      have hcv := conv_row hrow.out
      go_wp2
      go_ret
      refine ⟨congrArg (fun x => Ending.returned (.string x)) ?_, hbel⟩
      rw [numS, ← hnum.out, numI, List.append_nil]
end Go.Proofs.YtojeemogabhaoaaGreatDoor
