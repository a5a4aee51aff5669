/- The verifier's own text: reading loosely, place by place; split off LooL. -/
import Derived.Test.YtgpgacncmoiefaaWrN
import Derived.Test.YtgpgacncmoiefaaSDec
namespace Go.Proofs.Ytgpgacncmoiefaa
open Go.RowKit

def posV : Option Nat → Int
  | none => -1
  | some p => (p : Int)
def lNum (s : ByteArray) (n : Nat) : Option Nat → Nat × Option Nat
  | none => (0, none)
  | some p => if p + n ≤ s.size then (beL (sectL s p n), some (p + n)) else (0, none)
def lPart (s : ByteArray) (n : Nat) : Option Nat → ByteArray × Option Nat
  | none => (ByteArray.empty, none)
  | some p => match partN s p n with
    | none => (ByteArray.empty, none)
    | some (t, q) => (t, some q)
theorem lNum_some (s : ByteArray) (n p : Nat) : lNum s n (some p) = if p + n ≤ s.size then (beL (sectL s p n), some (p + n)) else (0, none) := rfl
theorem lPart_at {s : ByteArray} {n p : Nat} {t : ByteArray} {q : Nat} (h : partN s p n = some (t, q)) : lPart s n (some p) = (t, some q) := by
  show (match partN s p n with | none => (ByteArray.empty, none) | some (t, q) => (t, some q)) = _
  rw [h]
theorem lPart_not {s : ByteArray} {n p : Nat} (h : partN s p n = none) : lPart s n (some p) = (ByteArray.empty, none) := by
  show (match partN s p n with | none => (ByteArray.empty, none) | some (t, q) => (t, some q)) = _
  rw [h]
/-- The reader r stands at place p of s. -/
def Rel (s : ByteArray) (r : Rd) (p : Nat) : Prop := r.short = false ∧ p ≤ s.size ∧ r.rest.data.toList = s.data.toList.drop p
theorem rel_num {s : ByteArray} {r : Rd} {p n : Nat} (h : Rel s r p) (hs : (numR n r).2.short = false) : lNum s n (some p) = ((numR n r).1, some (p + n)) ∧ Rel s (numR n r).2 (p + n) := by
  obtain ⟨h1, h2, h3⟩ := h
  obtain ⟨g1, g2, g3⟩ := take_sound (n := n) (r := r) hs
  have hz : r.rest.size = s.size - p := by rw [bsize, h3, List.length_drop, ← bsize]
  have hz2 : r.rest.size = n + (takeR n r).2.rest.size := by rw [g3, ByteArray.size_append, g2]
  have hpn : p + n ≤ s.size := by omega
  have e3 : (takeR n r).1.data.toList ++ (takeR n r).2.rest.data.toList = s.data.toList.drop p := by rw [← h3, ← blist_append, ← g3]
  have hl : (takeR n r).1.data.toList.length = n := by rw [← bsize]; exact g2
  have e1 : (takeR n r).1.data.toList = sectL s p n := by
    unfold sectL
    rw [← e3]
    exact (List.take_left' hl).symm
  have e2 : (takeR n r).2.rest.data.toList = s.data.toList.drop (p + n) := by
    have : (s.data.toList.drop p).drop n = s.data.toList.drop (p + n) := by rw [List.drop_drop]
    rw [← this, ← e3]
    exact (List.drop_left' hl).symm
  refine ⟨?_, hs, hpn, e2⟩
  rw [lNum_some, if_pos hpn, numR, e1]
theorem rel_text {s : ByteArray} {r : Rd} {p n : Nat} (h : Rel s r p) (hs : (textR n r).2.short = false) : ∃ q, lPart s n (some p) = ((textR n r).1, some q) ∧ Rel s (textR n r).2 q := by
  have hs1 : (numR n r).2.short = false := by
    rw [textR] at hs
    exact (take_sound hs).1
  obtain ⟨a1, a2, a3, a4⟩ := rel_num h hs1
  rw [textR] at hs ⊢
  obtain ⟨g1, g2, g3⟩ := take_sound hs
  have hz : (numR n r).2.rest.size = s.size - (p + n) := by rw [bsize, a4, List.length_drop, ← bsize]
  have hz2 : (numR n r).2.rest.size = (numR n r).1 + (takeR (numR n r).1 (numR n r).2).2.rest.size := by rw [g3, ByteArray.size_append, g2]
  have e3 : (takeR (numR n r).1 (numR n r).2).1.data.toList ++ (takeR (numR n r).1 (numR n r).2).2.rest.data.toList = s.data.toList.drop (p + n) := by rw [← a4, ← blist_append, ← g3]
  have hl : (takeR (numR n r).1 (numR n r).2).1.data.toList.length = (numR n r).1 := by rw [← bsize]; exact g2
  have hpz : partZ s p n = (numR n r).1 := by
    rw [lNum_some, if_pos a3] at a1
    exact (Prod.mk.inj a1).1
  have e1 : s.extract (p + n) (p + n + (numR n r).1) = (takeR (numR n r).1 (numR n r).2).1 := by
    apply bext
    rw [blist_extract, List.drop_take, ← e3, show p + n + (numR n r).1 - (p + n) = (numR n r).1 by omega]
    exact List.take_left' hl
  have e2 : (takeR (numR n r).1 (numR n r).2).2.rest.data.toList = s.data.toList.drop (p + n + (numR n r).1) := by
    have : (s.data.toList.drop (p + n)).drop (numR n r).1 = s.data.toList.drop (p + n + (numR n r).1) := by rw [List.drop_drop]
    rw [← this, ← e3]
    exact (List.drop_left' hl).symm
  refine ⟨p + n + (numR n r).1, ?_, hs, by omega, e2⟩
  apply lPart_at
  unfold partN
  rw [hpz, if_pos ⟨a3, by omega⟩, e1]
theorem num_snd (k : Nat) (r : Rd) : (numR k r).2 = (takeR k r).2 := by rw [numR]
theorem text_snd (k : Nat) (r : Rd) : (textR k r).2 = (takeR (numR k r).1 (numR k r).2).2 := by rw [textR]
theorem num_sn {k : Nat} {r : Rd} (h : (numR k r).2.short = false) : r.short = false := by
  rw [num_snd] at h
  exact (take_sound h).1
theorem text_sn {k : Nat} {r : Rd} (h : (textR k r).2.short = false) : r.short = false := by
  rw [text_snd] at h
  exact num_sn (take_sound h).1
end Go.Proofs.Ytgpgacncmoiefaa
