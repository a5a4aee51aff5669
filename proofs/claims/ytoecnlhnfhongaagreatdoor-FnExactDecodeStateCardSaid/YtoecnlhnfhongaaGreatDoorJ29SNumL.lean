import Derived.Test.YtoecnlhnfhongaaGreatDoorJ02BatL
import Derived.Test.YtoecnlhnfhongaaGreatDoorJ19SS8
import Derived.Test.YtoecnlhnfhongaaGreatDoorJ03StaB
import Derived.Test.YtoecnlhnfhongaaGreatDoorJ10HpM
import Derived.Test.YtoecnlhnfhongaaGreatDoorProg
namespace Go.Proofs.YtoecnlhnfhongaaGreatDoor
open Go.RowKit

def posV : Option Nat → Int
  | none => -1
  | some p => (p : Int)
def lNum (s : ByteArray) (n : Nat) : Option Nat → Nat × Option Nat
  | none => (0, none)
  | some p => if p + n ≤ s.size then (beL (sectL s p n), some (p + n)) else (0, none)
def lPart (s : ByteArray) (n : Nat) : Option Nat → ByteArray × Option Nat
  | none => (ByteArray.empty, none)
  | some p => match partN s p n with
    | none => (ByteArray.empty, none)
    | some (t, q) => (t, some q)
theorem lNum_some (s : ByteArray) (n p : Nat) : lNum s n (some p) = if p + n ≤ s.size then (beL (sectL s p n), some (p + n)) else (0, none) := rfl
theorem lPart_at {s : ByteArray} {n p : Nat} {t : ByteArray} {q : Nat} (h : partN s p n = some (t, q)) : lPart s n (some p) = (t, some q) := by
  show (match partN s p n with | none => (ByteArray.empty, none) | some (t, q) => (t, some q)) = _
  rw [h]
theorem lPart_not {s : ByteArray} {n p : Nat} (h : partN s p n = none) : lPart s n (some p) = (ByteArray.empty, none) := by
  show (match partN s p n with | none => (ByteArray.empty, none) | some (t, q) => (t, some q)) = _
  rw [h]
/-- The reader r stands at place p of s. -/
def Rel (s : ByteArray) (r : Rd) (p : Nat) : Prop := r.short = false ∧ p ≤ s.size ∧ r.rest.data.toList = s.data.toList.drop p
theorem rel_num {s : ByteArray} {r : Rd} {p n : Nat} (h : Rel s r p) (hs : (numR n r).2.short = false) : lNum s n (some p) = ((numR n r).1, some (p + n)) ∧ Rel s (numR n r).2 (p + n) := by
  obtain ⟨h1, h2, h3⟩ := h
  obtain ⟨g1, g2, g3⟩ := take_sound (n := n) (r := r) hs
  have hz : r.rest.size = s.size - p := by rw [bsize, h3, List.length_drop, ← bsize]
  have hz2 : r.rest.size = n + (takeR n r).2.rest.size := by rw [g3, ByteArray.size_append, g2]
  have hpn : p + n ≤ s.size := by omega
  have e3 : (takeR n r).1.data.toList ++ (takeR n r).2.rest.data.toList = s.data.toList.drop p := by rw [← h3, ← blist_append, ← g3]
  have hl : (takeR n r).1.data.toList.length = n := by rw [← bsize]; exact g2
  have e1 : (takeR n r).1.data.toList = sectL s p n := by
    unfold sectL
    rw [← e3]
    exact (List.take_left' hl).symm
  have e2 : (takeR n r).2.rest.data.toList = s.data.toList.drop (p + n) := by
    have : (s.data.toList.drop p).drop n = s.data.toList.drop (p + n) := by rw [List.drop_drop]
    rw [← this, ← e3]
    exact (List.drop_left' hl).symm
  refine ⟨?_, hs, hpn, e2⟩
  rw [lNum_some, if_pos hpn, numR, e1]
theorem rel_text {s : ByteArray} {r : Rd} {p n : Nat} (h : Rel s r p) (hs : (textR n r).2.short = false) : ∃ q, lPart s n (some p) = ((textR n r).1, some q) ∧ Rel s (textR n r).2 q := by
  have hs1 : (numR n r).2.short = false := by
    rw [textR] at hs
    exact (take_sound hs).1
  obtain ⟨a1, a2, a3, a4⟩ := rel_num h hs1
  rw [textR] at hs ⊢
  obtain ⟨g1, g2, g3⟩ := take_sound hs
  have hz : (numR n r).2.rest.size = s.size - (p + n) := by rw [bsize, a4, List.length_drop, ← bsize]
  have hz2 : (numR n r).2.rest.size = (numR n r).1 + (takeR (numR n r).1 (numR n r).2).2.rest.size := by rw [g3, ByteArray.size_append, g2]
  have e3 : (takeR (numR n r).1 (numR n r).2).1.data.toList ++ (takeR (numR n r).1 (numR n r).2).2.rest.data.toList = s.data.toList.drop (p + n) := by rw [← a4, ← blist_append, ← g3]
  have hl : (takeR (numR n r).1 (numR n r).2).1.data.toList.length = (numR n r).1 := by rw [← bsize]; exact g2
  have hpz : partZ s p n = (numR n r).1 := by
    rw [lNum_some, if_pos a3] at a1
    exact (Prod.mk.inj a1).1
  have e1 : s.extract (p + n) (p + n + (numR n r).1) = (takeR (numR n r).1 (numR n r).2).1 := by
    apply bext
    rw [blist_extract, List.drop_take, ← e3, show p + n + (numR n r).1 - (p + n) = (numR n r).1 by omega]
    exact List.take_left' hl
  have e2 : (takeR (numR n r).1 (numR n r).2).2.rest.data.toList = s.data.toList.drop (p + n + (numR n r).1) := by
    have : (s.data.toList.drop (p + n)).drop (numR n r).1 = s.data.toList.drop (p + n + (numR n r).1) := by rw [List.drop_drop]
    rw [← this, ← e3]
    exact (List.drop_left' hl).symm
  refine ⟨p + n + (numR n r).1, ?_, hs, by omega, e2⟩
  apply lPart_at
  unfold partN
  rw [hpz, if_pos ⟨a3, by omega⟩, e1]
theorem num_snd (k : Nat) (r : Rd) : (numR k r).2 = (takeR k r).2 := by rw [numR]
theorem text_snd (k : Nat) (r : Rd) : (textR k r).2 = (takeR (numR k r).1 (numR k r).2).2 := by rw [textR]
theorem num_sn {k : Nat} {r : Rd} (h : (numR k r).2.short = false) : r.short = false := by
  rw [num_snd] at h
  exact (take_sound h).1
theorem text_sn {k : Nat} {r : Rd} (h : (textR k r).2.short = false) : r.short = false := by
  rw [text_snd] at h
  exact num_sn (take_sound h).1
end Go.Proofs.YtoecnlhnfhongaaGreatDoor

namespace Go.Proofs.YtoecnlhnfhongaaGreatDoor
open Go.RowKit

def lRec (s : ByteArray) (p : Option Nat) : RecD × Option Nat :=
  (⟨((lNum s 1 p).1 : Nat), (lPart s 1 (lNum s 1 p).2).1, (lPart s 2 (lPart s 1 (lNum s 1 p).2).2).1, wrapN (lNum s 8 (lPart s 2 (lPart s 1 (lNum s 1 p).2).2).2).1⟩, (lNum s 8 (lPart s 2 (lPart s 1 (lNum s 1 p).2).2).2).2)
def lK (s : ByteArray) (p0 : Option Nat) : Nat → List RecD × Option Nat
  | 0 => ([], p0)
  | k + 1 => match (lK s p0 k).2 with
    | none => lK s p0 k
    | some p => ((lK s p0 k).1 ++ [(lRec s (some p)).1], (lRec s (some p)).2)
theorem lK_none {s : ByteArray} {p0 : Option Nat} {k : Nat} (h : (lK s p0 k).2 = none) : lK s p0 (k + 1) = lK s p0 k := by rw [lK, h]
theorem lK_some {s : ByteArray} {p0 : Option Nat} {k p : Nat} (h : (lK s p0 k).2 = some p) : lK s p0 (k + 1) = ((lK s p0 k).1 ++ [(lRec s (some p)).1], (lRec s (some p)).2) := by rw [lK, h]
theorem lK_stay {s : ByteArray} {p0 : Option Nat} {k : Nat} (h : (lK s p0 k).2 = none) : ∀ m, k ≤ m → lK s p0 m = lK s p0 k := by
  intro m hm
  induction m with
  | zero => rw [show k = 0 by omega]
  | succ m ih =>
    rcases Nat.eq_or_lt_of_le hm with rfl | hlt
    · rfl
    · have := ih (by omega)
      rw [lK_none (by rw [this]; exact h), this]
theorem lK_length {s : ByteArray} {p0 : Option Nat} : ∀ k, (lK s p0 k).1.length ≤ k
  | 0 => Nat.le_refl _
  | k + 1 => by
    have := lK_length (s := s) (p0 := p0) k
    cases h : (lK s p0 k).2 with
    | none => rw [lK_none h]; omega
    | some p => rw [lK_some h]; simp; omega

theorem lRec_of {s : ByteArray} {p : Option Nat} {N : Nat} {p1 p2 p3 p4 : Option Nat} {t x : ByteArray} {M : Nat} (h1 : lNum s 1 p = (N, p1)) (h2 : lPart s 1 p1 = (t, p2)) (h3 : lPart s 2 p2 = (x, p3)) (h4 : lNum s 8 p3 = (M, p4)) : lRec s p = (⟨(N : Nat), t, x, wrapN M⟩, p4) := by
  rw [lRec, h1]
  simp only [h2, h3, h4]
theorem rel_rec {s : ByteArray} {r : Rd} {p : Nat} (h : Rel s r p) (hs : (recR r).2.short = false) : ∃ q, lRec s (some p) = ((recR r).1, some q) ∧ Rel s (recR r).2 q := by
  rw [recR_snd] at hs
  have s3 := num_sn hs
  have s2 := text_sn s3
  have s1 := text_sn s2
  obtain ⟨a1, a2⟩ := rel_num h s1
  obtain ⟨q1, b1, b2⟩ := rel_text a2 s2
  obtain ⟨q2, c1, c2⟩ := rel_text b2 s3
  obtain ⟨d1, d2⟩ := rel_num c2 hs
  rw [lRec_of a1 b1 c1 d1, recR_fst, recR_snd]
  exact ⟨q2 + 8, rfl, d2⟩
theorem rel_K {s : ByteArray} {r : Rd} {p : Nat} (h : Rel s r p) (k : Nat) : (rdRs r k).2.short = false → ∃ q, lK s (some p) k = ((rdRs r k).1, some q) ∧ Rel s (rdRs r k).2 q := by
  induction k with
  | zero =>
    intro _
    rw [rdRs, lK]
    exact ⟨p, rfl, h⟩
  | succ k ih =>
    intro hs
    have hs0 : (rdRs r k).2.short = false := by
      cases hh : (rdRs r k).2.short with
      | false => rfl
      | true => rw [rds_short hh (k + 1) (by omega)] at hs; exact hs
    obtain ⟨q, e, hq⟩ := ih hs0
    have hs1 : (recR (rdRs r k).2).2.short = false := by rw [rdRs_succ] at hs; simpa only using hs
    rw [rdRs_succ]
    clear hs
    generalize rdRs r k = R at *
    obtain ⟨q2, e2, hq2⟩ := rel_rec hq hs1
    rw [lK_some (p := q) (by rw [e]), e, e2]
    generalize recR R.2 = R2 at *
    exact ⟨q2, rfl, hq2⟩

def lLsn (s : ByteArray) : Nat × Option Nat := lNum s 8 (some 0)
def lCnt (s : ByteArray) : Nat × Option Nat := lNum s 2 (lLsn s).2
def lBat (s : ByteArray) : List RecD := (lK s (lCnt s).2 (lCnt s).1).1
theorem cnt_sn {s : ByteArray} (hc : (cntB s).2.short = false) : (lsnR s).2.short = false := by
  rw [cntB] at hc
  exact num_sn hc
theorem rel_lsn {s : ByteArray} (h : Rel s ⟨s, false⟩ 0) (hl : (lsnR s).2.short = false) : lLsn s = ((lsnR s).1, some (0 + 8)) ∧ Rel s (lsnR s).2 (0 + 8) := by
  rw [lsnR] at hl ⊢
  rw [lLsn]
  exact rel_num h hl
theorem rel_cnt {s : ByteArray} {p : Nat} (h : Rel s (lsnR s).2 p) (hl : (cntB s).2.short = false) : lNum s 2 (some p) = ((cntB s).1, some (p + 2)) ∧ Rel s (cntB s).2 (p + 2) := by
  rw [cntB] at hl ⊢
  exact rel_num h hl
theorem loose {s : ByteArray} (h : (batR s).2.short = false) : lBat s = (batR s).1 ∧ (lLsn s).1 = (lsnR s).1 := by
  have h0 : Rel s ⟨s, false⟩ 0 := ⟨rfl, Nat.zero_le _, by simp⟩
  have hc : (cntB s).2.short = false := by
    cases hh : (cntB s).2.short with
    | false => rfl
    | true =>
      have : (rdRs (cntB s).2 (cntB s).1).2.short = true := rds_short (k := 0) (by rw [rdRs]; exact hh) _ (Nat.zero_le _)
      rw [batR, this] at h
      exact h
  have hl : (lsnR s).2.short = false := cnt_sn hc
  obtain ⟨a1, a2⟩ := rel_lsn h0 hl
  obtain ⟨b1, b2⟩ := rel_cnt a2 hc
  have b1' : lCnt s = ((cntB s).1, some (0 + 8 + 2)) := by rw [lCnt, a1]; exact b1
  rw [batR] at h ⊢
  obtain ⟨q, e, _⟩ := rel_K b2 (cntB s).1 h
  refine ⟨?_, by rw [a1]⟩
  rw [lBat, b1']
  simp only
  rw [e]
theorem lRec_rng (s : ByteArray) (p : Option Nat) : I64 (lRec s p).1.kind ∧ I64 (lRec s p).1.num := by
  have h1 : (lNum s 1 p).1 < 256 := by
    cases p with
    | none => simp [lNum]
    | some p =>
      rw [lNum_some]
      split
      · have := beL_lt (sectL s p 1)
        rename_i hh
        rw [sectL_length hh] at this
        simpa using this
      · simp
  have h2 := wrapN_rng (lNum s 8 (lPart s 2 (lPart s 1 (lNum s 1 p).2).2).2).1
  rw [lRec]
  refine ⟨⟨?_, ?_⟩, h2⟩
  · show _ ≤ ((lNum s 1 p).1 : Int); omega
  · show ((lNum s 1 p).1 : Int) ≤ _; omega
theorem lK_rng {s : ByteArray} {p0 : Option Nat} : ∀ k, RngR (lK s p0 k).1
  | 0 => fun i h => absurd h (by simp [lK])
  | k + 1 => by
    have ih := lK_rng (s := s) (p0 := p0) k
    cases h : (lK s p0 k).2 with
    | none => rw [lK_none h]; exact ih
    | some p =>
      rw [lK_some h]
      intro i hi
      simp only [List.getElem_append]
      split
      · rename_i hh; exact ih i hh
      · simp only [List.getElem_singleton]; exact lRec_rng s _
/-- What the loose reading comes to. -/
theorem loose_yes {s : ByteArray} (hs : s.size ≠ 0) (h : batB (wrapN (lLsn s).1) (lBat s) = s) : decB s = (wrapN (lLsn s).1, lBat s, true) := dec_of hs (lK_rng _) h
theorem loose_no {s : ByteArray} (h : s.size = 0 ∨ batB (wrapN (lLsn s).1) (lBat s) ≠ s) : decB s = (0, [], false) := by
  cases hh : (batR s).2.short with
  | true => exact dec_short hh
  | false =>
    obtain ⟨e1, e2⟩ := loose hh
    by_cases hb : batB (wrapN (lsnR s).1) (batR s).1 = s
    · rcases h with h | h
      · have h0 : Rel s ⟨s, false⟩ 0 := ⟨rfl, Nat.zero_le _, by simp⟩
        have hc : (cntB s).2.short = false := by
          cases hq : (cntB s).2.short with
          | false => rfl
          | true =>
            have : (rdRs (cntB s).2 (cntB s).1).2.short = true := rds_short (k := 0) (by rw [rdRs]; exact hq) _ (Nat.zero_le _)
            rw [batR, this] at hh
            exact hh
        have hl : (lsnR s).2.short = false := cnt_sn hc
        have := (rel_lsn h0 hl).2.2.1
        omega
      · rw [e1, e2] at h; exact absurd hb h
    · exact dec_ne hb
end Go.Proofs.YtoecnlhnfhongaaGreatDoor

namespace Go.Proofs.YtoecnlhnfhongaaGreatDoor
open Go.RowKit

def lPr (s : ByteArray) (p : Option Nat) : PairD × Option Nat := (⟨(lPart s 2 p).1, wrapN (lNum s 8 (lPart s 2 p).2).1⟩, (lNum s 8 (lPart s 2 p).2).2)
def lPs (s : ByteArray) (p0 : Option Nat) : Nat → List PairD × Option Nat
  | 0 => ([], p0)
  | k + 1 => match (lPs s p0 k).2 with
    | none => lPs s p0 k
    | some p => ((lPs s p0 k).1 ++ [(lPr s (some p)).1], (lPr s (some p)).2)
theorem lPs_zero (s : ByteArray) (p0 : Option Nat) : lPs s p0 0 = ([], p0) := by rw [lPs]
theorem lPs_none {s : ByteArray} {p0 : Option Nat} {k : Nat} (h : (lPs s p0 k).2 = none) : lPs s p0 (k + 1) = lPs s p0 k := by rw [lPs, h]
theorem lPs_some {s : ByteArray} {p0 : Option Nat} {k p : Nat} (h : (lPs s p0 k).2 = some p) : lPs s p0 (k + 1) = ((lPs s p0 k).1 ++ [(lPr s (some p)).1], (lPr s (some p)).2) := by rw [lPs, h]
theorem lPs_stay {s : ByteArray} {p0 : Option Nat} {k : Nat} (h : (lPs s p0 k).2 = none) : ∀ m, k ≤ m → lPs s p0 m = lPs s p0 k := by
  intro m hm
  induction m with
  | zero => rw [show k = 0 by omega]
  | succ m ih =>
    rcases Nat.eq_or_lt_of_le hm with rfl | hlt
    · rfl
    · have := ih (by omega)
      rw [lPs_none (by rw [this]; exact h), this]
def lTn (s : ByteArray) (p : Option Nat) : ByteArray × Option Nat := lPart s 1 p
def lTl (s : ByteArray) (p : Option Nat) : Nat × Option Nat := lNum s 8 (lTn s p).2
def lMn (s : ByteArray) (p : Option Nat) : Nat × Option Nat := lNum s 4 (lTl s p).2
def lMs (s : ByteArray) (p : Option Nat) : List PairD × Option Nat := lPs s (lMn s p).2 (lMn s p).1
def lSn (s : ByteArray) (p : Option Nat) : Nat × Option Nat := lNum s 4 (lMs s p).2
def lSs (s : ByteArray) (p : Option Nat) : List PairD × Option Nat := lPs s (lSn s p).2 (lSn s p).1
def lTen (s : ByteArray) (p : Option Nat) : TenD × Option Nat := (⟨(lTn s p).1, wrapN (lTl s p).1, (lMs s p).1, (lSs s p).1⟩, (lSs s p).2)
def lTs (s : ByteArray) (p0 : Option Nat) : Nat → List TenD × Option Nat
  | 0 => ([], p0)
  | k + 1 => match (lTs s p0 k).2 with
    | none => lTs s p0 k
    | some p => ((lTs s p0 k).1 ++ [(lTen s (some p)).1], (lTen s (some p)).2)
theorem lTs_zero (s : ByteArray) (p0 : Option Nat) : lTs s p0 0 = ([], p0) := by rw [lTs]
theorem lTs_none {s : ByteArray} {p0 : Option Nat} {k : Nat} (h : (lTs s p0 k).2 = none) : lTs s p0 (k + 1) = lTs s p0 k := by rw [lTs, h]
theorem lTs_some {s : ByteArray} {p0 : Option Nat} {k p : Nat} (h : (lTs s p0 k).2 = some p) : lTs s p0 (k + 1) = ((lTs s p0 k).1 ++ [(lTen s (some p)).1], (lTen s (some p)).2) := by rw [lTs, h]
theorem lTs_stay {s : ByteArray} {p0 : Option Nat} {k : Nat} (h : (lTs s p0 k).2 = none) : ∀ m, k ≤ m → lTs s p0 m = lTs s p0 k := by
  intro m hm
  induction m with
  | zero => rw [show k = 0 by omega]
  | succ m ih =>
    rcases Nat.eq_or_lt_of_le hm with rfl | hlt
    · rfl
    · have := ih (by omega)
      rw [lTs_none (by rw [this]; exact h), this]
/-- Where the strict reading is not short, the loose one is the same. -/
theorem rel_pr {s : ByteArray} {r : Rd} {p : Nat} (h : Rel s r p) (hs : (prR r).2.short = false) : ∃ q, lPr s (some p) = ((prR r).1, some q) ∧ Rel s (prR r).2 q := by
  rw [prR_snd] at hs
  have h1 : (textR 2 r).2.short = false := by
    cases e : (textR 2 r).2.short with
    | false => rfl
    | true => rw [num_short (k := 8) e] at hs; exact hs
  obtain ⟨q, a1, a2⟩ := rel_text h h1
  obtain ⟨b1, b2⟩ := rel_num a2 hs
  refine ⟨q + 8, ?_, by rw [prR_snd]; exact b2⟩
  rw [lPr, a1]
  simp only
  rw [b1, prR_fst]
theorem rel_ps {s : ByteArray} {r : Rd} {p : Nat} (h : Rel s r p) (k : Nat) : (rdPs r k).2.short = false → ∃ q, lPs s (some p) k = ((rdPs r k).1, some q) ∧ Rel s (rdPs r k).2 q := by
  induction k with
  | zero => intro _; rw [rdPs_zero, lPs_zero]; exact ⟨p, rfl, h⟩
  | succ k ih =>
    intro hs
    have hk : (rdPs r k).2.short = false := by
      cases e : (rdPs r k).2.short with
      | false => rfl
      | true => rw [rdps_short e (k + 1) (by omega)] at hs; exact hs
    obtain ⟨q, a1, a2⟩ := ih hk
    rw [rdPs_succ] at hs
    obtain ⟨q2, b1, b2⟩ := rel_pr a2 hs
    refine ⟨q2, ?_, by rw [rdPs_succ]; exact b2⟩
    rw [lPs_some (by rw [a1]), b1, a1, rdPs_succ]
set_option maxHeartbeats 1000000 in
theorem rel_ten {s : ByteArray} {r : Rd} {p : Nat} (h : Rel s r p) (hs : (tenR r).2.short = false) : ∃ q, lTen s (some p) = ((tenR r).1, some q) ∧ Rel s (tenR r).2 q := by
  rw [tenR_snd] at hs
  have g6 : (tsN r).2.short = false := by
    cases e : (tsN r).2.short with
    | false => rfl
    | true => rw [ts_short e] at hs; exact hs
  have g5 : (tmR r).2.short = false := by
    cases e : (tmR r).2.short with
    | false => rfl
    | true => rw [sn_short e] at g6; exact g6
  have g4 : (tmN r).2.short = false := by
    cases e : (tmN r).2.short with
    | false => rfl
    | true => rw [tm_short e] at g5; exact g5
  have g3 : (tlR r).2.short = false := by
    cases e : (tlR r).2.short with
    | false => rfl
    | true => rw [mn_short e] at g4; exact g4
  have g2 : (tnR r).2.short = false := by
    cases e : (tnR r).2.short with
    | false => rfl
    | true => rw [tl_short e] at g3; exact g3
  obtain ⟨q1, a1, b1⟩ : ∃ q, lTn s (some p) = ((tnR r).1, some q) ∧ Rel s (tnR r).2 q := by rw [lTn]; rw [tnR] at g2 ⊢; exact rel_text h g2
  have a2 : lTl s (some p) = ((tlR r).1, some (q1 + 8)) ∧ Rel s (tlR r).2 (q1 + 8) := by
    rw [lTl, a1]
    rw [tlR] at g3 ⊢
    generalize (tnR r).2 = Z at *
    exact rel_num b1 g3
  have a3 : lMn s (some p) = ((tmN r).1, some (q1 + 8 + 4)) ∧ Rel s (tmN r).2 (q1 + 8 + 4) := by
    rw [lMn, a2.1]
    rw [tmN] at g4 ⊢
    obtain ⟨_, b2⟩ := a2
    generalize (tlR r).2 = Z at *
    exact rel_num b2 g4
  obtain ⟨q4, a4, b4⟩ : ∃ q, lMs s (some p) = ((tmR r).1, some q) ∧ Rel s (tmR r).2 q := by
    rw [lMs, a3.1]
    rw [tmR] at g5 ⊢
    obtain ⟨_, b3⟩ := a3
    generalize (tmN r).2 = Z at *
    generalize (tmN r).1 = Y at *
    exact rel_ps b3 _ g5
  have a5 : lSn s (some p) = ((tsN r).1, some (q4 + 4)) ∧ Rel s (tsN r).2 (q4 + 4) := by
    rw [lSn, a4]
    rw [tsN] at g6 ⊢
    generalize (tmR r).2 = Z at *
    exact rel_num b4 g6
  obtain ⟨q6, a6, b6⟩ : ∃ q, lSs s (some p) = ((tsR r).1, some q) ∧ Rel s (tsR r).2 q := by
    rw [lSs, a5.1]
    rw [tsR] at hs ⊢
    obtain ⟨_, b5⟩ := a5
    generalize (tsN r).2 = Z at *
    generalize (tsN r).1 = Y at *
    exact rel_ps b5 _ hs
  have e0 : lTen s (some p) = (⟨(lTn s (some p)).1, wrapN (lTl s (some p)).1, (lMs s (some p)).1, (lSs s (some p)).1⟩, (lSs s (some p)).2) := by rw [lTen]
  have e2 := a2.1
  rw [e0, tenR_fst, tenR_snd]
  clear e0 a3 a5 a2 b4 b1 g2 g3 g4 g5 g6 hs h
  generalize lTn s (some p) = F1 at *
  generalize lTl s (some p) = F2 at *
  generalize lMs s (some p) = F3 at *
  generalize lSs s (some p) = F4 at *
  generalize tnR r = H1 at *
  generalize tlR r = H2 at *
  generalize tmR r = H3 at *
  generalize tsR r = H4 at *
  subst a1 e2 a4 a6
  exact ⟨q6, rfl, b6⟩
theorem rel_ts {s : ByteArray} {r : Rd} {p : Nat} (h : Rel s r p) (k : Nat) : (rdTs r k).2.short = false → ∃ q, lTs s (some p) k = ((rdTs r k).1, some q) ∧ Rel s (rdTs r k).2 q := by
  induction k with
  | zero => intro _; rw [rdTs_zero, lTs_zero]; exact ⟨p, rfl, h⟩
  | succ k ih =>
    intro hs
    have hk : (rdTs r k).2.short = false := by
      cases e : (rdTs r k).2.short with
      | false => rfl
      | true => rw [rdts_short e (k + 1) (by omega)] at hs; exact hs
    obtain ⟨q, a1, a2⟩ := ih hk
    have hs1 : (tenR (rdTs r k).2).2.short = false := by rw [rdTs_succ] at hs; simpa only using hs
    rw [rdTs_succ]
    clear hs
    generalize rdTs r k = R at *
    obtain ⟨q2, b1, b2⟩ := rel_ten a2 hs1
    rw [lTs_some (p := q) (by rw [a1]), a1, b1]
    generalize tenR R.2 = R2 at *
    exact ⟨q2, rfl, b2⟩
/-- A state's parts, read loosely. -/
def lSl (s : ByteArray) : Nat × Option Nat := lNum s 8 (some 4)
def lNw (s : ByteArray) : Nat × Option Nat := lNum s 8 (lSl s).2
def lCt (s : ByteArray) : Nat × Option Nat := lNum s 4 (lNw s).2
def lSta (s : ByteArray) : List TenD × Option Nat := lTs s (lCt s).2 (lCt s).1
set_option maxHeartbeats 1000000 in
theorem loose_same {s : ByteArray} (hs : (staR s).2.short = false) : (lSl s).1 = (slR s).1 ∧ (lNw s).1 = (snR s).1 ∧ (lSta s).1 = (staR s).1 := by
  have g3 : (scR s).2.short = false := by
    cases e : (scR s).2.short with
    | false => rfl
    | true => rw [staR, rdts_short (k := 0) (by rw [rdTs_zero]; exact e) _ (Nat.zero_le _)] at hs; exact hs
  have g2 : (snR s).2.short = false := by
    rw [scR] at g3; exact num_sn g3
  have g1 : (slR s).2.short = false := by
    rw [snR] at g2; exact num_sn g2
  have g0 : (ckR s).2.short = false := by
    rw [slR] at g1; exact num_sn g1
  have r0 : Rel s (ckR s).2 4 := by
    have h0 : Rel s ⟨s, false⟩ 0 := ⟨rfl, Nat.zero_le _, by simp⟩
    have e0 : (numR 4 ⟨s, false⟩).2 = (ckR s).2 := by rw [numR, ckR]
    have h1 : (numR 4 ⟨s, false⟩).2.short = false := by rw [e0]; exact g0
    have h2 := (rel_num h0 h1).2
    rw [e0, Nat.zero_add] at h2
    exact h2
  have a1 : lSl s = ((slR s).1, some (4 + 8)) ∧ Rel s (slR s).2 (4 + 8) := by
    rw [lSl]
    rw [slR] at g1 ⊢
    generalize (ckR s).2 = Z at *
    exact rel_num r0 g1
  have a2 : lNw s = ((snR s).1, some (4 + 8 + 8)) ∧ Rel s (snR s).2 (4 + 8 + 8) := by
    rw [lNw, a1.1]
    rw [snR] at g2 ⊢
    obtain ⟨_, b1⟩ := a1
    generalize (slR s).2 = Z at *
    exact rel_num b1 g2
  have a3 : lCt s = ((scR s).1, some (4 + 8 + 8 + 4)) ∧ Rel s (scR s).2 (4 + 8 + 8 + 4) := by
    rw [lCt, a2.1]
    rw [scR] at g3 ⊢
    obtain ⟨_, b2⟩ := a2
    generalize (snR s).2 = Z at *
    exact rel_num b2 g3
  obtain ⟨q, a4, _⟩ : ∃ q, lSta s = ((staR s).1, some q) ∧ Rel s (staR s).2 q := by
    rw [lSta, a3.1]
    rw [staR] at hs ⊢
    obtain ⟨_, b3⟩ := a3
    generalize (scR s).2 = Z at *
    generalize (scR s).1 = Y at *
    exact rel_ts b3 _ hs
  refine ⟨?_, ?_, ?_⟩
  · rw [a1.1]
  · rw [a2.1]
  · rw [a4]
theorem lPs_rng {s : ByteArray} {p0 : Option Nat} (k : Nat) : RngP (lPs s p0 k).1 := by
  induction k with
  | zero => rw [lPs_zero]; exact fun i h => absurd h (by simp)
  | succ k ih =>
    cases h : (lPs s p0 k).2 with
    | none => rw [lPs_none h]; exact ih
    | some p =>
      rw [lPs_some h]
      have e : (lPr s (some p)).1 = ⟨(lPart s 2 (some p)).1, wrapN (lNum s 8 (lPart s 2 (some p)).2).1⟩ := by rw [lPr]
      have hr : I64p (lPr s (some p)).1.n := by rw [e]; exact wrapN_rng _
      generalize lPr s (some p) = A at *
      intro i hi
      simp only [List.getElem_append]
      split
      · rename_i hh; exact ih i hh
      · simp only [List.getElem_singleton]; exact hr
theorem lTen_rng (s : ByteArray) (p : Option Nat) : I64p (lTen s p).1.limit ∧ RngP (lTen s p).1.mets ∧ RngP (lTen s p).1.sers := by
  have e : (lTen s p).1 = ⟨(lTn s p).1, wrapN (lTl s p).1, (lMs s p).1, (lSs s p).1⟩ := by rw [lTen]
  have h1 : RngP (lMs s p).1 := by rw [lMs]; exact lPs_rng _
  have h2 : RngP (lSs s p).1 := by rw [lSs]; exact lPs_rng _
  have h3 : I64p (wrapN (lTl s p).1) := wrapN_rng _
  rw [e]
  generalize lMs s p = A at *
  generalize lSs s p = B at *
  generalize wrapN (lTl s p).1 = C at *
  exact ⟨h3, h1, h2⟩
theorem lTs_rng {s : ByteArray} {p0 : Option Nat} (k : Nat) : RngT (lTs s p0 k).1 := by
  induction k with
  | zero => rw [lTs_zero]; exact fun i h => absurd h (by simp)
  | succ k ih =>
    cases h : (lTs s p0 k).2 with
    | none => rw [lTs_none h]; exact ih
    | some p =>
      rw [lTs_some h]
      have hr := lTen_rng s (some p)
      generalize lTen s (some p) = A at *
      intro i hi
      simp only [List.getElem_append]
      split
      · rename_i hh; exact ih i hh
      · simp only [List.getElem_singleton]; exact hr
/-- What spec.DecodeState asks of the loose reading is decS. -/
theorem looseS_yes {c : CfgD} {s : ByteArray} (hs0 : s.size ≠ 0) (hs : s.size ≤ 1000000000) (h : staB (wrapN (lSl s).1) (wrapN (lNw s).1) (lSta s).1 = s) (hc : stateB c (wrapN (lNw s).1) (lSta s).1 = true) : decS c s = (wrapN (lSl s).1, wrapN (lNw s).1, (lSta s).1, true) :=
  decS_of hs0 hs (wrapN_rng _) (by rw [lSta]; exact lTs_rng _) h hc
theorem looseS_no {c : CfgD} {s : ByteArray} (h : ¬ (s.size ≠ 0 ∧ staB (wrapN (lSl s).1) (wrapN (lNw s).1) (lSta s).1 = s ∧ stateB c (wrapN (lNw s).1) (lSta s).1 = true)) : decS c s = (0, 0, [], false) := by
  cases hsh : (staR s).2.short with
  | true => exact decS_short hsh
  | false =>
    obtain ⟨a1, a2, a3⟩ := loose_same hsh
    rw [a1, a2, a3] at h
    by_cases h1 : staB (wrapN (slR s).1) (wrapN (snR s).1) (staR s).1 = s
    · cases h2 : stateB c (wrapN (snR s).1) (staR s).1 with
      | false => exact decS_no h2
      | true =>
        refine absurd ⟨?_, h1, h2⟩ h
        intro hz
        have e0 : (ckR s).2.short = true := by
          rw [ckR]; unfold takeR
          rw [if_pos (by show s.size < 4; omega)]
        have : (staR s).2.short = true := by
          rw [staR]
          refine rdts_short (k := 0) ?_ _ (Nat.zero_le _)
          rw [rdTs_zero, scR]
          refine num_short ?_
          rw [snR]
          refine num_short ?_
          rw [slR]
          exact num_short e0
        rw [hsh] at this
        cases this
    · exact decS_ne h1
end Go.Proofs.YtoecnlhnfhongaaGreatDoor

namespace Go.Proofs.YtoecnlhnfhongaaGreatDoor
open Go.RowKit

theorem wrap_step (X b : Nat) : wrap64 (wrap64 ((X : Int) * 256) + (b : Int)) = wrapN (X * 256 + b) := by
  rw [wrapN_eq]
  unfold wrap64
  split <;> omega
set_option maxRecDepth 100000 in
set_option maxHeartbeats 1000000 in
theorem specGetW_any (s : ByteArray) (p n : Nat) (w : World) (hs : s.size ≤ maxLen) (h : p + n ≤ s.size) (hn : n ≤ 8) :
    Calls Tryz.prog 22 #[.string s, .int .i64 p, .int .i64 n] w fun e w' => e = .returned (.int .i64 (wrapN (beL (sectL s p n)))) ∧ w' = w := by
  unfold maxLen at hs
  go_enter Tryz.func22, Tryz.ntmps22
  go_wp2
  go_loop [7, 8] (fun v i => ∃ (k V : Nat) (Z : Int), k ≤ n ∧ i = .int .i64 k ∧ v = .int .i64 Z ∧ Hid (Z = wrapN V) ∧ Hid (V = beL (sectL s p k))) (fun _ i => n - (intOf i).toNat)
  case atStart => exact ⟨0, 0, 0, Nat.zero_le _, rfl, rfl, by show _ = _; rw [wrapN_small (by omega)]; rfl, rfl⟩
  case round =>
    obtain ⟨k, V, Z, hk, rfl, rfl, hZ, hV⟩ := hrel
    by_cases hlt : k < n
    · have hV7 : V < 72057594037927936 := by
        have h1 := beL_lt (sectL s p k)
        rw [sectL_length (by omega), ← hV.out] at h1
        have h2 : 256 ^ k ≤ 256 ^ 7 := Nat.pow_le_pow_right (by omega) (by omega)
        omega
      obtain rfl : Z = (V : Int) := by rw [hZ.out, wrapN_small (by omega)]
      have hi0 : (0 : Int) ≤ (p : Int) + (k : Int) := by omega
      have hi1 : (p : Int) + (k : Int) < (s.size : Int) := by omega
      have hi2 : p + k < s.size := by omega
      have hU := s[p + k].toNat_lt
      have hw := wrap_step V s[p + k].toNat
      go_wp2
      refine ⟨⟨k + 1, V * 256 + s[p + k].toNat, wrapN (V * 256 + s[p + k].toNat), by omega, by go_num, ?_, rfl, by show _ = _; rw [sectL_snoc hi2, beL_snoc, hV.out]⟩, by simp [intOf]; omega⟩
      exact congrArg (Value.int .i64) hw
    · go_wp2
      go_ret
      have e : k = n := by omega
      subst e
      exact ⟨ret_int (by rw [hZ.out, hV.out]), rfl⟩

theorem ret_numI {a b : Int} {c d : Int} (h1 : a = b) (h2 : c = d) : Ending.returned (.tuple #[.int .i64 a, .int .i64 c]) = .returned (.tuple #[.int .i64 b, .int .i64 d]) := by rw [h1, h2]
set_option maxRecDepth 100000 in
set_option maxHeartbeats 1000000 in
theorem specNumL_any (s : ByteArray) (n : Nat) (p : Option Nat) (w : World) (hs : s.size ≤ 1000000000) (hp : ∀ q, p = some q → q ≤ 1000000000) (hn : n ≤ 8) :
    Calls Tryz.prog 10 #[.string s, .int .i64 (posV p), .int .i64 (n : Nat)] w fun e w' => e = .returned (.tuple #[.int .i64 (wrapN (lNum s n p).1), .int .i64 (posV (lNum s n p).2)]) ∧ w' = w := by
  have e0 : wrapN 0 = 0 := wrapN_small (by omega)
  cases p with
  | none =>
    show Calls _ _ #[.string s, .int .i64 (-1), .int .i64 (n : Nat)] w fun e w' => e = .returned (.tuple #[.int .i64 (wrapN 0), .int .i64 (-1)]) ∧ w' = w
    rw [e0]
    go_enter Tryz.func10, Tryz.ntmps10
    go_wp2
    go_ret2
    exact ⟨rfl, rfl⟩
  | some q =>
    have hq := hp q rfl
    rw [lNum_some]
    show Calls _ _ #[.string s, .int .i64 (q : Nat), .int .i64 (n : Nat)] w fun e w' => e = .returned (.tuple #[.int .i64 (wrapN (if q + n ≤ s.size then (beL (sectL s q n), some (q + n)) else (0, none)).1), .int .i64 (posV (if q + n ≤ s.size then (beL (sectL s q n), some (q + n)) else (0, none)).2)]) ∧ w' = w
    clear hp
    by_cases h : q + n ≤ s.size
    · rw [if_pos h]
      have HG : Hid (∀ W, Calls Tryz.prog 22 #[.string s, .int .i64 (q : Nat), .int .i64 (n : Nat)] W fun e w' => e = .returned (.int .i64 (wrapN (beL (sectL s q n)))) ∧ w' = W) := fun W => specGetW_any s q n W (by unfold maxLen; omega) h hn
      show Calls _ _ #[.string s, .int .i64 (q : Nat), .int .i64 (n : Nat)] w fun e w' => e = .returned (.tuple #[.int .i64 (wrapN (beL (sectL s q n))), .int .i64 ((q + n : Nat) : Int)]) ∧ w' = w
      generalize wrapN (beL (sectL s q n)) = V at *
      have h' : ¬ ((q : Int) + (n : Int) > (s.size : Int)) := by omega
      go_enter Tryz.func10, Tryz.ntmps10
      go_wp2_with fail
      refine (HG.out _).mono ?_
      rintro e w1 ⟨rfl, hw⟩
      replace hw := hw.symm
      subst hw
      go_wp2
      go_ret2
      exact ⟨ret_numI rfl (by omega), rfl⟩
    · rw [if_neg h]
      show Calls _ _ #[.string s, .int .i64 (q : Nat), .int .i64 (n : Nat)] w fun e w' => e = .returned (.tuple #[.int .i64 (wrapN 0), .int .i64 (-1)]) ∧ w' = w
      rw [e0]
      have h' : (q : Int) + (n : Int) > (s.size : Int) := by omega
      go_enter Tryz.func10, Tryz.ntmps10
      go_wp2
      go_ret2
      exact ⟨rfl, rfl⟩
theorem specPartL_any (s : ByteArray) (n : Nat) (p : Option Nat) (w : World) (hs : s.size ≤ 1000000000) (hp : ∀ q, p = some q → q ≤ 1000000000) (hn : n ≤ 2) :
    Calls Tryz.prog 11 #[.string s, .int .i64 (posV p), .int .i64 (n : Nat)] w fun e w' => e = .returned (.tuple #[.string (lPart s n p).1, .int .i64 (posV (lPart s n p).2)]) ∧ w' = w := by
  cases p with
  | none => exact specPart_neg s n w
  | some q =>
    cases h : partN s q n with
    | none => rw [lPart_not h]; exact specPart_none s q n w hs (hp q rfl) hn h
    | some tr =>
      obtain ⟨t, r⟩ := tr
      rw [lPart_at h]
      exact specPart_some s q n t r w hs hn h
theorem lNum_le {s : ByteArray} {n : Nat} {p : Option Nat} {q : Nat} (h : (lNum s n p).2 = some q) : q ≤ s.size := by
  cases p with
  | none => exact absurd h (by simp [lNum])
  | some p =>
    rw [lNum_some] at h
    split at h
    · simp at h; omega
    · simp at h
theorem lPart_le {s : ByteArray} {n : Nat} {p : Option Nat} {q : Nat} (h : (lPart s n p).2 = some q) : q ≤ s.size := by
  cases p with
  | none => exact absurd h (by simp [lPart])
  | some p =>
    cases hh : partN s p n with
    | none => rw [lPart_not hh] at h; simp at h
    | some tr =>
      obtain ⟨t, r⟩ := tr
      rw [lPart_at hh] at h
      simp at h
      have := (part_le hh).1
      omega
end Go.Proofs.YtoecnlhnfhongaaGreatDoor

