/- The verifier's own text: reading a batch loosely, place by place. -/
import Derived.Test.YtgpgacncmoiefaaBatD
import Derived.Test.YtgpgacncmoiefaaLooN
namespace Go.Proofs.Ytgpgacncmoiefaa
open Go.RowKit

def lRec (s : ByteArray) (p : Option Nat) : RecD × Option Nat :=
  (⟨((lNum s 1 p).1 : Nat), (lPart s 1 (lNum s 1 p).2).1, (lPart s 2 (lPart s 1 (lNum s 1 p).2).2).1, wrapN (lNum s 8 (lPart s 2 (lPart s 1 (lNum s 1 p).2).2).2).1⟩, (lNum s 8 (lPart s 2 (lPart s 1 (lNum s 1 p).2).2).2).2)
def lK (s : ByteArray) (p0 : Option Nat) : Nat → List RecD × Option Nat
  | 0 => ([], p0)
  | k + 1 => match (lK s p0 k).2 with
    | none => lK s p0 k
    | some p => ((lK s p0 k).1 ++ [(lRec s (some p)).1], (lRec s (some p)).2)
theorem lK_none {s : ByteArray} {p0 : Option Nat} {k : Nat} (h : (lK s p0 k).2 = none) : lK s p0 (k + 1) = lK s p0 k := by rw [lK, h]
theorem lK_some {s : ByteArray} {p0 : Option Nat} {k p : Nat} (h : (lK s p0 k).2 = some p) : lK s p0 (k + 1) = ((lK s p0 k).1 ++ [(lRec s (some p)).1], (lRec s (some p)).2) := by rw [lK, h]
theorem lK_stay {s : ByteArray} {p0 : Option Nat} {k : Nat} (h : (lK s p0 k).2 = none) : ∀ m, k ≤ m → lK s p0 m = lK s p0 k := by
  intro m hm
  induction m with
  | zero => rw [show k = 0 by omega]
  | succ m ih =>
    rcases Nat.eq_or_lt_of_le hm with rfl | hlt
    · rfl
    · have := ih (by omega)
      rw [lK_none (by rw [this]; exact h), this]
theorem lK_length {s : ByteArray} {p0 : Option Nat} : ∀ k, (lK s p0 k).1.length ≤ k
  | 0 => Nat.le_refl _
  | k + 1 => by
    have := lK_length (s := s) (p0 := p0) k
    cases h : (lK s p0 k).2 with
    | none => rw [lK_none h]; omega
    | some p => rw [lK_some h]; simp; omega

theorem lRec_of {s : ByteArray} {p : Option Nat} {N : Nat} {p1 p2 p3 p4 : Option Nat} {t x : ByteArray} {M : Nat} (h1 : lNum s 1 p = (N, p1)) (h2 : lPart s 1 p1 = (t, p2)) (h3 : lPart s 2 p2 = (x, p3)) (h4 : lNum s 8 p3 = (M, p4)) : lRec s p = (⟨(N : Nat), t, x, wrapN M⟩, p4) := by
  rw [lRec, h1]
  simp only [h2, h3, h4]
theorem rel_rec {s : ByteArray} {r : Rd} {p : Nat} (h : Rel s r p) (hs : (recR r).2.short = false) : ∃ q, lRec s (some p) = ((recR r).1, some q) ∧ Rel s (recR r).2 q := by
  rw [recR_snd] at hs
  have s3 := num_sn hs
  have s2 := text_sn s3
  have s1 := text_sn s2
  obtain ⟨a1, a2⟩ := rel_num h s1
  obtain ⟨q1, b1, b2⟩ := rel_text a2 s2
  obtain ⟨q2, c1, c2⟩ := rel_text b2 s3
  obtain ⟨d1, d2⟩ := rel_num c2 hs
  rw [lRec_of a1 b1 c1 d1, recR_fst, recR_snd]
  exact ⟨q2 + 8, rfl, d2⟩
theorem rel_K {s : ByteArray} {r : Rd} {p : Nat} (h : Rel s r p) (k : Nat) : (rdRs r k).2.short = false → ∃ q, lK s (some p) k = ((rdRs r k).1, some q) ∧ Rel s (rdRs r k).2 q := by
  induction k with
  | zero =>
    intro _
    rw [rdRs, lK]
    exact ⟨p, rfl, h⟩
  | succ k ih =>
    intro hs
    have hs0 : (rdRs r k).2.short = false := by
      cases hh : (rdRs r k).2.short with
      | false => rfl
      | true => rw [rds_short hh (k + 1) (by omega)] at hs; exact hs
    obtain ⟨q, e, hq⟩ := ih hs0
    have hs1 : (recR (rdRs r k).2).2.short = false := by rw [rdRs_succ] at hs; simpa only using hs
    rw [rdRs_succ]
    clear hs
    generalize rdRs r k = R at *
    obtain ⟨q2, e2, hq2⟩ := rel_rec hq hs1
    rw [lK_some (p := q) (by rw [e]), e, e2]
    generalize recR R.2 = R2 at *
    exact ⟨q2, rfl, hq2⟩

def lLsn (s : ByteArray) : Nat × Option Nat := lNum s 8 (some 0)
def lCnt (s : ByteArray) : Nat × Option Nat := lNum s 2 (lLsn s).2
def lBat (s : ByteArray) : List RecD := (lK s (lCnt s).2 (lCnt s).1).1
theorem cnt_sn {s : ByteArray} (hc : (cntB s).2.short = false) : (lsnR s).2.short = false := by
  rw [cntB] at hc
  exact num_sn hc
theorem rel_lsn {s : ByteArray} (h : Rel s ⟨s, false⟩ 0) (hl : (lsnR s).2.short = false) : lLsn s = ((lsnR s).1, some (0 + 8)) ∧ Rel s (lsnR s).2 (0 + 8) := by
  rw [lsnR] at hl ⊢
  rw [lLsn]
  exact rel_num h hl
theorem rel_cnt {s : ByteArray} {p : Nat} (h : Rel s (lsnR s).2 p) (hl : (cntB s).2.short = false) : lNum s 2 (some p) = ((cntB s).1, some (p + 2)) ∧ Rel s (cntB s).2 (p + 2) := by
  rw [cntB] at hl ⊢
  exact rel_num h hl
theorem loose {s : ByteArray} (h : (batR s).2.short = false) : lBat s = (batR s).1 ∧ (lLsn s).1 = (lsnR s).1 := by
  have h0 : Rel s ⟨s, false⟩ 0 := ⟨rfl, Nat.zero_le _, by simp⟩
  have hc : (cntB s).2.short = false := by
    cases hh : (cntB s).2.short with
    | false => rfl
    | true =>
      have : (rdRs (cntB s).2 (cntB s).1).2.short = true := rds_short (k := 0) (by rw [rdRs]; exact hh) _ (Nat.zero_le _)
      rw [batR, this] at h
      exact h
  have hl : (lsnR s).2.short = false := cnt_sn hc
  obtain ⟨a1, a2⟩ := rel_lsn h0 hl
  obtain ⟨b1, b2⟩ := rel_cnt a2 hc
  have b1' : lCnt s = ((cntB s).1, some (0 + 8 + 2)) := by rw [lCnt, a1]; exact b1
  rw [batR] at h ⊢
  obtain ⟨q, e, _⟩ := rel_K b2 (cntB s).1 h
  refine ⟨?_, by rw [a1]⟩
  rw [lBat, b1']
  simp only
  rw [e]
theorem lRec_rng (s : ByteArray) (p : Option Nat) : I64 (lRec s p).1.kind ∧ I64 (lRec s p).1.num := by
  have h1 : (lNum s 1 p).1 < 256 := by
    cases p with
    | none => simp [lNum]
    | some p =>
      rw [lNum_some]
      split
      · have := beL_lt (sectL s p 1)
        rename_i hh
        rw [sectL_length hh] at this
        simpa using this
      · simp
  have h2 := wrapN_rng (lNum s 8 (lPart s 2 (lPart s 1 (lNum s 1 p).2).2).2).1
  rw [lRec]
  refine ⟨⟨?_, ?_⟩, h2⟩
  · show _ ≤ ((lNum s 1 p).1 : Int); omega
  · show ((lNum s 1 p).1 : Int) ≤ _; omega
theorem lK_rng {s : ByteArray} {p0 : Option Nat} : ∀ k, RngR (lK s p0 k).1
  | 0 => fun i h => absurd h (by simp [lK])
  | k + 1 => by
    have ih := lK_rng (s := s) (p0 := p0) k
    cases h : (lK s p0 k).2 with
    | none => rw [lK_none h]; exact ih
    | some p =>
      rw [lK_some h]
      intro i hi
      simp only [List.getElem_append]
      split
      · rename_i hh; exact ih i hh
      · simp only [List.getElem_singleton]; exact lRec_rng s _
/-- What the loose reading comes to. -/
theorem loose_yes {s : ByteArray} (hs : s.size ≠ 0) (h : batB (wrapN (lLsn s).1) (lBat s) = s) : decB s = (wrapN (lLsn s).1, lBat s, true) := dec_of hs (lK_rng _) h
theorem loose_no {s : ByteArray} (h : s.size = 0 ∨ batB (wrapN (lLsn s).1) (lBat s) ≠ s) : decB s = (0, [], false) := by
  cases hh : (batR s).2.short with
  | true => exact dec_short hh
  | false =>
    obtain ⟨e1, e2⟩ := loose hh
    by_cases hb : batB (wrapN (lsnR s).1) (batR s).1 = s
    · rcases h with h | h
      · have h0 : Rel s ⟨s, false⟩ 0 := ⟨rfl, Nat.zero_le _, by simp⟩
        have hc : (cntB s).2.short = false := by
          cases hq : (cntB s).2.short with
          | false => rfl
          | true =>
            have : (rdRs (cntB s).2 (cntB s).1).2.short = true := rds_short (k := 0) (by rw [rdRs]; exact hq) _ (Nat.zero_le _)
            rw [batR, this] at hh
            exact hh
        have hl : (lsnR s).2.short = false := cnt_sn hc
        have := (rel_lsn h0 hl).2.2.1
        omega
      · rw [e1, e2] at h; exact absurd hb h
    · exact dec_ne hb
end Go.Proofs.Ytgpgacncmoiefaa
