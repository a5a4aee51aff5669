/- The verifier's own text: reading a batch loosely, place by place. -/
import Derived.Test.YtgignhkbalafbaaBatD
import Derived.Test.YtgignhkbalafbaaSDec
namespace Go.Proofs.Ytgignhkbalafbaa
open Go.RowKit

def posV : Option Nat → Int
  | none => -1
  | some p => (p : Int)
def lNum (s : ByteArray) (n : Nat) : Option Nat → Nat × Option Nat
  | none => (0, none)
  | some p => if p + n ≤ s.size then (beL (sectL s p n), some (p + n)) else (0, none)
def lPart (s : ByteArray) (n : Nat) : Option Nat → ByteArray × Option Nat
  | none => (ByteArray.empty, none)
  | some p => match partN s p n with
    | none => (ByteArray.empty, none)
    | some (t, q) => (t, some q)
theorem lNum_some (s : ByteArray) (n p : Nat) : lNum s n (some p) = if p + n ≤ s.size then (beL (sectL s p n), some (p + n)) else (0, none) := rfl
theorem lPart_at {s : ByteArray} {n p : Nat} {t : ByteArray} {q : Nat} (h : partN s p n = some (t, q)) : lPart s n (some p) = (t, some q) := by
  show (match partN s p n with | none => (ByteArray.empty, none) | some (t, q) => (t, some q)) = _
  rw [h]
theorem lPart_not {s : ByteArray} {n p : Nat} (h : partN s p n = none) : lPart s n (some p) = (ByteArray.empty, none) := by
  show (match partN s p n with | none => (ByteArray.empty, none) | some (t, q) => (t, some q)) = _
  rw [h]
def lRec (s : ByteArray) (p : Option Nat) : RecD × Option Nat :=
  (⟨((lNum s 1 p).1 : Nat), (lPart s 1 (lNum s 1 p).2).1, (lPart s 2 (lPart s 1 (lNum s 1 p).2).2).1, wrapN (lNum s 8 (lPart s 2 (lPart s 1 (lNum s 1 p).2).2).2).1⟩, (lNum s 8 (lPart s 2 (lPart s 1 (lNum s 1 p).2).2).2).2)
def lK (s : ByteArray) (p0 : Option Nat) : Nat → List RecD × Option Nat
  | 0 => ([], p0)
  | k + 1 => match (lK s p0 k).2 with
    | none => lK s p0 k
    | some p => ((lK s p0 k).1 ++ [(lRec s (some p)).1], (lRec s (some p)).2)
theorem lK_none {s : ByteArray} {p0 : Option Nat} {k : Nat} (h : (lK s p0 k).2 = none) : lK s p0 (k + 1) = lK s p0 k := by rw [lK, h]
theorem lK_some {s : ByteArray} {p0 : Option Nat} {k p : Nat} (h : (lK s p0 k).2 = some p) : lK s p0 (k + 1) = ((lK s p0 k).1 ++ [(lRec s (some p)).1], (lRec s (some p)).2) := by rw [lK, h]
theorem lK_stay {s : ByteArray} {p0 : Option Nat} {k : Nat} (h : (lK s p0 k).2 = none) : ∀ m, k ≤ m → lK s p0 m = lK s p0 k := by
  intro m hm
  induction m with
  | zero => rw [show k = 0 by omega]
  | succ m ih =>
    rcases Nat.eq_or_lt_of_le hm with rfl | hlt
    · rfl
    · have := ih (by omega)
      rw [lK_none (by rw [this]; exact h), this]
theorem lK_length {s : ByteArray} {p0 : Option Nat} : ∀ k, (lK s p0 k).1.length ≤ k
  | 0 => Nat.le_refl _
  | k + 1 => by
    have := lK_length (s := s) (p0 := p0) k
    cases h : (lK s p0 k).2 with
    | none => rw [lK_none h]; omega
    | some p => rw [lK_some h]; simp; omega

/-- The reader r stands at place p of s. -/
def Rel (s : ByteArray) (r : Rd) (p : Nat) : Prop := r.short = false ∧ p ≤ s.size ∧ r.rest.data.toList = s.data.toList.drop p
theorem rel_num {s : ByteArray} {r : Rd} {p n : Nat} (h : Rel s r p) (hs : (numR n r).2.short = false) : lNum s n (some p) = ((numR n r).1, some (p + n)) ∧ Rel s (numR n r).2 (p + n) := by
  obtain ⟨h1, h2, h3⟩ := h
  obtain ⟨g1, g2, g3⟩ := take_sound (n := n) (r := r) hs
  have hz : r.rest.size = s.size - p := by rw [bsize, h3, List.length_drop, ← bsize]
  have hz2 : r.rest.size = n + (takeR n r).2.rest.size := by rw [g3, ByteArray.size_append, g2]
  have hpn : p + n ≤ s.size := by omega
  have e3 : (takeR n r).1.data.toList ++ (takeR n r).2.rest.data.toList = s.data.toList.drop p := by rw [← h3, ← blist_append, ← g3]
  have hl : (takeR n r).1.data.toList.length = n := by rw [← bsize]; exact g2
  have e1 : (takeR n r).1.data.toList = sectL s p n := by
    unfold sectL
    rw [← e3]
    exact (List.take_left' hl).symm
  have e2 : (takeR n r).2.rest.data.toList = s.data.toList.drop (p + n) := by
    have : (s.data.toList.drop p).drop n = s.data.toList.drop (p + n) := by rw [List.drop_drop]
    rw [← this, ← e3]
    exact (List.drop_left' hl).symm
  refine ⟨?_, hs, hpn, e2⟩
  rw [lNum_some, if_pos hpn, numR, e1]
theorem rel_text {s : ByteArray} {r : Rd} {p n : Nat} (h : Rel s r p) (hs : (textR n r).2.short = false) : ∃ q, lPart s n (some p) = ((textR n r).1, some q) ∧ Rel s (textR n r).2 q := by
  have hs1 : (numR n r).2.short = false := by
    rw [textR] at hs
    exact (take_sound hs).1
  obtain ⟨a1, a2, a3, a4⟩ := rel_num h hs1
  rw [textR] at hs ⊢
  obtain ⟨g1, g2, g3⟩ := take_sound hs
  have hz : (numR n r).2.rest.size = s.size - (p + n) := by rw [bsize, a4, List.length_drop, ← bsize]
  have hz2 : (numR n r).2.rest.size = (numR n r).1 + (takeR (numR n r).1 (numR n r).2).2.rest.size := by rw [g3, ByteArray.size_append, g2]
  have e3 : (takeR (numR n r).1 (numR n r).2).1.data.toList ++ (takeR (numR n r).1 (numR n r).2).2.rest.data.toList = s.data.toList.drop (p + n) := by rw [← a4, ← blist_append, ← g3]
  have hl : (takeR (numR n r).1 (numR n r).2).1.data.toList.length = (numR n r).1 := by rw [← bsize]; exact g2
  have hpz : partZ s p n = (numR n r).1 := by
    rw [lNum_some, if_pos a3] at a1
    exact (Prod.mk.inj a1).1
  have e1 : s.extract (p + n) (p + n + (numR n r).1) = (takeR (numR n r).1 (numR n r).2).1 := by
    apply bext
    rw [blist_extract, List.drop_take, ← e3, show p + n + (numR n r).1 - (p + n) = (numR n r).1 by omega]
    exact List.take_left' hl
  have e2 : (takeR (numR n r).1 (numR n r).2).2.rest.data.toList = s.data.toList.drop (p + n + (numR n r).1) := by
    have : (s.data.toList.drop (p + n)).drop (numR n r).1 = s.data.toList.drop (p + n + (numR n r).1) := by rw [List.drop_drop]
    rw [← this, ← e3]
    exact (List.drop_left' hl).symm
  refine ⟨p + n + (numR n r).1, ?_, hs, by omega, e2⟩
  apply lPart_at
  unfold partN
  rw [hpz, if_pos ⟨a3, by omega⟩, e1]
theorem num_snd (k : Nat) (r : Rd) : (numR k r).2 = (takeR k r).2 := by rw [numR]
theorem text_snd (k : Nat) (r : Rd) : (textR k r).2 = (takeR (numR k r).1 (numR k r).2).2 := by rw [textR]
theorem num_sn {k : Nat} {r : Rd} (h : (numR k r).2.short = false) : r.short = false := by
  rw [num_snd] at h
  exact (take_sound h).1
theorem text_sn {k : Nat} {r : Rd} (h : (textR k r).2.short = false) : r.short = false := by
  rw [text_snd] at h
  exact num_sn (take_sound h).1
theorem lRec_of {s : ByteArray} {p : Option Nat} {N : Nat} {p1 p2 p3 p4 : Option Nat} {t x : ByteArray} {M : Nat} (h1 : lNum s 1 p = (N, p1)) (h2 : lPart s 1 p1 = (t, p2)) (h3 : lPart s 2 p2 = (x, p3)) (h4 : lNum s 8 p3 = (M, p4)) : lRec s p = (⟨(N : Nat), t, x, wrapN M⟩, p4) := by
  rw [lRec, h1]
  simp only [h2, h3, h4]
theorem rel_rec {s : ByteArray} {r : Rd} {p : Nat} (h : Rel s r p) (hs : (recR r).2.short = false) : ∃ q, lRec s (some p) = ((recR r).1, some q) ∧ Rel s (recR r).2 q := by
  rw [recR_snd] at hs
  have s3 := num_sn hs
  have s2 := text_sn s3
  have s1 := text_sn s2
  obtain ⟨a1, a2⟩ := rel_num h s1
  obtain ⟨q1, b1, b2⟩ := rel_text a2 s2
  obtain ⟨q2, c1, c2⟩ := rel_text b2 s3
  obtain ⟨d1, d2⟩ := rel_num c2 hs
  rw [lRec_of a1 b1 c1 d1, recR_fst, recR_snd]
  exact ⟨q2 + 8, rfl, d2⟩
theorem rel_K {s : ByteArray} {r : Rd} {p : Nat} (h : Rel s r p) (k : Nat) : (rdRs r k).2.short = false → ∃ q, lK s (some p) k = ((rdRs r k).1, some q) ∧ Rel s (rdRs r k).2 q := by
  induction k with
  | zero =>
    intro _
    rw [rdRs, lK]
    exact ⟨p, rfl, h⟩
  | succ k ih =>
    intro hs
    have hs0 : (rdRs r k).2.short = false := by
      cases hh : (rdRs r k).2.short with
      | false => rfl
      | true => rw [rds_short hh (k + 1) (by omega)] at hs; exact hs
    obtain ⟨q, e, hq⟩ := ih hs0
    have hs1 : (recR (rdRs r k).2).2.short = false := by rw [rdRs_succ] at hs; simpa only using hs
    rw [rdRs_succ]
    clear hs
    generalize rdRs r k = R at *
    obtain ⟨q2, e2, hq2⟩ := rel_rec hq hs1
    rw [lK_some (p := q) (by rw [e]), e, e2]
    generalize recR R.2 = R2 at *
    exact ⟨q2, rfl, hq2⟩

def lLsn (s : ByteArray) : Nat × Option Nat := lNum s 8 (some 0)
def lCnt (s : ByteArray) : Nat × Option Nat := lNum s 2 (lLsn s).2
def lBat (s : ByteArray) : List RecD := (lK s (lCnt s).2 (lCnt s).1).1
theorem cnt_sn {s : ByteArray} (hc : (cntB s).2.short = false) : (lsnR s).2.short = false := by
  rw [cntB] at hc
  exact num_sn hc
theorem rel_lsn {s : ByteArray} (h : Rel s ⟨s, false⟩ 0) (hl : (lsnR s).2.short = false) : lLsn s = ((lsnR s).1, some (0 + 8)) ∧ Rel s (lsnR s).2 (0 + 8) := by
  rw [lsnR] at hl ⊢
  rw [lLsn]
  exact rel_num h hl
theorem rel_cnt {s : ByteArray} {p : Nat} (h : Rel s (lsnR s).2 p) (hl : (cntB s).2.short = false) : lNum s 2 (some p) = ((cntB s).1, some (p + 2)) ∧ Rel s (cntB s).2 (p + 2) := by
  rw [cntB] at hl ⊢
  exact rel_num h hl
theorem loose {s : ByteArray} (h : (batR s).2.short = false) : lBat s = (batR s).1 ∧ (lLsn s).1 = (lsnR s).1 := by
  have h0 : Rel s ⟨s, false⟩ 0 := ⟨rfl, Nat.zero_le _, by simp⟩
  have hc : (cntB s).2.short = false := by
    cases hh : (cntB s).2.short with
    | false => rfl
    | true =>
      have : (rdRs (cntB s).2 (cntB s).1).2.short = true := rds_short (k := 0) (by rw [rdRs]; exact hh) _ (Nat.zero_le _)
      rw [batR, this] at h
      exact h
  have hl : (lsnR s).2.short = false := cnt_sn hc
  obtain ⟨a1, a2⟩ := rel_lsn h0 hl
  obtain ⟨b1, b2⟩ := rel_cnt a2 hc
  have b1' : lCnt s = ((cntB s).1, some (0 + 8 + 2)) := by rw [lCnt, a1]; exact b1
  rw [batR] at h ⊢
  obtain ⟨q, e, _⟩ := rel_K b2 (cntB s).1 h
  refine ⟨?_, by rw [a1]⟩
  rw [lBat, b1']
  simp only
  rw [e]
theorem lRec_rng (s : ByteArray) (p : Option Nat) : I64 (lRec s p).1.kind ∧ I64 (lRec s p).1.num := by
  have h1 : (lNum s 1 p).1 < 256 := by
    cases p with
    | none => simp [lNum]
    | some p =>
      rw [lNum_some]
      split
      · have := beL_lt (sectL s p 1)
        rename_i hh
        rw [sectL_length hh] at this
        simpa using this
      · simp
  have h2 := wrapN_rng (lNum s 8 (lPart s 2 (lPart s 1 (lNum s 1 p).2).2).2).1
  rw [lRec]
  refine ⟨⟨?_, ?_⟩, h2⟩
  · show _ ≤ ((lNum s 1 p).1 : Int); omega
  · show ((lNum s 1 p).1 : Int) ≤ _; omega
theorem lK_rng {s : ByteArray} {p0 : Option Nat} : ∀ k, RngR (lK s p0 k).1
  | 0 => fun i h => absurd h (by simp [lK])
  | k + 1 => by
    have ih := lK_rng (s := s) (p0 := p0) k
    cases h : (lK s p0 k).2 with
    | none => rw [lK_none h]; exact ih
    | some p =>
      rw [lK_some h]
      intro i hi
      simp only [List.getElem_append]
      split
      · rename_i hh; exact ih i hh
      · simp only [List.getElem_singleton]; exact lRec_rng s _
/-- What the loose reading comes to. -/
theorem loose_yes {s : ByteArray} (hs : s.size ≠ 0) (h : batB (wrapN (lLsn s).1) (lBat s) = s) : decB s = (wrapN (lLsn s).1, lBat s, true) := dec_of hs (lK_rng _) h
theorem loose_no {s : ByteArray} (h : s.size = 0 ∨ batB (wrapN (lLsn s).1) (lBat s) ≠ s) : decB s = (0, [], false) := by
  cases hh : (batR s).2.short with
  | true => exact dec_short hh
  | false =>
    obtain ⟨e1, e2⟩ := loose hh
    by_cases hb : batB (wrapN (lsnR s).1) (batR s).1 = s
    · rcases h with h | h
      · have h0 : Rel s ⟨s, false⟩ 0 := ⟨rfl, Nat.zero_le _, by simp⟩
        have hc : (cntB s).2.short = false := by
          cases hq : (cntB s).2.short with
          | false => rfl
          | true =>
            have : (rdRs (cntB s).2 (cntB s).1).2.short = true := rds_short (k := 0) (by rw [rdRs]; exact hq) _ (Nat.zero_le _)
            rw [batR, this] at hh
            exact hh
        have hl : (lsnR s).2.short = false := cnt_sn hc
        have := (rel_lsn h0 hl).2.2.1
        omega
      · rw [e1, e2] at h; exact absurd hb h
    · exact dec_ne hb
end Go.Proofs.Ytgignhkbalafbaa
