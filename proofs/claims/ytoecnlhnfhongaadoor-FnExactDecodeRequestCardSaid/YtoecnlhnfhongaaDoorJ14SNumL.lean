import Derived.Test.YtoecnlhnfhongaaDoorJ03RqD
import Derived.Test.YtoecnlhnfhongaaDoorJ13SDec
import Derived.Test.YtoecnlhnfhongaaDoorJ11RqF
import Derived.Test.YtoecnlhnfhongaaDoorProg
namespace Go.Proofs.YtoecnlhnfhongaaDoor
open Go.RowKit

def posV : Option Nat → Int
  | none => -1
  | some p => (p : Int)
def lNum (s : ByteArray) (n : Nat) : Option Nat → Nat × Option Nat
  | none => (0, none)
  | some p => if p + n ≤ s.size then (beL (sectL s p n), some (p + n)) else (0, none)
def lPart (s : ByteArray) (n : Nat) : Option Nat → ByteArray × Option Nat
  | none => (ByteArray.empty, none)
  | some p => match partN s p n with
    | none => (ByteArray.empty, none)
    | some (t, q) => (t, some q)
theorem lNum_some (s : ByteArray) (n p : Nat) : lNum s n (some p) = if p + n ≤ s.size then (beL (sectL s p n), some (p + n)) else (0, none) := rfl
theorem lPart_at {s : ByteArray} {n p : Nat} {t : ByteArray} {q : Nat} (h : partN s p n = some (t, q)) : lPart s n (some p) = (t, some q) := by
  show (match partN s p n with | none => (ByteArray.empty, none) | some (t, q) => (t, some q)) = _
  rw [h]
theorem lPart_not {s : ByteArray} {n p : Nat} (h : partN s p n = none) : lPart s n (some p) = (ByteArray.empty, none) := by
  show (match partN s p n with | none => (ByteArray.empty, none) | some (t, q) => (t, some q)) = _
  rw [h]
/-- The reader r stands at place p of s. -/
def Rel (s : ByteArray) (r : Rd) (p : Nat) : Prop := r.short = false ∧ p ≤ s.size ∧ r.rest.data.toList = s.data.toList.drop p
theorem rel_num {s : ByteArray} {r : Rd} {p n : Nat} (h : Rel s r p) (hs : (numR n r).2.short = false) : lNum s n (some p) = ((numR n r).1, some (p + n)) ∧ Rel s (numR n r).2 (p + n) := by
  obtain ⟨h1, h2, h3⟩ := h
  obtain ⟨g1, g2, g3⟩ := take_sound (n := n) (r := r) hs
  have hz : r.rest.size = s.size - p := by rw [bsize, h3, List.length_drop, ← bsize]
  have hz2 : r.rest.size = n + (takeR n r).2.rest.size := by rw [g3, ByteArray.size_append, g2]
  have hpn : p + n ≤ s.size := by omega
  have e3 : (takeR n r).1.data.toList ++ (takeR n r).2.rest.data.toList = s.data.toList.drop p := by rw [← h3, ← blist_append, ← g3]
  have hl : (takeR n r).1.data.toList.length = n := by rw [← bsize]; exact g2
  have e1 : (takeR n r).1.data.toList = sectL s p n := by
    unfold sectL
    rw [← e3]
    exact (List.take_left' hl).symm
  have e2 : (takeR n r).2.rest.data.toList = s.data.toList.drop (p + n) := by
    have : (s.data.toList.drop p).drop n = s.data.toList.drop (p + n) := by rw [List.drop_drop]
    rw [← this, ← e3]
    exact (List.drop_left' hl).symm
  refine ⟨?_, hs, hpn, e2⟩
  rw [lNum_some, if_pos hpn, numR, e1]
theorem rel_text {s : ByteArray} {r : Rd} {p n : Nat} (h : Rel s r p) (hs : (textR n r).2.short = false) : ∃ q, lPart s n (some p) = ((textR n r).1, some q) ∧ Rel s (textR n r).2 q := by
  have hs1 : (numR n r).2.short = false := by
    rw [textR] at hs
    exact (take_sound hs).1
  obtain ⟨a1, a2, a3, a4⟩ := rel_num h hs1
  rw [textR] at hs ⊢
  obtain ⟨g1, g2, g3⟩ := take_sound hs
  have hz : (numR n r).2.rest.size = s.size - (p + n) := by rw [bsize, a4, List.length_drop, ← bsize]
  have hz2 : (numR n r).2.rest.size = (numR n r).1 + (takeR (numR n r).1 (numR n r).2).2.rest.size := by rw [g3, ByteArray.size_append, g2]
  have e3 : (takeR (numR n r).1 (numR n r).2).1.data.toList ++ (takeR (numR n r).1 (numR n r).2).2.rest.data.toList = s.data.toList.drop (p + n) := by rw [← a4, ← blist_append, ← g3]
  have hl : (takeR (numR n r).1 (numR n r).2).1.data.toList.length = (numR n r).1 := by rw [← bsize]; exact g2
  have hpz : partZ s p n = (numR n r).1 := by
    rw [lNum_some, if_pos a3] at a1
    exact (Prod.mk.inj a1).1
  have e1 : s.extract (p + n) (p + n + (numR n r).1) = (takeR (numR n r).1 (numR n r).2).1 := by
    apply bext
    rw [blist_extract, List.drop_take, ← e3, show p + n + (numR n r).1 - (p + n) = (numR n r).1 by omega]
    exact List.take_left' hl
  have e2 : (takeR (numR n r).1 (numR n r).2).2.rest.data.toList = s.data.toList.drop (p + n + (numR n r).1) := by
    have : (s.data.toList.drop (p + n)).drop (numR n r).1 = s.data.toList.drop (p + n + (numR n r).1) := by rw [List.drop_drop]
    rw [← this, ← e3]
    exact (List.drop_left' hl).symm
  refine ⟨p + n + (numR n r).1, ?_, hs, by omega, e2⟩
  apply lPart_at
  unfold partN
  rw [hpz, if_pos ⟨a3, by omega⟩, e1]
theorem num_snd (k : Nat) (r : Rd) : (numR k r).2 = (takeR k r).2 := by rw [numR]
theorem text_snd (k : Nat) (r : Rd) : (textR k r).2 = (takeR (numR k r).1 (numR k r).2).2 := by rw [textR]
theorem num_sn {k : Nat} {r : Rd} (h : (numR k r).2.short = false) : r.short = false := by
  rw [num_snd] at h
  exact (take_sound h).1
theorem text_sn {k : Nat} {r : Rd} (h : (textR k r).2.short = false) : r.short = false := by
  rw [text_snd] at h
  exact num_sn (take_sound h).1
end Go.Proofs.YtoecnlhnfhongaaDoor

namespace Go.Proofs.YtoecnlhnfhongaaDoor
open Go.RowKit

def lLab (s : ByteArray) (p : Option Nat) : LabD × Option Nat := (⟨(lPart s 1 p).1, (lPart s 2 (lPart s 1 p).2).1⟩, (lPart s 2 (lPart s 1 p).2).2)
def lLs (s : ByteArray) (p0 : Option Nat) : Nat → List LabD × Option Nat
  | 0 => ([], p0)
  | k + 1 => match (lLs s p0 k).2 with
    | none => lLs s p0 k
    | some p => ((lLs s p0 k).1 ++ [(lLab s (some p)).1], (lLab s (some p)).2)
theorem lLs_zero (s : ByteArray) (p0 : Option Nat) : lLs s p0 0 = ([], p0) := by rw [lLs]
theorem lLs_none {s : ByteArray} {p0 : Option Nat} {k : Nat} (h : (lLs s p0 k).2 = none) : lLs s p0 (k + 1) = lLs s p0 k := by rw [lLs, h]
theorem lLs_some {s : ByteArray} {p0 : Option Nat} {k p : Nat} (h : (lLs s p0 k).2 = some p) : lLs s p0 (k + 1) = ((lLs s p0 k).1 ++ [(lLab s (some p)).1], (lLab s (some p)).2) := by rw [lLs, h]
theorem lLs_stay {s : ByteArray} {p0 : Option Nat} {k : Nat} (h : (lLs s p0 k).2 = none) : ∀ m, k ≤ m → lLs s p0 m = lLs s p0 k := by
  intro m hm
  induction m with
  | zero => rw [show k = 0 by omega]
  | succ m ih =>
    rcases Nat.eq_or_lt_of_le hm with rfl | hlt
    · rfl
    · have := ih (by omega)
      rw [lLs_none (by rw [this]; exact h), this]
def lSmN (s : ByteArray) (p : Option Nat) : Nat × Option Nat := lNum s 1 p
def lSmL (s : ByteArray) (p : Option Nat) : List LabD × Option Nat := lLs s (lSmN s p).2 (lSmN s p).1
def lSmB (s : ByteArray) (p : Option Nat) : Nat × Option Nat := lNum s 8 (lSmL s p).2
def lSm (s : ByteArray) (p : Option Nat) : SmpD × Option Nat := (⟨(lSmL s p).1, wrapN (lSmB s p).1⟩, (lSmB s p).2)
def lXs (s : ByteArray) (p0 : Option Nat) : Nat → List SmpD × Option Nat
  | 0 => ([], p0)
  | k + 1 => match (lXs s p0 k).2 with
    | none => lXs s p0 k
    | some p => ((lXs s p0 k).1 ++ [(lSm s (some p)).1], (lSm s (some p)).2)
theorem lXs_zero (s : ByteArray) (p0 : Option Nat) : lXs s p0 0 = ([], p0) := by rw [lXs]
theorem lXs_none {s : ByteArray} {p0 : Option Nat} {k : Nat} (h : (lXs s p0 k).2 = none) : lXs s p0 (k + 1) = lXs s p0 k := by rw [lXs, h]
theorem lXs_some {s : ByteArray} {p0 : Option Nat} {k p : Nat} (h : (lXs s p0 k).2 = some p) : lXs s p0 (k + 1) = ((lXs s p0 k).1 ++ [(lSm s (some p)).1], (lSm s (some p)).2) := by rw [lXs, h]
theorem lXs_stay {s : ByteArray} {p0 : Option Nat} {k : Nat} (h : (lXs s p0 k).2 = none) : ∀ m, k ≤ m → lXs s p0 m = lXs s p0 k := by
  intro m hm
  induction m with
  | zero => rw [show k = 0 by omega]
  | succ m ih =>
    rcases Nat.eq_or_lt_of_le hm with rfl | hlt
    · rfl
    · have := ih (by omega)
      rw [lXs_none (by rw [this]; exact h), this]
/-- Where the strict reading is not short, the loose one is the same. -/
theorem rel_lab {s : ByteArray} {r : Rd} {p : Nat} (h : Rel s r p) (hs : (labR r).2.short = false) : ∃ q, lLab s (some p) = ((labR r).1, some q) ∧ Rel s (labR r).2 q := by
  rw [labR_eq] at hs ⊢
  simp only at hs
  have h1 : (textR 1 r).2.short = false := text_sn hs
  obtain ⟨q1, a1, a2⟩ := rel_text h h1
  obtain ⟨q2, b1, b2⟩ := rel_text a2 hs
  refine ⟨q2, ?_, b2⟩
  rw [lLab, a1]
  simp only
  rw [b1]
theorem rel_ls {s : ByteArray} {r : Rd} {p : Nat} (h : Rel s r p) (k : Nat) : (rdK r k).2.short = false → ∃ q, lLs s (some p) k = ((rdK r k).1, some q) ∧ Rel s (rdK r k).2 q := by
  induction k with
  | zero => intro _; rw [lLs_zero, rdK]; exact ⟨p, rfl, h⟩
  | succ k ih =>
    intro hs
    rw [rdK_succ] at hs ⊢
    have hs1 : (labR (rdK r k).2).2.short = false := by simpa only using hs
    have hk : (rdK r k).2.short = false := by
      cases e : (rdK r k).2.short with
      | false => rfl
      | true => rw [lab_short e] at hs1; exact hs1
    obtain ⟨q, a1, a2⟩ := ih hk
    obtain ⟨q2, b1, b2⟩ := rel_lab a2 hs1
    rw [lLs_some (p := q) (by rw [a1]), a1, b1]
    generalize labR (rdK r k).2 = R2 at *
    exact ⟨q2, rfl, b2⟩
theorem rel_sm {s : ByteArray} {r : Rd} {p : Nat} (h : Rel s r p) (hs : (smpR r).2.short = false) : ∃ q, lSm s (some p) = ((smpR r).1, some q) ∧ Rel s (smpR r).2 q := by
  rw [smpR_snd] at hs
  have g2 : (smL r).2.short = false := by rw [smB] at hs; exact num_sn hs
  have g1 : (smN r).2.short = false := by
    cases e : (smN r).2.short with
    | false => rfl
    | true => rw [smL, rdK_short e] at g2; exact g2
  have a1 : lSmN s (some p) = ((smN r).1, some (p + 1)) ∧ Rel s (smN r).2 (p + 1) := by
    rw [lSmN]
    rw [smN] at g1 ⊢
    exact rel_num h g1
  obtain ⟨q2, a2, b2⟩ : ∃ q, lSmL s (some p) = ((smL r).1, some q) ∧ Rel s (smL r).2 q := by
    rw [lSmL, a1.1]
    rw [smL] at g2 ⊢
    obtain ⟨_, b1⟩ := a1
    generalize (smN r).2 = Z at *
    generalize (smN r).1 = Y at *
    exact rel_ls b1 _ g2
  have a3 : lSmB s (some p) = ((smB r).1, some (q2 + 8)) ∧ Rel s (smB r).2 (q2 + 8) := by
    rw [lSmB, a2]
    rw [smB] at hs ⊢
    generalize (smL r).2 = Z at *
    exact rel_num b2 hs
  have e0 : lSm s (some p) = (⟨(lSmL s (some p)).1, wrapN (lSmB s (some p)).1⟩, (lSmB s (some p)).2) := by rw [lSm]
  rw [e0, a2, a3.1, smpR_fst, smpR_snd]
  exact ⟨q2 + 8, rfl, a3.2⟩
theorem rel_xs {s : ByteArray} {r : Rd} {p : Nat} (h : Rel s r p) (k : Nat) : (rdXs r k).2.short = false → ∃ q, lXs s (some p) k = ((rdXs r k).1, some q) ∧ Rel s (rdXs r k).2 q := by
  induction k with
  | zero => intro _; rw [lXs_zero, rdXs_zero]; exact ⟨p, rfl, h⟩
  | succ k ih =>
    intro hs
    have hk : (rdXs r k).2.short = false := by
      cases e : (rdXs r k).2.short with
      | false => rfl
      | true => rw [rdXs_short e (k + 1) (by omega)] at hs; exact hs
    obtain ⟨q, a1, a2⟩ := ih hk
    have hs1 : (smpR (rdXs r k).2).2.short = false := by rw [rdXs_succ] at hs; simpa only using hs
    rw [rdXs_succ]
    clear hs
    generalize rdXs r k = R at *
    obtain ⟨q2, b1, b2⟩ := rel_sm a2 hs1
    rw [lXs_some (p := q) (by rw [a1]), a1, b1]
    generalize smpR R.2 = R2 at *
    exact ⟨q2, rfl, b2⟩
/-- A request's parts, read loosely, in the spec's order. -/
def lqK (s : ByteArray) : Nat × Option Nat := lNum s 1 (some 0)
def lqT (s : ByteArray) : ByteArray × Option Nat := if tnK ((lqK s).1 : Nat) = true then lPart s 1 (lqK s).2 else (ByteArray.empty, (lqK s).2)
def lqM (s : ByteArray) : ByteArray × Option Nat := if mtK ((lqK s).1 : Nat) = true then lPart s 2 (lqT s).2 else (ByteArray.empty, (lqT s).2)
def lqN (s : ByteArray) : Int × Option Nat := if nmK ((lqK s).1 : Nat) = true then (wrapN (lNum s 8 (lqM s).2).1, (lNum s 8 (lqM s).2).2) else (0, (lqM s).2)
def lqC (s : ByteArray) : Nat × Option Nat := lNum s 2 (lqN s).2
def lqS (s : ByteArray) : List SmpD × Option Nat := if (lqK s).1 = 1 then lXs s (lqC s).2 (lqC s).1 else ([], (lqN s).2)
def lRq (s : ByteArray) : ReqD := ⟨((lqK s).1 : Nat), (lqT s).1, (lqM s).1, (lqN s).1, (lqS s).1⟩
end Go.Proofs.YtoecnlhnfhongaaDoor

namespace Go.Proofs.YtoecnlhnfhongaaDoor
open Go.RowKit

theorem rel_k {s : ByteArray} (h : (rqK s).2.short = false) : lqK s = ((rqK s).1, some 1) ∧ Rel s (rqK s).2 1 := by
  have h0 : Rel s ⟨s, false⟩ 0 := ⟨rfl, Nat.zero_le _, by simp⟩
  rw [lqK]
  rw [rqK] at h ⊢
  have := rel_num h0 h
  simpa using this
theorem same1 {s : ByteArray} (hk : (rqK s).1 = 1) (hs : (rqN s).2.short = false) : lRq s = rqR s := by
  have hk2 : (((rqK s).1 : Nat) : Int) = 1 := by rw [hk]; rfl
  have eT : rqT s = textR 1 (rqK s).2 := by rw [rqT, hk2]; exact if_pos (by decide)
  have eS : rqS s = rdXs (rqC s).2 (rqC s).1 := by rw [rqS]; exact if_pos hk
  have eM : rqM s = (ByteArray.empty, (rqS s).2) := by rw [rqM, hk2]; exact if_neg (by decide)
  have eN : rqN s = (0, (rqM s).2) := by rw [rqN, hk2]; exact if_neg (by decide)
  have gM : (rqM s).2.short = false := by rw [eN] at hs; exact hs
  have gS : (rqS s).2.short = false := by rw [eM] at gM; exact gM
  have gC : (rqC s).2.short = false := by
    cases e : (rqC s).2.short with
    | false => rfl
    | true => rw [eS, rdXs_short (k := 0) (by rw [rdXs_zero]; exact e) _ (Nat.zero_le _)] at gS; exact gS
  have gT : (rqT s).2.short = false := by rw [rqC] at gC; exact num_sn gC
  have gK : (rqK s).2.short = false := by rw [eT] at gT; exact text_sn gT
  obtain ⟨aK, bK⟩ := rel_k gK
  have hl : (((lqK s).1 : Nat) : Int) = 1 := by rw [aK]; exact hk2
  have hl1 : (lqK s).1 = 1 := by rw [aK]; exact hk
  obtain ⟨pT, aT, bT⟩ : ∃ q, lqT s = ((rqT s).1, some q) ∧ Rel s (rqT s).2 q := by
    have e : lqT s = lPart s 1 (lqK s).2 := by rw [lqT, hl]; exact if_pos (by decide)
    rw [eT] at gT
    rw [e, aK, eT]
    exact rel_text bK gT
  have aM : lqM s = (ByteArray.empty, some pT) := by
    have e : lqM s = (ByteArray.empty, (lqT s).2) := by rw [lqM, hl]; exact if_neg (by decide)
    rw [e, aT]
  have aN : lqN s = (0, some pT) := by
    have e : lqN s = (0, (lqM s).2) := by rw [lqN, hl]; exact if_neg (by decide)
    rw [e, aM]
  have aC : lqC s = ((rqC s).1, some (pT + 2)) ∧ Rel s (rqC s).2 (pT + 2) := by
    rw [lqC, aN]
    rw [rqC] at gC ⊢
    generalize (rqT s).2 = Z at *
    exact rel_num bT gC
  obtain ⟨pS, aS, bS⟩ : ∃ q, lqS s = ((rqS s).1, some q) ∧ Rel s (rqS s).2 q := by
    have e : lqS s = lXs s (lqC s).2 (lqC s).1 := by rw [lqS]; exact if_pos hl1
    rw [eS] at gS
    rw [e, aC.1, eS]
    obtain ⟨_, b⟩ := aC
    generalize (rqC s).2 = Z at *
    generalize (rqC s).1 = Y at *
    exact rel_xs b _ gS
  rw [lRq, rqR, aS, aN, aM, aT, aK, eN, eM]
theorem same2 {s : ByteArray} (hk : (rqK s).1 = 2) (hs : (rqN s).2.short = false) : lRq s = rqR s := by
  have hk2 : (((rqK s).1 : Nat) : Int) = 2 := by rw [hk]; rfl
  have eT : rqT s = (ByteArray.empty, (rqK s).2) := by rw [rqT, hk2]; exact if_neg (by decide)
  have eS : rqS s = ([], (rqT s).2) := by rw [rqS]; exact if_neg (by omega)
  have eM : rqM s = (ByteArray.empty, (rqS s).2) := by rw [rqM, hk2]; exact if_neg (by decide)
  have eN : rqN s = (wrapN (numR 8 (rqM s).2).1, (numR 8 (rqM s).2).2) := by rw [rqN, hk2]; exact if_pos (by decide)
  have gM : (rqM s).2.short = false := by rw [eN] at hs; exact num_sn hs
  have gS : (rqS s).2.short = false := by rw [eM] at gM; exact gM
  have gT : (rqT s).2.short = false := by rw [eS] at gS; exact gS
  have gK : (rqK s).2.short = false := by rw [eT] at gT; exact gT
  obtain ⟨aK, bK⟩ := rel_k gK
  have hl : (((lqK s).1 : Nat) : Int) = 2 := by rw [aK]; exact hk2
  have hl1 : (lqK s).1 = 2 := by rw [aK]; exact hk
  obtain ⟨pT, aT, bT⟩ : ∃ q, lqT s = ((rqT s).1, some q) ∧ Rel s (rqT s).2 q := by
    have e : lqT s = (ByteArray.empty, (lqK s).2) := by rw [lqT, hl]; exact if_neg (by decide)
    rw [e, aK, eT]
    exact ⟨1, rfl, bK⟩
  have bS : Rel s (rqS s).2 pT := by rw [eS]; exact bT
  obtain ⟨pM, aM, bM⟩ : ∃ q, lqM s = ((rqM s).1, some q) ∧ Rel s (rqM s).2 q := by
    have e : lqM s = (ByteArray.empty, (lqT s).2) := by rw [lqM, hl]; exact if_neg (by decide)
    rw [e, aT, eM]
    exact ⟨pT, rfl, bS⟩
  have aN : (lqN s).1 = (rqN s).1 := by
    have e : lqN s = (wrapN (lNum s 8 (lqM s).2).1, (lNum s 8 (lqM s).2).2) := by rw [lqN, hl]; exact if_pos (by decide)
    rw [eN] at hs
    rw [e, aM, eN]
    have := (rel_num bM hs).1
    simp only [this]
  have aS : (lqS s).1 = (rqS s).1 := by
    have e : lqS s = ([], (lqN s).2) := by rw [lqS]; exact if_neg (by omega)
    rw [e, eS]
  rw [lRq, rqR, aS, aN, aM, aT, aK]
theorem same3 {s : ByteArray} (hk : (rqK s).1 = 3) (hs : (rqN s).2.short = false) : lRq s = rqR s := by
  have hk2 : (((rqK s).1 : Nat) : Int) = 3 := by rw [hk]; rfl
  have eT : rqT s = textR 1 (rqK s).2 := by rw [rqT, hk2]; exact if_pos (by decide)
  have eS : rqS s = ([], (rqT s).2) := by rw [rqS]; exact if_neg (by omega)
  have eM : rqM s = textR 2 (rqS s).2 := by rw [rqM, hk2]; exact if_pos (by decide)
  have eN : rqN s = (wrapN (numR 8 (rqM s).2).1, (numR 8 (rqM s).2).2) := by rw [rqN, hk2]; exact if_pos (by decide)
  have gM : (rqM s).2.short = false := by rw [eN] at hs; exact num_sn hs
  have gS : (rqS s).2.short = false := by rw [eM] at gM; exact text_sn gM
  have gT : (rqT s).2.short = false := by rw [eS] at gS; exact gS
  have gK : (rqK s).2.short = false := by rw [eT] at gT; exact text_sn gT
  obtain ⟨aK, bK⟩ := rel_k gK
  have hl : (((lqK s).1 : Nat) : Int) = 3 := by rw [aK]; exact hk2
  have hl1 : (lqK s).1 = 3 := by rw [aK]; exact hk
  obtain ⟨pT, aT, bT⟩ : ∃ q, lqT s = ((rqT s).1, some q) ∧ Rel s (rqT s).2 q := by
    have e : lqT s = lPart s 1 (lqK s).2 := by rw [lqT, hl]; exact if_pos (by decide)
    rw [eT] at gT
    rw [e, aK, eT]
    exact rel_text bK gT
  have bS : Rel s (rqS s).2 pT := by rw [eS]; exact bT
  obtain ⟨pM, aM, bM⟩ : ∃ q, lqM s = ((rqM s).1, some q) ∧ Rel s (rqM s).2 q := by
    have e : lqM s = lPart s 2 (lqT s).2 := by rw [lqM, hl]; exact if_pos (by decide)
    rw [eM] at gM
    rw [e, aT, eM]
    exact rel_text bS gM
  have aN : (lqN s).1 = (rqN s).1 := by
    have e : lqN s = (wrapN (lNum s 8 (lqM s).2).1, (lNum s 8 (lqM s).2).2) := by rw [lqN, hl]; exact if_pos (by decide)
    rw [eN] at hs
    rw [e, aM, eN]
    have := (rel_num bM hs).1
    simp only [this]
  have aS : (lqS s).1 = (rqS s).1 := by
    have e : lqS s = ([], (lqN s).2) := by rw [lqS]; exact if_neg (by omega)
    rw [e, eS]
  rw [lRq, rqR, aS, aN, aM, aT, aK]
theorem same4 {s : ByteArray} (hk : (rqK s).1 = 4) (hs : (rqN s).2.short = false) : lRq s = rqR s := by
  have hk2 : (((rqK s).1 : Nat) : Int) = 4 := by rw [hk]; rfl
  have eT : rqT s = (ByteArray.empty, (rqK s).2) := by rw [rqT, hk2]; exact if_neg (by decide)
  have eS : rqS s = ([], (rqT s).2) := by rw [rqS]; exact if_neg (by omega)
  have eM : rqM s = (ByteArray.empty, (rqS s).2) := by rw [rqM, hk2]; exact if_neg (by decide)
  have eN : rqN s = (0, (rqM s).2) := by rw [rqN, hk2]; exact if_neg (by decide)
  have gM : (rqM s).2.short = false := by rw [eN] at hs; exact hs
  have gS : (rqS s).2.short = false := by rw [eM] at gM; exact gM
  have gT : (rqT s).2.short = false := by rw [eS] at gS; exact gS
  have gK : (rqK s).2.short = false := by rw [eT] at gT; exact gT
  obtain ⟨aK, bK⟩ := rel_k gK
  have hl : (((lqK s).1 : Nat) : Int) = 4 := by rw [aK]; exact hk2
  have hl1 : (lqK s).1 = 4 := by rw [aK]; exact hk
  obtain ⟨pT, aT, bT⟩ : ∃ q, lqT s = ((rqT s).1, some q) ∧ Rel s (rqT s).2 q := by
    have e : lqT s = (ByteArray.empty, (lqK s).2) := by rw [lqT, hl]; exact if_neg (by decide)
    rw [e, aK, eT]
    exact ⟨1, rfl, bK⟩
  have bS : Rel s (rqS s).2 pT := by rw [eS]; exact bT
  obtain ⟨pM, aM, bM⟩ : ∃ q, lqM s = ((rqM s).1, some q) ∧ Rel s (rqM s).2 q := by
    have e : lqM s = (ByteArray.empty, (lqT s).2) := by rw [lqM, hl]; exact if_neg (by decide)
    rw [e, aT, eM]
    exact ⟨pT, rfl, bS⟩
  have aN : (lqN s).1 = (rqN s).1 := by
    have e : lqN s = (0, (lqM s).2) := by rw [lqN, hl]; exact if_neg (by decide)
    rw [e, eN]
  have aS : (lqS s).1 = (rqS s).1 := by
    have e : lqS s = ([], (lqN s).2) := by rw [lqS]; exact if_neg (by omega)
    rw [e, eS]
  rw [lRq, rqR, aS, aN, aM, aT, aK]
theorem same5 {s : ByteArray} (hk : (rqK s).1 = 5) (hs : (rqN s).2.short = false) : lRq s = rqR s := by
  have hk2 : (((rqK s).1 : Nat) : Int) = 5 := by rw [hk]; rfl
  have eT : rqT s = textR 1 (rqK s).2 := by rw [rqT, hk2]; exact if_pos (by decide)
  have eS : rqS s = ([], (rqT s).2) := by rw [rqS]; exact if_neg (by omega)
  have eM : rqM s = textR 2 (rqS s).2 := by rw [rqM, hk2]; exact if_pos (by decide)
  have eN : rqN s = (0, (rqM s).2) := by rw [rqN, hk2]; exact if_neg (by decide)
  have gM : (rqM s).2.short = false := by rw [eN] at hs; exact hs
  have gS : (rqS s).2.short = false := by rw [eM] at gM; exact text_sn gM
  have gT : (rqT s).2.short = false := by rw [eS] at gS; exact gS
  have gK : (rqK s).2.short = false := by rw [eT] at gT; exact text_sn gT
  obtain ⟨aK, bK⟩ := rel_k gK
  have hl : (((lqK s).1 : Nat) : Int) = 5 := by rw [aK]; exact hk2
  have hl1 : (lqK s).1 = 5 := by rw [aK]; exact hk
  obtain ⟨pT, aT, bT⟩ : ∃ q, lqT s = ((rqT s).1, some q) ∧ Rel s (rqT s).2 q := by
    have e : lqT s = lPart s 1 (lqK s).2 := by rw [lqT, hl]; exact if_pos (by decide)
    rw [eT] at gT
    rw [e, aK, eT]
    exact rel_text bK gT
  have bS : Rel s (rqS s).2 pT := by rw [eS]; exact bT
  obtain ⟨pM, aM, bM⟩ : ∃ q, lqM s = ((rqM s).1, some q) ∧ Rel s (rqM s).2 q := by
    have e : lqM s = lPart s 2 (lqT s).2 := by rw [lqM, hl]; exact if_pos (by decide)
    rw [eM] at gM
    rw [e, aT, eM]
    exact rel_text bS gM
  have aN : (lqN s).1 = (rqN s).1 := by
    have e : lqN s = (0, (lqM s).2) := by rw [lqN, hl]; exact if_neg (by decide)
    rw [e, eN]
  have aS : (lqS s).1 = (rqS s).1 := by
    have e : lqS s = ([], (lqN s).2) := by rw [lqS]; exact if_neg (by omega)
    rw [e, eS]
  rw [lRq, rqR, aS, aN, aM, aT, aK]
theorem same6 {s : ByteArray} (hk : (rqK s).1 = 6) (hs : (rqN s).2.short = false) : lRq s = rqR s := by
  have hk2 : (((rqK s).1 : Nat) : Int) = 6 := by rw [hk]; rfl
  have eT : rqT s = textR 1 (rqK s).2 := by rw [rqT, hk2]; exact if_pos (by decide)
  have eS : rqS s = ([], (rqT s).2) := by rw [rqS]; exact if_neg (by omega)
  have eM : rqM s = (ByteArray.empty, (rqS s).2) := by rw [rqM, hk2]; exact if_neg (by decide)
  have eN : rqN s = (0, (rqM s).2) := by rw [rqN, hk2]; exact if_neg (by decide)
  have gM : (rqM s).2.short = false := by rw [eN] at hs; exact hs
  have gS : (rqS s).2.short = false := by rw [eM] at gM; exact gM
  have gT : (rqT s).2.short = false := by rw [eS] at gS; exact gS
  have gK : (rqK s).2.short = false := by rw [eT] at gT; exact text_sn gT
  obtain ⟨aK, bK⟩ := rel_k gK
  have hl : (((lqK s).1 : Nat) : Int) = 6 := by rw [aK]; exact hk2
  have hl1 : (lqK s).1 = 6 := by rw [aK]; exact hk
  obtain ⟨pT, aT, bT⟩ : ∃ q, lqT s = ((rqT s).1, some q) ∧ Rel s (rqT s).2 q := by
    have e : lqT s = lPart s 1 (lqK s).2 := by rw [lqT, hl]; exact if_pos (by decide)
    rw [eT] at gT
    rw [e, aK, eT]
    exact rel_text bK gT
  have bS : Rel s (rqS s).2 pT := by rw [eS]; exact bT
  obtain ⟨pM, aM, bM⟩ : ∃ q, lqM s = ((rqM s).1, some q) ∧ Rel s (rqM s).2 q := by
    have e : lqM s = (ByteArray.empty, (lqT s).2) := by rw [lqM, hl]; exact if_neg (by decide)
    rw [e, aT, eM]
    exact ⟨pT, rfl, bS⟩
  have aN : (lqN s).1 = (rqN s).1 := by
    have e : lqN s = (0, (lqM s).2) := by rw [lqN, hl]; exact if_neg (by decide)
    rw [e, eN]
  have aS : (lqS s).1 = (rqS s).1 := by
    have e : lqS s = ([], (lqN s).2) := by rw [lqS]; exact if_neg (by omega)
    rw [e, eS]
  rw [lRq, rqR, aS, aN, aM, aT, aK]
theorem lRq_same {s : ByteArray} (hk : 1 ≤ (rqK s).1 ∧ (rqK s).1 ≤ 6) (hs : (rqN s).2.short = false) : lRq s = rqR s := by
  have h : (rqK s).1 = 1 ∨ (rqK s).1 = 2 ∨ (rqK s).1 = 3 ∨ (rqK s).1 = 4 ∨ (rqK s).1 = 5 ∨ (rqK s).1 = 6 := by omega
  rcases h with h | h | h | h | h | h
  · exact same1 h hs
  · exact same2 h hs
  · exact same3 h hs
  · exact same4 h hs
  · exact same5 h hs
  · exact same6 h hs
theorem lXs_rng {s : ByteArray} {p0 : Option Nat} (k : Nat) : ∀ i (h : i < (lXs s p0 k).1.length), I64 (lXs s p0 k).1[i].bits := by
  induction k with
  | zero => rw [lXs_zero]; exact fun i h => absurd h (by simp)
  | succ k ih =>
    cases h : (lXs s p0 k).2 with
    | none => rw [lXs_none h]; exact ih
    | some p =>
      rw [lXs_some h]
      have hr : I64 (lSm s (some p)).1.bits := by rw [lSm]; exact wrapN_rng _
      generalize lSm s (some p) = A at *
      intro i hi
      simp only [List.getElem_append]
      split
      · rename_i hh; exact ih i hh
      · simp only [List.getElem_singleton]; exact hr
theorem lRq_rng (s : ByteArray) : I64 (lRq s).num ∧ ∀ i (h : i < (lRq s).smps.length), I64 (lRq s).smps[i].bits := by
  have e : (lRq s).num = (lqN s).1 := by rw [lRq]
  have e2 : (lRq s).smps = (lqS s).1 := by rw [lRq]
  have h1 : I64 (lqN s).1 := by
    rw [lqN]
    split
    · exact wrapN_rng _
    · exact ⟨by simp only; omega, by simp only; omega⟩
  have h2 : ∀ i (h : i < (lqS s).1.length), I64 (lqS s).1[i].bits := by
    rw [lqS]
    split
    · exact lXs_rng _
    · exact fun i h => absurd h (by simp)
  generalize lRq s = R at *
  obtain ⟨k, te, me, nu, xs⟩ := R
  simp only at e e2
  subst e e2
  exact ⟨h1, h2⟩
theorem looseR_yes {s : ByteArray} (hs : s.size ≠ 0) (h : reqB (lRq s) = s) : decR s = (lRq s, true) := decR_of hs h (lRq_rng s).1 (lRq_rng s).2
theorem looseR_no {s : ByteArray} (h : ¬ (s.size ≠ 0 ∧ reqB (lRq s) = s)) : decR s = (⟨0, ByteArray.empty, ByteArray.empty, 0, []⟩, false) := by
  refine decR_no fun hh => h ?_
  obtain ⟨hk, hsh, he⟩ := hh
  have e := lRq_same hk hsh
  refine ⟨?_, by rw [e]; exact he⟩
  intro hz
  have : (rqK s).1 = 0 := by
    rw [rqK, numR, takeR, if_pos (by show s.size < 1; omega)]
    rfl
  omega
end Go.Proofs.YtoecnlhnfhongaaDoor

namespace Go.Proofs.YtoecnlhnfhongaaDoor
open Go.RowKit

theorem wrap_step (X b : Nat) : wrap64 (wrap64 ((X : Int) * 256) + (b : Int)) = wrapN (X * 256 + b) := by
  rw [wrapN_eq]
  unfold wrap64
  split <;> omega
set_option maxRecDepth 100000 in
set_option maxHeartbeats 1000000 in
theorem specGetW_any (s : ByteArray) (p n : Nat) (w : World) (hs : s.size ≤ maxLen) (h : p + n ≤ s.size) (hn : n ≤ 8) :
    Calls Tryd.prog 46 #[.string s, .int .i64 p, .int .i64 n] w fun e w' => e = .returned (.int .i64 (wrapN (beL (sectL s p n)))) ∧ w' = w := by
  unfold maxLen at hs
  go_enter Tryd.func46, Tryd.ntmps46
  go_wp2
  go_loop [7, 8] (fun v i => ∃ (k V : Nat) (Z : Int), k ≤ n ∧ i = .int .i64 k ∧ v = .int .i64 Z ∧ Hid (Z = wrapN V) ∧ Hid (V = beL (sectL s p k))) (fun _ i => n - (intOf i).toNat)
  case atStart => exact ⟨0, 0, 0, Nat.zero_le _, rfl, rfl, by show _ = _; rw [wrapN_small (by omega)]; rfl, rfl⟩
  case round =>
    obtain ⟨k, V, Z, hk, rfl, rfl, hZ, hV⟩ := hrel
    by_cases hlt : k < n
    · have hV7 : V < 72057594037927936 := by
        have h1 := beL_lt (sectL s p k)
        rw [sectL_length (by omega), ← hV.out] at h1
        have h2 : 256 ^ k ≤ 256 ^ 7 := Nat.pow_le_pow_right (by omega) (by omega)
        omega
      obtain rfl : Z = (V : Int) := by rw [hZ.out, wrapN_small (by omega)]
      have hi0 : (0 : Int) ≤ (p : Int) + (k : Int) := by omega
      have hi1 : (p : Int) + (k : Int) < (s.size : Int) := by omega
      have hi2 : p + k < s.size := by omega
      have hU := s[p + k].toNat_lt
      have hw := wrap_step V s[p + k].toNat
      go_wp2
      refine ⟨⟨k + 1, V * 256 + s[p + k].toNat, wrapN (V * 256 + s[p + k].toNat), by omega, by go_num, ?_, rfl, by show _ = _; rw [sectL_snoc hi2, beL_snoc, hV.out]⟩, by simp [intOf]; omega⟩
      exact congrArg (Value.int .i64) hw
    · go_wp2
      go_ret
      have e : k = n := by omega
      subst e
      exact ⟨ret_int (by rw [hZ.out, hV.out]), rfl⟩

theorem ret_numI {a b : Int} {c d : Int} (h1 : a = b) (h2 : c = d) : Ending.returned (.tuple #[.int .i64 a, .int .i64 c]) = .returned (.tuple #[.int .i64 b, .int .i64 d]) := by rw [h1, h2]
set_option maxRecDepth 100000 in
set_option maxHeartbeats 1000000 in
theorem specNumL_any (s : ByteArray) (n : Nat) (p : Option Nat) (w : World) (hs : s.size ≤ 1000000000) (hp : ∀ q, p = some q → q ≤ 1000000000) (hn : n ≤ 8) :
    Calls Tryd.prog 23 #[.string s, .int .i64 (posV p), .int .i64 (n : Nat)] w fun e w' => e = .returned (.tuple #[.int .i64 (wrapN (lNum s n p).1), .int .i64 (posV (lNum s n p).2)]) ∧ w' = w := by
  have e0 : wrapN 0 = 0 := wrapN_small (by omega)
  cases p with
  | none =>
    show Calls _ _ #[.string s, .int .i64 (-1), .int .i64 (n : Nat)] w fun e w' => e = .returned (.tuple #[.int .i64 (wrapN 0), .int .i64 (-1)]) ∧ w' = w
    rw [e0]
    go_enter Tryd.func23, Tryd.ntmps23
    go_wp2
    go_ret2
    exact ⟨rfl, rfl⟩
  | some q =>
    have hq := hp q rfl
    rw [lNum_some]
    show Calls _ _ #[.string s, .int .i64 (q : Nat), .int .i64 (n : Nat)] w fun e w' => e = .returned (.tuple #[.int .i64 (wrapN (if q + n ≤ s.size then (beL (sectL s q n), some (q + n)) else (0, none)).1), .int .i64 (posV (if q + n ≤ s.size then (beL (sectL s q n), some (q + n)) else (0, none)).2)]) ∧ w' = w
    clear hp
    by_cases h : q + n ≤ s.size
    · rw [if_pos h]
      have HG : Hid (∀ W, Calls Tryd.prog 46 #[.string s, .int .i64 (q : Nat), .int .i64 (n : Nat)] W fun e w' => e = .returned (.int .i64 (wrapN (beL (sectL s q n)))) ∧ w' = W) := fun W => specGetW_any s q n W (by unfold maxLen; omega) h hn
      show Calls _ _ #[.string s, .int .i64 (q : Nat), .int .i64 (n : Nat)] w fun e w' => e = .returned (.tuple #[.int .i64 (wrapN (beL (sectL s q n))), .int .i64 ((q + n : Nat) : Int)]) ∧ w' = w
      generalize wrapN (beL (sectL s q n)) = V at *
      have h' : ¬ ((q : Int) + (n : Int) > (s.size : Int)) := by omega
      go_enter Tryd.func23, Tryd.ntmps23
      go_wp2_with fail
      refine (HG.out _).mono ?_
      rintro e w1 ⟨rfl, hw⟩
      replace hw := hw.symm
      subst hw
      go_wp2
      go_ret2
      exact ⟨ret_numI rfl (by omega), rfl⟩
    · rw [if_neg h]
      show Calls _ _ #[.string s, .int .i64 (q : Nat), .int .i64 (n : Nat)] w fun e w' => e = .returned (.tuple #[.int .i64 (wrapN 0), .int .i64 (-1)]) ∧ w' = w
      rw [e0]
      have h' : (q : Int) + (n : Int) > (s.size : Int) := by omega
      go_enter Tryd.func23, Tryd.ntmps23
      go_wp2
      go_ret2
      exact ⟨rfl, rfl⟩
theorem specPartL_any (s : ByteArray) (n : Nat) (p : Option Nat) (w : World) (hs : s.size ≤ 1000000000) (hp : ∀ q, p = some q → q ≤ 1000000000) (hn : n ≤ 2) :
    Calls Tryd.prog 24 #[.string s, .int .i64 (posV p), .int .i64 (n : Nat)] w fun e w' => e = .returned (.tuple #[.string (lPart s n p).1, .int .i64 (posV (lPart s n p).2)]) ∧ w' = w := by
  cases p with
  | none => exact specPart_neg s n w
  | some q =>
    cases h : partN s q n with
    | none => rw [lPart_not h]; exact specPart_none s q n w hs (hp q rfl) hn h
    | some tr =>
      obtain ⟨t, r⟩ := tr
      rw [lPart_at h]
      exact specPart_some s q n t r w hs hn h
theorem lNum_le {s : ByteArray} {n : Nat} {p : Option Nat} {q : Nat} (h : (lNum s n p).2 = some q) : q ≤ s.size := by
  cases p with
  | none => exact absurd h (by simp [lNum])
  | some p =>
    rw [lNum_some] at h
    split at h
    · simp at h; omega
    · simp at h
theorem lPart_le {s : ByteArray} {n : Nat} {p : Option Nat} {q : Nat} (h : (lPart s n p).2 = some q) : q ≤ s.size := by
  cases p with
  | none => exact absurd h (by simp [lPart])
  | some p =>
    cases hh : partN s p n with
    | none => rw [lPart_not hh] at h; simp at h
    | some tr =>
      obtain ⟨t, r⟩ := tr
      rw [lPart_at hh] at h
      simp at h
      have := (part_le hh).1
      omega
end Go.Proofs.YtoecnlhnfhongaaDoor

