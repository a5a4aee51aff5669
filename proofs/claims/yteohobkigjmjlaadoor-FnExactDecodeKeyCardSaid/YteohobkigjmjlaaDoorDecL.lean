/- The verifier's own text: reading a key's labels. -/
import Derived.Test.YteohobkigjmjlaaDoorKeyL
import Derived.Test.YteohobkigjmjlaaDoorRdL
namespace Go.Proofs.YteohobkigjmjlaaDoor
open Go.RowKit

def labR (r : Rd) : LabD × Rd := (⟨(textR 1 r).1, (textR 2 (textR 1 r).2).1⟩, (textR 2 (textR 1 r).2).2)
def rdK (r : Rd) : Nat → List LabD × Rd
  | 0 => ([], r)
  | k + 1 => ((rdK r k).1 ++ [(labR (rdK r k).2).1], (labR (rdK r k).2).2)
def cntR (key : ByteArray) : Nat := (numR 1 ⟨key, false⟩).1
def rdAll (key : ByteArray) : List LabD × Rd := rdK (numR 1 ⟨key, false⟩).2 (cntR key)
def wholeB (r : Rd) : Bool := !r.short && (r.rest.toList == ByteArray.empty.toList)
def decV (key : ByteArray) : List LabD × Bool := if (wholeB (rdAll key).2 && canB (rdAll key).1) = true then ((rdAll key).1, true) else ([], false)

theorem labR_eq (r : Rd) : labR r = (⟨(textR 1 r).1, (textR 2 (textR 1 r).2).1⟩, (textR 2 (textR 1 r).2).2) := by rw [labR]
theorem rdK_succ (r : Rd) (k : Nat) : rdK r (k + 1) = ((rdK r k).1 ++ [(labR (rdK r k).2).1], (labR (rdK r k).2).2) := by rw [rdK]
theorem rdK_length (r : Rd) : ∀ k, (rdK r k).1.length = k
  | 0 => rfl
  | k + 1 => by rw [rdK]; simp [rdK_length r k]
theorem lab_sound {r : Rd} (h : (labR r).2.short = false) : r.short = false ∧ r.rest = s8B (labR r).1.name ++ s16B (labR r).1.value ++ (labR r).2.rest := by
  obtain ⟨h1, h2⟩ := text_sound (k := 2) (r := (textR 1 r).2) h
  obtain ⟨g1, g2⟩ := text_sound (k := 1) (r := r) h1
  refine ⟨g1, ?_⟩
  rw [g2, h2]
  apply bext
  simp [labR, s8B, s16B]
theorem lab_full {r : Rd} {l : LabD} {q : ByteArray} (h : r.rest = s8B l.name ++ s16B l.value ++ q) (h1 : l.name.size < 256) (h2 : l.value.size < 65536) : labR r = (l, ⟨q, r.short⟩) := by
  have e : r.rest = numS 1 (l.name.size : Nat) ++ (l.name ++ (s16B l.value ++ q)) := by
    rw [h]; apply bext; simp [s8B]
  have e1 := text_full e (by omega)
  have e2 : textR 2 (textR 1 r).2 = (l.value, ⟨q, r.short⟩) := by
    rw [e1]
    exact text_full (r := ⟨s16B l.value ++ q, r.short⟩) (by show s16B l.value ++ q = _; apply bext; simp [s16B]) (by omega)
  rw [labR, e2, e1]
theorem rd_sound {r : Rd} (k : Nat) : (rdK r k).2.short = false → r.short = false ∧ r.rest = tailB (rdK r k).1 ++ (rdK r k).2.rest := by
  induction k with
  | zero =>
    intro h
    refine ⟨h, ?_⟩
    show r.rest = ByteArray.empty ++ r.rest
    apply bext
    simp
  | succ k ih =>
    intro h
    rw [rdK_succ] at h ⊢
    simp only at h ⊢
    obtain ⟨h1, h2⟩ := lab_sound h
    obtain ⟨g1, g2⟩ := ih h1
    refine ⟨g1, ?_⟩
    generalize rdK r k = R at *
    generalize labR R.2 = L at *
    rw [g2, h2, tailB_append]
    have e3 : tailB [L.1] = s8B L.1.name ++ s16B L.1.value := by
      show s8B L.1.name ++ s16B L.1.value ++ ByteArray.empty = _
      apply bext
      simp
    rw [e3]
    apply bext
    simp
def SmallL (ls : List LabD) : Prop := ∀ i (h : i < ls.length), ls[i].name.size < 256 ∧ ls[i].value.size < 65536
theorem rd_full {r : Rd} {ls : List LabD} {q : ByteArray} (h : r.rest = tailB ls ++ q) (hs : SmallL ls) : ∀ k, k ≤ ls.length → rdK r k = (ls.take k, ⟨tailB (ls.drop k) ++ q, r.short⟩)
  | 0, _ => by
    cases r
    simp only at h
    simp [rdK, h]
  | k + 1, hk => by
    have ih := rd_full h hs k (by omega)
    have e : tailB (ls.drop k) ++ q = s8B ls[k].name ++ s16B ls[k].value ++ (tailB (ls.drop (k + 1)) ++ q) := by
      rw [List.drop_eq_getElem_cons (by omega)]
      apply bext
      simp [tailB]
    have hl := lab_full (r := ⟨tailB (ls.drop k) ++ q, r.short⟩) e (hs k (by omega)).1 (hs k (by omega)).2
    rw [rdK_succ, ih, hl, List.take_succ_eq_append_getElem (by omega)]

theorem runes_size (s : ByteArray) : ∀ (b p : Nat) (l : List Nat), s.size ≤ p + b → runesFrom s b p = some l → s.size ≤ p + 4 * l.length
  | 0, p, l, hb, _ => by omega
  | b + 1, p, l, hb, h => by
    rw [runesFrom] at h
    split at h
    · split at h
      · exact absurd h (by simp)
      · obtain ⟨l', hl', rfl⟩ := Option.map_eq_some_iff.1 h
        have h1 := decode_pos s p
        have h4 := (decode_rune s p).2
        have := runes_size s b _ l' (by omega) hl'
        simp
        omega
    · omega
theorem val_size {s : ByteArray} (h : valV s = 0) : s.size ≤ 512 := by
  unfold valV at h
  split at h
  · exact absurd h (by simp)
  · rename_i l hl
    unfold endV at h
    split at h
    · exact absurd h (by simp)
    · have := runes_size s s.size 0 l (by omega) hl
      omega
theorem firstBad_none : ∀ (ls : List LabD) (j : Nat), firstBad ls j = none → ∀ i (h : i < ls.length), labV ls[i] = 0
  | [], _, _, i, h => absurd h (by simp)
  | l :: r, j, hn, i, h => by
    rw [firstBad] at hn
    split at hn
    · rename_i h0
      cases i with
      | zero => exact h0
      | succ i => exact firstBad_none r _ hn i (by simpa using h)
    · exact absurd hn (by simp)
theorem firstBad_ne : ∀ (l : List LabD) (j c i : Nat), firstBad l j = some (c, i) → c ≠ 0
  | [], _, _, _, h => by simp [firstBad] at h
  | x :: r, j, c, i, h => by
    rw [firstBad] at h
    split at h
    · exact firstBad_ne r _ _ _ h
    · rename_i hx
      simp only [Option.some.injEq, Prod.mk.injEq] at h
      rw [← h.1]
      exact hx
theorem can_small {ls : List LabD} (h : canB ls = true) : SmallL ls := by
  have hc := can_form h
  have h16 := can_le h
  have h0 : (canonR ls).2.1 = 0 := by rw [hc]
  have hb : firstBad ls 0 = none := by
    cases hb : firstBad ls 0 with
    | none => rfl
    | some ci =>
      obtain ⟨c, i⟩ := ci
      rw [canon_bad (by omega) hb] at h0
      exact absurd h0 (firstBad_ne ls 0 c i hb)
  intro i hi
  have hl := firstBad_none ls 0 hb i hi
  unfold labV at hl
  split at hl
  · rename_i hn
    have hn' : nameOK ls[i].name := by simpa [nameB] using hn
    have := val_size hl
    exact ⟨by have := hn'.2.1; omega, by omega⟩
  · exact absurd hl (by simp)

theorem dec_full {ls : List LabD} (h : canB ls = true) : decV (keyB ls) = (ls, true) := by
  have h16 := can_le h
  have hs := can_small h
  have h1 : takeR 1 ⟨keyB ls, false⟩ = (numS 1 (ls.length : Nat), ⟨tailB ls, false⟩) := take_full rfl (numS_size 1 _)
  have hc : cntR (keyB ls) = ls.length := by
    show beL (takeR 1 ⟨keyB ls, false⟩).1.data.toList = _
    rw [h1]
    exact be_numS 1 ls.length (by omega)
  have hn : (numR 1 ⟨keyB ls, false⟩).2 = ⟨tailB ls, false⟩ := by
    show (takeR 1 ⟨keyB ls, false⟩).2 = _
    rw [h1]
  have ha : rdAll (keyB ls) = (ls, ⟨ByteArray.empty, false⟩) := by
    unfold rdAll
    rw [hc, hn]
    have e := rd_full (r := ⟨tailB ls, false⟩) (q := ByteArray.empty) (by apply bext; simp) hs ls.length (Nat.le_refl _)
    rw [e, List.take_length, List.drop_length]
    simp [tailB]
  unfold decV
  rw [ha]
  simp only
  rw [if_pos (by simp [wholeB, h])]
theorem dec_key {key : ByteArray} (h : (decV key).2 = true) : canB (decV key).1 = true ∧ keyB (decV key).1 = key := by
  unfold decV at h ⊢
  split at h
  · rename_i hw
    rw [if_pos hw]
    rw [Bool.and_eq_true] at hw
    refine ⟨hw.2, ?_⟩
    have hwh := hw.1
    unfold wholeB at hwh
    rw [Bool.and_eq_true] at hwh
    have hsh : (rdAll key).2.short = false := by simpa using hwh.1
    have hre : (rdAll key).2.rest = ByteArray.empty := toList_inj (by simpa using hwh.2)
    obtain ⟨g1, g2⟩ := rd_sound (r := (numR 1 ⟨key, false⟩).2) (cntR key) hsh
    obtain ⟨k1, k2, k3⟩ := take_sound (n := 1) (r := ⟨key, false⟩) g1
    have hl : (rdAll key).1.length = cntR key := rdK_length _ _
    have e : numS 1 ((rdAll key).1.length : Nat) = (takeR 1 ⟨key, false⟩).1 := by
      rw [hl]
      have := numS_be (takeR 1 ⟨key, false⟩).1.data.toList 1 (by rw [← bsize]; exact k2)
      show numS 1 (beL (takeR 1 ⟨key, false⟩).1.data.toList : Nat) = _
      rw [this]
    show numS 1 ((rdAll key).1.length : Nat) ++ tailB (rdAll key).1 = key
    have g2' : (takeR 1 ⟨key, false⟩).2.rest = tailB (rdAll key).1 ++ (rdAll key).2.rest := g2
    have k3' : key = (takeR 1 ⟨key, false⟩).1 ++ (takeR 1 ⟨key, false⟩).2.rest := k3
    rw [e]
    conv => rhs; rw [k3', g2', hre]
    apply bext
    simp
  · exact absurd h (by simp)
theorem dec_not {key : ByteArray} (h : (decV key).2 = false) : decV key = ([], false) ∧ ∀ ls, canB ls = true → keyB ls ≠ key := by
  refine ⟨?_, fun ls hc e => ?_⟩
  · unfold decV at h ⊢
    split at h
    · exact absurd h (by simp)
    · rename_i hw; rw [if_neg hw]
  · rw [← e, dec_full hc] at h
    exact absurd h (by simp)

theorem rd_big (r : Rd) (k : Nat) : (rdK r k).2.rest.size ≤ r.rest.size ∧ ∀ i (h : i < (rdK r k).1.length), (rdK r k).1[i].name.size ≤ r.rest.size ∧ (rdK r k).1[i].value.size ≤ r.rest.size := by
  induction k with
  | zero => exact ⟨Nat.le_refl _, fun i h => absurd h (by simp [rdK])⟩
  | succ k ih =>
    have h1 := text_le 1 (rdK r k).2
    have h2 := text_le 2 (textR 1 (rdK r k).2).2
    rw [rdK_succ, labR_eq]
    generalize rdK r k = R at *
    generalize textR 1 R.2 = t1 at *
    generalize textR 2 t1.2 = t2 at *
    refine ⟨by have := ih.1; simp only; omega, fun i hi => ?_⟩
    simp only at hi
    by_cases e : i < R.1.length
    · simp only [List.getElem_append_left e]; exact ih.2 i e
    · have hlen : i = R.1.length := by simp at hi; omega
      subst hlen
      simp only [List.getElem_concat_length]
      have := ih.1
      exact ⟨by omega, by omega⟩
theorem rdAll_big (key : ByteArray) : ∀ i (h : i < (rdAll key).1.length), (rdAll key).1[i].name.size ≤ key.size ∧ (rdAll key).1[i].value.size ≤ key.size := by
  intro i hi
  have h1 := (rd_big (numR 1 ⟨key, false⟩).2 (cntR key)).2 i hi
  have h2 := (take_le 1 ⟨key, false⟩).2.2
  have h3 : (numR 1 ⟨key, false⟩).2.rest.size ≤ key.size := h2
  exact ⟨Nat.le_trans h1.1 h3, Nat.le_trans h1.2 h3⟩
end Go.Proofs.YteohobkigjmjlaaDoor
