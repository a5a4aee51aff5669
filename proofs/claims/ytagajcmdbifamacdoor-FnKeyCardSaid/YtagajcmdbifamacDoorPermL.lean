import Derived.Test.YtagajcmdbifamacDoorProg
import Derived.Test.YtagajcmdbifamacDoorDecL
namespace Go.Proofs.YtagajcmdbifamacDoor
open Go.RowKit

theorem firstBad_nil : ∀ (ls : List LabD) (i : Nat), firstBad ls i = none ↔ ∀ l ∈ ls, labV l = 0
  | [], i => by simp [firstBad]
  | l :: r, i => by
    rw [firstBad]
    by_cases h : labV l = 0
    · rw [if_pos h, firstBad_nil r (i + 1)]
      simp [h]
    · rw [if_neg h]
      simp [h]
theorem firstBad_code : ∀ (ls : List LabD) (i c k : Nat), firstBad ls i = some (c, k) → c ≠ 0
  | [], i, c, k, h => by simp [firstBad] at h
  | l :: r, i, c, k, h => by
    rw [firstBad] at h
    by_cases hz : labV l = 0
    · rw [if_pos hz] at h; exact firstBad_code r _ c k h
    · rw [if_neg hz] at h
      simp only [Option.some.injEq, Prod.mk.injEq] at h
      omega
theorem firstTw_is : ∀ (r seen : List LabD) (i : Nat), NoTw (seen ++ r) → firstTw seen r i = none
  | [], _, _, _ => by simp [firstTw]
  | l :: r, seen, i, h => by
    rw [firstTw]
    have hn : ¬ seen.any (fun x => sameN x l) = true := by
      intro ha
      rw [List.any_eq_true] at ha
      obtain ⟨x, hx, e⟩ := ha
      unfold NoTw at h
      rw [List.pairwise_append] at h
      exact h.2.2 x hx l (by simp) ((sameN_iff _ _).1 e)
    rw [if_neg hn]
    exact firstTw_is r _ _ (by simpa using h)
theorem canon_fine {ls : List LabD} (h1 : ls.length ≤ 16) (h2 : ∀ l ∈ ls, labV l = 0) (h3 : NoTw ls) (h4 : metB ls = true) : canonR ls = (insAll [] ls, 0, 0) :=
  canon_ok (by omega) ((firstBad_nil ls 0).2 h2) (firstTw_is ls [] 0 (by simpa using h3)) h4
theorem canon_nil {ls : List LabD} (h : (canonR ls).2.1 = 0) : ls.length ≤ 16 ∧ (∀ l ∈ ls, labV l = 0) ∧ NoTw ls ∧ metB ls = true := by
  by_cases h16 : 16 < ls.length
  · rw [canon_many h16] at h; exact absurd h (by simp)
  · cases hb : firstBad ls 0 with
    | some p =>
      obtain ⟨c, i⟩ := p
      rw [canon_bad h16 hb] at h
      exact absurd h (firstBad_code ls 0 c i hb)
    | none =>
      cases ht : firstTw [] ls 0 with
      | some i => rw [canon_twice h16 hb ht] at h; exact absurd h (by simp)
      | none =>
        cases hm : metB ls with
        | false => rw [canon_met h16 hb ht hm] at h; exact absurd h (by simp)
        | true => exact ⟨by omega, (firstBad_nil ls 0).1 hb, noTw_of ls ht, rfl⟩
theorem noTw_perm {ls ls' : List LabD} (hp : ls'.Perm ls) (h : NoTw ls) : NoTw ls' := by
  unfold NoTw at *
  exact (hp.pairwise_iff (fun {x y} e => Ne.symm e)).2 h
/-- The order of the labels does not matter to their form. -/
theorem canon_perm {ls ls' : List LabD} (hp : ls'.Perm ls) (h : (canonR ls).2.1 = 0) : canonR ls' = canonR ls := by
  obtain ⟨h1, h2, h3, h4⟩ := canon_nil h
  have h3' := noTw_perm hp h3
  have h4' : metB ls' = true := by
    unfold metB at *
    rw [List.any_eq_true] at *
    obtain ⟨x, hx, e⟩ := h4
    exact ⟨x, hp.mem_iff.2 hx, e⟩
  rw [canon_fine h1 h2 h3 h4, canon_fine (by rw [hp.length_eq]; exact h1) (fun l hl => h2 l (hp.mem_iff.1 hl)) h3' h4']
  congr 1
  refine sorted_is h3 ?_ (insAll_sorted ls' [] List.Pairwise.nil)
  refine ((insAll_perm ls' []).trans (by rw [List.nil_append])).trans ?_
  exact hp.filter _
/-- A form is its own form. -/
theorem canon_idem {ls : List LabD} (h : (canonR ls).2.1 = 0) : canonR (canonR ls).1 = ((canonR ls).1, 0, 0) := by
  obtain ⟨h1, h2, h3, h4⟩ := canon_nil h
  rw [canon_fine h1 h2 h3 h4]
  simp only
  have hp : (insAll [] ls).Perm (keptL ls) := (insAll_perm ls []).trans (by rw [List.nil_append])
  have hm : ∀ l ∈ insAll [] ls, l ∈ ls ∧ isEmp l = false := fun l hl => by
    have := List.mem_filter.1 (hp.mem_iff.1 hl)
    exact ⟨this.1, by simpa using this.2⟩
  have h3' : NoTw (insAll [] ls) := noTw_perm hp (h3.sublist List.filter_sublist)
  have hk : keptL (insAll [] ls) = insAll [] ls := by
    unfold keptL
    rw [List.filter_eq_self]
    intro l hl
    rw [(hm l hl).2]; rfl
  have h4' : metB (insAll [] ls) = true := by
    unfold metB at *
    rw [List.any_eq_true] at *
    obtain ⟨x, hx, e⟩ := h4
    refine ⟨x, hp.mem_iff.2 (List.mem_filter.2 ⟨hx, ?_⟩), e⟩
    simp only [Bool.and_eq_true] at e
    exact e.1
  rw [canon_fine (by rw [hp.length_eq]; have := keptL_len ls; omega) (fun l hl => h2 l (hm l hl).1) h3' h4']
  congr 1
  exact (sorted_is h3' (by rw [hk]) (insAll_sorted ls [] List.Pairwise.nil)).symm
theorem form_can {ls : List LabD} (h : (canonR ls).2.1 = 0) : canB (canonR ls).1 = true := by
  unfold canB
  rw [canon_idem h]
  simp [sameLs_iff]
theorem form_key {ls : List LabD} (h : (canonR ls).2.1 = 0) : keyV (canonR ls).1 = keyB (canonR ls).1 ∧ decV (keyB (canonR ls).1) = ((canonR ls).1, true) := ⟨by unfold keyV; rw [if_pos (form_can h)], dec_full (form_can h)⟩
theorem key_inj {x y : List LabD} (hx : canB x = true) (hy : canB y = true) : keyB x = keyB y ↔ x = y := by
  constructor
  · intro e
    have h1 := dec_full hx
    rw [e, dec_full hy] at h1
    simp only [Prod.mk.injEq, and_true] at h1
    exact h1.symm
  · intro e; rw [e]
/-- Labels that have no form have the empty key. -/
theorem key_none {ls : List LabD} (h : (canonR ls).2.1 ≠ 0) : keyV ls = ByteArray.empty := by
  unfold keyV canB
  rw [if_neg]
  simp [h]
/-- The labels, turned. -/
theorem turn_perm (ls : List LabD) (k : Nat) : (ls.drop k ++ ls.take k).Perm ls := (List.perm_append_comm).trans (by rw [List.take_append_drop])
theorem turn_get (ls : List LabD) (k i : Nat) (hk : k < ls.length) (hi : i < ls.length) : (ls.drop k ++ ls.take k)[i]'(by simp; omega) = ls[(i + k) % ls.length]'(Nat.mod_lt _ (by omega)) := by
  by_cases h : i + k < ls.length
  · rw [List.getElem_append_left (by simp; omega)]
    simp only [List.getElem_drop]
    congr 1
    rw [Nat.mod_eq_of_lt h]
    omega
  · rw [List.getElem_append_right (by simp; omega)]
    simp only [List.length_drop, List.getElem_take]
    congr 1
    rw [Nat.mod_eq_sub_mod (by omega), Nat.mod_eq_of_lt (by omega)]
    omega
end Go.Proofs.YtagajcmdbifamacDoor
