/- The verifier's own text: reading a batch. -/
import Derived.Test.YtgpgacncmoiefaaBatL
import Derived.Test.YtgpgacncmoiefaaRdL
namespace Go.Proofs.Ytgpgacncmoiefaa
open Go.RowKit

def recR (r : Rd) : RecD × Rd :=
  (⟨((numR 1 r).1 : Nat), (textR 1 (numR 1 r).2).1, (textR 2 (textR 1 (numR 1 r).2).2).1, wrapN (numR 8 (textR 2 (textR 1 (numR 1 r).2).2).2).1⟩, (numR 8 (textR 2 (textR 1 (numR 1 r).2).2).2).2)
theorem recR_snd (r : Rd) : (recR r).2 = (numR 8 (textR 2 (textR 1 (numR 1 r).2).2).2).2 := by rw [recR]
theorem recR_fst (r : Rd) : (recR r).1 = ⟨((numR 1 r).1 : Nat), (textR 1 (numR 1 r).2).1, (textR 2 (textR 1 (numR 1 r).2).2).1, wrapN (numR 8 (textR 2 (textR 1 (numR 1 r).2).2).2).1⟩ := by rw [recR]
def rdRs (r : Rd) : Nat → List RecD × Rd
  | 0 => ([], r)
  | k + 1 => ((rdRs r k).1 ++ [(recR (rdRs r k).2).1], (recR (rdRs r k).2).2)
theorem rdRs_succ (r : Rd) (k : Nat) : rdRs r (k + 1) = ((rdRs r k).1 ++ [(recR (rdRs r k).2).1], (recR (rdRs r k).2).2) := by rw [rdRs]
theorem rdRs_length (r : Rd) : ∀ k, (rdRs r k).1.length = k
  | 0 => rfl
  | k + 1 => by rw [rdRs]; simp [rdRs_length r k]
def lsnR (s : ByteArray) : Nat × Rd := numR 8 ⟨s, false⟩
def cntB (s : ByteArray) : Nat × Rd := numR 2 (lsnR s).2
def batR (s : ByteArray) : List RecD × Rd := rdRs (cntB s).2 (cntB s).1
def decB (s : ByteArray) : Int × List RecD × Bool := if (batR s).2.short = false ∧ batB (wrapN (lsnR s).1) (batR s).1 = s then (wrapN (lsnR s).1, (batR s).1, true) else (0, [], false)

theorem rec_short {r : Rd} (h : r.short = true) : (recR r).2.short = true := by
  rw [recR_snd]
  exact num_short (k := 8) (text_short (k := 2) (text_short (k := 1) (num_short (k := 1) h)))
theorem rds_short {r : Rd} {k : Nat} (h : (rdRs r k).2.short = true) : ∀ m, k ≤ m → (rdRs r m).2.short = true := by
  intro m hm
  induction m with
  | zero => rw [show k = 0 by omega] at h; exact h
  | succ m ih =>
    rcases Nat.eq_or_lt_of_le hm with rfl | hlt
    · exact h
    · rw [rdRs_succ]
      have := rec_short (ih (by omega))
      generalize recR (rdRs r m).2 = R at *
      exact this

theorem rec_full {r : Rd} {x : RecD} {q : ByteArray} (h : r.rest = encR x ++ q) (hx : recOK x) (hn : I64 x.num) : recR r = (x, ⟨q, r.short⟩) := by
  have e0 : r.rest = numS 1 x.kind ++ (s8B x.tenant ++ (s16B x.text ++ (numS 8 x.num ++ q))) := by rw [h]; apply bext; simp [encR]
  have h0 := num_full e0
  have hk : ((beL (numS 1 x.kind).data.toList : Nat) : Int) = x.kind := by
    obtain ⟨_, _, h | h | h⟩ := hx
    · rw [h.1]; exact congrArg Int.ofNat (be_numS 1 1 (by decide))
    · rw [h.1]; exact congrArg Int.ofNat (be_numS 1 2 (by decide))
    · rw [h]; exact congrArg Int.ofNat (be_numS 1 3 (by decide))
  have h1 : textR 1 (numR 1 r).2 = (x.tenant, ⟨s16B x.text ++ (numS 8 x.num ++ q), r.short⟩) := by
    rw [h0]
    exact text_full (r := ⟨s8B x.tenant ++ (s16B x.text ++ (numS 8 x.num ++ q)), r.short⟩) (by show s8B x.tenant ++ (s16B x.text ++ (numS 8 x.num ++ q)) = _; apply bext; simp [s8B]) (by have := hx.1; omega)
  have h2 : textR 2 (textR 1 (numR 1 r).2).2 = (x.text, ⟨numS 8 x.num ++ q, r.short⟩) := by
    rw [h1]
    exact text_full (r := ⟨s16B x.text ++ (numS 8 x.num ++ q), r.short⟩) (by show s16B x.text ++ (numS 8 x.num ++ q) = _; apply bext; simp [s16B]) (by have := hx.2.1; omega)
  have h3 : numR 8 (textR 2 (textR 1 (numR 1 r).2).2).2 = (beL (numS 8 x.num).data.toList, ⟨q, r.short⟩) := by
    rw [h2]
    exact num_full (r := ⟨numS 8 x.num ++ q, r.short⟩) rfl
  unfold recR
  rw [h3, h2, h1, h0]
  simp only [be_numS8 _ hn, hk]
theorem rds_full {r : Rd} {xs : List RecD} {q : ByteArray} (h : r.rest = encRs xs ++ q) (hx : allR xs) (hn : RngR xs) : ∀ k, k ≤ xs.length → rdRs r k = (xs.take k, ⟨encRs (xs.drop k) ++ q, r.short⟩)
  | 0, _ => by
    cases r
    simp only at h
    simp [rdRs, h]
  | k + 1, hk => by
    have ih := rds_full h hx hn k (by omega)
    have e : encRs (xs.drop k) ++ q = encR xs[k] ++ (encRs (xs.drop (k + 1)) ++ q) := by
      rw [List.drop_eq_getElem_cons (by omega)]
      apply bext
      simp [encRs]
    have hl := rec_full (r := ⟨encRs (xs.drop k) ++ q, r.short⟩) e (hx k (by omega)) (hn k (by omega)).2
    rw [rdRs_succ, ih, hl, List.take_succ_eq_append_getElem (by omega)]
/-- What has been written is read again. -/
theorem bat_full {lsn : Int} {xs : List RecD} (hb : batOK lsn xs) (hn : RngR xs) : wrapN (lsnR (batB lsn xs)).1 = lsn ∧ (cntB (batB lsn xs)).1 = xs.length ∧ batR (batB lsn xs) = (xs, ⟨ByteArray.empty, false⟩) := by
  obtain ⟨b1, b2, b3, b4, b5⟩ := hb
  have e0 : (⟨batB lsn xs, false⟩ : Rd).rest = numS 8 lsn ++ (numS 2 (xs.length : Nat) ++ (encRs xs ++ ByteArray.empty)) := by
    show batB lsn xs = _
    rw [batB_ok ⟨b1, b2, b3, b4, b5⟩]; apply bext; simp [batHead]
  have h0 : lsnR (batB lsn xs) = _ := num_full e0
  have h1 : cntB (batB lsn xs) = (xs.length, ⟨encRs xs ++ ByteArray.empty, false⟩) := by
    unfold cntB
    rw [h0]
    have := num_full (k := 2) (r := ⟨numS 2 (xs.length : Nat) ++ (encRs xs ++ ByteArray.empty), false⟩) (v := (xs.length : Nat)) rfl
    rw [this, be_numS 2 _ (by omega)]
  refine ⟨by rw [h0]; exact be_numS8 _ ⟨by omega, by omega⟩, by rw [h1], ?_⟩
  unfold batR
  rw [h1]
  have := rds_full (r := ⟨encRs xs ++ ByteArray.empty, false⟩) rfl b5 hn xs.length (Nat.le_refl _)
  rw [this]
  simp [encRs]
theorem recR_rng (r : Rd) : I64 (recR r).1.kind ∧ I64 (recR r).1.num := by
  have h1 := num_lt 1 r
  have h2 := wrapN_rng (numR 8 (textR 2 (textR 1 (numR 1 r).2).2).2).1
  rw [recR_fst]
  generalize wrapN (numR 8 (textR 2 (textR 1 (numR 1 r).2).2).2).1 = Z at *
  generalize (numR 1 r).1 = N at *
  exact ⟨⟨by show (_ : Int) ≤ (N : Int); omega, by show (N : Int) ≤ _; omega⟩, h2⟩
theorem rds_rng {r : Rd} : ∀ k, RngR (rdRs r k).1
  | 0 => fun i h => absurd h (by simp [rdRs])
  | k + 1 => by
    intro i h
    rw [rdRs_length] at h
    simp only [rdRs_succ]
    rw [List.getElem_append]
    split
    · rename_i hi; exact rds_rng k i hi
    · simp only [List.getElem_singleton]
      exact recR_rng _
/-- The batch that a text is, whoever names it: what is read. -/
theorem dec_of {s : ByteArray} {lsn : Int} {xs : List RecD} (hs : s.size ≠ 0) (hn : RngR xs) (h : batB lsn xs = s) : decB s = (lsn, xs, true) := by
  have hb : batOK lsn xs := by
    by_cases hb : batOK lsn xs
    · exact hb
    · rw [batB_no hb] at h; rw [← h] at hs; exact absurd rfl hs
  subst h
  obtain ⟨h1, _, h3⟩ := bat_full hb hn
  unfold decB
  rw [h1, h3, if_pos ⟨rfl, rfl⟩]
theorem dec_short {s : ByteArray} (h : (batR s).2.short = true) : decB s = (0, [], false) := by
  unfold decB; rw [if_neg]; rw [h]; simp
theorem dec_ne {s : ByteArray} (h : batB (wrapN (lsnR s).1) (batR s).1 ≠ s) : decB s = (0, [], false) := by
  unfold decB; rw [if_neg]; exact fun hh => h hh.2
theorem dec_eq {s : ByteArray} (h : batB (wrapN (lsnR s).1) (batR s).1 = s) (h2 : (batR s).2.short = false) : decB s = (wrapN (lsnR s).1, (batR s).1, true) := by
  unfold decB; rw [if_pos ⟨h2, h⟩]
end Go.Proofs.Ytgpgacncmoiefaa
