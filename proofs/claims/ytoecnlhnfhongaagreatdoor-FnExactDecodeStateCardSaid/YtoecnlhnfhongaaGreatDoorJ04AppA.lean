import Derived.Test.YtoecnlhnfhongaaGreatDoorJ03StaB
import Derived.Test.YtoecnlhnfhongaaGreatDoorJ01RdL
import Derived.Laws.OwnMore
import Derived.Tactics
import Derived.Deep.AppendLies
namespace Go.Proofs.YtoecnlhnfhongaaGreatDoor
open Go.RowKit

def prR (r : Rd) : PairD × Rd := (⟨(textR 2 r).1, wrapN (numR 8 (textR 2 r).2).1⟩, (numR 8 (textR 2 r).2).2)
theorem prR_fst (r : Rd) : (prR r).1 = ⟨(textR 2 r).1, wrapN (numR 8 (textR 2 r).2).1⟩ := by rw [prR]
theorem prR_snd (r : Rd) : (prR r).2 = (numR 8 (textR 2 r).2).2 := by rw [prR]
def rdPs (r : Rd) : Nat → List PairD × Rd
  | 0 => ([], r)
  | k + 1 => ((rdPs r k).1 ++ [(prR (rdPs r k).2).1], (prR (rdPs r k).2).2)
theorem rdPs_succ (r : Rd) (k : Nat) : rdPs r (k + 1) = ((rdPs r k).1 ++ [(prR (rdPs r k).2).1], (prR (rdPs r k).2).2) := by rw [rdPs]
theorem rdPs_length (r : Rd) : ∀ k, (rdPs r k).1.length = k
  | 0 => rfl
  | k + 1 => by rw [rdPs]; simp [rdPs_length r k]
/-- A tenant's parts, in the order in which they are read. -/
def tnR (r : Rd) : ByteArray × Rd := textR 1 r
def tlR (r : Rd) : Nat × Rd := numR 8 (tnR r).2
def tmN (r : Rd) : Nat × Rd := numR 4 (tlR r).2
def tmR (r : Rd) : List PairD × Rd := rdPs (tmN r).2 (tmN r).1
def tsN (r : Rd) : Nat × Rd := numR 4 (tmR r).2
def tsR (r : Rd) : List PairD × Rd := rdPs (tsN r).2 (tsN r).1
def tenR (r : Rd) : TenD × Rd := (⟨(tnR r).1, wrapN (tlR r).1, (tmR r).1, (tsR r).1⟩, (tsR r).2)
theorem tenR_fst (r : Rd) : (tenR r).1 = ⟨(tnR r).1, wrapN (tlR r).1, (tmR r).1, (tsR r).1⟩ := by rw [tenR]
theorem tenR_snd (r : Rd) : (tenR r).2 = (tsR r).2 := by rw [tenR]
def rdTs (r : Rd) : Nat → List TenD × Rd
  | 0 => ([], r)
  | k + 1 => ((rdTs r k).1 ++ [(tenR (rdTs r k).2).1], (tenR (rdTs r k).2).2)
theorem rdTs_succ (r : Rd) (k : Nat) : rdTs r (k + 1) = ((rdTs r k).1 ++ [(tenR (rdTs r k).2).1], (tenR (rdTs r k).2).2) := by rw [rdTs]
theorem rdTs_length (r : Rd) : ∀ k, (rdTs r k).1.length = k
  | 0 => rfl
  | k + 1 => by rw [rdTs]; simp [rdTs_length r k]
/-- A checkpoint's parts, in the order in which they are read. -/
def ckR (s : ByteArray) : ByteArray × Rd := takeR 4 ⟨s, false⟩
def slR (s : ByteArray) : Nat × Rd := numR 8 (ckR s).2
def snR (s : ByteArray) : Nat × Rd := numR 8 (slR s).2
def scR (s : ByteArray) : Nat × Rd := numR 4 (snR s).2
def staR (s : ByteArray) : List TenD × Rd := rdTs (scR s).2 (scR s).1

/-- Whoever was short stays so. -/
theorem pr_short {r : Rd} (h : r.short = true) : (prR r).2.short = true := by
  rw [prR_snd]; exact num_short (k := 8) (text_short (k := 2) h)
theorem rdps_short {r : Rd} {k : Nat} (h : (rdPs r k).2.short = true) : ∀ m, k ≤ m → (rdPs r m).2.short = true := by
  intro m hm
  induction m with
  | zero => rw [show k = 0 by omega] at h; exact h
  | succ m ih =>
    rcases Nat.eq_or_lt_of_le hm with rfl | hlt
    · exact h
    · rw [rdPs_succ]
      have := pr_short (ih (by omega))
      generalize prR (rdPs r m).2 = R at *
      exact this
theorem rdps_short0 {r : Rd} (h : r.short = true) (m : Nat) : (rdPs r m).2.short = true := rdps_short (k := 0) (by rw [rdPs]; exact h) m (Nat.zero_le _)
theorem tn_short {r : Rd} (h : r.short = true) : (tnR r).2.short = true := by rw [tnR]; exact text_short h
theorem tl_short {r : Rd} (h : (tnR r).2.short = true) : (tlR r).2.short = true := by rw [tlR]; exact num_short h
theorem mn_short {r : Rd} (h : (tlR r).2.short = true) : (tmN r).2.short = true := by rw [tmN]; exact num_short h
theorem tm_short {r : Rd} (h : (tmN r).2.short = true) : (tmR r).2.short = true := by rw [tmR]; exact rdps_short0 h _
theorem sn_short {r : Rd} (h : (tmR r).2.short = true) : (tsN r).2.short = true := by rw [tsN]; exact num_short h
theorem ts_short {r : Rd} (h : (tsN r).2.short = true) : (tsR r).2.short = true := by rw [tsR]; exact rdps_short0 h _
theorem ten_short {r : Rd} (h : r.short = true) : (tenR r).2.short = true := by
  rw [tenR_snd]
  exact ts_short (sn_short (tm_short (mn_short (tl_short (tn_short h)))))
theorem rdts_short {r : Rd} {k : Nat} (h : (rdTs r k).2.short = true) : ∀ m, k ≤ m → (rdTs r m).2.short = true := by
  intro m hm
  induction m with
  | zero => rw [show k = 0 by omega] at h; exact h
  | succ m ih =>
    rcases Nat.eq_or_lt_of_le hm with rfl | hlt
    · exact h
    · rw [rdTs_succ]
      have := ten_short (ih (by omega))
      generalize tenR (rdTs r m).2 = R at *
      exact this

/-- What is read gets no longer; and where it was not short, each pair took ten bytes at least, each tenant seventeen. -/
theorem take_room {n : Nat} {r : Rd} (h : (takeR n r).2.short = false) : (takeR n r).2.rest.size + n = r.rest.size := by
  unfold takeR at *
  split at h
  · simp at h
  · rename_i hn
    rw [if_neg hn]
    simp
    omega
theorem num_room {k : Nat} {r : Rd} (h : (numR k r).2.short = false) : (numR k r).2.rest.size + k = r.rest.size := by
  have e : (numR k r).2 = (takeR k r).2 := by rw [numR]
  rw [e] at *
  exact take_room h
theorem num_le (k : Nat) (r : Rd) : (numR k r).2.rest.size ≤ r.rest.size := by
  have e : (numR k r).2 = (takeR k r).2 := by rw [numR]
  rw [e]; exact (take_le k r).2.2
theorem text_room {k : Nat} {r : Rd} (h : (textR k r).2.short = false) : (textR k r).2.rest.size + k ≤ r.rest.size := by
  rw [textR] at *
  have h1 : (numR k r).2.short = false := by
    cases hs : (numR k r).2.short with
    | false => rfl
    | true => rw [take_short hs] at h; exact h
  have h2 := num_room h1
  have h3 := (take_le (numR k r).1 (numR k r).2).2.2
  omega
theorem pr_room {r : Rd} (h : (prR r).2.short = false) : (prR r).2.rest.size + 10 ≤ r.rest.size := by
  rw [prR_snd] at *
  have h1 : (textR 2 r).2.short = false := by
    cases hs : (textR 2 r).2.short with
    | false => rfl
    | true => rw [num_short (k := 8) hs] at h; exact h
  have h2 := num_room h
  have h3 := text_room h1
  omega
theorem prR_big (r : Rd) : (prR r).2.rest.size ≤ r.rest.size := by
  rw [prR_snd]
  have h1 := (text_le 2 r).2
  have h2 := num_le 8 (textR 2 r).2
  omega
theorem rdPs_big (r : Rd) : ∀ k, (rdPs r k).2.rest.size ≤ r.rest.size
  | 0 => Nat.le_refl _
  | k + 1 => by
    have h1 := rdPs_big r k
    have h2 := prR_big (rdPs r k).2
    rw [rdPs_succ]
    generalize prR (rdPs r k).2 = A at *
    show A.2.rest.size ≤ _
    omega
theorem rdPs_room {r : Rd} : ∀ {k : Nat}, (rdPs r k).2.short = false → (rdPs r k).2.rest.size + 10 * k ≤ r.rest.size
  | 0, _ => Nat.le_refl _
  | k + 1, h => by
    have hk : (rdPs r k).2.short = false := by
      cases hs : (rdPs r k).2.short with
      | false => rfl
      | true => rw [rdps_short hs (k + 1) (by omega)] at h; exact h
    have h1 := rdPs_room hk
    rw [rdPs_succ] at h ⊢
    have h2 := pr_room (r := (rdPs r k).2) h
    clear h
    generalize prR (rdPs r k).2 = A at *
    show A.2.rest.size + _ ≤ _
    omega
theorem tenR_big (r : Rd) : (tenR r).2.rest.size ≤ r.rest.size := by
  rw [tenR_snd]
  have h1 : (tnR r).2.rest.size ≤ r.rest.size := by rw [tnR]; exact (text_le 1 r).2
  have h2 : (tlR r).2.rest.size ≤ (tnR r).2.rest.size := by rw [tlR]; exact num_le 8 _
  have h3 : (tmN r).2.rest.size ≤ (tlR r).2.rest.size := by rw [tmN]; exact num_le 4 _
  have h4 : (tmR r).2.rest.size ≤ (tmN r).2.rest.size := by rw [tmR]; exact rdPs_big _ _
  have h5 : (tsN r).2.rest.size ≤ (tmR r).2.rest.size := by rw [tsN]; exact num_le 4 _
  have h6 : (tsR r).2.rest.size ≤ (tsN r).2.rest.size := by rw [tsR]; exact rdPs_big _ _
  omega
theorem rdTs_big (r : Rd) : ∀ k, (rdTs r k).2.rest.size ≤ r.rest.size
  | 0 => Nat.le_refl _
  | k + 1 => by
    have h1 := rdTs_big r k
    have h2 := tenR_big (rdTs r k).2
    rw [rdTs_succ]
    generalize tenR (rdTs r k).2 = A at *
    show A.2.rest.size ≤ _
    omega
theorem ten_room {r : Rd} (h : (tenR r).2.short = false) : (tenR r).2.rest.size + 17 ≤ r.rest.size := by
  rw [tenR_snd] at *
  have g6 : (tsN r).2.short = false := by
    cases hs : (tsN r).2.short with
    | false => rfl
    | true => rw [ts_short hs] at h; exact h
  have g5 : (tmR r).2.short = false := by
    cases hs : (tmR r).2.short with
    | false => rfl
    | true => rw [sn_short hs] at g6; exact g6
  have g4 : (tmN r).2.short = false := by
    cases hs : (tmN r).2.short with
    | false => rfl
    | true => rw [tm_short hs] at g5; exact g5
  have g3 : (tlR r).2.short = false := by
    cases hs : (tlR r).2.short with
    | false => rfl
    | true => rw [mn_short hs] at g4; exact g4
  have g2 : (tnR r).2.short = false := by
    cases hs : (tnR r).2.short with
    | false => rfl
    | true => rw [tl_short hs] at g3; exact g3
  have h1 : (tnR r).2.rest.size + 1 ≤ r.rest.size := by rw [tnR] at g2 ⊢; exact text_room (k := 1) g2
  have h2 : (tlR r).2.rest.size + 8 = (tnR r).2.rest.size := by rw [tlR] at g3 ⊢; exact num_room (k := 8) g3
  have h3 : (tmN r).2.rest.size + 4 = (tlR r).2.rest.size := by rw [tmN] at g4 ⊢; exact num_room (k := 4) g4
  have h4 : (tmR r).2.rest.size ≤ (tmN r).2.rest.size := by rw [tmR]; exact rdPs_big _ _
  have h5 : (tsN r).2.rest.size + 4 = (tmR r).2.rest.size := by rw [tsN] at g6 ⊢; exact num_room (k := 4) g6
  have h6 : (tsR r).2.rest.size ≤ (tsN r).2.rest.size := by rw [tsR]; exact rdPs_big _ _
  omega
theorem rdTs_zero (r : Rd) : rdTs r 0 = ([], r) := by rw [rdTs]
theorem rdTs_room {r : Rd} (k : Nat) : (rdTs r k).2.short = false → (rdTs r k).2.rest.size + 17 * k ≤ r.rest.size := by
  induction k with
  | zero => intro _; rw [rdTs_zero]; exact Nat.le_refl _
  | succ k ih =>
    intro h
    have hk : (rdTs r k).2.short = false := by
      cases hs : (rdTs r k).2.short with
      | false => rfl
      | true => rw [rdts_short hs (k + 1) (by omega)] at h; exact h
    have h1 := ih hk
    rw [rdTs_succ] at h ⊢
    have h2 : (tenR (rdTs r k).2).2.short = false → _ := ten_room (r := (rdTs r k).2)
    generalize tenR (rdTs r k).2 = A at *
    have h3 := h2 h
    show A.2.rest.size + _ ≤ _
    omega

/-- What has been written is read again. -/
theorem pr_full {r : Rd} {x : PairD} {q : ByteArray} (h : r.rest = encP x ++ q) (hx : x.s.size ≤ 65535) (hn : I64p x.n) : prR r = (x, ⟨q, r.short⟩) := by
  have h1 : textR 2 r = (x.s, ⟨numS 8 x.n ++ q, r.short⟩) := text_full (by rw [h]; apply bext; simp [encP, s16B]) (by omega)
  have h2 : numR 8 (textR 2 r).2 = (beL (numS 8 x.n).data.toList, ⟨q, r.short⟩) := by rw [h1]; exact num_full (r := ⟨numS 8 x.n ++ q, r.short⟩) rfl
  unfold prR
  rw [h2, h1]
  simp only [be_numS8 x.n ⟨hn.1, hn.2⟩]
theorem rdps_full {r : Rd} {xs : List PairD} {q : ByteArray} (h : r.rest = encPs xs ++ q) (hx : allP xs) (hn : RngP xs) : ∀ k, k ≤ xs.length → rdPs r k = (xs.take k, ⟨encPs (xs.drop k) ++ q, r.short⟩)
  | 0, _ => by
    cases r
    simp only at h
    simp [rdPs, h]
  | k + 1, hk => by
    have ih := rdps_full h hx hn k (by omega)
    have e : encPs (xs.drop k) ++ q = encP xs[k] ++ (encPs (xs.drop (k + 1)) ++ q) := by
      rw [List.drop_eq_getElem_cons (by omega)]
      apply bext
      simp [encPs]
    have hl := pr_full (r := ⟨encPs (xs.drop k) ++ q, r.short⟩) e (hx k (by omega)) (hn k (by omega))
    rw [rdPs_succ, ih, hl, List.take_succ_eq_append_getElem (by omega)]
theorem rdps_all {xs : List PairD} {q : ByteArray} {b : Bool} (hx : allP xs) (hn : RngP xs) : rdPs ⟨encPs xs ++ q, b⟩ xs.length = (xs, ⟨q, b⟩) := by
  rw [rdps_full (r := ⟨encPs xs ++ q, b⟩) rfl hx hn xs.length (Nat.le_refl _)]
  simp [encPs]
theorem num_all {k : Nat} {v : Nat} {q : ByteArray} {b : Bool} (h : v < 256 ^ k) : numR k ⟨numS k (v : Nat) ++ q, b⟩ = (v, ⟨q, b⟩) := by
  have := num_full (k := k) (r := ⟨numS k (v : Nat) ++ q, b⟩) (v := (v : Nat)) rfl
  rw [this, be_numS k _ h]
theorem ten_full {r : Rd} {t : TenD} {q : ByteArray} (h : r.rest = encT t ++ q) (hx : tenOKb t) (hl : I64p t.limit) (hm : RngP t.mets) (hs : RngP t.sers) (h1 : t.mets.length < 4294967296) (h2 : t.sers.length < 4294967296) : tenR r = (t, ⟨q, r.short⟩) := by
  have e1 : tnR r = (t.name, ⟨numS 8 t.limit ++ (numS 4 (t.mets.length : Nat) ++ (encPs t.mets ++ (numS 4 (t.sers.length : Nat) ++ (encPs t.sers ++ q)))), r.short⟩) :=
    text_full (by rw [h]; apply bext; simp [encT, tenHead, s8B]) (by have := hx.1; omega)
  have e2 : tlR r = (beL (numS 8 t.limit).data.toList, ⟨numS 4 (t.mets.length : Nat) ++ (encPs t.mets ++ (numS 4 (t.sers.length : Nat) ++ (encPs t.sers ++ q))), r.short⟩) := by
    unfold tlR; rw [e1]; exact num_full (k := 8) (r := ⟨_, _⟩) rfl
  have e3 : tmN r = (t.mets.length, ⟨encPs t.mets ++ (numS 4 (t.sers.length : Nat) ++ (encPs t.sers ++ q)), r.short⟩) := by
    unfold tmN; rw [e2]; exact num_all (by omega)
  have e4 : tmR r = (t.mets, ⟨numS 4 (t.sers.length : Nat) ++ (encPs t.sers ++ q), r.short⟩) := by
    unfold tmR; rw [e3]; exact rdps_all hx.2.1 hm
  have e5 : tsN r = (t.sers.length, ⟨encPs t.sers ++ q, r.short⟩) := by
    unfold tsN; rw [e4]; exact num_all (by omega)
  have e6 : tsR r = (t.sers, ⟨q, r.short⟩) := by
    unfold tsR; rw [e5]; exact rdps_all hx.2.2 hs
  unfold tenR
  rw [e1, e2, e4, e6]
  simp only [be_numS8 t.limit ⟨hl.1, hl.2⟩]
theorem rdts_full {r : Rd} {xs : List TenD} {q : ByteArray} (h : r.rest = encTs xs ++ q) (hx : ∀ i (h : i < xs.length), tenOKb xs[i]) (hn : RngT xs) (hc : ∀ i (h : i < xs.length), xs[i].mets.length < 4294967296 ∧ xs[i].sers.length < 4294967296) : ∀ k, k ≤ xs.length → rdTs r k = (xs.take k, ⟨encTs (xs.drop k) ++ q, r.short⟩)
  | 0, _ => by
    cases r
    simp only at h
    simp [rdTs, h]
  | k + 1, hk => by
    have ih := rdts_full h hx hn hc k (by omega)
    have e : encTs (xs.drop k) ++ q = encT xs[k] ++ (encTs (xs.drop (k + 1)) ++ q) := by
      rw [List.drop_eq_getElem_cons (by omega)]
      apply bext
      simp [encTs]
    obtain ⟨n1, n2, n3⟩ := hn k (by omega)
    obtain ⟨c1, c2⟩ := hc k (by omega)
    have hl := ten_full (r := ⟨encTs (xs.drop k) ++ q, r.short⟩) e (hx k (by omega)) n1 n2 n3 c1 c2
    rw [rdTs_succ, ih, hl, List.take_succ_eq_append_getElem (by omega)]
theorem sta_full {lsn now : Int} {ts : List TenD} (hb : staOK lsn ts) (hw : I64p now) (hn : RngT ts) (hl : ts.length < 4294967296) (hc : ∀ i (h : i < ts.length), ts[i].mets.length < 4294967296 ∧ ts[i].sers.length < 4294967296) :
    wrapN (slR (staB lsn now ts)).1 = lsn ∧ wrapN (snR (staB lsn now ts)).1 = now ∧ (scR (staB lsn now ts)).1 = ts.length ∧ (staR (staB lsn now ts)).1 = ts ∧ (staR (staB lsn now ts)).2.short = false := by
  have e0 : ckR (staB lsn now ts) = (ckB, ⟨numS 8 lsn ++ (numS 8 now ++ (numS 4 (ts.length : Nat) ++ (encTs ts ++ numS 4 (crcV (staX lsn now ts) : Nat)))), false⟩) :=
    take_full (n := 4) (r := ⟨staB lsn now ts, false⟩) (by show staB lsn now ts = _; rw [staB_ok hb]; apply bext; simp [staX, staHead]) rfl
  have e1 : slR (staB lsn now ts) = (beL (numS 8 lsn).data.toList, ⟨numS 8 now ++ (numS 4 (ts.length : Nat) ++ (encTs ts ++ numS 4 (crcV (staX lsn now ts) : Nat))), false⟩) := by
    unfold slR; rw [e0]; exact num_full (k := 8) (r := ⟨_, _⟩) rfl
  have e2 : snR (staB lsn now ts) = (beL (numS 8 now).data.toList, ⟨numS 4 (ts.length : Nat) ++ (encTs ts ++ numS 4 (crcV (staX lsn now ts) : Nat)), false⟩) := by
    unfold snR; rw [e1]; exact num_full (k := 8) (r := ⟨_, _⟩) rfl
  have e3 : scR (staB lsn now ts) = (ts.length, ⟨encTs ts ++ numS 4 (crcV (staX lsn now ts) : Nat), false⟩) := by
    unfold scR; rw [e2]; exact num_all (by omega)
  have e4 := rdts_full (r := ⟨encTs ts ++ numS 4 (crcV (staX lsn now ts) : Nat), false⟩) rfl hb.2.2 hn hc ts.length (Nat.le_refl _)
  refine ⟨by rw [e1]; exact be_numS8 lsn ⟨by have := hb.1; omega, by have := hb.2.1; omega⟩, by rw [e2]; exact be_numS8 now ⟨hw.1, hw.2⟩, by rw [e3], ?_, ?_⟩
  · unfold staR; rw [e3, e4]; simp
  · unfold staR; rw [e3, e4]

/-- The numbers that are read are numbers of 64 bits. -/
theorem rdPs_rng {r : Rd} : ∀ k, RngP (rdPs r k).1
  | 0 => fun i h => absurd h (by simp [rdPs])
  | k + 1 => by
    intro i h
    rw [rdPs_length] at h
    simp only [rdPs_succ]
    rw [List.getElem_append]
    split
    · rename_i hi; exact rdPs_rng k i hi
    · simp only [List.getElem_singleton]
      rw [prR_fst]
      exact wrapN_rng _
theorem tenR_rng (r : Rd) : I64p (tenR r).1.limit ∧ RngP (tenR r).1.mets ∧ RngP (tenR r).1.sers := by
  have h1 : RngP (tmR r).1 := by rw [tmR]; exact rdPs_rng _
  have h2 : RngP (tsR r).1 := by rw [tsR]; exact rdPs_rng _
  have h3 : I64p (wrapN (tlR r).1) := wrapN_rng (tlR r).1
  rw [tenR_fst]
  generalize tmR r = A at *
  generalize tsR r = B at *
  generalize wrapN (tlR r).1 = C at *
  exact ⟨h3, h1, h2⟩
theorem rdTs_rng {r : Rd} : ∀ k, RngT (rdTs r k).1
  | 0 => fun i h => absurd h (by simp [rdTs])
  | k + 1 => by
    intro i h
    rw [rdTs_length] at h
    simp only [rdTs_succ]
    rw [List.getElem_append]
    split
    · rename_i hi; exact rdTs_rng k i hi
    · simp only [List.getElem_singleton]
      exact tenR_rng _
/-- A text of a state is longer than its lists. -/
theorem encTs_room : ∀ (ts : List TenD) (i : Nat) (h : i < ts.length), ts.length ≤ (encTs ts).size ∧ ts[i].mets.length ≤ (encTs ts).size ∧ ts[i].sers.length ≤ (encTs ts).size
  | t :: q, 0, _ => by
    have e : (encTs (t :: q)).size = (encT t).size + (encTs q).size := by show (encT t ++ encTs q).size = _; rw [ByteArray.size_append]
    have e2 := encT_size t
    have e3 : q.length ≤ (encTs q).size := by
      cases q with
      | nil => simp
      | cons a b => exact (encTs_room (a :: b) 0 (by simp)).1
    simp only [List.length_cons, List.getElem_cons_zero]
    omega
  | t :: q, i + 1, h => by
    have e : (encTs (t :: q)).size = (encT t).size + (encTs q).size := by show (encT t ++ encTs q).size = _; rw [ByteArray.size_append]
    have e2 := encT_size t
    have h' : i < q.length := by simp at h; omega
    obtain ⟨a, b, c⟩ := encTs_room q i h'
    simp only [List.length_cons, List.getElem_cons_succ]
    omega
end Go.Proofs.YtoecnlhnfhongaaGreatDoor

namespace Go.Proofs.YtoecnlhnfhongaaGreatDoor
open Go.RowKit

/-- Nothing is appended, whatever the address and the cap of what is empty. -/
theorem run_append_empty {P : Program} {w : World} (base : Nat) (t ty e : TypeId) (i : TypeInfo) (size : Nat) (ht : P.underlying t = some (.slice e)) (hi : P.info? e = some i)
    (v : Value) (n : Nat) (xs : List Value) (hown : w.ownsRow base e size v n xs) (a2 : Option Addr) (c2 : Nat) :
    (Builtin.append_ #[t, t] ty #[v, .slice a2 0 c2]).run P w = .ok v w := by
  have hl : ∀ ad : Addr, (loadCells ad 0).run P w = .ok #[] w := fun ad => by
    simp [loadCells, loadCellsFrom]
  rcases hown.2 with ⟨rfl, rfl⟩ | ⟨g, cap, cur, rfl, _, _, hnc, _⟩
  · cases a2 <;> simp [Builtin.append_, run_underlying ht, sizeOf, typeInfo, hi, Builtin.lenOf, Builtin.firstCells, hl]
  · cases a2 <;> simp [Builtin.append_, run_underlying ht, sizeOf, typeInfo, hi, Builtin.lenOf, Builtin.firstCells, hnc, storeCells, hl]
theorem wpList_append_empty {P : Program} {w : World} {ops : Array Oper} {rest : List Oper} {o : Oper} {a : Act} {Q : Exit → Act → World → Prop} (hgd : o.guard = none) (s x : Operand) (t : TypeId)
    (ho : o.op = .call { callee := .builtin .append, args := #[s, x], argTypes := #[t, t] })
    (base : Nat) (e : TypeId) (i : TypeInfo) (size : Nat) (ht : P.underlying t = some (.slice e)) (hi : P.info? e = some i)
    (v : Value) (n : Nat) (xs : List Value) (hs : a.eval s = v) (hown : w.ownsRow base e size v n xs) (a2 : Option Addr) (c2 : Nat) (hx : a.eval x = .slice a2 0 c2)
    (h : wpList P ops Q rest (a.put o.dst v) w) : wpList P ops Q (o :: rest) a w := by
  refine wpList_plain hgd fun K hK => ?_
  have hrun := run_append_empty (P := P) (w := w) base t o.type e i size ht hi v n xs hown a2 c2
  unfold Oper.wp
  simp [execOp, ho, resolve, invoke, builtin, hs, hx, hrun, Result.andThen]
  exact hK _ _ h
end Go.Proofs.YtoecnlhnfhongaaGreatDoor

namespace Go.Proofs.YtoecnlhnfhongaaGreatDoor
open Go.RowKit

theorem row_from {w : World} {B : Nat} {e : TypeId} {size : Nat} {v : Value} {n : Nat} {xs : List Value} (h : w.ownsRow B e size v n xs) : ∀ g, v.ownBlock = some g → B ≤ g := by
  intro g hg
  rcases h.2 with ⟨rfl, _⟩ | ⟨g', cap, cur, rfl, hB, _⟩
  · simp [Value.ownBlock] at hg
  · simp [Value.ownBlock] at hg
    subst hg
    exact hB
def SrcAt (w : World) (ad : Option Addr) (m : Nat) (news : List Value) : Prop := m = 0 ∨ ∃ A, ad = some A ∧ ∀ j u, news[j]? = some u → w.cell? (A.add j) = some u
theorem addr_add (b o j : Nat) : (⟨b, o, none⟩ : Addr).add j = ⟨b, o + j, none⟩ := by unfold Addr.add; split <;> simp_all
theorem bel_a (W : World) (x : Obj) : Below W.heap.size W (W.alloc x).drew := (bnew _ _).drew
theorem bel_b (W : World) (x y : Obj) : Below W.heap.size W ((W.alloc x).alloc y).drew := (bto (bnew _ _) (bnew _ _)).drew
/-- An append of labels, many or none, onto a slice that is not nil, at a step of a region that draws its order. -/
theorem step_append_any {P : Program} (w : World) {ops : Array Oper} {o : Oper} {a : Act} {K : Act → World → Prop} {Q : Exit → Act → World → Prop} {E : Prop} (hgd : o.guard = none) (s x : Operand) (t : TypeId)
    (ho : o.op = .call { callee := .builtin .append, args := #[s, x], argTypes := #[t, t] })
    (base : Nat) (e : TypeId) (i : TypeInfo) (z : Value) (size bytes : Nat) (ht : P.underlying t = some (.slice e)) (hi : P.info? e = some i) (hz : i.zero = some z)
    (hsize : i.size = size) (hby : i.bytes = bytes) (hzs : z.cells.size = size) (hsz : 0 < size)
    (g0 n c0 : Nat) (xs : List Value) (hs : a.eval s = .slice (some ⟨g0, 0, none⟩) n c0) (hown : w.ownsRow base e size (.slice (some ⟨g0, 0, none⟩) n c0) n xs)
    (ad : Option Addr) (m c : Nat) (news : List Value) (hx : a.eval x = .slice ad m c) (hl : news.length = m * size) (hsrc : SrcAt w ad m news) (h1 : ∀ u ∈ news, u.oneCell' = true)
    (h63 : n + m ≤ maxLen) (hbytes : (n + m) * bytes ≤ 140737488355328) (hbase : base ≤ w.heap.size)
    (h : ∀ g cap w', w'.ownsRow base e size (.slice (some ⟨g, 0, none⟩) (n + m) cap) (n + m) (xs ++ news) → Below base w w' → (∀ k, k < w.heap.size → k ≠ g0 → w'.heap[k]? = w.heap[k]?) → base ≤ g → (g = g0 ∨ g = w.heap.size) → g < w'.heap.size → K (a.put o.dst (.slice (some ⟨g, 0, none⟩) (n + m) cap)) w') :
    if Region.wanted o (yielded ops a.tmps) = true then Oper.wp P o a w K Q else E := by
  have hg0 : base ≤ g0 := row_from hown g0 rfl
  rcases Nat.eq_zero_or_pos m with rfl | hm
  · have hw : Region.wanted o (yielded ops a.tmps) = true := by simp [Region.wanted, hgd]
    rw [if_pos hw]
    have hnil : news = [] := List.length_eq_zero_iff.1 (by omega)
    subst hnil
    have hrun := run_append_empty (P := P) (w := w) base t o.type e i size ht hi _ n xs hown ad c
    have hK := h g0 c0 w (by rw [List.append_nil]; exact hown) (Below.refl _ _) (fun _ _ _ => rfl) hg0 (Or.inl rfl) (by
      rcases hown.2 with ⟨he, _⟩ | ⟨g', cap', cur, he, _, hb, _⟩
      · simp at he
      · simp only [Value.slice.injEq, Option.some.injEq, Addr.mk.injEq, and_true] at he
        rw [he.1]; exact lt_of_block hb)
    unfold Oper.wp execOp
    simp only [ho, resolve, invoke, builtin, Sem.run_bind, Sem.run_pure, Result.andThen_ok, List.map_toArray, List.map_cons, List.map_nil, hs, hx, hrun]
    exact hK
  · rcases hsrc with h0 | ⟨A, rfl, hnews⟩
    · omega
    refine step_append_lies w hgd s x t ho base e i z size bytes ht hi hz hsize hby hzs hsz _ n xs hs hown A m c news hx hl hnews h1 hm h63 hbytes hbase w.heap.size rfl fun g cap w' h2 h3 h4 h5 => ?_
    have hg : g = g0 ∨ g = w.heap.size := by
      rcases h4 with h4 | h4
      · left; simpa [Value.ownBlock] using h4.symm
      · exact Or.inr h4
    refine h g cap w' h2 ((Below.refl base w).grown h3 hbase (fun q hq => row_from hown q hq)) (fun k hk hne => h3.block k hk (by simp [Value.ownBlock]; omega)) ?_ hg h5
    rcases hg with rfl | rfl
    · exact hg0
    · exact hbase
end Go.Proofs.YtoecnlhnfhongaaGreatDoor

