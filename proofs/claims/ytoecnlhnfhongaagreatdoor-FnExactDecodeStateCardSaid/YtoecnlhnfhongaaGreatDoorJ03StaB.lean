import Derived.Test.YtoecnlhnfhongaaGreatDoorJ02BatL
import Derived.Test.YtoecnlhnfhongaaGreatDoorJ01RdL
import Derived.Laws.Bits64
namespace Go.Proofs.YtoecnlhnfhongaaGreatDoor
open Go.RowKit

def recR (r : Rd) : RecD × Rd :=
  (⟨((numR 1 r).1 : Nat), (textR 1 (numR 1 r).2).1, (textR 2 (textR 1 (numR 1 r).2).2).1, wrapN (numR 8 (textR 2 (textR 1 (numR 1 r).2).2).2).1⟩, (numR 8 (textR 2 (textR 1 (numR 1 r).2).2).2).2)
theorem recR_snd (r : Rd) : (recR r).2 = (numR 8 (textR 2 (textR 1 (numR 1 r).2).2).2).2 := by rw [recR]
theorem recR_fst (r : Rd) : (recR r).1 = ⟨((numR 1 r).1 : Nat), (textR 1 (numR 1 r).2).1, (textR 2 (textR 1 (numR 1 r).2).2).1, wrapN (numR 8 (textR 2 (textR 1 (numR 1 r).2).2).2).1⟩ := by rw [recR]
def rdRs (r : Rd) : Nat → List RecD × Rd
  | 0 => ([], r)
  | k + 1 => ((rdRs r k).1 ++ [(recR (rdRs r k).2).1], (recR (rdRs r k).2).2)
theorem rdRs_succ (r : Rd) (k : Nat) : rdRs r (k + 1) = ((rdRs r k).1 ++ [(recR (rdRs r k).2).1], (recR (rdRs r k).2).2) := by rw [rdRs]
theorem rdRs_length (r : Rd) : ∀ k, (rdRs r k).1.length = k
  | 0 => rfl
  | k + 1 => by rw [rdRs]; simp [rdRs_length r k]
def lsnR (s : ByteArray) : Nat × Rd := numR 8 ⟨s, false⟩
def cntB (s : ByteArray) : Nat × Rd := numR 2 (lsnR s).2
def batR (s : ByteArray) : List RecD × Rd := rdRs (cntB s).2 (cntB s).1
def decB (s : ByteArray) : Int × List RecD × Bool := if (batR s).2.short = false ∧ batB (wrapN (lsnR s).1) (batR s).1 = s then (wrapN (lsnR s).1, (batR s).1, true) else (0, [], false)

theorem rec_short {r : Rd} (h : r.short = true) : (recR r).2.short = true := by
  rw [recR_snd]
  exact num_short (k := 8) (text_short (k := 2) (text_short (k := 1) (num_short (k := 1) h)))
theorem rds_short {r : Rd} {k : Nat} (h : (rdRs r k).2.short = true) : ∀ m, k ≤ m → (rdRs r m).2.short = true := by
  intro m hm
  induction m with
  | zero => rw [show k = 0 by omega] at h; exact h
  | succ m ih =>
    rcases Nat.eq_or_lt_of_le hm with rfl | hlt
    · exact h
    · rw [rdRs_succ]
      have := rec_short (ih (by omega))
      generalize recR (rdRs r m).2 = R at *
      exact this

theorem rec_full {r : Rd} {x : RecD} {q : ByteArray} (h : r.rest = encR x ++ q) (hx : recOK x) (hn : I64 x.num) : recR r = (x, ⟨q, r.short⟩) := by
  have e0 : r.rest = numS 1 x.kind ++ (s8B x.tenant ++ (s16B x.text ++ (numS 8 x.num ++ q))) := by rw [h]; apply bext; simp [encR]
  have h0 := num_full e0
  have hk : ((beL (numS 1 x.kind).data.toList : Nat) : Int) = x.kind := by
    obtain ⟨_, _, h | h | h⟩ := hx
    · rw [h.1]; exact congrArg Int.ofNat (be_numS 1 1 (by decide))
    · rw [h.1]; exact congrArg Int.ofNat (be_numS 1 2 (by decide))
    · rw [h]; exact congrArg Int.ofNat (be_numS 1 3 (by decide))
  have h1 : textR 1 (numR 1 r).2 = (x.tenant, ⟨s16B x.text ++ (numS 8 x.num ++ q), r.short⟩) := by
    rw [h0]
    exact text_full (r := ⟨s8B x.tenant ++ (s16B x.text ++ (numS 8 x.num ++ q)), r.short⟩) (by show s8B x.tenant ++ (s16B x.text ++ (numS 8 x.num ++ q)) = _; apply bext; simp [s8B]) (by have := hx.1; omega)
  have h2 : textR 2 (textR 1 (numR 1 r).2).2 = (x.text, ⟨numS 8 x.num ++ q, r.short⟩) := by
    rw [h1]
    exact text_full (r := ⟨s16B x.text ++ (numS 8 x.num ++ q), r.short⟩) (by show s16B x.text ++ (numS 8 x.num ++ q) = _; apply bext; simp [s16B]) (by have := hx.2.1; omega)
  have h3 : numR 8 (textR 2 (textR 1 (numR 1 r).2).2).2 = (beL (numS 8 x.num).data.toList, ⟨q, r.short⟩) := by
    rw [h2]
    exact num_full (r := ⟨numS 8 x.num ++ q, r.short⟩) rfl
  unfold recR
  rw [h3, h2, h1, h0]
  simp only [be_numS8 _ hn, hk]
theorem rds_full {r : Rd} {xs : List RecD} {q : ByteArray} (h : r.rest = encRs xs ++ q) (hx : allR xs) (hn : RngR xs) : ∀ k, k ≤ xs.length → rdRs r k = (xs.take k, ⟨encRs (xs.drop k) ++ q, r.short⟩)
  | 0, _ => by
    cases r
    simp only at h
    simp [rdRs, h]
  | k + 1, hk => by
    have ih := rds_full h hx hn k (by omega)
    have e : encRs (xs.drop k) ++ q = encR xs[k] ++ (encRs (xs.drop (k + 1)) ++ q) := by
      rw [List.drop_eq_getElem_cons (by omega)]
      apply bext
      simp [encRs]
    have hl := rec_full (r := ⟨encRs (xs.drop k) ++ q, r.short⟩) e (hx k (by omega)) (hn k (by omega)).2
    rw [rdRs_succ, ih, hl, List.take_succ_eq_append_getElem (by omega)]
/-- What has been written is read again. -/
theorem bat_full {lsn : Int} {xs : List RecD} (hb : batOK lsn xs) (hn : RngR xs) : wrapN (lsnR (batB lsn xs)).1 = lsn ∧ (cntB (batB lsn xs)).1 = xs.length ∧ batR (batB lsn xs) = (xs, ⟨ByteArray.empty, false⟩) := by
  obtain ⟨b1, b2, b3, b4, b5⟩ := hb
  have e0 : (⟨batB lsn xs, false⟩ : Rd).rest = numS 8 lsn ++ (numS 2 (xs.length : Nat) ++ (encRs xs ++ ByteArray.empty)) := by
    show batB lsn xs = _
    rw [batB_ok ⟨b1, b2, b3, b4, b5⟩]; apply bext; simp [batHead]
  have h0 : lsnR (batB lsn xs) = _ := num_full e0
  have h1 : cntB (batB lsn xs) = (xs.length, ⟨encRs xs ++ ByteArray.empty, false⟩) := by
    unfold cntB
    rw [h0]
    have := num_full (k := 2) (r := ⟨numS 2 (xs.length : Nat) ++ (encRs xs ++ ByteArray.empty), false⟩) (v := (xs.length : Nat)) rfl
    rw [this, be_numS 2 _ (by omega)]
  refine ⟨by rw [h0]; exact be_numS8 _ ⟨by omega, by omega⟩, by rw [h1], ?_⟩
  unfold batR
  rw [h1]
  have := rds_full (r := ⟨encRs xs ++ ByteArray.empty, false⟩) rfl b5 hn xs.length (Nat.le_refl _)
  rw [this]
  simp [encRs]
theorem recR_rng (r : Rd) : I64 (recR r).1.kind ∧ I64 (recR r).1.num := by
  have h1 := num_lt 1 r
  have h2 := wrapN_rng (numR 8 (textR 2 (textR 1 (numR 1 r).2).2).2).1
  rw [recR_fst]
  generalize wrapN (numR 8 (textR 2 (textR 1 (numR 1 r).2).2).2).1 = Z at *
  generalize (numR 1 r).1 = N at *
  exact ⟨⟨by show (_ : Int) ≤ (N : Int); omega, by show (N : Int) ≤ _; omega⟩, h2⟩
theorem rds_rng {r : Rd} : ∀ k, RngR (rdRs r k).1
  | 0 => fun i h => absurd h (by simp [rdRs])
  | k + 1 => by
    intro i h
    rw [rdRs_length] at h
    simp only [rdRs_succ]
    rw [List.getElem_append]
    split
    · rename_i hi; exact rds_rng k i hi
    · simp only [List.getElem_singleton]
      exact recR_rng _
/-- The batch that a text is, whoever names it: what is read. -/
theorem dec_of {s : ByteArray} {lsn : Int} {xs : List RecD} (hs : s.size ≠ 0) (hn : RngR xs) (h : batB lsn xs = s) : decB s = (lsn, xs, true) := by
  have hb : batOK lsn xs := by
    by_cases hb : batOK lsn xs
    · exact hb
    · rw [batB_no hb] at h; rw [← h] at hs; exact absurd rfl hs
  subst h
  obtain ⟨h1, _, h3⟩ := bat_full hb hn
  unfold decB
  rw [h1, h3, if_pos ⟨rfl, rfl⟩]
theorem dec_short {s : ByteArray} (h : (batR s).2.short = true) : decB s = (0, [], false) := by
  unfold decB; rw [if_neg]; rw [h]; simp
theorem dec_ne {s : ByteArray} (h : batB (wrapN (lsnR s).1) (batR s).1 ≠ s) : decB s = (0, [], false) := by
  unfold decB; rw [if_neg]; exact fun hh => h hh.2
theorem dec_eq {s : ByteArray} (h : batB (wrapN (lsnR s).1) (batR s).1 = s) (h2 : (batR s).2.short = false) : decB s = (wrapN (lsnR s).1, (batR s).1, true) := by
  unfold decB; rw [if_pos ⟨h2, h⟩]
end Go.Proofs.YtoecnlhnfhongaaGreatDoor

namespace Go.Proofs.YtoecnlhnfhongaaGreatDoor
open Go.RowKit

structure PairD where
  s : ByteArray
  n : Int

/-- The pairs ls lie from ⟨b, o⟩ on, two cells each. -/
def PairsAt (w : World) (b o : Nat) (ls : List PairD) : Prop :=
  ∀ i (h : i < ls.length), w.cell? ⟨b, o + i * 2, none⟩ = some (.string ls[i].s) ∧ w.cell? ⟨b, o + i * 2 + 1, none⟩ = some (.int .i64 ls[i].n)
/-- A slice's address holds the pairs ls (nothing is asked where there are none). -/
def PairsIn (w : World) (a : Option Addr) (ls : List PairD) : Prop := ls = [] ∨ ∃ b o, a = some ⟨b, o, none⟩ ∧ b < w.heap.size ∧ PairsAt w b o ls
theorem PairsIn.later {w w' : World} {a : Option Addr} {ls : List PairD} (h : PairsIn w a ls) (hb : Below w.heap.size w w') : PairsIn w' a ls := by
  rcases h with h | ⟨b, o, rfl, hlt, h⟩
  · exact Or.inl h
  · refine Or.inr ⟨b, o, rfl, Nat.lt_of_lt_of_le hlt hb.size, fun i hi => ?_⟩
    obtain ⟨h1, h2⟩ := h i hi
    exact ⟨by rw [← h1]; exact hb.cell hlt, by rw [← h2]; exact hb.cell hlt⟩
theorem PairsIn.at {w : World} {a : Option Addr} {ls : List PairD} (h : PairsIn w a ls) {i : Nat} (hi : i < ls.length) :
    ∃ b o, a = some ⟨b, o, none⟩ ∧ b < w.heap.size ∧ w.cell? ⟨b, o + i * 2, none⟩ = some (.string ls[i].s) ∧ w.cell? ⟨b, o + i * 2 + 1, none⟩ = some (.int .i64 ls[i].n) := by
  rcases h with rfl | ⟨b, o, rfl, hlt, h⟩
  · exact absurd hi (by simp)
  · exact ⟨b, o, rfl, hlt, h i hi⟩
theorem PairsIn.but {g : Nat} {w w' : World} {a : Option Addr} {l : List PairD} (h : PairsIn w a l) (hb : But g w w') (hg : l = [] ∨ ∃ b o, a = some ⟨b, o, none⟩ ∧ b ≠ g) : PairsIn w' a l := by
  rcases hg with hg | ⟨b, o, rfl, hne⟩
  · exact Or.inl hg
  · rcases h with h | ⟨b', o', e, hlt, h⟩
    · exact Or.inl h
    · simp only [Option.some.injEq, Addr.mk.injEq, and_true] at e
      obtain ⟨rfl, rfl⟩ := e
      have hk : ∀ j, w'.cell? ⟨b, j, none⟩ = w.cell? ⟨b, j, none⟩ := fun j => World.cell?_of_block (hb.block b hlt hne)
      exact Or.inr ⟨b, o, rfl, Nat.lt_of_lt_of_le hlt hb.size, fun i hi => by simp only [hk]; exact h i hi⟩
theorem PairsIn.take {w : World} {a : Option Addr} {ls : List PairD} (h : PairsIn w a ls) (n : Nat) : PairsIn w a (ls.take n) := by
  rcases h with h | ⟨b, o, e, hlt, h⟩
  · exact Or.inl (by rw [h]; simp)
  · refine Or.inr ⟨b, o, e, hlt, fun i hi => ?_⟩
    rw [List.getElem_take]
    exact h i (by simp at hi; omega)

/-- The pairs lie in a block of their own, from B on, that may be written. -/
def PairsOwn (w : World) (B : Nat) (a : Option Addr) (ls : List PairD) : Prop :=
  ls = [] ∨ ∃ g o cur t, a = some ⟨g, o, none⟩ ∧ B ≤ g ∧ w.heap[g]? = some (.cells cur t (0, 0)) ∧ PairsAt w g o ls
theorem PairsOwn.pairs {w : World} {B : Nat} {a : Option Addr} {ls : List PairD} (h : PairsOwn w B a ls) : PairsIn w a ls := by
  rcases h with h | ⟨g, o, cur, t, rfl, _, hb, h⟩
  · exact Or.inl h
  · exact Or.inr ⟨g, o, rfl, lt_of_block hb, h⟩
theorem PairsOwn.later {w w' : World} {B : Nat} {a : Option Addr} {ls : List PairD} (h : PairsOwn w B a ls) (hb : Below w.heap.size w w') : PairsOwn w' B a ls := by
  rcases h with h | ⟨g, o, cur, t, rfl, hB, hg, h⟩
  · exact Or.inl h
  · have hlt := lt_of_block hg
    have hk : ∀ j, w'.cell? ⟨g, j, none⟩ = w.cell? ⟨g, j, none⟩ := fun j => World.cell?_of_block (hb.block g hlt)
    exact Or.inr ⟨g, o, cur, t, rfl, hB, (hb.block g hlt).trans hg, fun i hi => by simp only [hk]; exact h i hi⟩
theorem PairsOwn.mono {w : World} {B B' : Nat} {a : Option Addr} {ls : List PairD} (h : PairsOwn w B a ls) (hB : B' ≤ B) : PairsOwn w B' a ls := by
  rcases h with h | ⟨g, o, cur, t, rfl, hB', hg, h⟩
  · exact Or.inl h
  · exact Or.inr ⟨g, o, cur, t, rfl, Nat.le_trans hB hB', hg, h⟩

/-- The cells of pair j, from o on. -/
def RowPair (cur : Array Value) (o j : Nat) (f : PairD) : Prop := cur[o + j * 2]? = some (.string f.s) ∧ cur[o + j * 2 + 1]? = some (.int .i64 f.n)
theorem RowPair.set {cur : Array Value} {o j : Nat} {f : PairD} (h : RowPair cur o j f) {p : Nat} (hp : p < o + j * 2 ∨ o + j * 2 + 1 < p) (v : Value) : RowPair (cur.setIfInBounds p v) o j f := by
  obtain ⟨a1, a2⟩ := h
  refine ⟨?_, ?_⟩
  · rw [Array.getElem?_setIfInBounds_ne (by omega)]; exact a1
  · rw [Array.getElem?_setIfInBounds_ne (by omega)]; exact a2
theorem RowPair.made (cur : Array Value) (o j : Nat) (f : PairD) (h : o + j * 2 + 1 < cur.size) :
    RowPair ((cur.setIfInBounds (o + j * 2) (.string f.s)).setIfInBounds (o + j * 2 + 1) (.int .i64 f.n)) o j f := by
  refine ⟨?_, ?_⟩ <;> simp [Array.getElem?_setIfInBounds] <;> omega
theorem pairsAt_of_rows {w : World} {g o : Nat} {cur : Array Value} {t : TypeId} {fs : List PairD} (h : Blk w g cur t) (hr : ∀ j (hj : j < fs.length), RowPair cur o j fs[j]) : PairsAt w g o fs := by
  intro j hj
  simp only [h.cell]
  exact hr j hj
theorem rows_of_pairsAt {w : World} {g o : Nat} {cur : Array Value} {t : TypeId} {fs : List PairD} (h : Blk w g cur t) (hf : PairsAt w g o fs) : ∀ j (hj : j < fs.length), RowPair cur o j fs[j] := by
  intro j hj
  have := hf j hj
  simp only [h.cell] at this
  exact this
theorem pairs_size {cur : Array Value} {o : Nat} {fs : List PairD} (hr : ∀ j (hj : j < fs.length), RowPair cur o j fs[j]) : fs.length = 0 ∨ o + fs.length * 2 ≤ cur.size := by
  by_cases h : fs.length = 0
  · exact Or.inl h
  · right
    have := (hr (fs.length - 1) (by omega)).2
    have := (Array.getElem?_eq_some_iff.1 this).1
    omega
theorem pairs_of_row {w : World} {B : Nat} {e : TypeId} {a : Option Addr} {cap : Nat} {l : List PairD}
    (h : w.ownsRow B e 2 (.slice a l.length cap) l.length (l.flatMap fun x => [.string x.s, .int .i64 x.n])) : PairsOwn w B a l := by
  rcases h.2 with ⟨_, hl⟩ | ⟨g, cap', cur, he, hB, hg, _, _, hsz, htk⟩
  · exact Or.inl (List.length_eq_zero_iff.1 hl)
  · simp only [Value.slice.injEq] at he
    have hf : ∀ (l : List PairD) i (hi : i < l.length), (l.flatMap fun x => [Value.string x.s, .int .i64 x.n])[i * 2]? = some (.string l[i].s) ∧ (l.flatMap fun x => [Value.string x.s, .int .i64 x.n])[i * 2 + 1]? = some (.int .i64 l[i].n) := by
      intro l
      induction l with
      | nil => intro i hi; exact absurd hi (by simp)
      | cons x r ih =>
        intro i hi
        cases i with
        | zero => simp
        | succ i =>
          have := ih i (by simpa using hi)
          simp only [List.flatMap_cons, List.cons_append, List.nil_append, List.getElem_cons_succ]
          rw [show (i + 1) * 2 = i * 2 + 1 + 1 by omega, List.getElem?_cons_succ, List.getElem?_cons_succ, List.getElem?_cons_succ, List.getElem?_cons_succ]
          exact this
    refine Or.inr ⟨g, 0, cur, e, he.1, hB, hg, fun i hi => ?_⟩
    have h2 : ∀ j, j < l.length * 2 → cur[j]? = (l.flatMap fun x => [Value.string x.s, .int .i64 x.n])[j]? := fun j hj => by
      rw [← htk, List.getElem?_take_of_lt hj, Array.getElem?_toList]
    rw [cell_of_row w g _ cur _ _ hg, cell_of_row w g _ cur _ _ hg, Nat.zero_add, h2 _ (by omega), h2 _ (by omega)]
    exact hf l i hi

def pairBulk : List PairD → Nat
  | [] => 0
  | f :: r => f.s.size + pairBulk r
theorem pairBulk_append (a b : List PairD) : pairBulk (a ++ b) = pairBulk a + pairBulk b := by
  induction a with
  | nil => simp [pairBulk]
  | cons f r ih => simp [pairBulk, ih]; omega
theorem pairBulk_take_succ (fs : List PairD) (k : Nat) (h : k < fs.length) : pairBulk (fs.take (k + 1)) = pairBulk (fs.take k) + fs[k].s.size := by
  rw [List.take_succ_eq_append_getElem h, pairBulk_append]; simp [pairBulk]
theorem pairBulk_take_le (fs : List PairD) (k : Nat) : pairBulk (fs.take k) ≤ pairBulk fs := by
  have := pairBulk_append (fs.take k) (fs.drop k)
  rw [List.take_append_drop] at this; omega
def szPair (left : Int) (f : PairD) : Int := if (f.s.size : Int) ≤ left then left - f.s.size else -1
def szPairs (left : Int) (fs : List PairD) : Int := if (fs.length + pairBulk fs : Int) ≤ left then left - fs.length - pairBulk fs else -1
def ShortP (fs : List PairD) : Prop := ∀ i (h : i < fs.length), fs[i].s.size ≤ maxLen

def markP (k : Nat) (i : Nat) : PairD := ⟨mt (k + 2 * i), ((k + 2 * i + 1 : Nat) : Int)⟩
def markPairs (k n : Nat) : List PairD := (List.range n).map (markP k)
theorem markPairs_length (k n : Nat) : (markPairs k n).length = n := by simp [markPairs]
theorem markPairs_get (k n i : Nat) (h : i < (markPairs k n).length) : (markPairs k n)[i] = markP k i := by simp [markPairs]
end Go.Proofs.YtoecnlhnfhongaaGreatDoor

namespace Go.Proofs.YtoecnlhnfhongaaGreatDoor
open Go.RowKit

theorem PairsOwn.but {g b o B : Nat} {w w' : World} {fs : List PairD} (h : PairsOwn w B (some ⟨b, o, none⟩) fs) (hb : But g w w') (hg : b ≠ g) : PairsOwn w' B (some ⟨b, o, none⟩) fs := by
  rcases h with h | ⟨b', o', cur, t, e, hB, hblk, h⟩
  · exact Or.inl h
  · simp only [Option.some.injEq, Addr.mk.injEq, and_true] at e
    obtain ⟨rfl, rfl⟩ := e
    have hk := hb.block b (lt_of_block hblk) hg
    have hc : ∀ j, w'.cell? ⟨b, j, none⟩ = w.cell? ⟨b, j, none⟩ := fun j => World.cell?_of_block hk
    exact Or.inr ⟨b, o, cur, t, rfl, hB, hk.trans hblk, fun i hi => by simp only [hc]; exact h i hi⟩

structure TenD where
  name : ByteArray
  limit : Int
  mets : List PairD
  sers : List PairD

/-- The four cells of a tenant lie at ⟨b, o⟩. -/
def TenAt (w : World) (b o : Nat) (t : TenD) : Prop :=
  ∃ a1 c1 a2 c2, w.cell? ⟨b, o, none⟩ = some (.string t.name) ∧ w.cell? ⟨b, o + 1, none⟩ = some (.int .i64 t.limit) ∧ w.cell? ⟨b, o + 2, none⟩ = some (.slice a1 t.mets.length c1) ∧ w.cell? ⟨b, o + 3, none⟩ = some (.slice a2 t.sers.length c2) ∧
    PairsIn w a1 t.mets ∧ PairsIn w a2 t.sers
def TensAt (w : World) (b o : Nat) (ts : List TenD) : Prop := ∀ i (h : i < ts.length), TenAt w b (o + i * 4) ts[i]
/-- A slice's address holds the tenants ts (nothing is asked where there are none). -/
def TensIn (w : World) (a : Option Addr) (ts : List TenD) : Prop := ts = [] ∨ ∃ b o, a = some ⟨b, o, none⟩ ∧ b < w.heap.size ∧ TensAt w b o ts
theorem TenAt.later {w w' : World} {b o : Nat} {t : TenD} (h : TenAt w b o t) (hlt : b < w.heap.size) (hb : Below w.heap.size w w') : TenAt w' b o t := by
  obtain ⟨a1, c1, a2, c2, h0, h1, h2, h3, h4, h5⟩ := h
  exact ⟨a1, c1, a2, c2, (hb.cell hlt).trans h0, (hb.cell hlt).trans h1, (hb.cell hlt).trans h2, (hb.cell hlt).trans h3, h4.later hb, h5.later hb⟩
theorem TensIn.later {w w' : World} {a : Option Addr} {ts : List TenD} (h : TensIn w a ts) (hb : Below w.heap.size w w') : TensIn w' a ts := by
  rcases h with h | ⟨b, o, rfl, hlt, h⟩
  · exact Or.inl h
  · exact Or.inr ⟨b, o, rfl, Nat.lt_of_lt_of_le hlt hb.size, fun i hi => (h i hi).later hlt hb⟩
theorem TensIn.at {w : World} {a : Option Addr} {ts : List TenD} (h : TensIn w a ts) {i : Nat} (hi : i < ts.length) :
    ∃ b o a1 c1 a2 c2, a = some ⟨b, o, none⟩ ∧ b < w.heap.size ∧ w.cell? ⟨b, o + i * 4, none⟩ = some (.string ts[i].name) ∧ w.cell? ⟨b, o + i * 4 + 1, none⟩ = some (.int .i64 ts[i].limit) ∧
      w.cell? ⟨b, o + i * 4 + 2, none⟩ = some (.slice a1 ts[i].mets.length c1) ∧ w.cell? ⟨b, o + i * 4 + 3, none⟩ = some (.slice a2 ts[i].sers.length c2) ∧ PairsIn w a1 ts[i].mets ∧ PairsIn w a2 ts[i].sers := by
  rcases h with rfl | ⟨b, o, rfl, hlt, h⟩
  · exact absurd hi (by simp)
  · obtain ⟨a1, c1, a2, c2, h⟩ := h i hi
    exact ⟨b, o, a1, c1, a2, c2, rfl, hlt, h⟩

/-- The pairs lie in a block of their own, from B on, that may be written, and bears the tag n. -/
def PairsTag (w : World) (B : Nat) (T : Nat → Nat) (n : Nat) (a : Option Addr) (ps : List PairD) : Prop :=
  ps = [] ∨ ∃ g o cur t, a = some ⟨g, o, none⟩ ∧ B ≤ g ∧ T g = n ∧ w.heap[g]? = some (.cells cur t (0, 0)) ∧ PairsAt w g o ps
theorem PairsTag.pairs {w : World} {B n : Nat} {T : Nat → Nat} {a : Option Addr} {ps : List PairD} (h : PairsTag w B T n a ps) : PairsIn w a ps := by
  rcases h with h | ⟨g, o, cur, t, rfl, _, _, hb, h⟩
  · exact Or.inl h
  · exact Or.inr ⟨g, o, rfl, lt_of_block hb, h⟩
theorem PairsTag.own {w : World} {B n : Nat} {T : Nat → Nat} {a : Option Addr} {ps : List PairD} (h : PairsTag w B T n a ps) : PairsOwn w B a ps := by
  rcases h with h | ⟨g, o, cur, t, e, hB, _, hb, h⟩
  · exact Or.inl h
  · exact Or.inr ⟨g, o, cur, t, e, hB, hb, h⟩
/-- A world in which the blocks of the tag n are as they were. -/
theorem PairsTag.keep {w w' : World} {B n : Nat} {T T' : Nat → Nat} {a : Option Addr} {ps : List PairD} (h : PairsTag w B T n a ps)
    (hk : ∀ g, g < w.heap.size → B ≤ g → T g = n → w'.heap[g]? = w.heap[g]? ∧ T' g = n) : PairsTag w' B T' n a ps := by
  rcases h with h | ⟨g, o, cur, t, e, hB, hT, hb, h⟩
  · exact Or.inl h
  · obtain ⟨h1, h2⟩ := hk g (lt_of_block hb) hB hT
    have hc : ∀ j, w'.cell? ⟨g, j, none⟩ = w.cell? ⟨g, j, none⟩ := fun j => World.cell?_of_block h1
    exact Or.inr ⟨g, o, cur, t, e, hB, h2, h1.trans hb, fun i hi => by simp only [hc]; exact h i hi⟩
theorem PairsOwn.tag {w : World} {B n : Nat} {T : Nat → Nat} {a : Option Addr} {ps : List PairD} (h : PairsOwn w B a ps) (hT : ∀ g o, a = some ⟨g, o, none⟩ → T g = n) : PairsTag w B T n a ps := by
  rcases h with h | ⟨g, o, cur, t, e, hB, hb, h⟩
  · exact Or.inl h
  · exact Or.inr ⟨g, o, cur, t, e, hB, hT g o e, hb, h⟩

/-- The tenant i at ⟨b, o⟩ whose lists bear the tags 2 i + 1, 2 i + 2. -/
def TenOwn (w : World) (B : Nat) (T : Nat → Nat) (i b o : Nat) (t : TenD) : Prop :=
  ∃ a1 c1 a2 c2, w.cell? ⟨b, o, none⟩ = some (.string t.name) ∧ w.cell? ⟨b, o + 1, none⟩ = some (.int .i64 t.limit) ∧ w.cell? ⟨b, o + 2, none⟩ = some (.slice a1 t.mets.length c1) ∧ w.cell? ⟨b, o + 3, none⟩ = some (.slice a2 t.sers.length c2) ∧
    PairsTag w B T (2 * i + 1) a1 t.mets ∧ PairsTag w B T (2 * i + 2) a2 t.sers
/-- The tenants lie in blocks of their own, from B on, no two of them one, that may be written. -/
def TensOwn (w : World) (B : Nat) (a : Option Addr) (ts : List TenD) : Prop :=
  ts = [] ∨ ∃ g o cur t T, a = some ⟨g, o, none⟩ ∧ B ≤ g ∧ w.heap[g]? = some (.cells cur t (0, 0)) ∧ T g = 0 ∧ ∀ i (h : i < ts.length), TenOwn w B T i g (o + i * 4) ts[i]
theorem TenOwn.at {w : World} {B i b o : Nat} {T : Nat → Nat} {t : TenD} (h : TenOwn w B T i b o t) : TenAt w b o t := by
  obtain ⟨a1, c1, a2, c2, h0, h1, h2, h3, h4, h5⟩ := h
  exact ⟨a1, c1, a2, c2, h0, h1, h2, h3, h4.pairs, h5.pairs⟩
theorem TensOwn.tens {w : World} {B : Nat} {a : Option Addr} {ts : List TenD} (h : TensOwn w B a ts) : TensIn w a ts := by
  rcases h with h | ⟨g, o, cur, t, T, rfl, _, hb, _, h⟩
  · exact Or.inl h
  · exact Or.inr ⟨g, o, rfl, lt_of_block hb, fun i hi => (h i hi).at⟩
theorem TenOwn.keep {w w' : World} {B i b o : Nat} {T T' : Nat → Nat} {t : TenD} (h : TenOwn w B T i b o t) (hc : ∀ j, j < 4 → w'.cell? ⟨b, o + j, none⟩ = w.cell? ⟨b, o + j, none⟩)
    (hk : ∀ g, g < w.heap.size → B ≤ g → (T g = 2 * i + 1 ∨ T g = 2 * i + 2) → w'.heap[g]? = w.heap[g]? ∧ T' g = T g) : TenOwn w' B T' i b o t := by
  obtain ⟨a1, c1, a2, c2, h0, h1, h2, h3, h4, h5⟩ := h
  refine ⟨a1, c1, a2, c2, (hc 0 (by omega)).trans h0, (hc 1 (by omega)).trans h1, (hc 2 (by omega)).trans h2, (hc 3 (by omega)).trans h3, h4.keep fun g hg hB hT => ?_, h5.keep fun g hg hB hT => ?_⟩
  · obtain ⟨q1, q2⟩ := hk g hg hB (Or.inl hT); exact ⟨q1, q2.trans hT⟩
  · obtain ⟨q1, q2⟩ := hk g hg hB (Or.inr hT); exact ⟨q1, q2.trans hT⟩
theorem TensOwn.later {w w' : World} {B : Nat} {a : Option Addr} {ts : List TenD} (h : TensOwn w B a ts) (hb : Below w.heap.size w w') : TensOwn w' B a ts := by
  rcases h with h | ⟨g, o, cur, t, T, rfl, hB, hg, hT, h⟩
  · exact Or.inl h
  · have hlt := lt_of_block hg
    exact Or.inr ⟨g, o, cur, t, T, rfl, hB, (hb.block g hlt).trans hg, hT, fun i hi => (h i hi).keep (fun j _ => World.cell?_of_block (hb.block g hlt)) fun g' hg' _ _ => ⟨hb.block g' hg', rfl⟩⟩

def tenBulk (t : TenD) : Nat := t.name.size + (t.mets.length + pairBulk t.mets) + (t.sers.length + pairBulk t.sers)
def tensBulk : List TenD → Nat
  | [] => 0
  | f :: r => tenBulk f + tensBulk r
theorem tensBulk_append (a b : List TenD) : tensBulk (a ++ b) = tensBulk a + tensBulk b := by
  induction a with
  | nil => simp [tensBulk]
  | cons f r ih => simp [tensBulk, ih]; omega
theorem tensBulk_take_succ (fs : List TenD) (k : Nat) (h : k < fs.length) : tensBulk (fs.take (k + 1)) = tensBulk (fs.take k) + tenBulk fs[k] := by
  rw [List.take_succ_eq_append_getElem h, tensBulk_append]; simp [tensBulk]
theorem tensBulk_take_le (fs : List TenD) (k : Nat) : tensBulk (fs.take k) ≤ tensBulk fs := by
  have := tensBulk_append (fs.take k) (fs.drop k)
  rw [List.take_append_drop] at this; omega
def szTen (left : Int) (f : TenD) : Int := if (tenBulk f : Int) ≤ left then left - tenBulk f else -1
def szTens (left : Int) (fs : List TenD) : Int := if (fs.length + tensBulk fs : Int) ≤ left then left - fs.length - tensBulk fs else -1
def ShortTen (t : TenD) : Prop := t.name.size ≤ maxLen ∧ ShortP t.mets ∧ t.mets.length ≤ maxLen ∧ ShortP t.sers ∧ t.sers.length ≤ maxLen
def ShortT (fs : List TenD) : Prop := ∀ i (h : i < fs.length), ShortTen fs[i]
theorem tenBulk_at (fs : List TenD) (k : Nat) (h : k < fs.length) : tenBulk fs[k] ≤ tensBulk fs := by
  have h1 := tensBulk_take_succ fs k h
  have h2 := tensBulk_take_le fs (k + 1)
  omega
end Go.Proofs.YtoecnlhnfhongaaGreatDoor

namespace Go.Proofs.YtoecnlhnfhongaaGreatDoor
open Go.RowKit

/-- One bit of the register. -/
def crcBit (reg x : Nat) : Nat := if (reg + x) % 2 = 1 then (reg / 2) ^^^ 2197175160 else reg / 2
/-- The first k bits of a byte. -/
def crcBits (reg b : Nat) : Nat → Nat
  | 0 => reg
  | k + 1 => crcBit (crcBits reg b k) (b / 2 ^ k)
def crcByte (reg : Nat) (c : UInt8) : Nat := crcBits reg c.toNat 8
def crcL (l : List UInt8) : Nat := l.foldl crcByte 4294967295
def crcV (s : ByteArray) : Nat := 4294967295 - crcL s.data.toList

theorem crcBit_lt {reg x : Nat} (h : reg < 4294967296) : crcBit reg x < 4294967296 := by
  unfold crcBit
  split
  · exact Nat.xor_lt_two_pow (n := 32) (by omega) (by omega)
  · omega
theorem crcBits_lt {reg b : Nat} (h : reg < 4294967296) : ∀ k, crcBits reg b k < 4294967296
  | 0 => h
  | k + 1 => crcBit_lt (crcBits_lt h k)
theorem crcL_lt (l : List UInt8) : crcL l < 4294967296 := by
  have hg : ∀ (l : List UInt8) (r : Nat), r < 4294967296 → l.foldl crcByte r < 4294967296 := fun l => by
    induction l with
    | nil => exact fun r h => h
    | cons c l ih => exact fun r h => ih _ (crcBits_lt h 8)
  exact hg l _ (by omega)
theorem crcL_snoc (l : List UInt8) (c : UInt8) : crcL (l ++ [c]) = crcByte (crcL l) c := by simp [crcL]
theorem crcV_lt (s : ByteArray) : crcV s < 4294967296 := by unfold crcV; omega

theorem xor_i64 (a b : Nat) (ha : a < 4611686018427387904) (hb : b < 4611686018427387904) : bits .xor .i64 (a : Int) (b : Int) = ((a ^^^ b : Nat) : Int) := by
  have hx : a ^^^ b < 2 ^ 62 := Nat.xor_lt_two_pow (by omega) (by omega)
  show IntKind.i64.wrap ((BitVec.ofInt 64 (a : Int) ^^^ BitVec.ofInt 64 (b : Int)).toNat : Int) = _
  rw [BitVec.toNat_xor, BitVec.ofInt_natCast, BitVec.ofInt_natCast, BitVec.toNat_ofNat, BitVec.toNat_ofNat, Nat.mod_eq_of_lt (by omega), Nat.mod_eq_of_lt (by omega)]
  simp only [IntKind.wrap, IntKind.bits, IntKind.signed]
  simp
  omega
end Go.Proofs.YtoecnlhnfhongaaGreatDoor

namespace Go.Proofs.YtoecnlhnfhongaaGreatDoor
open Go.RowKit

def I64p (v : Int) : Prop := -9223372036854775808 ≤ v ∧ v ≤ 9223372036854775807
def RngP (ps : List PairD) : Prop := ∀ i (h : i < ps.length), I64p ps[i].n
def RngT (ts : List TenD) : Prop := ∀ i (h : i < ts.length), I64p ts[i].limit ∧ RngP ts[i].mets ∧ RngP ts[i].sers

def encP (p : PairD) : ByteArray := s16B p.s ++ numS 8 p.n
def encPs : List PairD → ByteArray
  | [] => ByteArray.empty
  | p :: q => encP p ++ encPs q
def allP (ps : List PairD) : Prop := ∀ i (h : i < ps.length), ps[i].s.size ≤ 65535
def tenOKb (t : TenD) : Prop := t.name.size ≤ 255 ∧ allP t.mets ∧ allP t.sers
def tenHead (t : TenD) : ByteArray := s8B t.name ++ numS 8 t.limit ++ numS 4 (t.mets.length : Nat)
def encT (t : TenD) : ByteArray := tenHead t ++ encPs t.mets ++ numS 4 (t.sers.length : Nat) ++ encPs t.sers
def encTs : List TenD → ByteArray
  | [] => ByteArray.empty
  | t :: q => encT t ++ encTs q
def ckB : ByteArray := ⟨#[67, 75, 80, 84]⟩
def staHead (lsn now : Int) (n : Nat) : ByteArray := ckB ++ numS 8 lsn ++ numS 8 now ++ numS 4 (n : Nat)
def staOK (lsn : Int) (ts : List TenD) : Prop := 0 ≤ lsn ∧ lsn ≤ 1000000000000000 ∧ ∀ i (h : i < ts.length), tenOKb ts[i]
def staX (lsn now : Int) (ts : List TenD) : ByteArray := staHead lsn now ts.length ++ encTs ts
def staBD (lsn : Int) (ts : List TenD) : Decidable (staOK lsn ts) := by unfold staOK tenOKb allP; infer_instance
def staB (lsn now : Int) (ts : List TenD) : ByteArray := haveI := staBD lsn ts; if staOK lsn ts then staX lsn now ts ++ numS 4 (crcV (staX lsn now ts) : Nat) else ByteArray.empty
theorem staB_ok {lsn now : Int} {ts : List TenD} (h : staOK lsn ts) : staB lsn now ts = staX lsn now ts ++ numS 4 (crcV (staX lsn now ts) : Nat) := by unfold staB; rw [if_pos h]
theorem staB_no {lsn now : Int} {ts : List TenD} (h : ¬ staOK lsn ts) : staB lsn now ts = ByteArray.empty := by unfold staB; rw [if_neg h]

theorem encPs_append : ∀ (a b : List PairD), encPs (a ++ b) = encPs a ++ encPs b
  | [], b => by simp [encPs]
  | r :: q, b => by
    show encP r ++ encPs (q ++ b) = encP r ++ encPs q ++ encPs b
    rw [encPs_append q b, ByteArray.append_assoc]
theorem encPs_take (rs : List PairD) (k : Nat) (h : k < rs.length) : encPs (rs.take (k + 1)) = encPs (rs.take k) ++ encP rs[k] := by
  rw [List.take_succ_eq_append_getElem h, encPs_append]
  simp [encPs]
theorem encTs_append : ∀ (a b : List TenD), encTs (a ++ b) = encTs a ++ encTs b
  | [], b => by simp [encTs]
  | r :: q, b => by
    show encT r ++ encTs (q ++ b) = encT r ++ encTs q ++ encTs b
    rw [encTs_append q b, ByteArray.append_assoc]
theorem encTs_take (rs : List TenD) (k : Nat) (h : k < rs.length) : encTs (rs.take (k + 1)) = encTs (rs.take k) ++ encT rs[k] := by
  rw [List.take_succ_eq_append_getElem h, encTs_append]
  simp [encTs]
theorem encP_size (p : PairD) : (encP p).size = 10 + p.s.size := by
  unfold encP
  rw [ByteArray.size_append, s16B_size, numS_size]; omega
theorem encPs_size : ∀ (ps : List PairD), (encPs ps).size = 10 * ps.length + pairBulk ps
  | [] => rfl
  | p :: q => by
    show (encP p ++ encPs q).size = _
    rw [ByteArray.size_append, encP_size, encPs_size q]
    show _ = 10 * (q.length + 1) + (p.s.size + pairBulk q)
    omega
theorem tenHead_size (t : TenD) : (tenHead t).size = 13 + t.name.size := by
  unfold tenHead
  rw [ByteArray.size_append, ByteArray.size_append, s8B_size, numS_size, numS_size]; omega
theorem encT_size (t : TenD) : (encT t).size = 17 + t.name.size + 10 * t.mets.length + pairBulk t.mets + 10 * t.sers.length + pairBulk t.sers := by
  unfold encT
  rw [ByteArray.size_append, ByteArray.size_append, ByteArray.size_append, tenHead_size, encPs_size, encPs_size, numS_size]; omega
theorem staHead_size (lsn now : Int) (n : Nat) : (staHead lsn now n).size = 24 := by
  unfold staHead
  rw [ByteArray.size_append, ByteArray.size_append, ByteArray.size_append, numS_size, numS_size, numS_size]; rfl
theorem staB_at {ts : List TenD} {k : Nat} (hk : k < ts.length) (h : ¬ tenOKb ts[k]) (lsn now : Int) : staB lsn now ts = ByteArray.empty := staB_no fun hb => h (hb.2.2 k hk)
end Go.Proofs.YtoecnlhnfhongaaGreatDoor

