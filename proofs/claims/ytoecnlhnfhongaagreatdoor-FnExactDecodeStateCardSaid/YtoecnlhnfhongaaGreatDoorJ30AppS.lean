import Derived.Test.YtoecnlhnfhongaaGreatDoorJ29SNumL
import Derived.Test.YtoecnlhnfhongaaGreatDoorProg
import Derived.Test.YtoecnlhnfhongaaGreatDoorJ01RdL
import Derived.Lib.FrozenHead
import Derived.Laws.IdiomStrings
namespace Go.Proofs.YtoecnlhnfhongaaGreatDoor
open Go.RowKit

theorem part_eat {s : ByteArray} {p n : Nat} {t : ByteArray} {q : Nat} (h : partN s p n = some (t, q)) : q = p + n + t.size := by
  unfold partN at h
  split at h
  · rename_i hh
    simp only [Option.some.injEq, Prod.mk.injEq] at h
    obtain ⟨rfl, rfl⟩ := h
    rw [ByteArray.size_extract]
    omega
  · exact absurd h (by simp)
theorem lPart_eat {s : ByteArray} {n : Nat} {p : Option Nat} {q : Nat} (h : (lPart s n p).2 = some q) : ∃ a, p = some a ∧ q = a + n + (lPart s n p).1.size := by
  cases p with
  | none => exact absurd h (by simp [lPart])
  | some a =>
    refine ⟨a, rfl, ?_⟩
    cases hh : partN s a n with
    | none => rw [lPart_not hh] at h; simp at h
    | some tr =>
      obtain ⟨t, r⟩ := tr
      rw [lPart_at hh] at h ⊢
      simp only [Option.some.injEq] at h
      have := part_eat hh
      simp only
      omega
theorem lNum_eat {s : ByteArray} {n : Nat} {p : Option Nat} {q : Nat} (h : (lNum s n p).2 = some q) : ∃ a, p = some a ∧ q = a + n := by
  cases p with
  | none => exact absurd h (by simp [lNum])
  | some p =>
    rw [lNum_some] at h
    split at h
    · simp at h; exact ⟨p, rfl, by omega⟩
    · simp at h
theorem lPart_bulk (s : ByteArray) (n : Nat) (p : Option Nat) : (lPart s n p).1.size ≤ s.size := by
  cases p with
  | none => simp [lPart]
  | some p =>
    cases hh : partN s p n with
    | none => rw [lPart_not hh]; simp
    | some tr =>
      obtain ⟨t, r⟩ := tr
      rw [lPart_at hh]
      exact (part_le hh).2.1
theorem lNum_cap (s : ByteArray) (n : Nat) (p : Option Nat) : (lNum s n p).1 < 256 ^ n := by
  cases p with
  | none => exact Nat.pow_pos (by omega)
  | some p =>
    rw [lNum_some]
    split
    · rename_i hh
      have := beL_lt (sectL s p n)
      rw [sectL_length hh] at this
      exact this
    · exact Nat.pow_pos (by omega)
theorem lPr_eat {s : ByteArray} {p : Option Nat} {q : Nat} (h : (lPr s p).2 = some q) : ∃ a, p = some a ∧ a + (encP (lPr s p).1).size = q ∧ q ≤ s.size := by
  have e1 : (lPr s p).2 = (lNum s 8 (lPart s 2 p).2).2 := by rw [lPr]
  have e2 : (lPr s p).1.s = (lPart s 2 p).1 := by rw [lPr]
  rw [e1] at h
  obtain ⟨b, hb, h1⟩ := lNum_eat h
  obtain ⟨a, ha, h2⟩ := lPart_eat hb
  refine ⟨a, ha, ?_, lNum_le h⟩
  rw [encP_size, e2]
  omega
theorem lPr_bulk (s : ByteArray) (p : Option Nat) : (encP (lPr s p).1).size ≤ s.size + 10 := by
  have e2 : (lPr s p).1.s = (lPart s 2 p).1 := by rw [lPr]
  have := lPart_bulk s 2 p
  rw [encP_size, e2]
  omega
theorem lPs_off (s : ByteArray) (k : Nat) : lPs s none k = ([], none) := by
  have := lPs_stay (s := s) (p0 := none) (k := 0) (by rw [lPs_zero]) k (Nat.zero_le _)
  rw [this, lPs_zero]
theorem lPs_snoc (xs : List PairD) (x : PairD) : (encPs (xs ++ [x])).size = (encPs xs).size + (encP x).size := by
  rw [encPs_append, ByteArray.size_append]
  simp [encPs]
theorem lPs_eat {s : ByteArray} {p0 : Option Nat} (k : Nat) : ∀ q, (lPs s p0 k).2 = some q → ∃ a, p0 = some a ∧ a + (encPs (lPs s p0 k).1).size = q ∧ ((∀ b, p0 = some b → b ≤ s.size) → q ≤ s.size) := by
  induction k with
  | zero => intro q h; rw [lPs_zero] at h ⊢; exact ⟨q, h, by simp [encPs], fun hh => hh q h⟩
  | succ k ih =>
    intro q h
    cases hh : (lPs s p0 k).2 with
    | none => rw [lPs_none hh, hh] at h; cases h
    | some p =>
      obtain ⟨a, ha, h1, _⟩ := ih p hh
      rw [lPs_some hh] at h ⊢
      obtain ⟨b, hb, h2, h3⟩ := lPr_eat h
      cases hb
      refine ⟨a, ha, ?_, fun _ => h3⟩
      generalize lPr s (some p) = A at *
      simp only [lPs_snoc]
      omega
theorem lPs_bulk {s : ByteArray} {p0 : Option Nat} (h0 : ∀ b, p0 = some b → b ≤ s.size) (k : Nat) : (encPs (lPs s p0 k).1).size ≤ 2 * s.size + 10 := by
  induction k with
  | zero => rw [lPs_zero]; simp [encPs]
  | succ k ih =>
    cases hh : (lPs s p0 k).2 with
    | none => rw [lPs_none hh]; exact ih
    | some p =>
      obtain ⟨a, ha, h1, h2⟩ := lPs_eat k p hh
      have := h2 h0
      rw [lPs_some hh]
      have hb := lPr_bulk s (some p)
      generalize lPr s (some p) = A at *
      simp only [lPs_snoc]
      omega
theorem lPs_length {s : ByteArray} {p0 : Option Nat} (k : Nat) : (lPs s p0 k).1.length ≤ k := by
  induction k with
  | zero => rw [lPs_zero]; simp
  | succ k ih =>
    cases hh : (lPs s p0 k).2 with
    | none => rw [lPs_none hh]; omega
    | some p =>
      rw [lPs_some hh]
      generalize lPr s (some p) = A at *
      simp
      omega
theorem lTen_eat {s : ByteArray} {p : Option Nat} {q : Nat} (h : (lTen s p).2 = some q) : ∃ a, p = some a ∧ a + (encT (lTen s p).1).size = q ∧ q ≤ s.size := by
  have e0 : lTen s p = (⟨(lTn s p).1, wrapN (lTl s p).1, (lMs s p).1, (lSs s p).1⟩, (lSs s p).2) := by rw [lTen]
  have e1 : (encT (lTen s p).1).size = 17 + (lTn s p).1.size + (encPs (lMs s p).1).size + (encPs (lSs s p).1).size := by rw [encT_sz, e0]
  have e2 : (lSs s p).2 = some q := by rw [e0] at h; exact h
  rw [e1]
  clear e0 e1 h
  have g6 : ∃ a, (lSn s p).2 = some a ∧ a + (encPs (lSs s p).1).size = q ∧ ((∀ b, (lSn s p).2 = some b → b ≤ s.size) → q ≤ s.size) := by
    rw [lSs] at e2 ⊢; exact lPs_eat _ q e2
  obtain ⟨a6, h6, w6, l6⟩ := g6
  have g5 : ∃ a, (lMs s p).2 = some a ∧ a6 = a + 4 := by rw [lSn] at h6; exact lNum_eat h6
  have l6' : ∀ b, (lSn s p).2 = some b → b ≤ s.size := fun b hb => by rw [lSn] at hb; exact lNum_le hb
  obtain ⟨a5, h5, w5⟩ := g5
  have g4 : ∃ a, (lMn s p).2 = some a ∧ a + (encPs (lMs s p).1).size = a5 ∧ ((∀ b, (lMn s p).2 = some b → b ≤ s.size) → a5 ≤ s.size) := by
    rw [lMs] at h5 ⊢; exact lPs_eat _ a5 h5
  obtain ⟨a4, h4, w4, _⟩ := g4
  have g3 : ∃ a, (lTl s p).2 = some a ∧ a4 = a + 4 := by rw [lMn] at h4; exact lNum_eat h4
  obtain ⟨a3, h3, w3⟩ := g3
  have g2 : ∃ a, (lTn s p).2 = some a ∧ a3 = a + 8 := by rw [lTl] at h3; exact lNum_eat h3
  obtain ⟨a2, h2, w2⟩ := g2
  have g1 : ∃ a, p = some a ∧ a2 = a + 1 + (lTn s p).1.size := by rw [lTn] at h2 ⊢; exact lPart_eat h2
  obtain ⟨a1, h1, w1⟩ := g1
  exact ⟨a1, h1, by omega, l6 l6'⟩
theorem lTen_bulk (s : ByteArray) (p : Option Nat) : (encT (lTen s p).1).size ≤ 5 * s.size + 37 := by
  have e0 : lTen s p = (⟨(lTn s p).1, wrapN (lTl s p).1, (lMs s p).1, (lSs s p).1⟩, (lSs s p).2) := by rw [lTen]
  have e1 : (encT (lTen s p).1).size = 17 + (lTn s p).1.size + (encPs (lMs s p).1).size + (encPs (lSs s p).1).size := by rw [encT_sz, e0]
  have h1 : (lTn s p).1.size ≤ s.size := by rw [lTn]; exact lPart_bulk s 1 p
  have h2 : (encPs (lMs s p).1).size ≤ 2 * s.size + 10 := by rw [lMs]; exact lPs_bulk (fun b hb => by rw [lMn] at hb; exact lNum_le hb) _
  have h3 : (encPs (lSs s p).1).size ≤ 2 * s.size + 10 := by rw [lSs]; exact lPs_bulk (fun b hb => by rw [lSn] at hb; exact lNum_le hb) _
  omega
theorem lTs_snoc (xs : List TenD) (x : TenD) : (encTs (xs ++ [x])).size = (encTs xs).size + (encT x).size := by
  rw [encTs_append, ByteArray.size_append]
  simp [encTs]
theorem lTs_eat {s : ByteArray} {p0 : Option Nat} (k : Nat) : ∀ q, (lTs s p0 k).2 = some q → ∃ a, p0 = some a ∧ a + (encTs (lTs s p0 k).1).size = q ∧ ((∀ b, p0 = some b → b ≤ s.size) → q ≤ s.size) := by
  induction k with
  | zero => intro q h; rw [lTs_zero] at h ⊢; exact ⟨q, h, by simp [encTs], fun hh => hh q h⟩
  | succ k ih =>
    intro q h
    cases hh : (lTs s p0 k).2 with
    | none => rw [lTs_none hh, hh] at h; cases h
    | some p =>
      obtain ⟨a, ha, h1, _⟩ := ih p hh
      rw [lTs_some hh] at h ⊢
      obtain ⟨b, hb, h2, h3⟩ := lTen_eat h
      cases hb
      refine ⟨a, ha, ?_, fun _ => h3⟩
      generalize lTen s (some p) = A at *
      simp only [lTs_snoc]
      omega
theorem lTs_bulk {s : ByteArray} {p0 : Option Nat} (h0 : ∀ b, p0 = some b → b ≤ s.size) (k : Nat) : (encTs (lTs s p0 k).1).size ≤ 6 * s.size + 37 := by
  induction k with
  | zero => rw [lTs_zero]; simp [encTs]
  | succ k ih =>
    cases hh : (lTs s p0 k).2 with
    | none => rw [lTs_none hh]; exact ih
    | some p =>
      obtain ⟨a, ha, h1, h2⟩ := lTs_eat k p hh
      have := h2 h0
      rw [lTs_some hh]
      have hb := lTen_bulk s (some p)
      generalize lTen s (some p) = A at *
      simp only [lTs_snoc]
      omega
theorem lTs_length {s : ByteArray} {p0 : Option Nat} (k : Nat) : (lTs s p0 k).1.length ≤ k := by
  induction k with
  | zero => rw [lTs_zero]; simp
  | succ k ih =>
    cases hh : (lTs s p0 k).2 with
    | none => rw [lTs_none hh]; omega
    | some p =>
      rw [lTs_some hh]
      generalize lTen s (some p) = A at *
      simp
      omega
/-- What the encoder's bytes bound. -/
theorem encPs_part : ∀ (ps : List PairD) i (h : i < ps.length), ps[i].s.size ≤ (encPs ps).size
  | p :: q, 0, _ => by
    have : (encPs (p :: q)).size = (encP p).size + (encPs q).size := by show (encP p ++ encPs q).size = _; rw [ByteArray.size_append]
    rw [this, encP_size]
    simp only [List.getElem_cons_zero]
    omega
  | p :: q, i + 1, h => by
    have : (encPs (p :: q)).size = (encP p).size + (encPs q).size := by show (encP p ++ encPs q).size = _; rw [ByteArray.size_append]
    have ih := encPs_part q i (by simpa using h)
    simp only [List.getElem_cons_succ]
    omega
theorem encPs_many (ps : List PairD) : 10 * ps.length ≤ (encPs ps).size := by rw [encPs_size]; omega
theorem encTs_part : ∀ (ts : List TenD) i (h : i < ts.length), (encT ts[i]).size ≤ (encTs ts).size
  | t :: q, 0, _ => by
    have : (encTs (t :: q)).size = (encT t).size + (encTs q).size := by show (encT t ++ encTs q).size = _; rw [ByteArray.size_append]
    simp only [List.getElem_cons_zero]
    omega
  | t :: q, i + 1, h => by
    have : (encTs (t :: q)).size = (encT t).size + (encTs q).size := by show (encT t ++ encTs q).size = _; rw [ByteArray.size_append]
    have ih := encTs_part q i (by simpa using h)
    simp only [List.getElem_cons_succ]
    omega
theorem encTs_many : ∀ (ts : List TenD), 17 * ts.length ≤ (encTs ts).size
  | [] => by simp [encTs]
  | t :: q => by
    have : (encTs (t :: q)).size = (encT t).size + (encTs q).size := by show (encT t ++ encTs q).size = _; rw [ByteArray.size_append]
    have ih := encTs_many q
    have := encT_sz t
    simp only [List.length_cons]
    omega
/-- Tenants whose bytes are few: none of their parts is great. -/
theorem small_parts {ts : List TenD} {M : Nat} (h : (encTs ts).size ≤ M) : 17 * ts.length ≤ M ∧ ∀ i (hi : i < ts.length), ts[i].name.size ≤ M ∧ 10 * ts[i].mets.length ≤ M ∧ 10 * ts[i].sers.length ≤ M ∧ (∀ j (h' : j < ts[i].mets.length), ts[i].mets[j].s.size ≤ M) ∧ (∀ j (h' : j < ts[i].sers.length), ts[i].sers[j].s.size ≤ M) := by
  refine ⟨Nat.le_trans (encTs_many ts) h, fun i hi => ?_⟩
  have h1 := encTs_part ts i hi
  rw [encT_sz] at h1
  have h2 := encPs_many ts[i].mets
  have h3 := encPs_many ts[i].sers
  refine ⟨by omega, by omega, by omega, fun j hj => ?_, fun j hj => ?_⟩
  · have := encPs_part ts[i].mets j hj; omega
  · have := encPs_part ts[i].sers j hj; omega
end Go.Proofs.YtoecnlhnfhongaaGreatDoor

namespace Go.Proofs.YtoecnlhnfhongaaGreatDoor
open Go.RowKit

/-- v is a slice of bytes in a block of its own, from B on: the text s; no cell of it is frozen. -/
def RowS (w : World) (B : Nat) (v : Value) (s : ByteArray) : Prop :=
  ∃ g cap cur fz, v = .slice (some ⟨g, 0, none⟩) s.size cap ∧ B ≤ g ∧ w.heap[g]? = some (.cells cur 5 fz) ∧ (fz.2 = 0 ∨ cap ≤ fz.1) ∧ s.size ≤ cap ∧ cap ≤ maxLen ∧ cur.size = cap ∧ cur.toList.take s.size = Lib.strCells s
theorem RowS.later {w w' : World} {B : Nat} {v : Value} {s : ByteArray} (h : RowS w B v s) (hb : Below w.heap.size w w') : RowS w' B v s := by
  obtain ⟨g, cap, cur, fz, h1, h2, h3, h4⟩ := h
  exact ⟨g, cap, cur, fz, h1, h2, (hb.block g (lt_of_block h3)).trans h3, h4⟩
theorem RowS.mono {w : World} {B B' : Nat} {v : Value} {s : ByteArray} (h : RowS w B v s) (hB : B' ≤ B) : RowS w B' v s := by
  obtain ⟨g, cap, cur, fz, h1, h2, h3⟩ := h
  exact ⟨g, cap, cur, fz, h1, Nat.le_trans hB h2, h3⟩
theorem RowS.keep {w w' : World} {B : Nat} {v : Value} {s : ByteArray} (h : RowS w B v s) (hk : ∀ k, k < w.heap.size → v.ownBlock = some k → w'.heap[k]? = w.heap[k]?) : RowS w' B v s := by
  obtain ⟨g, cap, cur, fz, rfl, h2, h3, h4⟩ := h
  exact ⟨g, cap, cur, fz, rfl, h2, (hk g (lt_of_block h3) rfl).trans h3, h4⟩
theorem RowS.lt {w : World} {B : Nat} {v : Value} {s : ByteArray} (h : RowS w B v s) : ∃ g, v.ownBlock = some g ∧ B ≤ g ∧ g < w.heap.size := by
  obtain ⟨g, cap, cur, fz, rfl, h2, h3, h4⟩ := h
  exact ⟨g, rfl, h2, lt_of_block h3⟩
theorem strCells_append (a b : ByteArray) : Lib.strCells (a ++ b) = Lib.strCells a ++ Lib.strCells b := by simp [Lib.strCells]

theorem store_free (P : Program) (g o : Nat) (t : TypeId) (fz : Nat × Nat) (vs : List Value) : ∀ (i : Nat) (cur : Array Value) (w : World), w.heap[g]? = some (.cells cur t fz) → (fz.2 = 0 ∨ cur.size ≤ fz.1) → o + i + vs.length ≤ cur.size → (∀ v ∈ vs, v.oneCell' = true) →
    (storeCells ⟨g, o, none⟩ vs i).run P w = .ok () (w.setRow g (cur.toList.take (o + i) ++ vs ++ cur.toList.drop (o + i + vs.length)).toArray) := by
  induction vs with
  | nil =>
    intro i cur w hg _ _ _
    rw [storeCells, List.append_nil, List.length_nil, Nat.add_zero, List.take_append_drop, Array.toArray_toList, setRow_self w g cur t fz hg]
    rfl
  | cons v q ih =>
    intro i cur w hg hz hl h1
    rw [List.length_cons] at hl
    have ha : (⟨g, o, none⟩ : Addr).add i = ⟨g, o + i, none⟩ := by unfold Addr.add; split <;> simp_all
    have hc : w.cell? ⟨g, o + i, none⟩ = some (cur[o + i]'(by omega)) := by rw [cell_of_row w g _ cur t fz hg]; exact Array.getElem?_eq_getElem (by omega)
    have hnf : w.frozen? ⟨g, o + i, none⟩ = false := by
      unfold World.frozen?
      rw [hg]
      rcases hz with hz | hz
      · rw [Bool.and_eq_false_iff]; exact Or.inr (decide_eq_false (by show ¬ o + i < fz.2; omega))
      · rw [Bool.and_eq_false_iff]; exact Or.inl (decide_eq_false (by show ¬ fz.1 ≤ o + i; omega))
    have hs : (store ((⟨g, o, none⟩ : Addr).add i) v).run P w = .ok () (w.setRow g (cur.setIfInBounds (o + i) v)) := by
      rw [ha, run_store P w _ v _ (h1 v (List.mem_cons_self ..)), hc]
      simp [hnf, setCell_eq_setRow w g (o + i) cur t fz v hg]
    have h := ih (i + 1) (cur.setIfInBounds (o + i) v) (w.setRow g (cur.setIfInBounds (o + i) v)) (setRow_heap w g cur _ t _ hg) (by simpa using hz) (by simp; omega) (fun x hx => h1 x (List.mem_cons_of_mem _ hx))
    rw [storeCells, Sem.run_bind, hs, Result.andThen_ok, h, setRow_setRow]
    congr 3
    have e := list_seg_step cur.toList (o + i) v q (by simp; omega)
    simpa [Array.toList_setIfInBounds, Nat.add_assoc] using e

theorem run_append_s2 (w : World) (B : Nat) (v : Value) (s x : ByteArray) (ty : TypeId) (hown : RowS w B v s) (hB : B ≤ w.heap.size) (hz : s.size + x.size ≤ 140737488355328) :
    ∃ v' w', (Builtin.append_ #[62, 9] ty #[v, .string x]).run Tryz.prog w = .ok v' w' ∧ RowS w' B v' (s ++ x) ∧ w.grownBy w' v.ownBlock ∧ (v'.ownBlock = v.ownBlock ∨ v'.ownBlock = some w.heap.size) := by
  obtain ⟨ti, hti, hz0, hz1, hz2⟩ := info_u8
  obtain ⟨g, cap, cur, fz, rfl, hg1, hg2, hg3, hg4, hg5, hg6, hg7⟩ := hown
  have hsz : (s ++ x).size = s.size + x.size := ByteArray.size_append
  by_cases hroom : s.size + x.size ≤ cap
  · have hf := Lib.run_firstCells_string (P := Tryz.prog) w 1 x
    have hst := store_free Tryz.prog g s.size 5 fz (Lib.strCells x) 0 cur w hg2 (by rw [hg6]; exact hg3) (by rw [Lib.strCells_length]; omega) (Lib.strCells_oneCell x)
    simp only [Nat.add_zero, Lib.strCells_length] at hst
    refine ⟨.slice (some ⟨g, 0, none⟩) (s.size + x.size) cap, w.setRow g (cur.toList.take s.size ++ Lib.strCells x ++ cur.toList.drop (s.size + x.size)).toArray, ?_, ?_, ⟨rfl, rfl, rfl, by simp, fun k _ hk => setRow_other w g k _ (fun e => hk (by simp [Value.ownBlock, e]))⟩, Or.inl rfl⟩
    · simp [Builtin.append_, run_underlying Tryz.underlying62, run_underlying Tryz.underlying9, sizeOf, typeInfo, hti, hz1, Builtin.lenOf, hroom, hf, Addr.add_lit, hst]
    · refine ⟨g, cap, _, fz, by rw [hsz], hg1, setRow_heap w g cur _ _ _ hg2, hg3, by omega, hg5, ?_, ?_⟩
      · simp only [List.size_toArray, List.length_append, List.length_take, List.length_drop, Array.length_toList, Lib.strCells_length]
        omega
      · rw [hg7, hsz, strCells_append]
        have hl : (Lib.strCells s ++ Lib.strCells x).length = s.size + x.size := by rw [List.length_append, Lib.strCells_length, Lib.strCells_length]
        rw [← hl]
        exact List.take_left
  · have holds : ∀ j u, (Lib.strCells s)[j]? = some u → w.cell? ((⟨g, 0, none⟩ : Addr).add j) = some u := fun j u hu => by
      have ha : (⟨g, 0, none⟩ : Addr).add j = ⟨g, j, none⟩ := by unfold Addr.add; split <;> simp_all
      rw [ha, cell_of_row w g j cur _ _ hg2]
      rw [← hg7, List.getElem?_take] at hu
      split at hu
      · simpa using hu
      · cases hu
    have hr := Lib.run_append_grow_string (P := Tryz.prog) w 62 9 ty 5 ti (.int .u8 0) Tryz.underlying62 Tryz.underlying9 hti hz0 ⟨g, 0, none⟩ s.size cap (Lib.strCells s) (by rw [hz1, Lib.strCells_length, Nat.mul_one]) holds x (by omega) (by omega) (by rw [hz2]; exact growslice_fits (by omega) (by omega))
    have hge := grownCap_ge w (s.size + x.size) cap 5
    have hcm := grownCap_le_maxLen w (s.size + x.size) cap 5 (by unfold maxLen; omega)
    refine ⟨_, _, hr, ⟨w.heap.size, _, _, (0, 0), by rw [hsz], hB, heap_alloc_new w.drew _, Or.inl rfl, by omega, hcm, ?_, ?_⟩, ⟨rfl, rfl, rfl, by simp, fun k hk _ => heap_alloc_old w.drew _ hk⟩, Or.inr rfl⟩
    · have hq : (Value.int IntKind.u8 0).cells.size = 1 := rfl
      simp only [Array.size_append, List.size_toArray, size_zeroCells, hq, Lib.strCells_length]
      omega
    · rw [hsz, strCells_append]
      have hl : (Lib.strCells s ++ Lib.strCells x).length = s.size + x.size := by rw [List.length_append, Lib.strCells_length, Lib.strCells_length]
      simp only [Array.toList_append, List.append_assoc]
      rw [← List.append_assoc, ← hl]
      exact List.take_left

theorem run_append_s (w : World) (B : Nat) (v : Value) (s x : ByteArray) (ty : TypeId) (hown : RowS w B v s) (hB : B ≤ w.heap.size) (hz : s.size + x.size ≤ 140737488355328) :
    ∃ v' w', (Builtin.append_ #[62, 9] ty #[v, .string x]).run Tryz.prog w = .ok v' w' ∧ RowS w' B v' (s ++ x) ∧ w.grownBy w' v.ownBlock := by
  obtain ⟨v', w', h1, h2, h3, _⟩ := run_append_s2 w B v s x ty hown hB hz
  exact ⟨v', w', h1, h2, h3⟩
/-- An append of a text's bytes, at a step of a region that draws its order. -/
theorem step_append_s (w : World) {ops : Array Oper} {o : Oper} {a : Act} {K : Act → World → Prop} {Q : Exit → Act → World → Prop} {E : Prop} (hgd : o.guard = none) (sl x : Operand)
    (ho : o.op = .call { callee := .builtin .append, args := #[sl, x], argTypes := #[62, 9] })
    (B : Nat) (v : Value) (s t : ByteArray) (hs : a.eval sl = v) (hown : RowS w B v s) (hx : a.eval x = .string t) (hB : B ≤ w.heap.size) (hz : s.size + t.size ≤ 140737488355328)
    (h : ∀ v' w', RowS w' B v' (s ++ t) → Below B w w' → (∀ k, k < w.heap.size → v.ownBlock ≠ some k → w'.heap[k]? = w.heap[k]?) → K (a.put o.dst v') w') :
    if Region.wanted o (yielded ops a.tmps) = true then Oper.wp Tryz.prog o a w K Q else E := by
  have hw : Region.wanted o (yielded ops a.tmps) = true := by simp [Region.wanted, hgd]
  rw [if_pos hw]
  obtain ⟨v', w', hr, h2, h3⟩ := run_append_s w B v s t o.type hown hB hz
  have hlt := hown.lt
  have hK := h v' w' h2 ((Below.refl B w).grown h3 hB (fun q hq => by obtain ⟨g, e, hg, _⟩ := hlt; rw [e] at hq; cases hq; exact hg)) (fun k hk hne => h3.block k hk (fun e => hne e.symm))
  unfold Oper.wp execOp
  simp only [ho, resolve, invoke, builtin, Sem.run_bind, Sem.run_pure, Result.andThen_ok, List.map_toArray, List.map_cons, List.map_nil, hs, hx, hr]
  exact hK
theorem step_append_s2 (w : World) {ops : Array Oper} {o : Oper} {a : Act} {K : Act → World → Prop} {Q : Exit → Act → World → Prop} {E : Prop} (hgd : o.guard = none) (sl x : Operand)
    (ho : o.op = .call { callee := .builtin .append, args := #[sl, x], argTypes := #[62, 9] })
    (B : Nat) (v : Value) (s t : ByteArray) (hs : a.eval sl = v) (hown : RowS w B v s) (hx : a.eval x = .string t) (hB : B ≤ w.heap.size) (hz : s.size + t.size ≤ 140737488355328)
    (h : ∀ v' w', RowS w' B v' (s ++ t) → Below B w w' → (∀ k, k < w.heap.size → v.ownBlock ≠ some k → w'.heap[k]? = w.heap[k]?) → (v'.ownBlock = v.ownBlock ∨ v'.ownBlock = some w.heap.size) → w.heap.size ≤ w'.heap.size → K (a.put o.dst v') w') :
    if Region.wanted o (yielded ops a.tmps) = true then Oper.wp Tryz.prog o a w K Q else E := by
  have hw : Region.wanted o (yielded ops a.tmps) = true := by simp [Region.wanted, hgd]
  rw [if_pos hw]
  obtain ⟨v', w', hr, h2, h3, h4⟩ := run_append_s2 w B v s t o.type hown hB hz
  have hlt := hown.lt
  have hK := h v' w' h2 ((Below.refl B w).grown h3 hB (fun q hq => by obtain ⟨g, e, hg, _⟩ := hlt; rw [e] at hq; cases hq; exact hg)) (fun k hk hne => h3.block k hk (fun e => hne e.symm)) h4 h3.size
  unfold Oper.wp execOp
  simp only [ho, resolve, invoke, builtin, Sem.run_bind, Sem.run_pure, Result.andThen_ok, List.map_toArray, List.map_cons, List.map_nil, hs, hx, hr]
  exact hK
/-- The same, where the order is fixed. -/
theorem wpList_append_s (w : World) {ops : Array Oper} {rest : List Oper} {o : Oper} {a : Act} {Q : Exit → Act → World → Prop} (hgd : o.guard = none) (sl x : Operand)
    (ho : o.op = .call { callee := .builtin .append, args := #[sl, x], argTypes := #[62, 9] })
    (B : Nat) (v : Value) (s t : ByteArray) (hs : a.eval sl = v) (hown : RowS w B v s) (hx : a.eval x = .string t) (hB : B ≤ w.heap.size) (hz : s.size + t.size ≤ 140737488355328)
    (h : ∀ v' w', RowS w' B v' (s ++ t) → Below B w w' → (∀ k, k < w.heap.size → v.ownBlock ≠ some k → w'.heap[k]? = w.heap[k]?) → (v'.ownBlock = v.ownBlock ∨ v'.ownBlock = some w.heap.size) → w.heap.size ≤ w'.heap.size → wpList Tryz.prog ops Q rest (a.put o.dst v') w') :
    wpList Tryz.prog ops Q (o :: rest) a w := by
  refine wpList_plain hgd fun K hK => ?_
  obtain ⟨v', w', hr, h2, h3, h4⟩ := run_append_s2 w B v s t o.type hown hB hz
  have hlt := hown.lt
  have hh := h v' w' h2 ((Below.refl B w).grown h3 hB (fun q hq => by obtain ⟨g, e, hg, _⟩ := hlt; rw [e] at hq; cases hq; exact hg)) (fun k hk hne => h3.block k hk (fun e => hne e.symm)) h4 h3.size
  unfold Oper.wp execOp
  simp only [ho, resolve, invoke, builtin, Sem.run_bind, Sem.run_pure, Result.andThen_ok, List.map_toArray, List.map_cons, List.map_nil, hs, hx, hr]
  exact hK _ _ hh
/-- The bytes of a text, in new memory. -/
theorem conv_s (w : World) (s : ByteArray) (hs : s.size ≤ 140737488355328) : ∃ v w', (convert 9 62 (.string s)).run Tryz.prog w = .ok v w' ∧ RowS w' w.heap.size v s ∧ Below w.heap.size w w' := by
  refine ⟨_, _, run_bytes_of_string w _ _ 5 s Tryz.underlying9 Tryz.underlying62 Tryz.underlying5, ?_, (Below.refl _ w).drew.alloc (by simp) _⟩
  have hge := grownCap_ge w s.size 0 5
  have hcm := grownCap_le_maxLen w s.size 0 5 (by unfold maxLen; omega)
  have hsz : (bytesRow s (grownCap w s.size 0 5)).size = grownCap w s.size 0 5 := by
    unfold bytesRow
    rw [Array.size_append, Array.size_map, Array.size_replicate]
    show s.size + _ = _
    omega
  refine ⟨w.heap.size, _, _, _, rfl, Nat.le_refl _, heap_alloc_new w.drew _, Or.inr (by rw [hsz]; exact Nat.le_refl _), hge, hcm, hsz, ?_⟩
  have hl : (Lib.strCells s).length = s.size := Lib.strCells_length s
  unfold bytesRow
  rw [Array.toList_append, Array.toList_map]
  conv => lhs; arg 1; rw [← hl]
  exact List.take_left
theorem conv_fun (s : ByteArray) (hs : s.size ≤ 140737488355328) : ∃ (V : World → Value) (N : World → World), (∀ w, (convert 9 62 (.string s)).run Tryz.prog w = .ok (V w) (N w)) ∧ ∀ w, RowS (N w) w.heap.size (V w) s ∧ Below w.heap.size w (N w) :=
  ⟨fun w => Classical.choose (conv_s w s hs), fun w => Classical.choose (Classical.choose_spec (conv_s w s hs)), fun w => (Classical.choose_spec (Classical.choose_spec (conv_s w s hs))).1, fun w => (Classical.choose_spec (Classical.choose_spec (conv_s w s hs))).2⟩
theorem step_conv_s (w : World) {ops : Array Oper} {o : Oper} {a : Act} {K : Act → World → Prop} {Q : Exit → Act → World → Prop} {E : Prop} (hgd : o.guard = none) (x : Operand)
    (ho : o.op = .convert 9 62 x) (s : ByteArray) (hx : a.eval x = .string s) (hs : s.size ≤ 140737488355328)
    (h : ∀ v w', RowS w' w.heap.size v s → Below w.heap.size w w' → K (a.put o.dst v) w') :
    if Region.wanted o (yielded ops a.tmps) = true then Oper.wp Tryz.prog o a w K Q else E := by
  have hw : Region.wanted o (yielded ops a.tmps) = true := by simp [Region.wanted, hgd]
  rw [if_pos hw]
  obtain ⟨v, w', hr, h2, h3⟩ := conv_s w s hs
  have hK := h v w' h2 h3
  unfold Oper.wp execOp
  simp only [ho, Sem.run_bind, Sem.run_pure, Result.andThen_ok, hx, hr]
  exact hK
/-- The text that the bytes are. -/
theorem back_s {w : World} {B : Nat} {v : Value} {s : ByteArray} (h : RowS w B v s) : (convert 62 9 v).run Tryz.prog w = .ok (.string s) w := by
  obtain ⟨g, cap, cur, fz, rfl, h1, h2, h3, h4, h5, h6, h7⟩ := h
  have := run_convert_bytes_back w 62 9 5 ⟨g, 0, none⟩ cap s.data.toList Tryz.underlying62 Tryz.underlying5 Tryz.underlying9 (fun j hj => by
    have ha : (⟨g, 0, none⟩ : Addr).add j = ⟨g, j, none⟩ := by unfold Addr.add; split <;> simp_all
    rw [ha, cell_of_row w g j cur _ _ h2, ← Array.getElem?_toList]
    have hj' : j < s.size := by simpa using hj
    have : (cur.toList.take s.size)[j]? = (Lib.strCells s)[j]? := by rw [h7]
    rw [List.getElem?_take_of_lt hj'] at this
    rw [this, Lib.strCells, List.getElem?_map, List.getElem?_eq_getElem hj]
    rfl)
  simpa using this
end Go.Proofs.YtoecnlhnfhongaaGreatDoor

