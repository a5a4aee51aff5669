import Derived.Test.YtoecnlhnfhongaaDoorJ14SNumL
import Derived.Test.YtoecnlhnfhongaaDoorProg
import Derived.Test.YtoecnlhnfhongaaDoorJ01SmpB
import Derived.Test.YtoecnlhnfhongaaDoorJ02SNum
import Derived.Lib.FrozenHead
import Derived.Laws.IdiomStrings
import Derived.Test.YtoecnlhnfhongaaDoorJ03RqD
namespace Go.Proofs.YtoecnlhnfhongaaDoor
open Go.RowKit

theorem partZ_eat {s : ByteArray} {p n : Nat} {t : ByteArray} {q : Nat} (h : partN s p n = some (t, q)) : q = p + n + t.size := by
  unfold partN at h
  split at h
  · rename_i hh
    simp only [Option.some.injEq, Prod.mk.injEq] at h
    obtain ⟨rfl, rfl⟩ := h
    rw [ByteArray.size_extract]
    omega
  · exact absurd h (by simp)
theorem lPartZ {s : ByteArray} {n : Nat} {p : Option Nat} : (∀ q, (lPart s n p).2 = some q → ∃ a, p = some a ∧ q = a + n + (lPart s n p).1.size ∧ q ≤ s.size) ∧ ((lPart s n p).2 = none → (lPart s n p).1.size = 0) := by
  refine ⟨fun q h => ?_, fun h => ?_⟩
  · have hle := lPart_le h
    cases p with
    | none => exact absurd h (by simp [lPart])
    | some a =>
      refine ⟨a, rfl, ?_, hle⟩
      cases hh : partN s a n with
      | none => rw [lPart_not hh] at h; simp at h
      | some tr =>
        obtain ⟨t, r⟩ := tr
        rw [lPart_at hh] at h ⊢
        simp only [Option.some.injEq] at h
        have := partZ_eat hh
        simp only
        omega
  · cases p with
    | none => simp [lPart]
    | some a =>
      cases hh : partN s a n with
      | none => rw [lPart_not hh]; rfl
      | some tr =>
        obtain ⟨t, r⟩ := tr
        rw [lPart_at hh] at h
        simp at h
theorem lNumZ {s : ByteArray} {n : Nat} {p : Option Nat} : (∀ q, (lNum s n p).2 = some q → ∃ a, p = some a ∧ q = a + n ∧ q ≤ s.size) ∧ ((lNum s n p).2 = none → (lNum s n p).1 = 0) := by
  refine ⟨fun q h => ?_, fun h => ?_⟩
  · have hle := lNum_le h
    cases p with
    | none => exact absurd h (by simp [lNum])
    | some p =>
      rw [lNum_some] at h
      split at h
      · simp at h; exact ⟨p, rfl, by omega, hle⟩
      · simp at h
  · cases p with
    | none => rfl
    | some p =>
      rw [lNum_some] at h ⊢
      split at h
      · simp at h
      · rename_i hh; rw [if_neg hh]
theorem lNumZ_cap (s : ByteArray) (n : Nat) (p : Option Nat) : (lNum s n p).1 < 256 ^ n := by
  cases p with
  | none => exact Nat.pow_pos (by omega)
  | some p =>
    rw [lNum_some]
    split
    · rename_i hh
      have := beL_lt (sectL s p n)
      rw [sectL_length hh] at this
      exact this
    · exact Nat.pow_pos (by omega)
theorem lLs_len (s : ByteArray) (p0 : Option Nat) (k : Nat) : (lLs s p0 k).1.length ≤ k := by
  induction k with
  | zero => rw [lLs_zero]; simp
  | succ k ih =>
    cases hh : (lLs s p0 k).2 with
    | none => rw [lLs_none hh]; omega
    | some p => rw [lLs_some hh]; simp; omega
theorem lXs_len (s : ByteArray) (p0 : Option Nat) (k : Nat) : (lXs s p0 k).1.length ≤ k := by
  induction k with
  | zero => rw [lXs_zero]; simp
  | succ k ih =>
    cases hh : (lXs s p0 k).2 with
    | none => rw [lXs_none hh]; omega
    | some p => rw [lXs_some hh]; simp; omega
theorem lLs_off (s : ByteArray) (k : Nat) : lLs s none k = ([], none) := by
  have := lLs_stay (s := s) (p0 := none) (k := 0) (by rw [lLs_zero]) k (Nat.zero_le _)
  rw [this, lLs_zero]
theorem lXs_off (s : ByteArray) (k : Nat) : lXs s none k = ([], none) := by
  have := lXs_stay (s := s) (p0 := none) (k := 0) (by rw [lXs_zero]) k (Nat.zero_le _)
  rw [this, lXs_zero]
theorem lLs_use {s : ByteArray} {b : Nat} (hb : b ≤ s.size) (k : Nat) : (∀ q, (lLs s (some b) k).2 = some q → (lLs s (some b) k).1.length + labBulk (lLs s (some b) k).1 + b ≤ q ∧ q ≤ s.size) ∧ ((lLs s (some b) k).2 = none → (lLs s (some b) k).1.length + labBulk (lLs s (some b) k).1 + b ≤ s.size + 1) := by
  induction k with
  | zero =>
    rw [lLs_zero]
    refine ⟨fun q h => ?_, fun h => by cases h⟩
    cases h
    exact ⟨by simp [labBulk], hb⟩
  | succ k ih =>
    cases hh : (lLs s (some b) k).2 with
    | none => rw [lLs_none hh, hh]; exact ⟨fun q h => absurd h (by simp), fun _ => ih.2 hh⟩
    | some p =>
      obtain ⟨i1, i2⟩ := ih.1 p hh
      have e : lLab s (some p) = (⟨(lPart s 1 (some p)).1, (lPart s 2 (lPart s 1 (some p)).2).1⟩, (lPart s 2 (lPart s 1 (some p)).2).2) := by rw [lLab]
      rw [lLs_some hh, e]
      simp only [List.length_append, List.length_cons, List.length_nil, labBulk_append]
      generalize (lLs s (some b) k).1 = L at *
      obtain ⟨a1, a2⟩ := lPartZ (s := s) (n := 1) (p := some p)
      obtain ⟨b1, b2⟩ := lPartZ (s := s) (n := 2) (p := (lPart s 1 (some p)).2)
      have el : ∀ l : LabD, labBulk [l] = l.name.size + l.value.size := fun l => by simp [labBulk]
      simp only [el]
      generalize lPart s 2 (lPart s 1 (some p)).2 = B at *
      generalize lPart s 1 (some p) = A at *
      refine ⟨fun q h => ?_, fun h => ?_⟩
      · obtain ⟨c, c1, c2, c3⟩ := b1 q h
        obtain ⟨d, d1, d2, d3⟩ := a1 c c1
        cases d1
        exact ⟨by omega, c3⟩
      · have h1 := b2 h
        cases hA : A.2 with
        | none => have := a2 hA; omega
        | some c =>
          obtain ⟨d, d1, d2, d3⟩ := a1 c hA
          cases d1
          omega
theorem lSm_use {s : ByteArray} {b : Nat} (hb : b ≤ s.size) : (∀ q, (lSm s (some b)).2 = some q → smpBulk (lSm s (some b)).1 + 1 + b ≤ q ∧ q ≤ s.size) ∧ ((lSm s (some b)).2 = none → smpBulk (lSm s (some b)).1 + b ≤ s.size) := by
  have e1 : smpBulk (lSm s (some b)).1 = (lSmL s (some b)).1.length + labBulk (lSmL s (some b)).1 := by rw [lSm]; rfl
  have e2 : (lSm s (some b)).2 = (lSmB s (some b)).2 := by rw [lSm]
  have e3 : lSmB s (some b) = lNum s 8 (lSmL s (some b)).2 := by rw [lSmB]
  have e4 : lSmL s (some b) = lLs s (lSmN s (some b)).2 (lSmN s (some b)).1 := by rw [lSmL]
  have e5 : lSmN s (some b) = lNum s 1 (some b) := by rw [lSmN]
  rw [e1, e2, e3]
  obtain ⟨n1, n2⟩ := lNumZ (s := s) (n := 1) (p := some b)
  obtain ⟨m1, m2⟩ := lNumZ (s := s) (n := 8) (p := (lSmL s (some b)).2)
  rw [← e5] at n1 n2
  cases hN : (lSmN s (some b)).2 with
  | none =>
    rw [hN, lLs_off] at e4
    rw [e4]
    refine ⟨fun q h => ?_, fun _ => by simp [labBulk]; exact hb⟩
    obtain ⟨c, c1, _⟩ := m1 q (by rw [e4]; exact h)
    rw [e4] at c1
    cases c1
  | some c =>
    obtain ⟨d, d1, d2, d3⟩ := n1 c hN
    cases d1
    rw [hN] at e4
    have hu := lLs_use d3 (lSmN s (some b)).1
    rw [← e4] at hu
    refine ⟨fun q h => ?_, fun h => ?_⟩
    · obtain ⟨f, f1, f2, f3⟩ := m1 q h
      have := hu.1 f f1
      exact ⟨by omega, f3⟩
    · cases hL : (lSmL s (some b)).2 with
      | none => have := hu.2 hL; omega
      | some f => have := hu.1 f hL; omega
theorem lXs_use {s : ByteArray} {b : Nat} (hb : b ≤ s.size) (k : Nat) : (∀ q, (lXs s (some b) k).2 = some q → (lXs s (some b) k).1.length + smpsBulk (lXs s (some b) k).1 + b ≤ q ∧ q ≤ s.size) ∧ ((lXs s (some b) k).2 = none → (lXs s (some b) k).1.length + smpsBulk (lXs s (some b) k).1 + b ≤ s.size + 1) := by
  induction k with
  | zero =>
    rw [lXs_zero]
    refine ⟨fun q h => ?_, fun h => by cases h⟩
    cases h
    exact ⟨by simp [smpsBulk], hb⟩
  | succ k ih =>
    cases hh : (lXs s (some b) k).2 with
    | none => rw [lXs_none hh, hh]; exact ⟨fun q h => absurd h (by simp), fun _ => ih.2 hh⟩
    | some p =>
      obtain ⟨i1, i2⟩ := ih.1 p hh
      obtain ⟨a1, a2⟩ := lSm_use i2
      rw [lXs_some hh]
      have el : ∀ l : SmpD, smpsBulk [l] = smpBulk l := fun l => by simp [smpsBulk]
      simp only [List.length_append, List.length_cons, List.length_nil, smpsBulk_append, el]
      generalize (lXs s (some b) k).1 = L at *
      generalize lSm s (some p) = A at *
      refine ⟨fun q h => ?_, fun h => ?_⟩
      · have := a1 q h
        exact ⟨by omega, this.2⟩
      · have := a2 h
        omega
theorem lXs_le {s : ByteArray} {p0 : Option Nat} (h0 : ∀ b, p0 = some b → b ≤ s.size) (k q : Nat) (h : (lXs s p0 k).2 = some q) : q ≤ s.size := by
  cases p0 with
  | none => rw [lXs_off] at h; cases h
  | some b => exact ((lXs_use (h0 b rfl) k).1 q h).2
theorem lLs_le {s : ByteArray} {p0 : Option Nat} (h0 : ∀ b, p0 = some b → b ≤ s.size) (k q : Nat) (h : (lLs s p0 k).2 = some q) : q ≤ s.size := by
  cases p0 with
  | none => rw [lLs_off] at h; cases h
  | some b => exact ((lLs_use (h0 b rfl) k).1 q h).2
theorem lqT_use (s : ByteArray) : (∀ q, (lqT s).2 = some q → (lqT s).1.size + 1 ≤ q ∧ q ≤ s.size) ∧ ((lqT s).2 = none → (lqT s).1.size = 0) := by
  have hK : ∀ q, (lqK s).2 = some q → q = 1 ∧ q ≤ s.size := fun q h => by
    obtain ⟨a, a1, a2, a3⟩ := (lNumZ (s := s) (n := 1) (p := some 0)).1 q (by rw [lqK] at h; exact h)
    cases a1
    exact ⟨by omega, a3⟩
  unfold lqT
  split
  · obtain ⟨a1, a2⟩ := lPartZ (s := s) (n := 1) (p := (lqK s).2)
    refine ⟨fun q h => ?_, a2⟩
    obtain ⟨c, c1, c2, c3⟩ := a1 q h
    have := hK c c1
    exact ⟨by omega, c3⟩
  · refine ⟨fun q h => ?_, fun _ => rfl⟩
    have := hK q h
    have e : ByteArray.empty.size = 0 := rfl
    exact ⟨by simp only; omega, this.2⟩
theorem lqM_use (s : ByteArray) : (∀ q, (lqM s).2 = some q → ∃ a, (lqT s).2 = some a ∧ (lqM s).1.size + a ≤ q ∧ q ≤ s.size) ∧ ((lqM s).2 = none → (lqM s).1.size = 0) := by
  unfold lqM
  split
  · obtain ⟨a1, a2⟩ := lPartZ (s := s) (n := 2) (p := (lqT s).2)
    refine ⟨fun q h => ?_, a2⟩
    obtain ⟨c, c1, c2, c3⟩ := a1 q h
    exact ⟨c, c1, by omega, c3⟩
  · refine ⟨fun q h => ?_, fun _ => rfl⟩
    have e : ByteArray.empty.size = 0 := rfl
    exact ⟨q, h, by simp only; omega, ((lqT_use s).1 q h).2⟩
theorem lqN_use (s : ByteArray) : ∀ q, (lqN s).2 = some q → ∃ a, (lqM s).2 = some a ∧ a ≤ q ∧ q ≤ s.size := by
  unfold lqN
  split
  · intro q h
    obtain ⟨c, c1, c2, c3⟩ := (lNumZ (s := s) (n := 8) (p := (lqM s).2)).1 q h
    exact ⟨c, c1, by omega, c3⟩
  · intro q h
    obtain ⟨a, _, _, h3⟩ := (lqM_use s).1 q h
    exact ⟨q, h, Nat.le_refl _, h3⟩
theorem lRq_bulk (s : ByteArray) : reqBulk (lRq s) ≤ s.size := by
  have e : reqBulk (lRq s) = (lqT s).1.size + (lqM s).1.size + (lqS s).1.length + smpsBulk (lqS s).1 := rfl
  rw [e]
  have hT := lqT_use s
  have hM := lqM_use s
  have hTM : (lqT s).1.size + (lqM s).1.size ≤ s.size := by
    cases hm : (lqM s).2 with
    | some q =>
      obtain ⟨a, a1, a2, a3⟩ := hM.1 q hm
      have := hT.1 a a1
      omega
    | none =>
      have h1 := hM.2 hm
      cases ht : (lqT s).2 with
      | some q => have := hT.1 q ht; omega
      | none => have := hT.2 ht; omega
  unfold lqS
  split
  · cases hc : (lqC s).2 with
    | none =>
      rw [lXs_off]
      simp [smpsBulk]
      exact hTM
    | some c =>
      obtain ⟨a, a1, a2, a3⟩ := (lNumZ (s := s) (n := 2) (p := (lqN s).2)).1 c (by rw [lqC] at hc; exact hc)
      obtain ⟨b, b1, b2, b3⟩ := lqN_use s a a1
      obtain ⟨d, d1, d2, d3⟩ := hM.1 b b1
      have := hT.1 d d1
      have hu := lXs_use a3 (lqC s).1
      cases hq : (lXs s (some c) (lqC s).1).2 with
      | none => have := hu.2 hq; omega
      | some q => have := hu.1 q hq; omega
  · simp [smpsBulk]
    exact hTM
end Go.Proofs.YtoecnlhnfhongaaDoor

namespace Go.Proofs.YtoecnlhnfhongaaDoor
open Go.RowKit

/-- v is a slice of bytes in a block of its own, from B on: the text s; no cell of it is frozen. -/
def RowS (w : World) (B : Nat) (v : Value) (s : ByteArray) : Prop :=
  ∃ g cap cur fz, v = .slice (some ⟨g, 0, none⟩) s.size cap ∧ B ≤ g ∧ w.heap[g]? = some (.cells cur 5 fz) ∧ (fz.2 = 0 ∨ cap ≤ fz.1) ∧ s.size ≤ cap ∧ cap ≤ maxLen ∧ cur.size = cap ∧ cur.toList.take s.size = Lib.strCells s
theorem RowS.later {w w' : World} {B : Nat} {v : Value} {s : ByteArray} (h : RowS w B v s) (hb : Below w.heap.size w w') : RowS w' B v s := by
  obtain ⟨g, cap, cur, fz, h1, h2, h3, h4⟩ := h
  exact ⟨g, cap, cur, fz, h1, h2, (hb.block g (lt_of_block h3)).trans h3, h4⟩
theorem RowS.mono {w : World} {B B' : Nat} {v : Value} {s : ByteArray} (h : RowS w B v s) (hB : B' ≤ B) : RowS w B' v s := by
  obtain ⟨g, cap, cur, fz, h1, h2, h3⟩ := h
  exact ⟨g, cap, cur, fz, h1, Nat.le_trans hB h2, h3⟩
theorem RowS.keep {w w' : World} {B : Nat} {v : Value} {s : ByteArray} (h : RowS w B v s) (hk : ∀ k, k < w.heap.size → v.ownBlock = some k → w'.heap[k]? = w.heap[k]?) : RowS w' B v s := by
  obtain ⟨g, cap, cur, fz, rfl, h2, h3, h4⟩ := h
  exact ⟨g, cap, cur, fz, rfl, h2, (hk g (lt_of_block h3) rfl).trans h3, h4⟩
theorem RowS.lt {w : World} {B : Nat} {v : Value} {s : ByteArray} (h : RowS w B v s) : ∃ g, v.ownBlock = some g ∧ B ≤ g ∧ g < w.heap.size := by
  obtain ⟨g, cap, cur, fz, rfl, h2, h3, h4⟩ := h
  exact ⟨g, rfl, h2, lt_of_block h3⟩
theorem strCells_append (a b : ByteArray) : Lib.strCells (a ++ b) = Lib.strCells a ++ Lib.strCells b := by simp [Lib.strCells]

theorem store_free (P : Program) (g o : Nat) (t : TypeId) (fz : Nat × Nat) (vs : List Value) : ∀ (i : Nat) (cur : Array Value) (w : World), w.heap[g]? = some (.cells cur t fz) → (fz.2 = 0 ∨ cur.size ≤ fz.1) → o + i + vs.length ≤ cur.size → (∀ v ∈ vs, v.oneCell' = true) →
    (storeCells ⟨g, o, none⟩ vs i).run P w = .ok () (w.setRow g (cur.toList.take (o + i) ++ vs ++ cur.toList.drop (o + i + vs.length)).toArray) := by
  induction vs with
  | nil =>
    intro i cur w hg _ _ _
    rw [storeCells, List.append_nil, List.length_nil, Nat.add_zero, List.take_append_drop, Array.toArray_toList, setRow_self w g cur t fz hg]
    rfl
  | cons v q ih =>
    intro i cur w hg hz hl h1
    rw [List.length_cons] at hl
    have ha : (⟨g, o, none⟩ : Addr).add i = ⟨g, o + i, none⟩ := by unfold Addr.add; split <;> simp_all
    have hc : w.cell? ⟨g, o + i, none⟩ = some (cur[o + i]'(by omega)) := by rw [cell_of_row w g _ cur t fz hg]; exact Array.getElem?_eq_getElem (by omega)
    have hnf : w.frozen? ⟨g, o + i, none⟩ = false := by
      unfold World.frozen?
      rw [hg]
      rcases hz with hz | hz
      · rw [Bool.and_eq_false_iff]; exact Or.inr (decide_eq_false (by show ¬ o + i < fz.2; omega))
      · rw [Bool.and_eq_false_iff]; exact Or.inl (decide_eq_false (by show ¬ fz.1 ≤ o + i; omega))
    have hs : (store ((⟨g, o, none⟩ : Addr).add i) v).run P w = .ok () (w.setRow g (cur.setIfInBounds (o + i) v)) := by
      rw [ha, run_store P w _ v _ (h1 v (List.mem_cons_self ..)), hc]
      simp [hnf, setCell_eq_setRow w g (o + i) cur t fz v hg]
    have h := ih (i + 1) (cur.setIfInBounds (o + i) v) (w.setRow g (cur.setIfInBounds (o + i) v)) (setRow_heap w g cur _ t _ hg) (by simpa using hz) (by simp; omega) (fun x hx => h1 x (List.mem_cons_of_mem _ hx))
    rw [storeCells, Sem.run_bind, hs, Result.andThen_ok, h, setRow_setRow]
    congr 3
    have e := list_seg_step cur.toList (o + i) v q (by simp; omega)
    simpa [Array.toList_setIfInBounds, Nat.add_assoc] using e

theorem run_append_s2 (w : World) (B : Nat) (v : Value) (s x : ByteArray) (ty : TypeId) (hown : RowS w B v s) (hB : B ≤ w.heap.size) (hz : s.size + x.size ≤ 140737488355328) :
    ∃ v' w', (Builtin.append_ #[69, 9] ty #[v, .string x]).run Tryd.prog w = .ok v' w' ∧ RowS w' B v' (s ++ x) ∧ w.grownBy w' v.ownBlock ∧ (v'.ownBlock = v.ownBlock ∨ v'.ownBlock = some w.heap.size) := by
  obtain ⟨ti, hti, hz0, hz1, hz2⟩ := info_u8
  obtain ⟨g, cap, cur, fz, rfl, hg1, hg2, hg3, hg4, hg5, hg6, hg7⟩ := hown
  have hsz : (s ++ x).size = s.size + x.size := ByteArray.size_append
  by_cases hroom : s.size + x.size ≤ cap
  · have hf := Lib.run_firstCells_string (P := Tryd.prog) w 1 x
    have hst := store_free Tryd.prog g s.size 5 fz (Lib.strCells x) 0 cur w hg2 (by rw [hg6]; exact hg3) (by rw [Lib.strCells_length]; omega) (Lib.strCells_oneCell x)
    simp only [Nat.add_zero, Lib.strCells_length] at hst
    refine ⟨.slice (some ⟨g, 0, none⟩) (s.size + x.size) cap, w.setRow g (cur.toList.take s.size ++ Lib.strCells x ++ cur.toList.drop (s.size + x.size)).toArray, ?_, ?_, ⟨rfl, rfl, rfl, by simp, fun k _ hk => setRow_other w g k _ (fun e => hk (by simp [Value.ownBlock, e]))⟩, Or.inl rfl⟩
    · simp [Builtin.append_, run_underlying Tryd.underlying69, run_underlying Tryd.underlying9, sizeOf, typeInfo, hti, hz1, Builtin.lenOf, hroom, hf, Addr.add_lit, hst]
    · refine ⟨g, cap, _, fz, by rw [hsz], hg1, setRow_heap w g cur _ _ _ hg2, hg3, by omega, hg5, ?_, ?_⟩
      · simp only [List.size_toArray, List.length_append, List.length_take, List.length_drop, Array.length_toList, Lib.strCells_length]
        omega
      · rw [hg7, hsz, strCells_append]
        have hl : (Lib.strCells s ++ Lib.strCells x).length = s.size + x.size := by rw [List.length_append, Lib.strCells_length, Lib.strCells_length]
        rw [← hl]
        exact List.take_left
  · have holds : ∀ j u, (Lib.strCells s)[j]? = some u → w.cell? ((⟨g, 0, none⟩ : Addr).add j) = some u := fun j u hu => by
      have ha : (⟨g, 0, none⟩ : Addr).add j = ⟨g, j, none⟩ := by unfold Addr.add; split <;> simp_all
      rw [ha, cell_of_row w g j cur _ _ hg2]
      rw [← hg7, List.getElem?_take] at hu
      split at hu
      · simpa using hu
      · cases hu
    have hr := Lib.run_append_grow_string (P := Tryd.prog) w 69 9 ty 5 ti (.int .u8 0) Tryd.underlying69 Tryd.underlying9 hti hz0 ⟨g, 0, none⟩ s.size cap (Lib.strCells s) (by rw [hz1, Lib.strCells_length, Nat.mul_one]) holds x (by omega) (by omega) (by rw [hz2]; exact growslice_fits (by omega) (by omega))
    have hge := grownCap_ge w (s.size + x.size) cap 5
    have hcm := grownCap_le_maxLen w (s.size + x.size) cap 5 (by unfold maxLen; omega)
    refine ⟨_, _, hr, ⟨w.heap.size, _, _, (0, 0), by rw [hsz], hB, heap_alloc_new w.drew _, Or.inl rfl, by omega, hcm, ?_, ?_⟩, ⟨rfl, rfl, rfl, by simp, fun k hk _ => heap_alloc_old w.drew _ hk⟩, Or.inr rfl⟩
    · have hq : (Value.int IntKind.u8 0).cells.size = 1 := rfl
      simp only [Array.size_append, List.size_toArray, size_zeroCells, hq, Lib.strCells_length]
      omega
    · rw [hsz, strCells_append]
      have hl : (Lib.strCells s ++ Lib.strCells x).length = s.size + x.size := by rw [List.length_append, Lib.strCells_length, Lib.strCells_length]
      simp only [Array.toList_append, List.append_assoc]
      rw [← List.append_assoc, ← hl]
      exact List.take_left

theorem run_append_s (w : World) (B : Nat) (v : Value) (s x : ByteArray) (ty : TypeId) (hown : RowS w B v s) (hB : B ≤ w.heap.size) (hz : s.size + x.size ≤ 140737488355328) :
    ∃ v' w', (Builtin.append_ #[69, 9] ty #[v, .string x]).run Tryd.prog w = .ok v' w' ∧ RowS w' B v' (s ++ x) ∧ w.grownBy w' v.ownBlock := by
  obtain ⟨v', w', h1, h2, h3, _⟩ := run_append_s2 w B v s x ty hown hB hz
  exact ⟨v', w', h1, h2, h3⟩
/-- An append of a text's bytes, at a step of a region that draws its order. -/
theorem step_append_s (w : World) {ops : Array Oper} {o : Oper} {a : Act} {K : Act → World → Prop} {Q : Exit → Act → World → Prop} {E : Prop} (hgd : o.guard = none) (sl x : Operand)
    (ho : o.op = .call { callee := .builtin .append, args := #[sl, x], argTypes := #[69, 9] })
    (B : Nat) (v : Value) (s t : ByteArray) (hs : a.eval sl = v) (hown : RowS w B v s) (hx : a.eval x = .string t) (hB : B ≤ w.heap.size) (hz : s.size + t.size ≤ 140737488355328)
    (h : ∀ v' w', RowS w' B v' (s ++ t) → Below B w w' → (∀ k, k < w.heap.size → v.ownBlock ≠ some k → w'.heap[k]? = w.heap[k]?) → K (a.put o.dst v') w') :
    if Region.wanted o (yielded ops a.tmps) = true then Oper.wp Tryd.prog o a w K Q else E := by
  have hw : Region.wanted o (yielded ops a.tmps) = true := by simp [Region.wanted, hgd]
  rw [if_pos hw]
  obtain ⟨v', w', hr, h2, h3⟩ := run_append_s w B v s t o.type hown hB hz
  have hlt := hown.lt
  have hK := h v' w' h2 ((Below.refl B w).grown h3 hB (fun q hq => by obtain ⟨g, e, hg, _⟩ := hlt; rw [e] at hq; cases hq; exact hg)) (fun k hk hne => h3.block k hk (fun e => hne e.symm))
  unfold Oper.wp execOp
  simp only [ho, resolve, invoke, builtin, Sem.run_bind, Sem.run_pure, Result.andThen_ok, List.map_toArray, List.map_cons, List.map_nil, hs, hx, hr]
  exact hK
theorem step_append_s2 (w : World) {ops : Array Oper} {o : Oper} {a : Act} {K : Act → World → Prop} {Q : Exit → Act → World → Prop} {E : Prop} (hgd : o.guard = none) (sl x : Operand)
    (ho : o.op = .call { callee := .builtin .append, args := #[sl, x], argTypes := #[69, 9] })
    (B : Nat) (v : Value) (s t : ByteArray) (hs : a.eval sl = v) (hown : RowS w B v s) (hx : a.eval x = .string t) (hB : B ≤ w.heap.size) (hz : s.size + t.size ≤ 140737488355328)
    (h : ∀ v' w', RowS w' B v' (s ++ t) → Below B w w' → (∀ k, k < w.heap.size → v.ownBlock ≠ some k → w'.heap[k]? = w.heap[k]?) → (v'.ownBlock = v.ownBlock ∨ v'.ownBlock = some w.heap.size) → w.heap.size ≤ w'.heap.size → K (a.put o.dst v') w') :
    if Region.wanted o (yielded ops a.tmps) = true then Oper.wp Tryd.prog o a w K Q else E := by
  have hw : Region.wanted o (yielded ops a.tmps) = true := by simp [Region.wanted, hgd]
  rw [if_pos hw]
  obtain ⟨v', w', hr, h2, h3, h4⟩ := run_append_s2 w B v s t o.type hown hB hz
  have hlt := hown.lt
  have hK := h v' w' h2 ((Below.refl B w).grown h3 hB (fun q hq => by obtain ⟨g, e, hg, _⟩ := hlt; rw [e] at hq; cases hq; exact hg)) (fun k hk hne => h3.block k hk (fun e => hne e.symm)) h4 h3.size
  unfold Oper.wp execOp
  simp only [ho, resolve, invoke, builtin, Sem.run_bind, Sem.run_pure, Result.andThen_ok, List.map_toArray, List.map_cons, List.map_nil, hs, hx, hr]
  exact hK
/-- The same, where the order is fixed. -/
theorem wpList_append_s (w : World) {ops : Array Oper} {rest : List Oper} {o : Oper} {a : Act} {Q : Exit → Act → World → Prop} (hgd : o.guard = none) (sl x : Operand)
    (ho : o.op = .call { callee := .builtin .append, args := #[sl, x], argTypes := #[69, 9] })
    (B : Nat) (v : Value) (s t : ByteArray) (hs : a.eval sl = v) (hown : RowS w B v s) (hx : a.eval x = .string t) (hB : B ≤ w.heap.size) (hz : s.size + t.size ≤ 140737488355328)
    (h : ∀ v' w', RowS w' B v' (s ++ t) → Below B w w' → (∀ k, k < w.heap.size → v.ownBlock ≠ some k → w'.heap[k]? = w.heap[k]?) → (v'.ownBlock = v.ownBlock ∨ v'.ownBlock = some w.heap.size) → w.heap.size ≤ w'.heap.size → wpList Tryd.prog ops Q rest (a.put o.dst v') w') :
    wpList Tryd.prog ops Q (o :: rest) a w := by
  refine wpList_plain hgd fun K hK => ?_
  obtain ⟨v', w', hr, h2, h3, h4⟩ := run_append_s2 w B v s t o.type hown hB hz
  have hlt := hown.lt
  have hh := h v' w' h2 ((Below.refl B w).grown h3 hB (fun q hq => by obtain ⟨g, e, hg, _⟩ := hlt; rw [e] at hq; cases hq; exact hg)) (fun k hk hne => h3.block k hk (fun e => hne e.symm)) h4 h3.size
  unfold Oper.wp execOp
  simp only [ho, resolve, invoke, builtin, Sem.run_bind, Sem.run_pure, Result.andThen_ok, List.map_toArray, List.map_cons, List.map_nil, hs, hx, hr]
  exact hK _ _ hh
/-- The bytes of a text, in new memory. -/
theorem conv_s (w : World) (s : ByteArray) (hs : s.size ≤ 140737488355328) : ∃ v w', (convert 9 69 (.string s)).run Tryd.prog w = .ok v w' ∧ RowS w' w.heap.size v s ∧ Below w.heap.size w w' := by
  refine ⟨_, _, run_bytes_of_string w _ _ 5 s Tryd.underlying9 Tryd.underlying69 Tryd.underlying5, ?_, (Below.refl _ w).drew.alloc (by simp) _⟩
  have hge := grownCap_ge w s.size 0 5
  have hcm := grownCap_le_maxLen w s.size 0 5 (by unfold maxLen; omega)
  have hsz : (bytesRow s (grownCap w s.size 0 5)).size = grownCap w s.size 0 5 := by
    unfold bytesRow
    rw [Array.size_append, Array.size_map, Array.size_replicate]
    show s.size + _ = _
    omega
  refine ⟨w.heap.size, _, _, _, rfl, Nat.le_refl _, heap_alloc_new w.drew _, Or.inr (by rw [hsz]; exact Nat.le_refl _), hge, hcm, hsz, ?_⟩
  have hl : (Lib.strCells s).length = s.size := Lib.strCells_length s
  unfold bytesRow
  rw [Array.toList_append, Array.toList_map]
  conv => lhs; arg 1; rw [← hl]
  exact List.take_left
theorem conv_fun (s : ByteArray) (hs : s.size ≤ 140737488355328) : ∃ (V : World → Value) (N : World → World), (∀ w, (convert 9 69 (.string s)).run Tryd.prog w = .ok (V w) (N w)) ∧ ∀ w, RowS (N w) w.heap.size (V w) s ∧ Below w.heap.size w (N w) :=
  ⟨fun w => Classical.choose (conv_s w s hs), fun w => Classical.choose (Classical.choose_spec (conv_s w s hs)), fun w => (Classical.choose_spec (Classical.choose_spec (conv_s w s hs))).1, fun w => (Classical.choose_spec (Classical.choose_spec (conv_s w s hs))).2⟩
theorem step_conv_s (w : World) {ops : Array Oper} {o : Oper} {a : Act} {K : Act → World → Prop} {Q : Exit → Act → World → Prop} {E : Prop} (hgd : o.guard = none) (x : Operand)
    (ho : o.op = .convert 9 69 x) (s : ByteArray) (hx : a.eval x = .string s) (hs : s.size ≤ 140737488355328)
    (h : ∀ v w', RowS w' w.heap.size v s → Below w.heap.size w w' → K (a.put o.dst v) w') :
    if Region.wanted o (yielded ops a.tmps) = true then Oper.wp Tryd.prog o a w K Q else E := by
  have hw : Region.wanted o (yielded ops a.tmps) = true := by simp [Region.wanted, hgd]
  rw [if_pos hw]
  obtain ⟨v, w', hr, h2, h3⟩ := conv_s w s hs
  have hK := h v w' h2 h3
  unfold Oper.wp execOp
  simp only [ho, Sem.run_bind, Sem.run_pure, Result.andThen_ok, hx, hr]
  exact hK
/-- The text that the bytes are. -/
theorem back_s {w : World} {B : Nat} {v : Value} {s : ByteArray} (h : RowS w B v s) : (convert 69 9 v).run Tryd.prog w = .ok (.string s) w := by
  obtain ⟨g, cap, cur, fz, rfl, h1, h2, h3, h4, h5, h6, h7⟩ := h
  have := run_convert_bytes_back w 69 9 5 ⟨g, 0, none⟩ cap s.data.toList Tryd.underlying69 Tryd.underlying5 Tryd.underlying9 (fun j hj => by
    have ha : (⟨g, 0, none⟩ : Addr).add j = ⟨g, j, none⟩ := by unfold Addr.add; split <;> simp_all
    rw [ha, cell_of_row w g j cur _ _ h2, ← Array.getElem?_toList]
    have hj' : j < s.size := by simpa using hj
    have : (cur.toList.take s.size)[j]? = (Lib.strCells s)[j]? := by rw [h7]
    rw [List.getElem?_take_of_lt hj'] at this
    rw [this, Lib.strCells, List.getElem?_map, List.getElem?_eq_getElem hj]
    rfl)
  simpa using this
end Go.Proofs.YtoecnlhnfhongaaDoor

namespace Go.Proofs.YtoecnlhnfhongaaDoor
open Go.RowKit

theorem specS8_any (s : ByteArray) (w : World) (hs : s.size ≤ 1000000000) :
    Calls Tryd.prog 33 #[.string s] w fun e w' => e = .returned (.string (s8B s)) ∧ Below w.heap.size w w' := by
  have HC : Hid (∀ W, Calls Tryd.prog 32 #[.int .i64 1, .int .i64 (s.size : Nat)] W fun e w' => e = .returned (.string (numS 1 (s.size : Nat))) ∧ Below W.heap.size W w') := fun W => specNum_any 1 (s.size : Nat) W (by omega) (by omega) (by omega)
  have hz := numS_size 1 (s.size : Nat)
  unfold s8B
  generalize numS 1 (s.size : Nat) = N at *
  go_enter Tryd.func33, Tryd.ntmps33
  go_wp2_with fail
  refine (HC.out _).mono ?_
  rintro e w1 ⟨rfl, hb1⟩
  have HB : Hid (Below w.heap.size w w1) := hb1
  clear hb1
  go_wp2
  go_ret
  exact ⟨rfl, HB.out⟩
theorem specS16_any (s : ByteArray) (w : World) (hs : s.size ≤ 1000000000) :
    Calls Tryd.prog 34 #[.string s] w fun e w' => e = .returned (.string (s16B s)) ∧ Below w.heap.size w w' := by
  have HC : Hid (∀ W, Calls Tryd.prog 32 #[.int .i64 2, .int .i64 (s.size : Nat)] W fun e w' => e = .returned (.string (numS 2 (s.size : Nat))) ∧ Below W.heap.size W w') := fun W => specNum_any 2 (s.size : Nat) W (by omega) (by omega) (by omega)
  have hz := numS_size 2 (s.size : Nat)
  unfold s16B
  generalize numS 2 (s.size : Nat) = N at *
  go_enter Tryd.func34, Tryd.ntmps34
  go_wp2_with fail
  refine (HC.out _).mono ?_
  rintro e w1 ⟨rfl, hb1⟩
  have HB : Hid (Below w.heap.size w w1) := hb1
  clear hb1
  go_wp2
  go_ret
  exact ⟨rfl, HB.out⟩

end Go.Proofs.YtoecnlhnfhongaaDoor

