/- The verifier's own text: bytes made of a text, and a text's bytes appended to them. -/
import Derived.Test.YtoecnlhnfhongaaDoorProg
import Derived.Test.YtoecnlhnfhongaaDoorOwn
import Derived.Test.YtoecnlhnfhongaaDoorSNum
import Derived.Lib.FrozenHead
import Derived.Laws.IdiomStrings
namespace Go.Proofs.YtoecnlhnfhongaaDoor
open Go.RowKit

/-- v is a slice of bytes in a block of its own, from B on: the text s; no cell of it is frozen. -/
def RowS (w : World) (B : Nat) (v : Value) (s : ByteArray) : Prop :=
  ∃ g cap cur fz, v = .slice (some ⟨g, 0, none⟩) s.size cap ∧ B ≤ g ∧ w.heap[g]? = some (.cells cur 5 fz) ∧ (fz.2 = 0 ∨ cap ≤ fz.1) ∧ s.size ≤ cap ∧ cap ≤ maxLen ∧ cur.size = cap ∧ cur.toList.take s.size = Lib.strCells s
theorem RowS.later {w w' : World} {B : Nat} {v : Value} {s : ByteArray} (h : RowS w B v s) (hb : Below w.heap.size w w') : RowS w' B v s := by
  obtain ⟨g, cap, cur, fz, h1, h2, h3, h4⟩ := h
  exact ⟨g, cap, cur, fz, h1, h2, (hb.block g (lt_of_block h3)).trans h3, h4⟩
theorem RowS.mono {w : World} {B B' : Nat} {v : Value} {s : ByteArray} (h : RowS w B v s) (hB : B' ≤ B) : RowS w B' v s := by
  obtain ⟨g, cap, cur, fz, h1, h2, h3⟩ := h
  exact ⟨g, cap, cur, fz, h1, Nat.le_trans hB h2, h3⟩
theorem RowS.keep {w w' : World} {B : Nat} {v : Value} {s : ByteArray} (h : RowS w B v s) (hk : ∀ k, k < w.heap.size → v.ownBlock = some k → w'.heap[k]? = w.heap[k]?) : RowS w' B v s := by
  obtain ⟨g, cap, cur, fz, rfl, h2, h3, h4⟩ := h
  exact ⟨g, cap, cur, fz, rfl, h2, (hk g (lt_of_block h3) rfl).trans h3, h4⟩
theorem RowS.lt {w : World} {B : Nat} {v : Value} {s : ByteArray} (h : RowS w B v s) : ∃ g, v.ownBlock = some g ∧ B ≤ g ∧ g < w.heap.size := by
  obtain ⟨g, cap, cur, fz, rfl, h2, h3, h4⟩ := h
  exact ⟨g, rfl, h2, lt_of_block h3⟩
theorem strCells_append (a b : ByteArray) : Lib.strCells (a ++ b) = Lib.strCells a ++ Lib.strCells b := by simp [Lib.strCells]

theorem store_free (P : Program) (g o : Nat) (t : TypeId) (fz : Nat × Nat) (vs : List Value) : ∀ (i : Nat) (cur : Array Value) (w : World), w.heap[g]? = some (.cells cur t fz) → (fz.2 = 0 ∨ cur.size ≤ fz.1) → o + i + vs.length ≤ cur.size → (∀ v ∈ vs, v.oneCell' = true) →
    (storeCells ⟨g, o, none⟩ vs i).run P w = .ok () (w.setRow g (cur.toList.take (o + i) ++ vs ++ cur.toList.drop (o + i + vs.length)).toArray) := by
  induction vs with
  | nil =>
    intro i cur w hg _ _ _
    rw [storeCells, List.append_nil, List.length_nil, Nat.add_zero, List.take_append_drop, Array.toArray_toList, setRow_self w g cur t fz hg]
    rfl
  | cons v q ih =>
    intro i cur w hg hz hl h1
    rw [List.length_cons] at hl
    have ha : (⟨g, o, none⟩ : Addr).add i = ⟨g, o + i, none⟩ := by unfold Addr.add; split <;> simp_all
    have hc : w.cell? ⟨g, o + i, none⟩ = some (cur[o + i]'(by omega)) := by rw [cell_of_row w g _ cur t fz hg]; exact Array.getElem?_eq_getElem (by omega)
    have hnf : w.frozen? ⟨g, o + i, none⟩ = false := by
      unfold World.frozen?
      rw [hg]
      rcases hz with hz | hz
      · rw [Bool.and_eq_false_iff]; exact Or.inr (decide_eq_false (by show ¬ o + i < fz.2; omega))
      · rw [Bool.and_eq_false_iff]; exact Or.inl (decide_eq_false (by show ¬ fz.1 ≤ o + i; omega))
    have hs : (store ((⟨g, o, none⟩ : Addr).add i) v).run P w = .ok () (w.setRow g (cur.setIfInBounds (o + i) v)) := by
      rw [ha, run_store P w _ v _ (h1 v (List.mem_cons_self ..)), hc]
      simp [hnf, setCell_eq_setRow w g (o + i) cur t fz v hg]
    have h := ih (i + 1) (cur.setIfInBounds (o + i) v) (w.setRow g (cur.setIfInBounds (o + i) v)) (setRow_heap w g cur _ t _ hg) (by simpa using hz) (by simp; omega) (fun x hx => h1 x (List.mem_cons_of_mem _ hx))
    rw [storeCells, Sem.run_bind, hs, Result.andThen_ok, h, setRow_setRow]
    congr 3
    have e := list_seg_step cur.toList (o + i) v q (by simp; omega)
    simpa [Array.toList_setIfInBounds, Nat.add_assoc] using e

theorem run_append_s2 (w : World) (B : Nat) (v : Value) (s x : ByteArray) (ty : TypeId) (hown : RowS w B v s) (hB : B ≤ w.heap.size) (hz : s.size + x.size ≤ 140737488355328) :
    ∃ v' w', (Builtin.append_ #[69, 9] ty #[v, .string x]).run Tryd.prog w = .ok v' w' ∧ RowS w' B v' (s ++ x) ∧ w.grownBy w' v.ownBlock ∧ (v'.ownBlock = v.ownBlock ∨ v'.ownBlock = some w.heap.size) := by
  obtain ⟨ti, hti, hz0, hz1, hz2⟩ := info_u8
  obtain ⟨g, cap, cur, fz, rfl, hg1, hg2, hg3, hg4, hg5, hg6, hg7⟩ := hown
  have hsz : (s ++ x).size = s.size + x.size := ByteArray.size_append
  by_cases hroom : s.size + x.size ≤ cap
  · have hf := Lib.run_firstCells_string (P := Tryd.prog) w 1 x
    have hst := store_free Tryd.prog g s.size 5 fz (Lib.strCells x) 0 cur w hg2 (by rw [hg6]; exact hg3) (by rw [Lib.strCells_length]; omega) (Lib.strCells_oneCell x)
    simp only [Nat.add_zero, Lib.strCells_length] at hst
    refine ⟨.slice (some ⟨g, 0, none⟩) (s.size + x.size) cap, w.setRow g (cur.toList.take s.size ++ Lib.strCells x ++ cur.toList.drop (s.size + x.size)).toArray, ?_, ?_, ⟨rfl, rfl, rfl, by simp, fun k _ hk => setRow_other w g k _ (fun e => hk (by simp [Value.ownBlock, e]))⟩, Or.inl rfl⟩
    · simp [Builtin.append_, run_underlying Tryd.underlying69, run_underlying Tryd.underlying9, sizeOf, typeInfo, hti, hz1, Builtin.lenOf, hroom, hf, Addr.add_lit, hst]
    · refine ⟨g, cap, _, fz, by rw [hsz], hg1, setRow_heap w g cur _ _ _ hg2, hg3, by omega, hg5, ?_, ?_⟩
      · simp only [List.size_toArray, List.length_append, List.length_take, List.length_drop, Array.length_toList, Lib.strCells_length]
        omega
      · rw [hg7, hsz, strCells_append]
        have hl : (Lib.strCells s ++ Lib.strCells x).length = s.size + x.size := by rw [List.length_append, Lib.strCells_length, Lib.strCells_length]
        rw [← hl]
        exact List.take_left
  · have holds : ∀ j u, (Lib.strCells s)[j]? = some u → w.cell? ((⟨g, 0, none⟩ : Addr).add j) = some u := fun j u hu => by
      have ha : (⟨g, 0, none⟩ : Addr).add j = ⟨g, j, none⟩ := by unfold Addr.add; split <;> simp_all
      rw [ha, cell_of_row w g j cur _ _ hg2]
      rw [← hg7, List.getElem?_take] at hu
      split at hu
      · simpa using hu
      · cases hu
    have hr := Lib.run_append_grow_string (P := Tryd.prog) w 69 9 ty 5 ti (.int .u8 0) Tryd.underlying69 Tryd.underlying9 hti hz0 ⟨g, 0, none⟩ s.size cap (Lib.strCells s) (by rw [hz1, Lib.strCells_length, Nat.mul_one]) holds x (by omega) (by omega) (by rw [hz2]; exact growslice_fits (by omega) (by omega))
    have hge := grownCap_ge w (s.size + x.size) cap 5
    have hcm := grownCap_le_maxLen w (s.size + x.size) cap 5 (by unfold maxLen; omega)
    refine ⟨_, _, hr, ⟨w.heap.size, _, _, (0, 0), by rw [hsz], hB, heap_alloc_new w.drew _, Or.inl rfl, by omega, hcm, ?_, ?_⟩, ⟨rfl, rfl, rfl, by simp, fun k hk _ => heap_alloc_old w.drew _ hk⟩, Or.inr rfl⟩
    · have hq : (Value.int IntKind.u8 0).cells.size = 1 := rfl
      simp only [Array.size_append, List.size_toArray, size_zeroCells, hq, Lib.strCells_length]
      omega
    · rw [hsz, strCells_append]
      have hl : (Lib.strCells s ++ Lib.strCells x).length = s.size + x.size := by rw [List.length_append, Lib.strCells_length, Lib.strCells_length]
      simp only [Array.toList_append, List.append_assoc]
      rw [← List.append_assoc, ← hl]
      exact List.take_left

theorem run_append_s (w : World) (B : Nat) (v : Value) (s x : ByteArray) (ty : TypeId) (hown : RowS w B v s) (hB : B ≤ w.heap.size) (hz : s.size + x.size ≤ 140737488355328) :
    ∃ v' w', (Builtin.append_ #[69, 9] ty #[v, .string x]).run Tryd.prog w = .ok v' w' ∧ RowS w' B v' (s ++ x) ∧ w.grownBy w' v.ownBlock := by
  obtain ⟨v', w', h1, h2, h3, _⟩ := run_append_s2 w B v s x ty hown hB hz
  exact ⟨v', w', h1, h2, h3⟩
/-- An append of a text's bytes, at a step of a region that draws its order. -/
theorem step_append_s (w : World) {ops : Array Oper} {o : Oper} {a : Act} {K : Act → World → Prop} {Q : Exit → Act → World → Prop} {E : Prop} (hgd : o.guard = none) (sl x : Operand)
    (ho : o.op = .call { callee := .builtin .append, args := #[sl, x], argTypes := #[69, 9] })
    (B : Nat) (v : Value) (s t : ByteArray) (hs : a.eval sl = v) (hown : RowS w B v s) (hx : a.eval x = .string t) (hB : B ≤ w.heap.size) (hz : s.size + t.size ≤ 140737488355328)
    (h : ∀ v' w', RowS w' B v' (s ++ t) → Below B w w' → (∀ k, k < w.heap.size → v.ownBlock ≠ some k → w'.heap[k]? = w.heap[k]?) → K (a.put o.dst v') w') :
    if Region.wanted o (yielded ops a.tmps) = true then Oper.wp Tryd.prog o a w K Q else E := by
  have hw : Region.wanted o (yielded ops a.tmps) = true := by simp [Region.wanted, hgd]
  rw [if_pos hw]
  obtain ⟨v', w', hr, h2, h3⟩ := run_append_s w B v s t o.type hown hB hz
  have hlt := hown.lt
  have hK := h v' w' h2 ((Below.refl B w).grown h3 hB (fun q hq => by obtain ⟨g, e, hg, _⟩ := hlt; rw [e] at hq; cases hq; exact hg)) (fun k hk hne => h3.block k hk (fun e => hne e.symm))
  unfold Oper.wp execOp
  simp only [ho, resolve, invoke, builtin, Sem.run_bind, Sem.run_pure, Result.andThen_ok, List.map_toArray, List.map_cons, List.map_nil, hs, hx, hr]
  exact hK
theorem step_append_s2 (w : World) {ops : Array Oper} {o : Oper} {a : Act} {K : Act → World → Prop} {Q : Exit → Act → World → Prop} {E : Prop} (hgd : o.guard = none) (sl x : Operand)
    (ho : o.op = .call { callee := .builtin .append, args := #[sl, x], argTypes := #[69, 9] })
    (B : Nat) (v : Value) (s t : ByteArray) (hs : a.eval sl = v) (hown : RowS w B v s) (hx : a.eval x = .string t) (hB : B ≤ w.heap.size) (hz : s.size + t.size ≤ 140737488355328)
    (h : ∀ v' w', RowS w' B v' (s ++ t) → Below B w w' → (∀ k, k < w.heap.size → v.ownBlock ≠ some k → w'.heap[k]? = w.heap[k]?) → (v'.ownBlock = v.ownBlock ∨ v'.ownBlock = some w.heap.size) → w.heap.size ≤ w'.heap.size → K (a.put o.dst v') w') :
    if Region.wanted o (yielded ops a.tmps) = true then Oper.wp Tryd.prog o a w K Q else E := by
  have hw : Region.wanted o (yielded ops a.tmps) = true := by simp [Region.wanted, hgd]
  rw [if_pos hw]
  obtain ⟨v', w', hr, h2, h3, h4⟩ := run_append_s2 w B v s t o.type hown hB hz
  have hlt := hown.lt
  have hK := h v' w' h2 ((Below.refl B w).grown h3 hB (fun q hq => by obtain ⟨g, e, hg, _⟩ := hlt; rw [e] at hq; cases hq; exact hg)) (fun k hk hne => h3.block k hk (fun e => hne e.symm)) h4 h3.size
  unfold Oper.wp execOp
  simp only [ho, resolve, invoke, builtin, Sem.run_bind, Sem.run_pure, Result.andThen_ok, List.map_toArray, List.map_cons, List.map_nil, hs, hx, hr]
  exact hK
/-- The same, where the order is fixed. -/
theorem wpList_append_s (w : World) {ops : Array Oper} {rest : List Oper} {o : Oper} {a : Act} {Q : Exit → Act → World → Prop} (hgd : o.guard = none) (sl x : Operand)
    (ho : o.op = .call { callee := .builtin .append, args := #[sl, x], argTypes := #[69, 9] })
    (B : Nat) (v : Value) (s t : ByteArray) (hs : a.eval sl = v) (hown : RowS w B v s) (hx : a.eval x = .string t) (hB : B ≤ w.heap.size) (hz : s.size + t.size ≤ 140737488355328)
    (h : ∀ v' w', RowS w' B v' (s ++ t) → Below B w w' → (∀ k, k < w.heap.size → v.ownBlock ≠ some k → w'.heap[k]? = w.heap[k]?) → (v'.ownBlock = v.ownBlock ∨ v'.ownBlock = some w.heap.size) → w.heap.size ≤ w'.heap.size → wpList Tryd.prog ops Q rest (a.put o.dst v') w') :
    wpList Tryd.prog ops Q (o :: rest) a w := by
  refine wpList_plain hgd fun K hK => ?_
  obtain ⟨v', w', hr, h2, h3, h4⟩ := run_append_s2 w B v s t o.type hown hB hz
  have hlt := hown.lt
  have hh := h v' w' h2 ((Below.refl B w).grown h3 hB (fun q hq => by obtain ⟨g, e, hg, _⟩ := hlt; rw [e] at hq; cases hq; exact hg)) (fun k hk hne => h3.block k hk (fun e => hne e.symm)) h4 h3.size
  unfold Oper.wp execOp
  simp only [ho, resolve, invoke, builtin, Sem.run_bind, Sem.run_pure, Result.andThen_ok, List.map_toArray, List.map_cons, List.map_nil, hs, hx, hr]
  exact hK _ _ hh
/-- The bytes of a text, in new memory. -/
theorem conv_s (w : World) (s : ByteArray) (hs : s.size ≤ 140737488355328) : ∃ v w', (convert 9 69 (.string s)).run Tryd.prog w = .ok v w' ∧ RowS w' w.heap.size v s ∧ Below w.heap.size w w' := by
  refine ⟨_, _, run_bytes_of_string w _ _ 5 s Tryd.underlying9 Tryd.underlying69 Tryd.underlying5, ?_, (Below.refl _ w).drew.alloc (by simp) _⟩
  have hge := grownCap_ge w s.size 0 5
  have hcm := grownCap_le_maxLen w s.size 0 5 (by unfold maxLen; omega)
  have hsz : (bytesRow s (grownCap w s.size 0 5)).size = grownCap w s.size 0 5 := by
    unfold bytesRow
    rw [Array.size_append, Array.size_map, Array.size_replicate]
    show s.size + _ = _
    omega
  refine ⟨w.heap.size, _, _, _, rfl, Nat.le_refl _, heap_alloc_new w.drew _, Or.inr (by rw [hsz]; exact Nat.le_refl _), hge, hcm, hsz, ?_⟩
  have hl : (Lib.strCells s).length = s.size := Lib.strCells_length s
  unfold bytesRow
  rw [Array.toList_append, Array.toList_map]
  conv => lhs; arg 1; rw [← hl]
  exact List.take_left
theorem conv_fun (s : ByteArray) (hs : s.size ≤ 140737488355328) : ∃ (V : World → Value) (N : World → World), (∀ w, (convert 9 69 (.string s)).run Tryd.prog w = .ok (V w) (N w)) ∧ ∀ w, RowS (N w) w.heap.size (V w) s ∧ Below w.heap.size w (N w) :=
  ⟨fun w => Classical.choose (conv_s w s hs), fun w => Classical.choose (Classical.choose_spec (conv_s w s hs)), fun w => (Classical.choose_spec (Classical.choose_spec (conv_s w s hs))).1, fun w => (Classical.choose_spec (Classical.choose_spec (conv_s w s hs))).2⟩
theorem step_conv_s (w : World) {ops : Array Oper} {o : Oper} {a : Act} {K : Act → World → Prop} {Q : Exit → Act → World → Prop} {E : Prop} (hgd : o.guard = none) (x : Operand)
    (ho : o.op = .convert 9 69 x) (s : ByteArray) (hx : a.eval x = .string s) (hs : s.size ≤ 140737488355328)
    (h : ∀ v w', RowS w' w.heap.size v s → Below w.heap.size w w' → K (a.put o.dst v) w') :
    if Region.wanted o (yielded ops a.tmps) = true then Oper.wp Tryd.prog o a w K Q else E := by
  have hw : Region.wanted o (yielded ops a.tmps) = true := by simp [Region.wanted, hgd]
  rw [if_pos hw]
  obtain ⟨v, w', hr, h2, h3⟩ := conv_s w s hs
  have hK := h v w' h2 h3
  unfold Oper.wp execOp
  simp only [ho, Sem.run_bind, Sem.run_pure, Result.andThen_ok, hx, hr]
  exact hK
/-- The text that the bytes are. -/
theorem back_s {w : World} {B : Nat} {v : Value} {s : ByteArray} (h : RowS w B v s) : (convert 69 9 v).run Tryd.prog w = .ok (.string s) w := by
  obtain ⟨g, cap, cur, fz, rfl, h1, h2, h3, h4, h5, h6, h7⟩ := h
  have := run_convert_bytes_back w 69 9 5 ⟨g, 0, none⟩ cap s.data.toList Tryd.underlying69 Tryd.underlying5 Tryd.underlying9 (fun j hj => by
    have ha : (⟨g, 0, none⟩ : Addr).add j = ⟨g, j, none⟩ := by unfold Addr.add; split <;> simp_all
    rw [ha, cell_of_row w g j cur _ _ h2, ← Array.getElem?_toList]
    have hj' : j < s.size := by simpa using hj
    have : (cur.toList.take s.size)[j]? = (Lib.strCells s)[j]? := by rw [h7]
    rw [List.getElem?_take_of_lt hj'] at this
    rw [this, Lib.strCells, List.getElem?_map, List.getElem?_eq_getElem hj]
    rfl)
  simpa using this
end Go.Proofs.YtoecnlhnfhongaaDoor
