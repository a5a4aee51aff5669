import Derived.Test.YtojeemogabhaoaaGreatDoorJ01BlkN
import Derived.Test.YtojeemogabhaoaaGreatDoorJ10AppE
import Derived.Deep.AppendLies
import Derived.Test.YtojeemogabhaoaaGreatDoorProg
import Derived.Test.YtojeemogabhaoaaGreatDoorJ04SNum
import Derived.Test.YtojeemogabhaoaaGreatDoorJ05Cfg
namespace Go.Proofs.YtojeemogabhaoaaGreatDoor
open Go.RowKit
theorem row_from {w : World} {B : Nat} {e : TypeId} {size : Nat} {v : Value} {n : Nat} {xs : List Value} (h : w.ownsRow B e size v n xs) : ∀ g, v.ownBlock = some g → B ≤ g := by
  intro g hg
  rcases h.2 with ⟨rfl, _⟩ | ⟨g', cap, cur, rfl, hB, _⟩
  · simp [Value.ownBlock] at hg
  · simp [Value.ownBlock] at hg
    subst hg
    exact hB
def SrcAt (w : World) (ad : Option Addr) (m : Nat) (news : List Value) : Prop := m = 0 ∨ ∃ A, ad = some A ∧ ∀ j u, news[j]? = some u → w.cell? (A.add j) = some u
theorem addr_add (b o j : Nat) : (⟨b, o, none⟩ : Addr).add j = ⟨b, o + j, none⟩ := by unfold Addr.add; split <;> simp_all
theorem bel_a (W : World) (x : Obj) : Below W.heap.size W (W.alloc x).drew := (bnew _ _).drew
theorem bel_b (W : World) (x y : Obj) : Below W.heap.size W ((W.alloc x).alloc y).drew := (bto (bnew _ _) (bnew _ _)).drew
theorem step_append_any {P : Program} (w : World) {ops : Array Oper} {o : Oper} {a : Act} {K : Act → World → Prop} {Q : Exit → Act → World → Prop} {E : Prop} (hgd : o.guard = none) (s x : Operand) (t : TypeId)
    (ho : o.op = .call { callee := .builtin .append, args := #[s, x], argTypes := #[t, t] })
    (base : Nat) (e : TypeId) (i : TypeInfo) (z : Value) (size bytes : Nat) (ht : P.underlying t = some (.slice e)) (hi : P.info? e = some i) (hz : i.zero = some z)
    (hsize : i.size = size) (hby : i.bytes = bytes) (hzs : z.cells.size = size) (hsz : 0 < size)
    (g0 n c0 : Nat) (xs : List Value) (hs : a.eval s = .slice (some ⟨g0, 0, none⟩) n c0) (hown : w.ownsRow base e size (.slice (some ⟨g0, 0, none⟩) n c0) n xs)
    (ad : Option Addr) (m c : Nat) (news : List Value) (hx : a.eval x = .slice ad m c) (hl : news.length = m * size) (hsrc : SrcAt w ad m news) (h1 : ∀ u ∈ news, u.oneCell' = true)
    (h63 : n + m ≤ maxLen) (hbytes : (n + m) * bytes ≤ 140737488355328) (hbase : base ≤ w.heap.size)
    (h : ∀ g cap w', w'.ownsRow base e size (.slice (some ⟨g, 0, none⟩) (n + m) cap) (n + m) (xs ++ news) → Below base w w' → (∀ k, k < w.heap.size → k ≠ g0 → w'.heap[k]? = w.heap[k]?) → base ≤ g → (g = g0 ∨ g = w.heap.size) → g < w'.heap.size → K (a.put o.dst (.slice (some ⟨g, 0, none⟩) (n + m) cap)) w') :
    if Region.wanted o (yielded ops a.tmps) = true then Oper.wp P o a w K Q else E := by
  have hg0 : base ≤ g0 := row_from hown g0 rfl
  rcases Nat.eq_zero_or_pos m with rfl | hm
  · have hw : Region.wanted o (yielded ops a.tmps) = true := by simp [Region.wanted, hgd]
    rw [if_pos hw]
    have hnil : news = [] := List.length_eq_zero_iff.1 (by omega)
    subst hnil
    have hrun := run_append_empty (P := P) (w := w) base t o.type e i size ht hi _ n xs hown ad c
    have hK := h g0 c0 w (by rw [List.append_nil]; exact hown) (Below.refl _ _) (fun _ _ _ => rfl) hg0 (Or.inl rfl) (by
      rcases hown.2 with ⟨he, _⟩ | ⟨g', cap', cur, he, _, hb, _⟩
      · simp at he
      · simp only [Value.slice.injEq, Option.some.injEq, Addr.mk.injEq, and_true] at he
        rw [he.1]; exact lt_of_block hb)
    unfold Oper.wp execOp
    simp only [ho, resolve, invoke, builtin, Sem.run_bind, Sem.run_pure, Result.andThen_ok, List.map_toArray, List.map_cons, List.map_nil, hs, hx, hrun]
    exact hK
  · rcases hsrc with h0 | ⟨A, rfl, hnews⟩
    · omega
    refine step_append_lies w hgd s x t ho base e i z size bytes ht hi hz hsize hby hzs hsz _ n xs hs hown A m c news hx hl hnews h1 hm h63 hbytes hbase w.heap.size rfl fun g cap w' h2 h3 h4 h5 => ?_
    have hg : g = g0 ∨ g = w.heap.size := by
      rcases h4 with h4 | h4
      · left; simpa [Value.ownBlock] using h4.symm
      · exact Or.inr h4
    refine h g cap w' h2 ((Below.refl base w).grown h3 hbase (fun q hq => row_from hown q hq)) (fun k hk hne => h3.block k hk (by simp [Value.ownBlock]; omega)) ?_ hg h5
    rcases hg with rfl | rfl
    · exact hg0
    · exact hbase
end Go.Proofs.YtojeemogabhaoaaGreatDoor
namespace Go.Proofs.YtojeemogabhaoaaGreatDoor
open Go.RowKit
def flatL (ls : List LabD) : List Value := ls.flatMap fun x => [.string x.name, .string x.value]
theorem flatL_append (a b : List LabD) : flatL (a ++ b) = flatL a ++ flatL b := by simp [flatL]
theorem flatL_one (f : LabD) : flatL [f] = [.string f.name, .string f.value] := rfl
theorem flatL_length (ls : List LabD) : (flatL ls).length = ls.length * 2 := by
  induction ls with
  | nil => rfl
  | cons f r ih => simp [flatL] at *; omega
theorem info_lab : ∃ i, Tryz.prog.info? 135 = some i ∧ i.zero = some (.agg #[.string ByteArray.empty, .string ByteArray.empty]) ∧ i.size = 2 ∧ i.bytes = 32 := by
  obtain ⟨i, hi, hz⟩ := Option.map_eq_some_iff.1 info_label
  simp only [Prod.mk.injEq] at hz
  exact ⟨i, hi, hz.1, hz.2.1, hz.2.2⟩
theorem news_twoL (W : World) (x : Obj) (cs : Array Value) (t : TypeId) : ∀ j u, cs.toList[j]? = some u → ((W.alloc x).alloc (.cells cs t)).cell? ((⟨W.heap.size + 1, 0, none⟩ : Addr).add j) = some u :=
  World.news_of_block (fr := (0, 0)) (by have h := heap_alloc_new (W.alloc x) (.cells cs t); simpa using h)
theorem isEmp_eq (l : LabD) : isEmp l = l.value.toList.isEmpty := by
  have e : ByteArray.empty.toList = [] := by rw [ByteArray.toList_eq]; rfl
  unfold isEmp
  rw [e]
  cases l.value.toList <;> rfl
theorem flatL_cell (ls : List LabD) : ∀ u ∈ flatL ls, u.oneCell' = true := by
  intro u hu
  simp only [flatL, List.mem_flatMap, List.mem_cons, List.not_mem_nil, or_false] at hu
  obtain ⟨f, _, rfl | rfl⟩ := hu <;> rfl
theorem flatL_at {w : World} {g : Nat} {ys : List LabD} (h : ∀ j u, (flatL ys)[j]? = some u → w.cell? ⟨g, j, none⟩ = some u) (p : Nat) : ∀ j u, (flatL (ys.drop p))[j]? = some u → w.cell? ⟨g, p * 2 + j, none⟩ = some u := by
  intro j u hu
  refine h _ _ ?_
  by_cases hp : p ≤ ys.length
  · have e : flatL ys = flatL (ys.take p) ++ flatL (ys.drop p) := by rw [← flatL_append, List.take_append_drop]
    have hl : (flatL (ys.take p)).length = p * 2 := by rw [flatL_length, List.length_take]; omega
    rw [e, List.getElem?_append_right (by omega), hl, Nat.add_sub_cancel_left]
    exact hu
  · rw [List.drop_of_length_le (by omega)] at hu
    simp [flatL] at hu
theorem flatL_take {ys : List LabD} {p : Nat} : ∀ (j : Nat) (u : Value), (flatL (ys.take p))[j]? = some u → (flatL ys)[j]? = some u := by
  intro j u hu
  have e : flatL ys = flatL (ys.take p) ++ flatL (ys.drop p) := by rw [← flatL_append, List.take_append_drop]
  have hj : j < (flatL (ys.take p)).length := (List.getElem?_eq_some_iff.1 hu).1
  rw [e, List.getElem?_append_left hj]
  exact hu
theorem row_cells {w : World} {B : Nat} {e : TypeId} {g cv : Nat} {ys : List LabD} (h : w.ownsRow B e 2 (.slice (some ⟨g, 0, none⟩) ys.length cv) ys.length (flatL ys)) : ys.length ≤ cv ∧ g < w.heap.size ∧ B ≤ g ∧ ∀ j u, (flatL ys)[j]? = some u → w.cell? ⟨g, j, none⟩ = some u := by
  rcases h.2 with ⟨he, _⟩ | ⟨g', cap', cur, he, hB, hb, hc, _, _, ht⟩
  · simp at he
  · simp only [Value.slice.injEq, Option.some.injEq, Addr.mk.injEq, and_true] at he
    obtain ⟨rfl, _, rfl⟩ := he
    refine ⟨hc, lt_of_block hb, hB, fun j u hu => ?_⟩
    rw [cell_of_row w g j cur _ _ hb, ← Array.getElem?_toList]
    rw [← ht] at hu
    have hj := (List.getElem?_eq_some_iff.1 hu).1
    rw [List.length_take] at hj
    rw [List.getElem?_take_of_lt (by omega)] at hu
    exact hu
theorem src_head {w : World} {g : Nat} {ys : List LabD} (h : ∀ j u, (flatL ys)[j]? = some u → w.cell? ⟨g, j, none⟩ = some u) (p : Nat) : SrcAt w (some ⟨g, 0, none⟩) p (flatL (ys.take p)) :=
  Or.inr ⟨_, rfl, fun j u hu => by rw [addr_add, Nat.zero_add]; exact h _ _ (flatL_take j u hu)⟩
theorem src_tail {w : World} {g cv : Nat} {ys : List LabD} (h : ∀ j u, (flatL ys)[j]? = some u → w.cell? ⟨g, j, none⟩ = some u) (p : Nat) (hc : ys.length ≤ cv) : SrcAt w (if cv = p then some ⟨g, 0, none⟩ else some ⟨g, p * 2, none⟩) (ys.length - p) (flatL (ys.drop p)) := by
  by_cases e : cv = p
  · exact Or.inl (by omega)
  · rw [if_neg e]
    exact Or.inr ⟨_, rfl, fun j u hu => by rw [addr_add]; exact flatL_at h p j u hu⟩
theorem src_tail' {w : World} {g : Nat} {ys : List LabD} (h : ∀ j u, (flatL ys)[j]? = some u → w.cell? ⟨g, j, none⟩ = some u) (p : Nat) : SrcAt w (some ⟨g, p * 2, none⟩) (ys.length - p) (flatL (ys.drop p)) :=
  Or.inr ⟨_, rfl, fun j u hu => by rw [addr_add]; exact flatL_at h p j u hu⟩
theorem src_one {w : World} {g : Nat} {x y : Value} {t : TypeId} (h : w.heap[g]? = some (.cells #[x, y] t (0, 0))) : SrcAt w (some ⟨g, 0, none⟩) 1 [x, y] :=
  Or.inr ⟨_, rfl, World.news_of_block (cs := #[x, y]) h⟩
theorem cells_later {W w : World} {g : Nat} {ys : List LabD} (h : ∀ j u, (flatL ys)[j]? = some u → W.cell? ⟨g, j, none⟩ = some u) (hg : g < W.heap.size) (hb : Below W.heap.size W w) : ∀ j u, (flatL ys)[j]? = some u → w.cell? ⟨g, j, none⟩ = some u :=
  fun j u hu => (hb.cell hg).trans (h j u hu)
theorem two_new (W : World) (x y : Obj) : ((W.alloc x).alloc y).drew.heap[W.heap.size + 1]? = some y := by
  have h := heap_alloc_new (W.alloc x) y
  have e : (W.alloc x).heap.size = W.heap.size + 1 := by simp
  rw [e] at h
  exact h
theorem two_old (W : World) (x y : Obj) : ((W.alloc x).alloc y).drew.heap[W.heap.size]? = some x := by
  have h := heap_alloc_new W x
  have h2 := (bnew (W.alloc x) y).block W.heap.size (by simp)
  exact h2.trans h
theorem rowE_a (W : World) (t : TypeId) : (W.alloc (.cells #[] t)).drew.ownsRow W.heap.size t 2 (.slice (some ⟨W.heap.size, 0, none⟩) 0 0) 0 [] :=
  ⟨rfl, Or.inr ⟨W.heap.size, 0, #[], rfl, Nat.le_refl _, heap_alloc_new _ _, Nat.le_refl _, Nat.zero_le _, rfl, rfl⟩⟩
theorem rowE_b (W : World) (t : TypeId) (x : Obj) : ((W.alloc (.cells #[] t)).alloc x).drew.ownsRow W.heap.size t 2 (.slice (some ⟨W.heap.size, 0, none⟩) 0 0) 0 [] :=
  ⟨rfl, Or.inr ⟨W.heap.size, 0, #[], rfl, Nat.le_refl _, two_old _ _ _, Nat.le_refl _, Nat.zero_le _, rfl, rfl⟩⟩
theorem rowE_c (W : World) (t : TypeId) (x : Obj) : ((W.alloc x).alloc (.cells #[] t)).drew.ownsRow W.heap.size t 2 (.slice (some ⟨W.heap.size + 1, 0, none⟩) 0 0) 0 [] :=
  ⟨rfl, Or.inr ⟨W.heap.size + 1, 0, #[], rfl, by omega, two_new _ _ _, Nat.le_refl _, Nat.zero_le _, rfl, rfl⟩⟩
end Go.Proofs.YtojeemogabhaoaaGreatDoor
namespace Go.Proofs.YtojeemogabhaoaaGreatDoor
open Go.RowKit
set_option maxRecDepth 100000 in
theorem whole_any (B : Nat) (r : Rd) (w : World) (hB : RB w B r) :
    Calls Tryz.prog 141 #[.pointer (some ⟨B, 0, none⟩)] w fun e w' => e = .returned (.bool (wholeB r)) ∧ w' = w := by
  have x0 := Blk.cell hB 0
  have x1 := Blk.cell hB 1
  simp only [List.getElem?_toArray, List.getElem?_cons_zero, List.getElem?_cons_succ] at x0 x1
  have HE : Hid (ByteArray.empty.toList = []) := by show _ = _; rw [ByteArray.toList_eq]; rfl
  obtain ⟨rest, short⟩ := r
  simp only at x0 x1
  clear hB
  cases short with
  | true =>
    have E : Hid (wholeB ⟨rest, true⟩ = false) := rfl
    go_enter Tryz.func141, Tryz.ntmps141
    go_wp2
    go_ret
    exact ⟨ret_bool E.out.symm, rfl⟩
  | false =>
    have E : Hid (wholeB ⟨rest, false⟩ = rest.toList.isEmpty) := by
      show _ = _
      unfold wholeB
      rw [HE.out]
      cases rest.toList <;> rfl
    go_enter Tryz.func141, Tryz.ntmps141
    go_wp2
    go_ret
    exact ⟨ret_bool E.out.symm, rfl⟩
end Go.Proofs.YtojeemogabhaoaaGreatDoor
