import Derived.Test.YteohobkigjmjlaaDoorJ03Ord
import Derived.Test.YteohobkigjmjlaaDoorJ01U8L
import Derived.Laws.OwnMore
import Derived.Tactics
import Derived.Deep.AppendLies
import Derived.Test.YteohobkigjmjlaaDoorProg
import Derived.Laws.BytesArg
namespace Go.Proofs.YteohobkigjmjlaaDoor
open Go.RowKit

abbrev alphaN (c : Nat) : Prop := (65 ≤ c ∧ c ≤ 90) ∨ (97 ≤ c ∧ c ≤ 122) ∨ c = 95
abbrev digitN (c : Nat) : Prop := 48 ≤ c ∧ c ≤ 57
abbrev nameC (s : ByteArray) (i : Nat) : Prop := alphaN (byteAt s i) ∨ (digitN (byteAt s i) ∧ 0 < i)
abbrev nameOK (s : ByteArray) : Prop := 1 ≤ s.size ∧ s.size ≤ 64 ∧ ∀ i, i < s.size → nameC s i
def nameB (s : ByteArray) : Bool := decide (nameOK s)

def labV (l : LabD) : Nat := if nameB l.name = true then valV l.value else 41
def firstBad : List LabD → Nat → Option (Nat × Nat)
  | [], _ => none
  | l :: r, i => if labV l = 0 then firstBad r (i + 1) else some (labV l, i)
def sameN (x l : LabD) : Bool := x.name.toList == l.name.toList
def firstTw : List LabD → List LabD → Nat → Option Nat
  | _, [], _ => none
  | seen, l :: r, i => if seen.any (fun x => sameN x l) = true then some i else firstTw (seen ++ [l]) r (i + 1)
def mname : ByteArray := ⟨#[95, 95, 110, 97, 109, 101, 95, 95]⟩
def isMet (l : LabD) : Bool := l.name.toList == mname.toList
def isEmp (l : LabD) : Bool := l.value.toList == ByteArray.empty.toList
def lessN (x y : LabD) : Bool := Op.bytesLess x.name.toList y.name.toList
def metV : List LabD → ByteArray
  | [] => ByteArray.empty
  | l :: r => if isMet l = true then l.value else metV r
def keptL (ls : List LabD) : List LabD := ls.filter (fun l => !isEmp l)
def metB (ls : List LabD) : Bool := ls.any (fun l => !isEmp l && isMet l)
def posI (l : LabD) : List LabD → Nat
  | [] => 0
  | x :: r => if lessN x l = true then posI l r + 1 else 0
def insL (l : LabD) (out : List LabD) : List LabD := out.take (posI l out) ++ l :: out.drop (posI l out)
def insAll (out : List LabD) : List LabD → List LabD
  | [] => out
  | l :: r => insAll (if isEmp l = true then out else insL l out) r
def canonR (ls : List LabD) : List LabD × Nat × Nat :=
  if 16 < ls.length then ([], 40, 0) else match firstBad ls 0 with
  | some (c, i) => ([], c, i)
  | none => match firstTw [] ls 0 with
    | some i => ([], 45, i)
    | none => if metB ls = true then (insAll [] ls, 0, 0) else ([], 46, 0)

theorem posI_le (l : LabD) : ∀ out, posI l out ≤ out.length
  | [] => Nat.le_refl _
  | x :: r => by
    have := posI_le l r
    rw [posI]
    split
    · simp; omega
    · simp
theorem posI_step (l : LabD) (out : List LabD) (k : Nat) (hk : k < out.length) : posI l (out.drop k) = if lessN out[k] l = true then posI l (out.drop (k + 1)) + 1 else 0 := by
  rw [List.drop_eq_getElem_cons hk, posI]
theorem insL_length (l : LabD) (out : List LabD) : (insL l out).length = out.length + 1 := by
  have := posI_le l out
  simp [insL]
  omega
theorem insL_perm (l : LabD) (out : List LabD) : (insL l out).Perm (l :: out) := by
  unfold insL
  refine List.perm_middle.trans ?_
  rw [List.take_append_drop]
theorem insAll_perm : ∀ (ls out : List LabD), (insAll out ls).Perm (out ++ keptL ls)
  | [], out => by simp [insAll, keptL]
  | l :: r, out => by
    rw [insAll, keptL, List.filter_cons]
    by_cases h : isEmp l = true
    · rw [if_pos h, if_neg (by simp [h])]
      exact insAll_perm r out
    · rw [if_neg h, if_pos (by simpa using h)]
      refine (insAll_perm r _).trans ?_
      refine ((insL_perm l out).append_right _).trans ?_
      exact (List.perm_middle (l₁ := out) (a := l) (l₂ := keptL r)).symm
theorem keptL_len (ls : List LabD) : (keptL ls).length ≤ ls.length := List.length_filter_le _ _
theorem insAll_len (ls : List LabD) : (insAll [] ls).length = (keptL ls).length := by
  have := (insAll_perm ls []).length_eq
  simpa using this

def Le (x y : LabD) : Prop := lessN y x = false
theorem posI_head (l : LabD) : ∀ (out : List LabD), ∀ x ∈ out.take (posI l out), lessN x l = true
  | [], x, h => by simp at h
  | y :: r, x, h => by
    rw [posI] at h
    split at h
    · rename_i hy
      rw [List.take_succ_cons, List.mem_cons] at h
      rcases h with rfl | h
      · exact hy
      · exact posI_head l r x h
    · simp at h
theorem posI_tail (l : LabD) : ∀ (out : List LabD), out.Pairwise Le → ∀ x ∈ out.drop (posI l out), lessN x l = false
  | [], _, x, h => by simp at h
  | y :: r, hp, x, h => by
    rw [posI] at h
    rw [List.pairwise_cons] at hp
    split at h
    · rw [List.drop_succ_cons] at h
      exact posI_tail l r hp.2 x h
    · rename_i hy
      rw [List.drop_zero, List.mem_cons] at h
      have hy' : lessN y l = false := by simpa using hy
      rcases h with rfl | h
      · exact hy'
      · have h1 := hp.1 x h
        unfold Le at h1
        cases hx : lessN x l
        · rfl
        · exfalso
          by_cases e : y.name.toList = l.name.toList
          · unfold lessN at h1 hx; rw [e] at h1; rw [h1] at hx; exact absurd hx (by simp)
          · have h2 : lessN l y = true := less_total _ _ hy' e
            have h3 : lessN x y = true := less_trans _ _ _ hx h2
            rw [h3] at h1; exact absurd h1 (by simp)
theorem le_trans_L {x y z : LabD} (h1 : Le x y) (h2 : Le y z) : Le x z := by
  unfold Le at *
  cases hx : lessN z x
  · rfl
  · exfalso
    by_cases e : y.name.toList = x.name.toList
    · unfold lessN at h2 hx; rw [e] at h2; rw [h2] at hx; exact absurd hx (by simp)
    · have h3 : lessN x y = true := less_total _ _ h1 e
      have h4 : lessN z y = true := less_trans _ _ _ hx h3
      rw [h4] at h2; exact absurd h2 (by simp)
theorem insL_sorted (l : LabD) (out : List LabD) (h : out.Pairwise Le) : (insL l out).Pairwise Le := by
  unfold insL
  have hh := posI_head l out
  have ht := posI_tail l out h
  rw [List.pairwise_append]
  refine ⟨h.sublist (List.take_sublist _ _), ?_, ?_⟩
  · rw [List.pairwise_cons]
    exact ⟨fun x hx => ht x hx, h.sublist (List.drop_sublist _ _)⟩
  · intro a ha b hb
    have h1 : Le a l := less_asymm (hh a ha)
    rw [List.mem_cons] at hb
    rcases hb with rfl | hb
    · exact h1
    · exact le_trans_L h1 (ht b hb)
theorem insAll_sorted : ∀ (ls out : List LabD), out.Pairwise Le → (insAll out ls).Pairwise Le
  | [], out, h => h
  | l :: r, out, h => by
    rw [insAll]
    refine insAll_sorted r _ ?_
    split
    · exact h
    · exact insL_sorted l out h

/-- No name twice. -/
def NoTw (ls : List LabD) : Prop := ls.Pairwise (fun x y => x.name ≠ y.name)
theorem sameN_iff (x l : LabD) : sameN x l = true ↔ x.name = l.name := by
  unfold sameN
  rw [beq_iff_eq]
  exact ⟨fun h => toList_inj h, fun h => by rw [h]⟩
theorem firstTw_none : ∀ (r seen : List LabD) (i : Nat), NoTw seen → firstTw seen r i = none → NoTw (seen ++ r)
  | [], seen, _, h, _ => by simpa using h
  | l :: r, seen, i, h, hn => by
    rw [firstTw] at hn
    split at hn
    · exact absurd hn (by simp)
    · rename_i hs
      have : NoTw (seen ++ [l]) := by
        unfold NoTw
        rw [List.pairwise_append]
        refine ⟨h, List.pairwise_singleton _ _, fun a ha b hb => ?_⟩
        rw [List.mem_singleton] at hb
        subst hb
        intro e
        apply hs
        rw [List.any_eq_true]
        exact ⟨a, ha, (sameN_iff _ _).2 e⟩
      have := firstTw_none r _ _ this hn
      simpa using this
theorem noTw_of (ls : List LabD) (h : firstTw [] ls 0 = none) : NoTw ls := by
  have := firstTw_none ls [] 0 (by exact List.Pairwise.nil) h
  simpa using this
theorem noTw_eq {ls : List LabD} (h : NoTw ls) {x y : LabD} (hx : x ∈ ls) (hy : y ∈ ls) (e : x.name = y.name) : x = y := by
  induction ls with
  | nil => exact absurd hx (by simp)
  | cons l r ih =>
    unfold NoTw at h
    rw [List.pairwise_cons] at h
    rw [List.mem_cons] at hx hy
    rcases hx with rfl | hx
    · rcases hy with rfl | hy
      · rfl
      · exact absurd e (h.1 y hy)
    · rcases hy with rfl | hy
      · exact absurd e.symm (h.1 x hx)
      · exact ih h.2 hx hy
/-- What is a sorted row of the kept labels is the form. -/
theorem sorted_is {ls out : List LabD} (h : NoTw ls) (hp : out.Perm (keptL ls)) (hs : out.Pairwise Le) : out = insAll [] ls := by
  have hp2 := (insAll_perm ls []).trans (by rw [List.nil_append])
  refine List.Perm.eq_of_pairwise (le := Le) ?_ hs (insAll_sorted ls [] List.Pairwise.nil) (hp.trans hp2.symm)
  intro a b ha hb h1 h2
  have ha' : a ∈ ls := (List.mem_filter.1 (hp.mem_iff.1 ha)).1
  have hb' : b ∈ ls := (List.mem_filter.1 (hp2.mem_iff.1 hb)).1
  refine noTw_eq h ha' hb' ?_
  by_cases e : a.name = b.name
  · exact e
  · have h3 : lessN b a = true := less_total _ _ h2 (fun e' => e (toList_inj e'))
    unfold Le at h1
    rw [h3] at h1
    exact absurd h1 (by simp)
/-- The metric is there just where its label has a value. -/
theorem metV_iff : ∀ (ls : List LabD), NoTw ls → ((metV ls).toList == ByteArray.empty.toList) = !metB ls
  | [], _ => by simp [metV, metB]
  | l :: r, h => by
    unfold NoTw at h
    rw [List.pairwise_cons] at h
    rw [metV, metB, List.any_cons]
    by_cases hm : isMet l = true
    · rw [if_pos hm, hm, Bool.and_true]
      have hr : (r.any fun l => !isEmp l && isMet l) = false := by
        rw [List.any_eq_false]
        intro x hx hc
        rw [Bool.and_eq_true] at hc
        have e1 : l.name = mname := toList_inj (by simpa [isMet] using hm)
        have e2 : x.name = mname := toList_inj (by simpa [isMet] using hc.2)
        exact h.1 x hx (by rw [e1, e2])
      rw [hr, Bool.or_false, Bool.not_not]
      rfl
    · rw [if_neg hm]
      have hm' : isMet l = false := by simpa using hm
      rw [hm', Bool.and_false, Bool.false_or]
      exact metV_iff r h.2

theorem canon_many {ls : List LabD} (h : 16 < ls.length) : canonR ls = ([], 40, 0) := by unfold canonR; rw [if_pos h]
theorem canon_bad {ls : List LabD} (h : ¬ 16 < ls.length) {c i : Nat} (hb : firstBad ls 0 = some (c, i)) : canonR ls = ([], c, i) := by unfold canonR; rw [if_neg h, hb]
theorem canon_twice {ls : List LabD} (h : ¬ 16 < ls.length) (hb : firstBad ls 0 = none) {i : Nat} (ht : firstTw [] ls 0 = some i) : canonR ls = ([], 45, i) := by unfold canonR; rw [if_neg h, hb, ht]
theorem canon_met {ls : List LabD} (h : ¬ 16 < ls.length) (hb : firstBad ls 0 = none) (ht : firstTw [] ls 0 = none) (hm : metB ls = false) : canonR ls = ([], 46, 0) := by
  unfold canonR; rw [if_neg h, hb, ht]; simp [hm]
theorem canon_ok {ls : List LabD} (h : ¬ 16 < ls.length) (hb : firstBad ls 0 = none) (ht : firstTw [] ls 0 = none) (hm : metB ls = true) : canonR ls = (insAll [] ls, 0, 0) := by
  unfold canonR; rw [if_neg h, hb, ht]; simp [hm]

theorem firstBad_step (ls : List LabD) (k : Nat) (hk : k < ls.length) : firstBad (ls.drop k) k = if labV ls[k] = 0 then firstBad (ls.drop (k + 1)) (k + 1) else some (labV ls[k], k) := by
  rw [List.drop_eq_getElem_cons hk, firstBad]
theorem firstTw_step (ls : List LabD) (k : Nat) (hk : k < ls.length) : firstTw (ls.take k) (ls.drop k) k = if (ls.take k).any (fun x => sameN x ls[k]) = true then some k else firstTw (ls.take (k + 1)) (ls.drop (k + 1)) (k + 1) := by
  rw [List.drop_eq_getElem_cons hk, firstTw, List.take_succ_eq_append_getElem hk]
theorem metV_step (ls : List LabD) (k : Nat) (hk : k < ls.length) : metV (ls.drop k) = if isMet ls[k] = true then ls[k].value else metV (ls.drop (k + 1)) := by
  rw [List.drop_eq_getElem_cons hk, metV]
theorem insAll_step (out ls : List LabD) (k : Nat) (hk : k < ls.length) : insAll out (ls.drop k) = insAll (if isEmp ls[k] = true then out else insL ls[k] out) (ls.drop (k + 1)) := by
  rw [List.drop_eq_getElem_cons hk, insAll]
theorem metB_take (ls : List LabD) (k : Nat) (hk : k < ls.length) : metB (ls.take (k + 1)) = (metB (ls.take k) || (!isEmp ls[k] && isMet ls[k])) := by
  rw [List.take_succ_eq_append_getElem hk, metB, List.any_append]
  simp [metB]
theorem keptL_take (ls : List LabD) (k : Nat) (hk : k < ls.length) : keptL (ls.take (k + 1)) = keptL (ls.take k) ++ if isEmp ls[k] = true then [] else [ls[k]] := by
  rw [List.take_succ_eq_append_getElem hk, keptL, List.filter_append, keptL]
  congr 1
  by_cases h : isEmp ls[k] = true <;> simp [h]
end Go.Proofs.YteohobkigjmjlaaDoor

namespace Go.Proofs.YteohobkigjmjlaaDoor
open Go.RowKit

/-- Nothing is appended, whatever the address and the cap of what is empty. -/
theorem run_append_empty {P : Program} {w : World} (base : Nat) (t ty e : TypeId) (i : TypeInfo) (size : Nat) (ht : P.underlying t = some (.slice e)) (hi : P.info? e = some i)
    (v : Value) (n : Nat) (xs : List Value) (hown : w.ownsRow base e size v n xs) (a2 : Option Addr) (c2 : Nat) :
    (Builtin.append_ #[t, t] ty #[v, .slice a2 0 c2]).run P w = .ok v w := by
  have hl : ∀ ad : Addr, (loadCells ad 0).run P w = .ok #[] w := fun ad => by
    simp [loadCells, loadCellsFrom]
  rcases hown.2 with ⟨rfl, rfl⟩ | ⟨g, cap, cur, rfl, _, _, hnc, _⟩
  · cases a2 <;> simp [Builtin.append_, run_underlying ht, sizeOf, typeInfo, hi, Builtin.lenOf, Builtin.firstCells, hl]
  · cases a2 <;> simp [Builtin.append_, run_underlying ht, sizeOf, typeInfo, hi, Builtin.lenOf, Builtin.firstCells, hnc, storeCells, hl]
theorem wpList_append_empty {P : Program} {w : World} {ops : Array Oper} {rest : List Oper} {o : Oper} {a : Act} {Q : Exit → Act → World → Prop} (hgd : o.guard = none) (s x : Operand) (t : TypeId)
    (ho : o.op = .call { callee := .builtin .append, args := #[s, x], argTypes := #[t, t] })
    (base : Nat) (e : TypeId) (i : TypeInfo) (size : Nat) (ht : P.underlying t = some (.slice e)) (hi : P.info? e = some i)
    (v : Value) (n : Nat) (xs : List Value) (hs : a.eval s = v) (hown : w.ownsRow base e size v n xs) (a2 : Option Addr) (c2 : Nat) (hx : a.eval x = .slice a2 0 c2)
    (h : wpList P ops Q rest (a.put o.dst v) w) : wpList P ops Q (o :: rest) a w := by
  refine wpList_plain hgd fun K hK => ?_
  have hrun := run_append_empty (P := P) (w := w) base t o.type e i size ht hi v n xs hown a2 c2
  unfold Oper.wp
  simp [execOp, ho, resolve, invoke, builtin, hs, hx, hrun, Result.andThen]
  exact hK _ _ h
end Go.Proofs.YteohobkigjmjlaaDoor

namespace Go.Proofs.YteohobkigjmjlaaDoor
open Go.RowKit

theorem row_from {w : World} {B : Nat} {e : TypeId} {size : Nat} {v : Value} {n : Nat} {xs : List Value} (h : w.ownsRow B e size v n xs) : ∀ g, v.ownBlock = some g → B ≤ g := by
  intro g hg
  rcases h.2 with ⟨rfl, _⟩ | ⟨g', cap, cur, rfl, hB, _⟩
  · simp [Value.ownBlock] at hg
  · simp [Value.ownBlock] at hg
    subst hg
    exact hB
def SrcAt (w : World) (ad : Option Addr) (m : Nat) (news : List Value) : Prop := m = 0 ∨ ∃ A, ad = some A ∧ ∀ j u, news[j]? = some u → w.cell? (A.add j) = some u
theorem addr_add (b o j : Nat) : (⟨b, o, none⟩ : Addr).add j = ⟨b, o + j, none⟩ := by unfold Addr.add; split <;> simp_all
theorem bel_a (W : World) (x : Obj) : Below W.heap.size W (W.alloc x).drew := (bnew _ _).drew
theorem bel_b (W : World) (x y : Obj) : Below W.heap.size W ((W.alloc x).alloc y).drew := (bto (bnew _ _) (bnew _ _)).drew
/-- An append of labels, many or none, onto a slice that is not nil, at a step of a region that draws its order. -/
theorem step_append_any {P : Program} (w : World) {ops : Array Oper} {o : Oper} {a : Act} {K : Act → World → Prop} {Q : Exit → Act → World → Prop} {E : Prop} (hgd : o.guard = none) (s x : Operand) (t : TypeId)
    (ho : o.op = .call { callee := .builtin .append, args := #[s, x], argTypes := #[t, t] })
    (base : Nat) (e : TypeId) (i : TypeInfo) (z : Value) (size bytes : Nat) (ht : P.underlying t = some (.slice e)) (hi : P.info? e = some i) (hz : i.zero = some z)
    (hsize : i.size = size) (hby : i.bytes = bytes) (hzs : z.cells.size = size) (hsz : 0 < size)
    (g0 n c0 : Nat) (xs : List Value) (hs : a.eval s = .slice (some ⟨g0, 0, none⟩) n c0) (hown : w.ownsRow base e size (.slice (some ⟨g0, 0, none⟩) n c0) n xs)
    (ad : Option Addr) (m c : Nat) (news : List Value) (hx : a.eval x = .slice ad m c) (hl : news.length = m * size) (hsrc : SrcAt w ad m news) (h1 : ∀ u ∈ news, u.oneCell' = true)
    (h63 : n + m ≤ maxLen) (hbytes : (n + m) * bytes ≤ 140737488355328) (hbase : base ≤ w.heap.size)
    (h : ∀ g cap w', w'.ownsRow base e size (.slice (some ⟨g, 0, none⟩) (n + m) cap) (n + m) (xs ++ news) → Below base w w' → (∀ k, k < w.heap.size → k ≠ g0 → w'.heap[k]? = w.heap[k]?) → base ≤ g → (g = g0 ∨ g = w.heap.size) → g < w'.heap.size → K (a.put o.dst (.slice (some ⟨g, 0, none⟩) (n + m) cap)) w') :
    if Region.wanted o (yielded ops a.tmps) = true then Oper.wp P o a w K Q else E := by
  have hg0 : base ≤ g0 := row_from hown g0 rfl
  rcases Nat.eq_zero_or_pos m with rfl | hm
  · have hw : Region.wanted o (yielded ops a.tmps) = true := by simp [Region.wanted, hgd]
    rw [if_pos hw]
    have hnil : news = [] := List.length_eq_zero_iff.1 (by omega)
    subst hnil
    have hrun := run_append_empty (P := P) (w := w) base t o.type e i size ht hi _ n xs hown ad c
    have hK := h g0 c0 w (by rw [List.append_nil]; exact hown) (Below.refl _ _) (fun _ _ _ => rfl) hg0 (Or.inl rfl) (by
      rcases hown.2 with ⟨he, _⟩ | ⟨g', cap', cur, he, _, hb, _⟩
      · simp at he
      · simp only [Value.slice.injEq, Option.some.injEq, Addr.mk.injEq, and_true] at he
        rw [he.1]; exact lt_of_block hb)
    unfold Oper.wp execOp
    simp only [ho, resolve, invoke, builtin, Sem.run_bind, Sem.run_pure, Result.andThen_ok, List.map_toArray, List.map_cons, List.map_nil, hs, hx, hrun]
    exact hK
  · rcases hsrc with h0 | ⟨A, rfl, hnews⟩
    · omega
    refine step_append_lies w hgd s x t ho base e i z size bytes ht hi hz hsize hby hzs hsz _ n xs hs hown A m c news hx hl hnews h1 hm h63 hbytes hbase w.heap.size rfl fun g cap w' h2 h3 h4 h5 => ?_
    have hg : g = g0 ∨ g = w.heap.size := by
      rcases h4 with h4 | h4
      · left; simpa [Value.ownBlock] using h4.symm
      · exact Or.inr h4
    refine h g cap w' h2 ((Below.refl base w).grown h3 hbase (fun q hq => row_from hown q hq)) (fun k hk hne => h3.block k hk (by simp [Value.ownBlock]; omega)) ?_ hg h5
    rcases hg with rfl | rfl
    · exact hg0
    · exact hbase
end Go.Proofs.YteohobkigjmjlaaDoor

namespace Go.Proofs.YteohobkigjmjlaaDoor
open Go.RowKit

def flatL (ls : List LabD) : List Value := ls.flatMap fun x => [.string x.name, .string x.value]
theorem flatL_append (a b : List LabD) : flatL (a ++ b) = flatL a ++ flatL b := by simp [flatL]
theorem flatL_one (f : LabD) : flatL [f] = [.string f.name, .string f.value] := rfl
theorem flatL_length (ls : List LabD) : (flatL ls).length = ls.length * 2 := by
  induction ls with
  | nil => rfl
  | cons f r ih => simp [flatL] at *; omega
theorem info_lab : ∃ i, Tryd.prog.info? 40 = some i ∧ i.zero = some (.agg #[.string ByteArray.empty, .string ByteArray.empty]) ∧ i.size = 2 ∧ i.bytes = 32 := by
  obtain ⟨i, hi, hz⟩ := Option.map_eq_some_iff.1 info_label
  simp only [Prod.mk.injEq] at hz
  exact ⟨i, hi, hz.1, hz.2.1, hz.2.2⟩
theorem news_twoL (W : World) (x : Obj) (cs : Array Value) (t : TypeId) : ∀ j u, cs.toList[j]? = some u → ((W.alloc x).alloc (.cells cs t)).cell? ((⟨W.heap.size + 1, 0, none⟩ : Addr).add j) = some u :=
  World.news_of_block (fr := (0, 0)) (by have h := heap_alloc_new (W.alloc x) (.cells cs t); simpa using h)
theorem isEmp_eq (l : LabD) : isEmp l = l.value.toList.isEmpty := by
  have e : ByteArray.empty.toList = [] := by rw [ByteArray.toList_eq]; rfl
  unfold isEmp
  rw [e]
  cases l.value.toList <;> rfl

/-- What is to be appended: nothing, or these cells at that address. -/
theorem flatL_cell (ls : List LabD) : ∀ u ∈ flatL ls, u.oneCell' = true := by
  intro u hu
  simp only [flatL, List.mem_flatMap, List.mem_cons, List.not_mem_nil, or_false] at hu
  obtain ⟨f, _, rfl | rfl⟩ := hu <;> rfl
/-- The cells of a row of labels, from label p on. -/
theorem flatL_at {w : World} {g : Nat} {ys : List LabD} (h : ∀ j u, (flatL ys)[j]? = some u → w.cell? ⟨g, j, none⟩ = some u) (p : Nat) : ∀ j u, (flatL (ys.drop p))[j]? = some u → w.cell? ⟨g, p * 2 + j, none⟩ = some u := by
  intro j u hu
  refine h _ _ ?_
  by_cases hp : p ≤ ys.length
  · have e : flatL ys = flatL (ys.take p) ++ flatL (ys.drop p) := by rw [← flatL_append, List.take_append_drop]
    have hl : (flatL (ys.take p)).length = p * 2 := by rw [flatL_length, List.length_take]; omega
    rw [e, List.getElem?_append_right (by omega), hl, Nat.add_sub_cancel_left]
    exact hu
  · rw [List.drop_of_length_le (by omega)] at hu
    simp [flatL] at hu
theorem flatL_take {ys : List LabD} {p : Nat} : ∀ (j : Nat) (u : Value), (flatL (ys.take p))[j]? = some u → (flatL ys)[j]? = some u := by
  intro j u hu
  have e : flatL ys = flatL (ys.take p) ++ flatL (ys.drop p) := by rw [← flatL_append, List.take_append_drop]
  have hj : j < (flatL (ys.take p)).length := (List.getElem?_eq_some_iff.1 hu).1
  rw [e, List.getElem?_append_left hj]
  exact hu
theorem row_cells {w : World} {B : Nat} {e : TypeId} {g cv : Nat} {ys : List LabD} (h : w.ownsRow B e 2 (.slice (some ⟨g, 0, none⟩) ys.length cv) ys.length (flatL ys)) : ys.length ≤ cv ∧ g < w.heap.size ∧ B ≤ g ∧ ∀ j u, (flatL ys)[j]? = some u → w.cell? ⟨g, j, none⟩ = some u := by
  rcases h.2 with ⟨he, _⟩ | ⟨g', cap', cur, he, hB, hb, hc, _, _, ht⟩
  · simp at he
  · simp only [Value.slice.injEq, Option.some.injEq, Addr.mk.injEq, and_true] at he
    obtain ⟨rfl, _, rfl⟩ := he
    refine ⟨hc, lt_of_block hb, hB, fun j u hu => ?_⟩
    rw [cell_of_row w g j cur _ _ hb, ← Array.getElem?_toList]
    rw [← ht] at hu
    have hj := (List.getElem?_eq_some_iff.1 hu).1
    rw [List.length_take] at hj
    rw [List.getElem?_take_of_lt (by omega)] at hu
    exact hu
theorem src_head {w : World} {g : Nat} {ys : List LabD} (h : ∀ j u, (flatL ys)[j]? = some u → w.cell? ⟨g, j, none⟩ = some u) (p : Nat) : SrcAt w (some ⟨g, 0, none⟩) p (flatL (ys.take p)) :=
  Or.inr ⟨_, rfl, fun j u hu => by rw [addr_add, Nat.zero_add]; exact h _ _ (flatL_take j u hu)⟩
theorem src_tail {w : World} {g cv : Nat} {ys : List LabD} (h : ∀ j u, (flatL ys)[j]? = some u → w.cell? ⟨g, j, none⟩ = some u) (p : Nat) (hc : ys.length ≤ cv) : SrcAt w (if cv = p then some ⟨g, 0, none⟩ else some ⟨g, p * 2, none⟩) (ys.length - p) (flatL (ys.drop p)) := by
  by_cases e : cv = p
  · exact Or.inl (by omega)
  · rw [if_neg e]
    exact Or.inr ⟨_, rfl, fun j u hu => by rw [addr_add]; exact flatL_at h p j u hu⟩
theorem src_tail' {w : World} {g : Nat} {ys : List LabD} (h : ∀ j u, (flatL ys)[j]? = some u → w.cell? ⟨g, j, none⟩ = some u) (p : Nat) : SrcAt w (some ⟨g, p * 2, none⟩) (ys.length - p) (flatL (ys.drop p)) :=
  Or.inr ⟨_, rfl, fun j u hu => by rw [addr_add]; exact flatL_at h p j u hu⟩
theorem src_one {w : World} {g : Nat} {x y : Value} {t : TypeId} (h : w.heap[g]? = some (.cells #[x, y] t (0, 0))) : SrcAt w (some ⟨g, 0, none⟩) 1 [x, y] :=
  Or.inr ⟨_, rfl, World.news_of_block (cs := #[x, y]) h⟩
theorem cells_later {W w : World} {g : Nat} {ys : List LabD} (h : ∀ j u, (flatL ys)[j]? = some u → W.cell? ⟨g, j, none⟩ = some u) (hg : g < W.heap.size) (hb : Below W.heap.size W w) : ∀ j u, (flatL ys)[j]? = some u → w.cell? ⟨g, j, none⟩ = some u :=
  fun j u hu => (hb.cell hg).trans (h j u hu)
theorem two_new (W : World) (x y : Obj) : ((W.alloc x).alloc y).drew.heap[W.heap.size + 1]? = some y := by
  have h := heap_alloc_new (W.alloc x) y
  have e : (W.alloc x).heap.size = W.heap.size + 1 := by simp
  rw [e] at h
  exact h
theorem two_old (W : World) (x y : Obj) : ((W.alloc x).alloc y).drew.heap[W.heap.size]? = some x := by
  have h := heap_alloc_new W x
  have h2 := (bnew (W.alloc x) y).block W.heap.size (by simp)
  exact h2.trans h
theorem rowE_a (W : World) (t : TypeId) : (W.alloc (.cells #[] t)).drew.ownsRow W.heap.size t 2 (.slice (some ⟨W.heap.size, 0, none⟩) 0 0) 0 [] :=
  ⟨rfl, Or.inr ⟨W.heap.size, 0, #[], rfl, Nat.le_refl _, heap_alloc_new _ _, Nat.le_refl _, Nat.zero_le _, rfl, rfl⟩⟩
theorem rowE_b (W : World) (t : TypeId) (x : Obj) : ((W.alloc (.cells #[] t)).alloc x).drew.ownsRow W.heap.size t 2 (.slice (some ⟨W.heap.size, 0, none⟩) 0 0) 0 [] :=
  ⟨rfl, Or.inr ⟨W.heap.size, 0, #[], rfl, Nat.le_refl _, two_old _ _ _, Nat.le_refl _, Nat.zero_le _, rfl, rfl⟩⟩
theorem rowE_c (W : World) (t : TypeId) (x : Obj) : ((W.alloc x).alloc (.cells #[] t)).drew.ownsRow W.heap.size t 2 (.slice (some ⟨W.heap.size + 1, 0, none⟩) 0 0) 0 [] :=
  ⟨rfl, Or.inr ⟨W.heap.size + 1, 0, #[], rfl, by omega, two_new _ _ _, Nat.le_refl _, Nat.zero_le _, rfl, rfl⟩⟩
end Go.Proofs.YteohobkigjmjlaaDoor

namespace Go.Proofs.YteohobkigjmjlaaDoor
open Go.RowKit

/-- The number that these bytes are, the highest first. -/
def beL (l : List UInt8) : Nat := l.foldl (fun v c => v * 256 + c.toNat) 0
theorem beL_snoc (l : List UInt8) (c : UInt8) : beL (l ++ [c]) = beL l * 256 + c.toNat := by simp [beL]
theorem beL_lt (l : List UInt8) : beL l < 256 ^ l.length := by
  have hg : ∀ (n : Nat) (l : List UInt8), l.length = n → beL l < 256 ^ n := fun n => by
    induction n with
    | zero => intro l h; rw [List.length_eq_zero_iff.1 h]; decide
    | succ n ih =>
      intro l h
      have hne : l ≠ [] := by intro e; rw [e] at h; simp at h
      rw [← List.dropLast_concat_getLast hne, beL_snoc]
      have h1 := ih l.dropLast (by simp [h])
      have h2 := (l.getLast hne).toNat_lt
      rw [Nat.pow_succ]
      omega
  exact hg _ l rfl
/-- n bytes of s from p on. -/
def sectL (s : ByteArray) (p n : Nat) : List UInt8 := (s.data.toList.drop p).take n
theorem sectL_length {s : ByteArray} {p n : Nat} (h : p + n ≤ s.size) : (sectL s p n).length = n := by
  have : s.data.toList.length = s.size := by simp
  simp only [sectL, List.length_take, List.length_drop]
  omega
theorem sectL_snoc {s : ByteArray} {p k : Nat} (h : p + k < s.size) : sectL s p (k + 1) = sectL s p k ++ [s[p + k]] := by
  have hl : s.data.toList.length = s.size := by simp
  unfold sectL
  rw [List.take_succ_eq_append_getElem (by rw [List.length_drop, hl]; omega), List.getElem_drop]
  rfl

end Go.Proofs.YteohobkigjmjlaaDoor

namespace Go.Proofs.YteohobkigjmjlaaDoor
open Go.RowKit

/-- v without its lowest k bytes. -/
def shrN (v : Int) : Nat → Int
  | 0 => v
  | k + 1 => shrN v k / 256
/-- The lowest n bytes of v, the highest first. -/
def numI (v : Int) : Nat → List Int
  | 0 => []
  | n + 1 => shrN v n % 256 :: numI v n
def numS (n : Nat) (v : Int) : ByteArray := strOfNums (numI v n)
theorem numI_length (v : Int) : ∀ n, (numI v n).length = n
  | 0 => rfl
  | n + 1 => by simp [numI, numI_length v n]
theorem numS_size (n : Nat) (v : Int) : (numS n v).size = n := by
  rw [numS, strOfNums_size, numI_length]

theorem info_u8 : ∃ i, Tryd.prog.info? 5 = some i ∧ i.zero = some (.int .u8 0) ∧ i.size = 1 ∧ i.bytes = 1 := by
  have h : (Tryd.prog.info? 5).map (fun i => (i.zero, i.size, i.bytes)) = some (some (.int .u8 0), 1, 1) := by kernel_rfl
  obtain ⟨i, hi, hz⟩ := Option.map_eq_some_iff.1 h
  simp only [Prod.mk.injEq] at hz
  exact ⟨i, hi, hz.1, hz.2.1, hz.2.2⟩

theorem shrN_rng (v : Int) (h0 : -9223372036854775808 ≤ v) (h1 : v ≤ 9223372036854775807) : ∀ k, -9223372036854775808 ≤ shrN v k ∧ shrN v k ≤ 9223372036854775807
  | 0 => ⟨h0, h1⟩
  | k + 1 => by have := shrN_rng v h0 h1 k; unfold shrN; omega

/-- A row of bytes of the call's own, as a string. -/
theorem conv_row {w : World} {B : Nat} {av : Option Addr} {cv : Nat} {ys : List Int} (h : w.ownsRow B 5 1 (.slice av ys.length cv) ys.length (ys.map (Value.int .u8))) :
    (convert 36 9 (.slice av ys.length cv)).run Tryd.prog w = .ok (.string (strOfNums ys)) w := by
  rcases h.2 with ⟨he, hl⟩ | ⟨g, cap, cur, he, _, hg, hle, _, hsz, htk⟩
  · simp only [Value.slice.injEq] at he
    obtain ⟨rfl, h1, rfl⟩ := he
    have e : ys = [] := List.length_eq_zero_iff.1 h1
    subst e
    exact run_convert_bytes_nil w 36 5 Tryd.underlying36 Tryd.underlying5 _ _ 9 Tryd.underlying9
  · simp only [Value.slice.injEq] at he
    obtain ⟨rfl, _, rfl⟩ := he
    refine run_convert_bytes_arg w 36 5 Tryd.underlying36 Tryd.underlying5 g 0 _ _ ys rfl (fun i hi => ?_) 9 Tryd.underlying9
    rw [Nat.zero_add, cell_of_row w g i cur _ _ hg]
    have h2 : (cur.toList.take (ys.length * 1))[i]? = (ys.map (Value.int .u8))[i]? := by rw [htk]
    rw [List.getElem?_take_of_lt (by omega)] at h2
    rw [← Array.getElem?_toList, h2]
    simp [List.getD, List.getElem?_eq_getElem hi]

set_option maxRecDepth 100000 in
set_option maxHeartbeats 1000000 in
theorem specNum_any (n : Nat) (v : Int) (w : World) (hn : n ≤ 8) (h0 : -9223372036854775808 ≤ v) (h1 : v ≤ 9223372036854775807) :
    Calls Tryd.prog 35 #[.int .i64 n, .int .i64 v] w fun e w' => e = .returned (.string (numS n v)) ∧ Below w.heap.size w w' := by
  obtain ⟨ti, hti, hz0, hz1, hz2⟩ := info_u8
  have HI : Hid (Tryd.prog.info? 5 = some ti) := hti
  clear hti
  have HV : Hid (-9223372036854775808 ≤ v ∧ v ≤ 9223372036854775807) := ⟨h0, h1⟩
  clear h0 h1
  go_enter Tryd.func35, Tryd.ntmps35
  go_wp2
  go_loopw [5, 6, 7, 8] (fun out i _ _ wr => ∃ (m : Nat) (ys : List Int) (av : Option Addr) (cv : Nat), ys.length + m = n ∧ Hid (ys ++ numI v m = numI v n) ∧ i = .int .i64 ((m : Int) - 1) ∧ out = .slice av ys.length cv ∧ Hid (wr.ownsRow w.heap.size 5 1 (.slice av ys.length cv) ys.length (ys.map (Value.int .u8))) ∧ Below w.heap.size w wr) (fun _ i _ _ _ => ((intOf i) + 1).toNat)
  case atStart =>
    exact ⟨n, [], _, _, by simp, by show _ = _; simp, by simp, rfl, World.ownsRow_made w #[] 0 (Nat.le_refl _) (by simp [maxLen]) (by simp), bnew _ _⟩
  case round =>
    obtain ⟨m, ys, av, cv, hm, hnum, rfl, rfl, hrow, hbel⟩ := hrel
    by_cases hp : 0 < m
    · obtain ⟨r, rfl⟩ : ∃ r, m = r + 1 := ⟨m - 1, by omega⟩
      have er : ((r + 1 : Nat) : Int) - 1 = (r : Int) := by omega
      rw [er]
      clear er
      go_wp2
      go_loop [7, 8] (fun x k => ∃ (j : Nat) (X : Int), j ≤ r ∧ k = .int .i64 j ∧ x = .int .i64 X ∧ Hid (X = shrN v j)) (fun _ k => r - (intOf k).toNat)
      case atStart => exact ⟨0, v, Nat.zero_le _, rfl, rfl, rfl⟩
      case round =>
        obtain ⟨j, X, hj, rfl, rfl, hX⟩ := hrel
        by_cases hlt : j < r
        · go_wp2
          exact ⟨⟨j + 1, X / 256, by omega, by go_num, rfl, by show _ = _; rw [shrN, hX.out]⟩, by simp [intOf]; omega⟩
        · have e : j = r := by omega
          subst e
          have hsz := hbel.size
          go_wp2_with (at_builtin; refine wpList_append_lies _ rfl _ _ _ rfl w.heap.size 5 ti _ 1 1 Tryd.underlying36 HI.out hz0 hz1 hz2 rfl (by omega) (.slice av ys.length cv) ys.length (ys.map (Value.int .u8)) rfl (by exact row_later hrow.out (bnew _ _)) ⟨wr.heap.size, 0, none⟩ 1 1 [.int .u8 (X % 256)] rfl rfl (by exact World.news_of_block (heap_alloc_new _ _)) (by simp [Value.oneCell']) (by omega) (by simp [maxLen]; omega) (by omega) (by simp; omega) (wr.heap.size + 1) (by simp) ?_; intro g5 cap5 w5 hown5 hgrow5 hat5 hlt5)
          have hB5 : Below w.heap.size w w5 := (bto hbel (bnew _ _)).grown hgrow5 (by simp; omega) (fun q hq => by
            rcases hrow.out.2 with ⟨he, _⟩ | ⟨g, cap, cur, he, hB, _⟩
            · rw [he] at hq; simp [Value.ownBlock] at hq
            · rw [he] at hq; simp [Value.ownBlock] at hq; omega)
          have hxs : ys.map (Value.int .u8) ++ [Value.int .u8 (X % 256)] = (ys ++ [X % 256]).map (Value.int .u8) := by simp
          have hle : (ys ++ [X % 256]).length = ys.length + 1 := by simp
          rw [hxs, ← hle] at hown5
          refine ⟨⟨j, ys ++ [X % 256], some ⟨g5, 0, none⟩, cap5, by rw [hle]; omega, ?_, rfl, by rw [hle], hown5, hB5⟩, by simp [intOf]⟩
          show _ = _
          rw [← hnum.out, numI, hX.out]
          simp
    · have e : m = 0 := by omega
      subst e
      have hcv := conv_row hrow.out
      go_wp2
      go_ret
      refine ⟨congrArg (fun x => Ending.returned (.string x)) ?_, hbel⟩
      rw [numS, ← hnum.out, numI, List.append_nil]
end Go.Proofs.YteohobkigjmjlaaDoor

namespace Go.Proofs.YteohobkigjmjlaaDoor
open Go.RowKit

/-- The lowest n bytes of a natural number, the highest first. -/
def numN (v : Nat) : Nat → List Nat
  | 0 => []
  | n + 1 => v / 256 ^ n % 256 :: numN v n
theorem numN_length (v : Nat) : ∀ n, (numN v n).length = n
  | 0 => rfl
  | n + 1 => by simp [numN, numN_length v n]
theorem shrN_nat (v : Nat) : ∀ k, shrN (v : Int) k = ((v / 256 ^ k : Nat) : Int)
  | 0 => by simp [shrN]
  | k + 1 => by rw [shrN, shrN_nat v k, Nat.pow_succ, ← Nat.div_div_eq_div_mul]; omega
theorem numI_nat (v : Nat) : ∀ n, numI (v : Int) n = (numN v n).map (fun x : Nat => (x : Int))
  | 0 => rfl
  | n + 1 => by rw [numI, numN, List.map_cons, numI_nat v n, shrN_nat]; simp
theorem numN_add (a b n : Nat) : ∀ m, m ≤ n → numN (a * 256 ^ n + b) m = numN b m
  | 0, _ => rfl
  | m + 1, h => by
    rw [numN, numN, numN_add a b n m (by omega)]
    congr 1
    obtain ⟨d, rfl⟩ : ∃ d, n = m + 1 + d := ⟨n - (m + 1), by omega⟩
    have e : a * 256 ^ (m + 1 + d) + b = b + 256 ^ m * (a * 256 ^ d * 256) := by rw [Nat.pow_add, Nat.pow_succ, Nat.add_comm]; congr 1; ac_rfl
    rw [e, Nat.add_mul_div_left _ _ (Nat.pow_pos (by omega))]
    omega
theorem beL_cons (c : UInt8) (l : List UInt8) : beL (c :: l) = c.toNat * 256 ^ l.length + beL l := by
  have hg : ∀ (l : List UInt8) (v : Nat), l.foldl (fun v c => v * 256 + c.toNat) v = v * 256 ^ l.length + beL l := fun l => by
    induction l with
    | nil => intro v; simp [beL]
    | cons d l ih =>
      intro v
      have h1 := ih (v * 256 + d.toNat)
      have h2 := ih (0 * 256 + d.toNat)
      simp only [beL, List.foldl_cons, List.length_cons, Nat.pow_succ] at h1 h2 ⊢
      rw [h1, h2]
      simp only [Nat.add_mul, Nat.zero_mul, Nat.zero_add]
      rw [Nat.add_assoc]
      congr 1
      ac_rfl
  have := hg l (0 * 256 + c.toNat)
  simpa [beL] using this
/-- What was read off bytes is written as these bytes. -/
theorem numN_be : ∀ (l : List UInt8), numN (beL l) l.length = l.map (fun c => c.toNat)
  | [] => rfl
  | c :: l => by
    have hb := beL_lt l
    have hc := c.toNat_lt
    rw [List.length_cons, numN, beL_cons, numN_add _ _ _ _ (Nat.le_refl _), numN_be l, List.map_cons]
    congr 1
    rw [Nat.add_comm, Nat.mul_comm, Nat.add_mul_div_left _ _ (Nat.pow_pos (by omega)), Nat.div_eq_of_lt hb]
    omega
theorem numS_be (l : List UInt8) (n : Nat) (h : l.length = n) : numS n (beL l : Nat) = ⟨l.toArray⟩ := by
  subst h
  rw [numS, numI_nat, numN_be, strOfNums]
  congr 2
  rw [List.map_map, List.map_map]
  conv => rhs; rw [← List.map_id l]
  congr 1
  funext c
  simp
theorem be_numN (v : Nat) : ∀ n, beL ((numN v n).map UInt8.ofNat) = v % 256 ^ n
  | 0 => by simp [numN, beL, Nat.mod_one]
  | n + 1 => by
    rw [numN, List.map_cons, beL_cons, be_numN v n, List.length_map, numN_length, UInt8.toNat_ofNat_of_lt' (by show _ < 256; omega), Nat.pow_succ, Nat.mod_mul]
    rw [Nat.mul_comm, Nat.add_comm]
theorem numS_data (n v : Nat) : (numS n v).data.toList = (numN v n).map UInt8.ofNat := by
  rw [numS, numI_nat, strOfNums_data, List.map_map]
  congr 1
/-- What was written is read back. -/
theorem be_numS (n v : Nat) (h : v < 256 ^ n) : beL (numS n v).data.toList = v := by
  rw [numS_data, be_numN, Nat.mod_eq_of_lt h]
end Go.Proofs.YteohobkigjmjlaaDoor

