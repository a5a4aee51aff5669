/- The verifier's own text: the canonical form of labels. -/
import Derived.Test.YtoecnlhnfhongaaDoorLabB
import Derived.Test.YtoecnlhnfhongaaDoorRuneL
import Derived.Test.YtoecnlhnfhongaaDoorOrd
namespace Go.Proofs.YtoecnlhnfhongaaDoor
open Go.RowKit

abbrev alphaN (c : Nat) : Prop := (65 ≤ c ∧ c ≤ 90) ∨ (97 ≤ c ∧ c ≤ 122) ∨ c = 95
abbrev digitN (c : Nat) : Prop := 48 ≤ c ∧ c ≤ 57
abbrev nameC (s : ByteArray) (i : Nat) : Prop := alphaN (byteAt s i) ∨ (digitN (byteAt s i) ∧ 0 < i)
abbrev nameOK (s : ByteArray) : Prop := 1 ≤ s.size ∧ s.size ≤ 64 ∧ ∀ i, i < s.size → nameC s i
def nameB (s : ByteArray) : Bool := decide (nameOK s)

def labV (l : LabD) : Nat := if nameB l.name = true then valV l.value else 41
def firstBad : List LabD → Nat → Option (Nat × Nat)
  | [], _ => none
  | l :: r, i => if labV l = 0 then firstBad r (i + 1) else some (labV l, i)
def sameN (x l : LabD) : Bool := x.name.toList == l.name.toList
def firstTw : List LabD → List LabD → Nat → Option Nat
  | _, [], _ => none
  | seen, l :: r, i => if seen.any (fun x => sameN x l) = true then some i else firstTw (seen ++ [l]) r (i + 1)
def mname : ByteArray := ⟨#[95, 95, 110, 97, 109, 101, 95, 95]⟩
def isMet (l : LabD) : Bool := l.name.toList == mname.toList
def isEmp (l : LabD) : Bool := l.value.toList == ByteArray.empty.toList
def lessN (x y : LabD) : Bool := Op.bytesLess x.name.toList y.name.toList
def metV : List LabD → ByteArray
  | [] => ByteArray.empty
  | l :: r => if isMet l = true then l.value else metV r
def keptL (ls : List LabD) : List LabD := ls.filter (fun l => !isEmp l)
def metB (ls : List LabD) : Bool := ls.any (fun l => !isEmp l && isMet l)
def posI (l : LabD) : List LabD → Nat
  | [] => 0
  | x :: r => if lessN x l = true then posI l r + 1 else 0
def insL (l : LabD) (out : List LabD) : List LabD := out.take (posI l out) ++ l :: out.drop (posI l out)
def insAll (out : List LabD) : List LabD → List LabD
  | [] => out
  | l :: r => insAll (if isEmp l = true then out else insL l out) r
def canonR (ls : List LabD) : List LabD × Nat × Nat :=
  if 16 < ls.length then ([], 40, 0) else match firstBad ls 0 with
  | some (c, i) => ([], c, i)
  | none => match firstTw [] ls 0 with
    | some i => ([], 45, i)
    | none => if metB ls = true then (insAll [] ls, 0, 0) else ([], 46, 0)

theorem posI_le (l : LabD) : ∀ out, posI l out ≤ out.length
  | [] => Nat.le_refl _
  | x :: r => by
    have := posI_le l r
    rw [posI]
    split
    · simp; omega
    · simp
theorem posI_step (l : LabD) (out : List LabD) (k : Nat) (hk : k < out.length) : posI l (out.drop k) = if lessN out[k] l = true then posI l (out.drop (k + 1)) + 1 else 0 := by
  rw [List.drop_eq_getElem_cons hk, posI]
theorem insL_length (l : LabD) (out : List LabD) : (insL l out).length = out.length + 1 := by
  have := posI_le l out
  simp [insL]
  omega
theorem insL_perm (l : LabD) (out : List LabD) : (insL l out).Perm (l :: out) := by
  unfold insL
  refine List.perm_middle.trans ?_
  rw [List.take_append_drop]
theorem insAll_perm : ∀ (ls out : List LabD), (insAll out ls).Perm (out ++ keptL ls)
  | [], out => by simp [insAll, keptL]
  | l :: r, out => by
    rw [insAll, keptL, List.filter_cons]
    by_cases h : isEmp l = true
    · rw [if_pos h, if_neg (by simp [h])]
      exact insAll_perm r out
    · rw [if_neg h, if_pos (by simpa using h)]
      refine (insAll_perm r _).trans ?_
      refine ((insL_perm l out).append_right _).trans ?_
      exact (List.perm_middle (l₁ := out) (a := l) (l₂ := keptL r)).symm
theorem keptL_len (ls : List LabD) : (keptL ls).length ≤ ls.length := List.length_filter_le _ _
theorem insAll_len (ls : List LabD) : (insAll [] ls).length = (keptL ls).length := by
  have := (insAll_perm ls []).length_eq
  simpa using this

def Le (x y : LabD) : Prop := lessN y x = false
theorem posI_head (l : LabD) : ∀ (out : List LabD), ∀ x ∈ out.take (posI l out), lessN x l = true
  | [], x, h => by simp at h
  | y :: r, x, h => by
    rw [posI] at h
    split at h
    · rename_i hy
      rw [List.take_succ_cons, List.mem_cons] at h
      rcases h with rfl | h
      · exact hy
      · exact posI_head l r x h
    · simp at h
theorem posI_tail (l : LabD) : ∀ (out : List LabD), out.Pairwise Le → ∀ x ∈ out.drop (posI l out), lessN x l = false
  | [], _, x, h => by simp at h
  | y :: r, hp, x, h => by
    rw [posI] at h
    rw [List.pairwise_cons] at hp
    split at h
    · rw [List.drop_succ_cons] at h
      exact posI_tail l r hp.2 x h
    · rename_i hy
      rw [List.drop_zero, List.mem_cons] at h
      have hy' : lessN y l = false := by simpa using hy
      rcases h with rfl | h
      · exact hy'
      · have h1 := hp.1 x h
        unfold Le at h1
        cases hx : lessN x l
        · rfl
        · exfalso
          by_cases e : y.name.toList = l.name.toList
          · unfold lessN at h1 hx; rw [e] at h1; rw [h1] at hx; exact absurd hx (by simp)
          · have h2 : lessN l y = true := less_total _ _ hy' e
            have h3 : lessN x y = true := less_trans _ _ _ hx h2
            rw [h3] at h1; exact absurd h1 (by simp)
theorem le_trans_L {x y z : LabD} (h1 : Le x y) (h2 : Le y z) : Le x z := by
  unfold Le at *
  cases hx : lessN z x
  · rfl
  · exfalso
    by_cases e : y.name.toList = x.name.toList
    · unfold lessN at h2 hx; rw [e] at h2; rw [h2] at hx; exact absurd hx (by simp)
    · have h3 : lessN x y = true := less_total _ _ h1 e
      have h4 : lessN z y = true := less_trans _ _ _ hx h3
      rw [h4] at h2; exact absurd h2 (by simp)
theorem insL_sorted (l : LabD) (out : List LabD) (h : out.Pairwise Le) : (insL l out).Pairwise Le := by
  unfold insL
  have hh := posI_head l out
  have ht := posI_tail l out h
  rw [List.pairwise_append]
  refine ⟨h.sublist (List.take_sublist _ _), ?_, ?_⟩
  · rw [List.pairwise_cons]
    exact ⟨fun x hx => ht x hx, h.sublist (List.drop_sublist _ _)⟩
  · intro a ha b hb
    have h1 : Le a l := less_asymm (hh a ha)
    rw [List.mem_cons] at hb
    rcases hb with rfl | hb
    · exact h1
    · exact le_trans_L h1 (ht b hb)
theorem insAll_sorted : ∀ (ls out : List LabD), out.Pairwise Le → (insAll out ls).Pairwise Le
  | [], out, h => h
  | l :: r, out, h => by
    rw [insAll]
    refine insAll_sorted r _ ?_
    split
    · exact h
    · exact insL_sorted l out h

/-- No name twice. -/
def NoTw (ls : List LabD) : Prop := ls.Pairwise (fun x y => x.name ≠ y.name)
theorem sameN_iff (x l : LabD) : sameN x l = true ↔ x.name = l.name := by
  unfold sameN
  rw [beq_iff_eq]
  exact ⟨fun h => toList_inj h, fun h => by rw [h]⟩
theorem firstTw_none : ∀ (r seen : List LabD) (i : Nat), NoTw seen → firstTw seen r i = none → NoTw (seen ++ r)
  | [], seen, _, h, _ => by simpa using h
  | l :: r, seen, i, h, hn => by
    rw [firstTw] at hn
    split at hn
    · exact absurd hn (by simp)
    · rename_i hs
      have : NoTw (seen ++ [l]) := by
        unfold NoTw
        rw [List.pairwise_append]
        refine ⟨h, List.pairwise_singleton _ _, fun a ha b hb => ?_⟩
        rw [List.mem_singleton] at hb
        subst hb
        intro e
        apply hs
        rw [List.any_eq_true]
        exact ⟨a, ha, (sameN_iff _ _).2 e⟩
      have := firstTw_none r _ _ this hn
      simpa using this
theorem noTw_of (ls : List LabD) (h : firstTw [] ls 0 = none) : NoTw ls := by
  have := firstTw_none ls [] 0 (by exact List.Pairwise.nil) h
  simpa using this
theorem noTw_eq {ls : List LabD} (h : NoTw ls) {x y : LabD} (hx : x ∈ ls) (hy : y ∈ ls) (e : x.name = y.name) : x = y := by
  induction ls with
  | nil => exact absurd hx (by simp)
  | cons l r ih =>
    unfold NoTw at h
    rw [List.pairwise_cons] at h
    rw [List.mem_cons] at hx hy
    rcases hx with rfl | hx
    · rcases hy with rfl | hy
      · rfl
      · exact absurd e (h.1 y hy)
    · rcases hy with rfl | hy
      · exact absurd e.symm (h.1 x hx)
      · exact ih h.2 hx hy
/-- What is a sorted row of the kept labels is the form. -/
theorem sorted_is {ls out : List LabD} (h : NoTw ls) (hp : out.Perm (keptL ls)) (hs : out.Pairwise Le) : out = insAll [] ls := by
  have hp2 := (insAll_perm ls []).trans (by rw [List.nil_append])
  refine List.Perm.eq_of_pairwise (le := Le) ?_ hs (insAll_sorted ls [] List.Pairwise.nil) (hp.trans hp2.symm)
  intro a b ha hb h1 h2
  have ha' : a ∈ ls := (List.mem_filter.1 (hp.mem_iff.1 ha)).1
  have hb' : b ∈ ls := (List.mem_filter.1 (hp2.mem_iff.1 hb)).1
  refine noTw_eq h ha' hb' ?_
  by_cases e : a.name = b.name
  · exact e
  · have h3 : lessN b a = true := less_total _ _ h2 (fun e' => e (toList_inj e'))
    unfold Le at h1
    rw [h3] at h1
    exact absurd h1 (by simp)
/-- The metric is there just where its label has a value. -/
theorem metV_iff : ∀ (ls : List LabD), NoTw ls → ((metV ls).toList == ByteArray.empty.toList) = !metB ls
  | [], _ => by simp [metV, metB]
  | l :: r, h => by
    unfold NoTw at h
    rw [List.pairwise_cons] at h
    rw [metV, metB, List.any_cons]
    by_cases hm : isMet l = true
    · rw [if_pos hm, hm, Bool.and_true]
      have hr : (r.any fun l => !isEmp l && isMet l) = false := by
        rw [List.any_eq_false]
        intro x hx hc
        rw [Bool.and_eq_true] at hc
        have e1 : l.name = mname := toList_inj (by simpa [isMet] using hm)
        have e2 : x.name = mname := toList_inj (by simpa [isMet] using hc.2)
        exact h.1 x hx (by rw [e1, e2])
      rw [hr, Bool.or_false, Bool.not_not]
      rfl
    · rw [if_neg hm]
      have hm' : isMet l = false := by simpa using hm
      rw [hm', Bool.and_false, Bool.false_or]
      exact metV_iff r h.2

theorem canon_many {ls : List LabD} (h : 16 < ls.length) : canonR ls = ([], 40, 0) := by unfold canonR; rw [if_pos h]
theorem canon_bad {ls : List LabD} (h : ¬ 16 < ls.length) {c i : Nat} (hb : firstBad ls 0 = some (c, i)) : canonR ls = ([], c, i) := by unfold canonR; rw [if_neg h, hb]
theorem canon_twice {ls : List LabD} (h : ¬ 16 < ls.length) (hb : firstBad ls 0 = none) {i : Nat} (ht : firstTw [] ls 0 = some i) : canonR ls = ([], 45, i) := by unfold canonR; rw [if_neg h, hb, ht]
theorem canon_met {ls : List LabD} (h : ¬ 16 < ls.length) (hb : firstBad ls 0 = none) (ht : firstTw [] ls 0 = none) (hm : metB ls = false) : canonR ls = ([], 46, 0) := by
  unfold canonR; rw [if_neg h, hb, ht]; simp [hm]
theorem canon_ok {ls : List LabD} (h : ¬ 16 < ls.length) (hb : firstBad ls 0 = none) (ht : firstTw [] ls 0 = none) (hm : metB ls = true) : canonR ls = (insAll [] ls, 0, 0) := by
  unfold canonR; rw [if_neg h, hb, ht]; simp [hm]

theorem firstBad_step (ls : List LabD) (k : Nat) (hk : k < ls.length) : firstBad (ls.drop k) k = if labV ls[k] = 0 then firstBad (ls.drop (k + 1)) (k + 1) else some (labV ls[k], k) := by
  rw [List.drop_eq_getElem_cons hk, firstBad]
theorem firstTw_step (ls : List LabD) (k : Nat) (hk : k < ls.length) : firstTw (ls.take k) (ls.drop k) k = if (ls.take k).any (fun x => sameN x ls[k]) = true then some k else firstTw (ls.take (k + 1)) (ls.drop (k + 1)) (k + 1) := by
  rw [List.drop_eq_getElem_cons hk, firstTw, List.take_succ_eq_append_getElem hk]
theorem metV_step (ls : List LabD) (k : Nat) (hk : k < ls.length) : metV (ls.drop k) = if isMet ls[k] = true then ls[k].value else metV (ls.drop (k + 1)) := by
  rw [List.drop_eq_getElem_cons hk, metV]
theorem insAll_step (out ls : List LabD) (k : Nat) (hk : k < ls.length) : insAll out (ls.drop k) = insAll (if isEmp ls[k] = true then out else insL ls[k] out) (ls.drop (k + 1)) := by
  rw [List.drop_eq_getElem_cons hk, insAll]
theorem metB_take (ls : List LabD) (k : Nat) (hk : k < ls.length) : metB (ls.take (k + 1)) = (metB (ls.take k) || (!isEmp ls[k] && isMet ls[k])) := by
  rw [List.take_succ_eq_append_getElem hk, metB, List.any_append]
  simp [metB]
theorem keptL_take (ls : List LabD) (k : Nat) (hk : k < ls.length) : keptL (ls.take (k + 1)) = keptL (ls.take k) ++ if isEmp ls[k] = true then [] else [ls[k]] := by
  rw [List.take_succ_eq_append_getElem hk, keptL, List.filter_append, keptL]
  congr 1
  by_cases h : isEmp ls[k] = true <;> simp [h]
end Go.Proofs.YtoecnlhnfhongaaDoor
