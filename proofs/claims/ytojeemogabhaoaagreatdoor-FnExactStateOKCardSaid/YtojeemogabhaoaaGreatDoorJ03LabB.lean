import Derived.Maps.Ext
import Derived.Maps.OwnSet
import Derived.Sort.KeysCollected
import Derived.Test.YtojeemogabhaoaaGreatDoorJ02Ord
import Derived.Test.YtojeemogabhaoaaGreatDoorJ01BlkN
namespace Go.Proofs.YtojeemogabhaoaaGreatDoor
open Go.Maps
def kL (s : ByteArray) : Lit := .string s.data.toList
theorem kL_list (s : ByteArray) : kL s = .string s.toList := by rw [kL, ByteArray.toList_eq]
theorem kL_inj {x y : ByteArray} (h : kL x = kL y) : x = y := by
  rw [kL_list, kL_list] at h
  exact toList_inj (by simpa using h)
theorem before_less : ∀ x y : List UInt8, bytesBefore x y = Op.bytesLess x y
  | [], [] => rfl
  | [], _ :: _ => rfl
  | _ :: _, [] => rfl
  | a :: x, b :: y => by rw [bytesBefore, Op.bytesLess, before_less x y]
def blt (x y : ByteArray) : Bool := Op.bytesLess x.toList y.toList
theorem blt_irrefl (x : ByteArray) : blt x x = false := less_irrefl _
theorem blt_trans {x y z : ByteArray} (h1 : blt x y = true) (h2 : blt y z = true) : blt x z = true := less_trans _ _ _ h1 h2
theorem blt_asymm {x y : ByteArray} (h : blt x y = true) : blt y x = false := less_asymm h
theorem blt_total {x y : ByteArray} (h : blt x y = false) (hne : x ≠ y) : blt y x = true := less_total _ _ h (fun e => hne (toList_inj e))
theorem blt_ne {x y : ByteArray} (h : blt x y = true) : x ≠ y := fun e => by rw [e, blt_irrefl] at h; cases h
theorem before_kL (x y : ByteArray) : (kL x).before (kL y) = blt x y := by
  rw [kL_list, kL_list, blt]
  exact before_less _ _
theorem sameKey_kL (x y : ByteArray) : (kL x).sameKey (kL y) = (x.toList == y.toList) := by rw [kL_list, kL_list]; rfl
theorem same_iff (x y : ByteArray) : (x.toList == y.toList) = true ↔ x = y := by
  rw [beq_iff_eq]
  exact ⟨toList_inj, fun e => by rw [e]⟩
theorem same_not {x y : ByteArray} (h : x ≠ y) : (x.toList == y.toList) = false := by
  rw [Bool.eq_false_iff]
  exact fun e => h ((same_iff x y).1 e)
section
variable {V : Type}
def Rise (L : List (ByteArray × V)) : Prop := L.Pairwise (fun p q => blt p.1 q.1 = true)
def lk (L : List (ByteArray × V)) (k : ByteArray) : Option V := (L.find? (fun p => p.1.toList == k.toList)).map (·.2)
def insKV (k : ByteArray) (d : V) : List (ByteArray × V) → List (ByteArray × V)
  | [] => [(k, d)]
  | p :: r => if blt p.1 k = true then p :: insKV k d r else if p.1.toList == k.toList then (k, d) :: r else (k, d) :: p :: r
def delKV (k : ByteArray) (L : List (ByteArray × V)) : List (ByteArray × V) := L.filter (fun p => !(p.1.toList == k.toList))
theorem lk_nil (k : ByteArray) : lk ([] : List (ByteArray × V)) k = none := rfl
theorem lk_cons (p : ByteArray × V) (r : List (ByteArray × V)) (k : ByteArray) : lk (p :: r) k = if p.1 = k then some p.2 else lk r k := by
  unfold lk
  by_cases h : p.1 = k
  · rw [List.find?_cons_of_pos (p := fun p : ByteArray × V => p.1.toList == k.toList) (by exact (same_iff _ _).2 h), if_pos h]; rfl
  · rw [List.find?_cons_of_neg (p := fun p : ByteArray × V => p.1.toList == k.toList) (by simpa using same_not h), if_neg h]
theorem lk_mem {L : List (ByteArray × V)} {k : ByteArray} {d : V} (h : lk L k = some d) : (k, d) ∈ L := by
  induction L with
  | nil => cases h
  | cons p r ih =>
    rw [lk_cons] at h
    by_cases e : p.1 = k
    · rw [if_pos e] at h
      obtain ⟨a, b⟩ := p
      simp only [Option.some.injEq] at h e
      rw [← h, ← e]
      exact List.mem_cons_self ..
    · rw [if_neg e] at h
      exact List.mem_cons_of_mem _ (ih h)
theorem lk_none {L : List (ByteArray × V)} {k : ByteArray} (h : lk L k = none) : ∀ p ∈ L, p.1 ≠ k := by
  induction L with
  | nil => intro p hp; cases hp
  | cons p r ih =>
    rw [lk_cons] at h
    by_cases e : p.1 = k
    · rw [if_pos e] at h; cases h
    · rw [if_neg e] at h
      intro q hq
      rcases List.mem_cons.1 hq with rfl | hq
      · exact e
      · exact ih h q hq
theorem lk_none_of {L : List (ByteArray × V)} {k : ByteArray} (h : ∀ p ∈ L, p.1 ≠ k) : lk L k = none := by
  cases hl : lk L k with
  | none => rfl
  | some d => exact absurd rfl (h _ (lk_mem hl))
theorem Rise.head {p : ByteArray × V} {r : List (ByteArray × V)} (h : Rise (p :: r)) : ∀ q ∈ r, blt p.1 q.1 = true := (List.pairwise_cons.1 h).1
theorem Rise.tail {p : ByteArray × V} {r : List (ByteArray × V)} (h : Rise (p :: r)) : Rise r := (List.pairwise_cons.1 h).2
theorem lk_of_mem {L : List (ByteArray × V)} (hr : Rise L) {k : ByteArray} {d : V} (h : (k, d) ∈ L) : lk L k = some d := by
  induction L with
  | nil => cases h
  | cons p r ih =>
    rw [lk_cons]
    rcases List.mem_cons.1 h with e | h
    · rw [← e, if_pos rfl]
    · have := hr.head _ h
      rw [if_neg (blt_ne this)]
      exact ih hr.tail h
theorem insKV_mem {k : ByteArray} {d : V} {L : List (ByteArray × V)} {q : ByteArray × V} (h : q ∈ insKV k d L) : q = (k, d) ∨ q ∈ L := by
  induction L with
  | nil => exact Or.inl (by simpa [insKV] using h)
  | cons p r ih =>
    unfold insKV at h
    split at h
    · rcases List.mem_cons.1 h with rfl | h
      · exact Or.inr (List.mem_cons_self ..)
      · rcases ih h with h | h
        · exact Or.inl h
        · exact Or.inr (List.mem_cons_of_mem _ h)
    · split at h
      · rcases List.mem_cons.1 h with h | h
        · exact Or.inl h
        · exact Or.inr (List.mem_cons_of_mem _ h)
      · rcases List.mem_cons.1 h with h | h
        · exact Or.inl h
        · exact Or.inr h
theorem insKV_rise {k : ByteArray} {d : V} {L : List (ByteArray × V)} (h : Rise L) : Rise (insKV k d L) := by
  induction L with
  | nil => exact List.pairwise_singleton ..
  | cons p r ih =>
    unfold insKV
    split
    · rename_i hlt
      refine List.pairwise_cons.2 ⟨fun q hq => ?_, ih h.tail⟩
      rcases insKV_mem hq with rfl | hq
      · exact hlt
      · exact h.head q hq
    · rename_i hlt
      split
      · rename_i he
        rw [same_iff] at he
        refine List.pairwise_cons.2 ⟨fun q hq => ?_, h.tail⟩
        show blt k q.1 = true
        rw [← he]; exact h.head q hq
      · rename_i he
        have hkp : blt k p.1 = true := blt_total (by simpa using hlt) (fun e => he ((same_iff _ _).2 e))
        refine List.pairwise_cons.2 ⟨fun q hq => ?_, h⟩
        rcases List.mem_cons.1 hq with rfl | hq
        · exact hkp
        · exact blt_trans hkp (h.head q hq)
theorem insKV_end {k : ByteArray} {d : V} {L : List (ByteArray × V)} (h : ∀ p ∈ L, blt p.1 k = true) : insKV k d L = L ++ [(k, d)] := by
  induction L with
  | nil => rfl
  | cons p r ih =>
    unfold insKV
    rw [if_pos (h p (List.mem_cons_self ..)), ih (fun q hq => h q (List.mem_cons_of_mem _ hq))]
    rfl
theorem lk_insKV {k : ByteArray} {d : V} {L : List (ByteArray × V)} (hr : Rise L) (k' : ByteArray) : lk (insKV k d L) k' = if k = k' then some d else lk L k' := by
  induction L with
  | nil =>
    unfold insKV
    rw [lk_cons]
  | cons p r ih =>
    unfold insKV
    split
    · rename_i hlt
      rw [lk_cons, lk_cons, ih hr.tail]
      by_cases e : p.1 = k'
      · rw [if_pos e, if_pos e, if_neg (fun e' => blt_ne hlt (e.trans e'.symm))]
      · rw [if_neg e, if_neg e]
    · split
      · rename_i he
        rw [same_iff] at he
        rw [lk_cons, lk_cons]
        by_cases e : k = k'
        · rw [if_pos e, if_pos e]
        · rw [if_neg e, if_neg e, if_neg (by rw [he]; exact e)]
      · rw [lk_cons]
theorem insKV_length {k : ByteArray} {d : V} {L : List (ByteArray × V)} (hr : Rise L) : (insKV k d L).length = L.length + (if (lk L k).isSome then 0 else 1) := by
  induction L with
  | nil => rfl
  | cons p r ih =>
    unfold insKV
    rw [lk_cons]
    split
    · rename_i hlt
      rw [if_neg (blt_ne hlt), List.length_cons, ih hr.tail, List.length_cons]; omega
    · rename_i hlt
      split
      · rename_i he
        rw [same_iff] at he
        rw [if_pos he]; simp
      · rename_i he
        have hne : p.1 ≠ k := fun e => he ((same_iff _ _).2 e)
        have hkp : blt k p.1 = true := blt_total (by simpa using hlt) hne
        rw [if_neg hne, lk_none_of (fun q hq => (blt_ne (blt_trans hkp (hr.head q hq))).symm)]
        simp
theorem delKV_rise {k : ByteArray} {L : List (ByteArray × V)} (h : Rise L) : Rise (delKV k L) := List.Pairwise.filter _ h
theorem lk_delKV {k : ByteArray} {L : List (ByteArray × V)} (k' : ByteArray) : lk (delKV k L) k' = if k = k' then none else lk L k' := by
  induction L with
  | nil => rw [show delKV k ([] : List (ByteArray × V)) = [] from rfl, lk_nil]; simp
  | cons p r ih =>
    unfold delKV at ih ⊢
    by_cases e : p.1 = k
    · rw [List.filter_cons_of_neg (by simp [(same_iff p.1 k).2 e]), ih, lk_cons]
      by_cases e' : k = k'
      · rw [if_pos e', if_pos e']
      · rw [if_neg e', if_neg e', if_neg (by rw [e]; exact e')]
    · rw [List.filter_cons_of_pos (by simp [same_not e]), lk_cons, lk_cons, ih]
      by_cases e' : k = k'
      · rw [if_pos e', if_pos e', if_neg (by rw [← e']; exact e)]
      · rw [if_neg e', if_neg e']
theorem delKV_none {k : ByteArray} {L : List (ByteArray × V)} (h : lk L k = none) : delKV k L = L := by
  unfold delKV
  rw [List.filter_eq_self]
  intro p hp
  simp [same_not (lk_none h p hp)]
theorem Rise.eq_of_lk {L₁ L₂ : List (ByteArray × V)} (h1 : Rise L₁) (h2 : Rise L₂) (h : ∀ k, lk L₁ k = lk L₂ k) : L₁ = L₂ := by
  refine List.Perm.eq_of_pairwise (le := fun (p q : ByteArray × V) => blt p.1 q.1 = true) (fun p q hp hq h3 h4 => by rw [blt_asymm h3] at h4; cases h4) h1 h2 ?_
  have nd : ∀ {L : List (ByteArray × V)}, Rise L → L.Nodup := fun hr => hr.imp (fun {a b} hab e => by rw [e, blt_irrefl] at hab; cases hab)
  refine (List.perm_ext_iff_of_nodup (nd h1) (nd h2)).2 fun p => ?_
  constructor
  · intro hp
    exact lk_mem (k := p.1) (d := p.2) (by rw [← h]; exact lk_of_mem h1 hp)
  · intro hp
    exact lk_mem (k := p.1) (d := p.2) (by rw [h]; exact lk_of_mem h2 hp)
end
def mapOf (L : List (ByteArray × DataW Unit)) : DataW Unit := .map (L.map fun p => (kL p.1, p.2))
theorem find_mapOf (L : List (ByteArray × DataW Unit)) (k : ByteArray) : (L.map fun p => (kL p.1, p.2)).find? (fun p => p.1.sameKey (kL k)) = (L.find? (fun p => p.1.toList == k.toList)).map (fun p => (kL p.1, p.2)) := by
  rw [List.find?_map]
  congr 1
  apply congrFun
  congr 1
  funext p
  exact sameKey_kL p.1 k
theorem atKey_mapOf (L : List (ByteArray × DataW Unit)) (k : ByteArray) (z : DataW Unit) : (mapOf L).atKey (kL k) z = (lk L k).getD z := by
  simp only [mapOf, DataW.atKey]
  rw [find_mapOf, lk]
  cases L.find? (fun p => p.1.toList == k.toList) <;> rfl
theorem has_mapOf (L : List (ByteArray × DataW Unit)) (k : ByteArray) : has (mapOf L) (kL k) = (lk L k).isSome := by
  have h : ∀ (l : List (Lit × DataW Unit)) f, l.any f = (l.find? f).isSome := fun l f => by rw [Bool.eq_iff_iff, List.find?_isSome, List.any_eq_true]
  rw [mapOf, has_eq, h, find_mapOf, lk]
  cases L.find? (fun p => p.1.toList == k.toList) <;> rfl
theorem size_mapOf (L : List (ByteArray × DataW Unit)) : Maps.size (mapOf L) = L.length := by rw [mapOf, size_eq, List.length_map]
theorem canon_mapOf {L : List (ByteArray × DataW Unit)} (h : Rise L) : Canon (mapOf L) :=
  ⟨_, rfl, List.pairwise_map.2 (h.imp fun {p q} hpq => by rw [before_kL]; exact hpq), fun p hp => by
    obtain ⟨q, _, rfl⟩ := List.mem_map.1 hp
    exact trivial⟩
theorem notKey_kL (k : ByteArray) (q : ByteArray × DataW Unit) : ChangeMaps.notKey (kL k) (kL q.1, q.2) = !(q.1.toList == k.toList) := by
  show (!(kL q.1).sameKey (kL k)) = _
  rw [sameKey_kL]
theorem filter_mapOf (k : ByteArray) (L : List (ByteArray × DataW Unit)) : (L.map fun p => (kL p.1, p.2)).filter (ChangeMaps.notKey (kL k)) = (delKV k L).map fun p => (kL p.1, p.2) := by
  rw [List.filter_map, delKV]
  congr 1
  apply List.filter_congr
  intro q _
  exact notKey_kL k q
theorem del_mapOf (k : ByteArray) (L : List (ByteArray × DataW Unit)) : (mapOf L).del (kL k) = mapOf (delKV k L) := by
  rw [mapOf, DataW.del_eq, ChangeMaps.delKey, filter_mapOf, mapOf]
theorem insert_mapOf (k : ByteArray) (d : DataW Unit) {L : List (ByteArray × DataW Unit)} (hr : Rise L) (hn : lk L k = none) : DataW.insert (kL k, d) (L.map fun p => (kL p.1, p.2)) = (insKV k d L).map fun p => (kL p.1, p.2) := by
  induction L with
  | nil => rfl
  | cons p r ih =>
    have hne := lk_none hn
    rw [List.map_cons, DataW.insert, insKV]
    by_cases h : blt p.1 k = true
    · rw [if_neg (by rw [before_kL, blt_asymm h]; simp), if_pos h, List.map_cons, ih hr.tail (lk_none_of fun q hq => hne q (List.mem_cons_of_mem _ hq))]
    · have hne' := hne p (List.mem_cons_self ..)
      have hkp : blt k p.1 = true := blt_total (by simpa using h) hne'
      rw [if_pos (by rw [before_kL]; exact hkp), if_neg h, if_neg (by rw [same_not hne']; simp)]
      rfl
theorem insKV_delKV (k : ByteArray) (d : DataW Unit) {L : List (ByteArray × DataW Unit)} (hr : Rise L) : insKV k d (delKV k L) = insKV k d L := by
  refine Rise.eq_of_lk (insKV_rise (delKV_rise hr)) (insKV_rise hr) fun k' => ?_
  rw [lk_insKV (delKV_rise hr), lk_insKV hr, lk_delKV]
  by_cases e : k = k'
  · rw [if_pos e, if_pos e]
  · rw [if_neg e, if_neg e, if_neg e]
theorem put_mapOf (k : ByteArray) (d : DataW Unit) {L : List (ByteArray × DataW Unit)} (hr : Rise L) : (mapOf L).put (kL k) d = mapOf (insKV k d L) := by
  rw [mapOf, DataW.put_eq, ChangeMaps.putKey, filter_mapOf, insert_mapOf k d (delKV_rise hr) (by rw [lk_delKV, if_pos rfl]), insKV_delKV k d hr, mapOf]
theorem strKeys_mapOf (L : List (ByteArray × DataW Unit)) : strKeys (mapOf L) = L.map (fun p => p.1.data.toList) := by
  show ((L.map fun p => (kL p.1, p.2)).map fun p => strOf p.1) = _
  rw [List.map_map]
  rfl
theorem less_lt : ∀ (x y : List UInt8), Op.bytesLess x y = decide (x < y)
  | [], [] => by simp [Op.bytesLess]
  | _ :: _, [] => by simp [Op.bytesLess]
  | [], _ :: _ => by simp [Op.bytesLess]
  | a :: x, b :: y => by
    rw [Op.bytesLess, less_lt x y, Bool.eq_iff_iff]
    simp [List.cons_lt_cons_iff]
theorem sorted_mapOf {L : List (ByteArray × DataW Unit)} (hr : Rise L) {ss : List (List UInt8)} (h : ss.Perm (strKeys (mapOf L))) : ss.mergeSort (fun x y => decide (x ≤ y)) = L.map (fun p => p.1.data.toList) := by
  rw [mergeSort_of_perm h, strKeys_mapOf]
  apply List.mergeSort_of_pairwise
  refine List.pairwise_map.2 (hr.imp fun {p q} hpq => ?_)
  rw [blt, less_lt, decide_eq_true_eq, ByteArray.toList_eq, ByteArray.toList_eq] at hpq
  simp only [decide_eq_true_eq]
  exact List.le_of_lt hpq
end Go.Proofs.YtojeemogabhaoaaGreatDoor
namespace Go.Proofs.YtojeemogabhaoaaGreatDoor
open Go.Maps
section
variable {α β : Type}
def insBy (key : α → ByteArray) (a : α) : List α → List α
  | [] => [a]
  | p :: r => if blt (key p) (key a) = true then p :: insBy key a r else if (key p).toList == (key a).toList then a :: r else a :: p :: r
def delBy (key : α → ByteArray) (k : ByteArray) (l : List α) : List α := l.filter (fun p => !((key p).toList == k.toList))
def getBy (key : α → ByteArray) (k : ByteArray) (l : List α) : Option α := l.find? (fun p => (key p).toList == k.toList)
def RiseBy (key : α → ByteArray) (l : List α) : Prop := l.Pairwise (fun p q => blt (key p) (key q) = true)
theorem insBy_map {key : α → ByteArray} {key' : β → ByteArray} (g : α → β) (hg : ∀ a, key' (g a) = key a) (a : α) (l : List α) : (insBy key a l).map g = insBy key' (g a) (l.map g) := by
  induction l with
  | nil => rfl
  | cons p r ih =>
    rw [List.map_cons, insBy, insBy, hg, hg]
    split
    · rw [List.map_cons, ih]
    · split <;> simp
theorem delBy_map {key : α → ByteArray} {key' : β → ByteArray} (g : α → β) (hg : ∀ a, key' (g a) = key a) (k : ByteArray) (l : List α) : (delBy key k l).map g = delBy key' k (l.map g) := by
  unfold delBy
  rw [List.filter_map]
  congr 1
  apply List.filter_congr
  intro p _
  simp only [Function.comp, hg]
theorem getBy_map {key : α → ByteArray} {key' : β → ByteArray} (g : α → β) (hg : ∀ a, key' (g a) = key a) (k : ByteArray) (l : List α) : getBy key' k (l.map g) = (getBy key k l).map g := by
  unfold getBy
  rw [List.find?_map]
  congr 2
  funext p
  simp only [Function.comp, hg]
theorem riseBy_map {key : α → ByteArray} {key' : β → ByteArray} (g : α → β) (hg : ∀ a, key' (g a) = key a) {l : List α} : RiseBy key' (l.map g) ↔ RiseBy key l := by
  unfold RiseBy
  rw [List.pairwise_map]
  simp only [hg]
theorem insBy_kv (k : ByteArray) (d : β) (l : List (ByteArray × β)) : insBy (·.1) (k, d) l = insKV k d l := by
  induction l with
  | nil => rfl
  | cons p r ih => rw [insBy, insKV, ih]
theorem delBy_kv (k : ByteArray) (l : List (ByteArray × β)) : delBy (·.1) k l = delKV k l := rfl
theorem getBy_kv (k : ByteArray) (l : List (ByteArray × β)) : (getBy (·.1) k l).map (·.2) = lk l k := rfl
theorem riseBy_kv {l : List (ByteArray × β)} : RiseBy (·.1) l ↔ Rise l := Iff.rfl
theorem getBy_mem {key : α → ByteArray} {k : ByteArray} {l : List α} {a : α} (h : getBy key k l = some a) : a ∈ l ∧ key a = k :=
  ⟨List.mem_of_find?_eq_some h, (same_iff _ _).1 (List.find?_some (p := fun p => (key p).toList == k.toList) h)⟩
theorem getBy_none {key : α → ByteArray} {k : ByteArray} {l : List α} (h : getBy key k l = none) : ∀ a ∈ l, key a ≠ k := fun a ha e => by
  have := List.find?_eq_none.1 h a ha
  exact this ((same_iff _ _).2 e)
theorem getBy_none_of {key : α → ByteArray} {k : ByteArray} {l : List α} (h : ∀ a ∈ l, key a ≠ k) : getBy key k l = none :=
  List.find?_eq_none.2 fun a ha e => h a ha ((same_iff _ _).1 e)
theorem RiseBy.head {key : α → ByteArray} {p : α} {r : List α} (h : RiseBy key (p :: r)) : ∀ q ∈ r, blt (key p) (key q) = true := (List.pairwise_cons.1 h).1
theorem RiseBy.tail {key : α → ByteArray} {p : α} {r : List α} (h : RiseBy key (p :: r)) : RiseBy key r := (List.pairwise_cons.1 h).2
theorem getBy_cons {key : α → ByteArray} (p : α) (r : List α) (k : ByteArray) : getBy key k (p :: r) = if key p = k then some p else getBy key k r := by
  unfold getBy
  by_cases h : key p = k
  · rw [List.find?_cons_of_pos (p := fun p : α => (key p).toList == k.toList) (by exact (same_iff _ _).2 h), if_pos h]
  · rw [List.find?_cons_of_neg (p := fun p : α => (key p).toList == k.toList) (by simpa using same_not h), if_neg h]
theorem getBy_of_mem {key : α → ByteArray} {l : List α} (hr : RiseBy key l) {a : α} (h : a ∈ l) : getBy key (key a) l = some a := by
  induction l with
  | nil => cases h
  | cons p r ih =>
    rw [getBy_cons]
    rcases List.mem_cons.1 h with rfl | h
    · rw [if_pos rfl]
    · rw [if_neg (blt_ne (hr.head _ h))]
      exact ih hr.tail h
theorem insBy_mem {key : α → ByteArray} {a q : α} {l : List α} (h : q ∈ insBy key a l) : q = a ∨ q ∈ l := by
  induction l with
  | nil => exact Or.inl (by simpa [insBy] using h)
  | cons p r ih =>
    unfold insBy at h
    split at h
    · rcases List.mem_cons.1 h with rfl | h
      · exact Or.inr (List.mem_cons_self ..)
      · rcases ih h with h | h
        · exact Or.inl h
        · exact Or.inr (List.mem_cons_of_mem _ h)
    · split at h
      · rcases List.mem_cons.1 h with h | h
        · exact Or.inl h
        · exact Or.inr (List.mem_cons_of_mem _ h)
      · rcases List.mem_cons.1 h with h | h
        · exact Or.inl h
        · exact Or.inr h
theorem insBy_rise {key : α → ByteArray} {a : α} {l : List α} (h : RiseBy key l) : RiseBy key (insBy key a l) := by
  induction l with
  | nil => exact List.pairwise_singleton ..
  | cons p r ih =>
    unfold insBy
    split
    · rename_i hlt
      refine List.pairwise_cons.2 ⟨fun q hq => ?_, ih h.tail⟩
      rcases insBy_mem hq with rfl | hq
      · exact hlt
      · exact h.head q hq
    · rename_i hlt
      split
      · rename_i he
        rw [same_iff] at he
        refine List.pairwise_cons.2 ⟨fun q hq => ?_, h.tail⟩
        rw [← he]; exact h.head q hq
      · rename_i he
        have hkp : blt (key a) (key p) = true := blt_total (by simpa using hlt) (fun e => he ((same_iff _ _).2 e))
        refine List.pairwise_cons.2 ⟨fun q hq => ?_, h⟩
        rcases List.mem_cons.1 hq with rfl | hq
        · exact hkp
        · exact blt_trans hkp (h.head q hq)
theorem insBy_end {key : α → ByteArray} {a : α} {l : List α} (h : ∀ p ∈ l, blt (key p) (key a) = true) : insBy key a l = l ++ [a] := by
  induction l with
  | nil => rfl
  | cons p r ih =>
    unfold insBy
    rw [if_pos (h p (List.mem_cons_self ..)), ih (fun q hq => h q (List.mem_cons_of_mem _ hq))]
    rfl
theorem insBy_new {key : α → ByteArray} {a : α} {l : List α} (h : getBy key (key a) l = none) : (insBy key a l).Perm (a :: l) := by
  induction l with
  | nil => exact List.Perm.refl _
  | cons p r ih =>
    have hne := getBy_none h
    unfold insBy
    split
    · have := ih (getBy_none_of fun q hq => hne q (List.mem_cons_of_mem _ hq))
      exact (List.Perm.cons p this).trans (List.Perm.swap a p r)
    · rw [if_neg (by rw [same_not (hne p (List.mem_cons_self ..))]; simp)]
theorem delBy_rise {key : α → ByteArray} {k : ByteArray} {l : List α} (h : RiseBy key l) : RiseBy key (delBy key k l) := List.Pairwise.filter _ h
theorem mem_delBy {key : α → ByteArray} {k : ByteArray} {l : List α} {a : α} : a ∈ delBy key k l ↔ a ∈ l ∧ key a ≠ k := by
  unfold delBy
  rw [List.mem_filter]
  constructor
  · rintro ⟨h1, h2⟩
    exact ⟨h1, fun e => by rw [(same_iff _ _).2 e] at h2; cases h2⟩
  · rintro ⟨h1, h2⟩
    exact ⟨h1, by rw [same_not h2]; rfl⟩
theorem delBy_none {key : α → ByteArray} {k : ByteArray} {l : List α} (h : getBy key k l = none) : delBy key k l = l := by
  unfold delBy
  rw [List.filter_eq_self]
  intro p hp
  rw [same_not (getBy_none h p hp)]; rfl
end
theorem has_by {α : Type} (key : α → ByteArray) (val : α → DataW Unit) (l : List α) (k : ByteArray) : has (mapOf (l.map fun a => (key a, val a))) (kL k) = (getBy key k l).isSome := by
  rw [has_mapOf, ← getBy_kv, getBy_map (key := key) (fun a => (key a, val a)) (fun _ => rfl)]
  cases getBy key k l <;> rfl
theorem atKey_by {α : Type} (key : α → ByteArray) (val : α → DataW Unit) (l : List α) (k : ByteArray) (z : DataW Unit) : (mapOf (l.map fun a => (key a, val a))).atKey (kL k) z = ((getBy key k l).map val).getD z := by
  rw [atKey_mapOf, ← getBy_kv, getBy_map (key := key) (fun a => (key a, val a)) (fun _ => rfl)]
  cases getBy key k l <;> rfl
theorem rise_by {α : Type} {key : α → ByteArray} (val : α → DataW Unit) {l : List α} (h : RiseBy key l) : Rise (l.map fun a => (key a, val a)) := by
  rw [← riseBy_kv, riseBy_map (key := key) (fun a => (key a, val a)) (fun _ => rfl)]
  exact h
theorem put_by {α : Type} {key : α → ByteArray} (val : α → DataW Unit) (a : α) {l : List α} (h : RiseBy key l) : (mapOf (l.map fun a => (key a, val a))).put (kL (key a)) (val a) = mapOf ((insBy key a l).map fun a => (key a, val a)) := by
  rw [put_mapOf _ _ (rise_by val h), insBy_map (key' := (·.1)) (fun a => (key a, val a)) (fun _ => rfl), insBy_kv]
theorem del_by {α : Type} {key : α → ByteArray} (val : α → DataW Unit) (k : ByteArray) (l : List α) : (mapOf (l.map fun a => (key a, val a))).del (kL k) = mapOf ((delBy key k l).map fun a => (key a, val a)) := by
  rw [del_mapOf, delBy_map (key' := (·.1)) (fun a => (key a, val a)) (fun _ => rfl), delBy_kv]
theorem size_by {α : Type} (key : α → ByteArray) (val : α → DataW Unit) (l : List α) : Maps.size (mapOf (l.map fun a => (key a, val a))) = l.length := by
  rw [size_mapOf, List.length_map]
def cntM (met : ByteArray → ByteArray) (l : List PairD) (m : ByteArray) : Nat := (l.filter fun p => (met p.s).toList == m.toList).length
theorem cntM_perm {met : ByteArray → ByteArray} {l l' : List PairD} (h : l.Perm l') (m : ByteArray) : cntM met l m = cntM met l' m := (h.filter _).length_eq
theorem cntM_cons (met : ByteArray → ByteArray) (p : PairD) (l : List PairD) (m : ByteArray) : cntM met (p :: l) m = cntM met l m + if met p.s = m then 1 else 0 := by
  unfold cntM
  by_cases h : met p.s = m
  · rw [List.filter_cons_of_pos (by exact (same_iff _ _).2 h), if_pos h]; rfl
  · rw [List.filter_cons_of_neg (by rw [same_not h]; simp), if_neg h]; rfl
theorem cntM_le (met : ByteArray → ByteArray) (l : List PairD) (m : ByteArray) : cntM met l m ≤ l.length := List.length_filter_le _ _
end Go.Proofs.YtojeemogabhaoaaGreatDoor
namespace Go.Proofs.YtojeemogabhaoaaGreatDoor
open Go.RowKit
structure LabD where
  name : ByteArray
  value : ByteArray
def LabsAt (w : World) (b o : Nat) (ls : List LabD) : Prop :=
  ∀ i (h : i < ls.length), w.cell? ⟨b, o + i * 2, none⟩ = some (.string ls[i].name) ∧ w.cell? ⟨b, o + i * 2 + 1, none⟩ = some (.string ls[i].value)
def LabsIn (w : World) (a : Option Addr) (ls : List LabD) : Prop := ls = [] ∨ ∃ b o, a = some ⟨b, o, none⟩ ∧ b < w.heap.size ∧ LabsAt w b o ls
theorem LabsIn.later {w w' : World} {a : Option Addr} {ls : List LabD} (h : LabsIn w a ls) (hb : Below w.heap.size w w') : LabsIn w' a ls := by
  rcases h with h | ⟨b, o, rfl, hlt, h⟩
  · exact Or.inl h
  · refine Or.inr ⟨b, o, rfl, Nat.lt_of_lt_of_le hlt hb.size, fun i hi => ?_⟩
    obtain ⟨h1, h2⟩ := h i hi
    exact ⟨by rw [← h1]; exact hb.cell hlt, by rw [← h2]; exact hb.cell hlt⟩
theorem LabsIn.at {w : World} {a : Option Addr} {ls : List LabD} (h : LabsIn w a ls) {i : Nat} (hi : i < ls.length) :
    ∃ b o, a = some ⟨b, o, none⟩ ∧ b < w.heap.size ∧ w.cell? ⟨b, o + i * 2, none⟩ = some (.string ls[i].name) ∧ w.cell? ⟨b, o + i * 2 + 1, none⟩ = some (.string ls[i].value) := by
  rcases h with rfl | ⟨b, o, rfl, hlt, h⟩
  · exact absurd hi (by simp)
  · exact ⟨b, o, rfl, hlt, h i hi⟩
theorem LabsIn.but {g : Nat} {w w' : World} {a : Option Addr} {l : List LabD} (h : LabsIn w a l) (hb : But g w w') (hg : l = [] ∨ ∃ b o, a = some ⟨b, o, none⟩ ∧ b ≠ g) : LabsIn w' a l := by
  rcases hg with hg | ⟨b, o, rfl, hne⟩
  · exact Or.inl hg
  · rcases h with h | ⟨b', o', e, hlt, h⟩
    · exact Or.inl h
    · simp only [Option.some.injEq, Addr.mk.injEq, and_true] at e
      obtain ⟨rfl, rfl⟩ := e
      have hk : ∀ j, w'.cell? ⟨b, j, none⟩ = w.cell? ⟨b, j, none⟩ := fun j => World.cell?_of_block (hb.block b hlt hne)
      exact Or.inr ⟨b, o, rfl, Nat.lt_of_lt_of_le hlt hb.size, fun i hi => by simp only [hk]; exact h i hi⟩
theorem LabsIn.take {w : World} {a : Option Addr} {ls : List LabD} (h : LabsIn w a ls) (n : Nat) : LabsIn w a (ls.take n) := by
  rcases h with h | ⟨b, o, e, hlt, h⟩
  · exact Or.inl (by rw [h]; simp)
  · refine Or.inr ⟨b, o, e, hlt, fun i hi => ?_⟩
    rw [List.getElem_take]
    exact h i (by simp at hi; omega)
def LabsOwn (w : World) (B : Nat) (a : Option Addr) (ls : List LabD) : Prop :=
  ls = [] ∨ ∃ g o cur t, a = some ⟨g, o, none⟩ ∧ B ≤ g ∧ w.heap[g]? = some (.cells cur t (0, 0)) ∧ LabsAt w g o ls
theorem LabsOwn.labs {w : World} {B : Nat} {a : Option Addr} {ls : List LabD} (h : LabsOwn w B a ls) : LabsIn w a ls := by
  rcases h with h | ⟨g, o, cur, t, rfl, _, hb, h⟩
  · exact Or.inl h
  · exact Or.inr ⟨g, o, rfl, lt_of_block hb, h⟩
theorem LabsOwn.later {w w' : World} {B : Nat} {a : Option Addr} {ls : List LabD} (h : LabsOwn w B a ls) (hb : Below w.heap.size w w') : LabsOwn w' B a ls := by
  rcases h with h | ⟨g, o, cur, t, rfl, hB, hg, h⟩
  · exact Or.inl h
  · have hlt := lt_of_block hg
    have hk : ∀ j, w'.cell? ⟨g, j, none⟩ = w.cell? ⟨g, j, none⟩ := fun j => World.cell?_of_block (hb.block g hlt)
    exact Or.inr ⟨g, o, cur, t, rfl, hB, (hb.block g hlt).trans hg, fun i hi => by simp only [hk]; exact h i hi⟩
theorem LabsOwn.mono {w : World} {B B' : Nat} {a : Option Addr} {ls : List LabD} (h : LabsOwn w B a ls) (hB : B' ≤ B) : LabsOwn w B' a ls := by
  rcases h with h | ⟨g, o, cur, t, rfl, hB', hg, h⟩
  · exact Or.inl h
  · exact Or.inr ⟨g, o, cur, t, rfl, Nat.le_trans hB hB', hg, h⟩
def RowLab (cur : Array Value) (o j : Nat) (f : LabD) : Prop := cur[o + j * 2]? = some (.string f.name) ∧ cur[o + j * 2 + 1]? = some (.string f.value)
theorem RowLab.set {cur : Array Value} {o j : Nat} {f : LabD} (h : RowLab cur o j f) {p : Nat} (hp : p < o + j * 2 ∨ o + j * 2 + 1 < p) (v : Value) : RowLab (cur.setIfInBounds p v) o j f := by
  obtain ⟨a1, a2⟩ := h
  refine ⟨?_, ?_⟩
  · rw [Array.getElem?_setIfInBounds_ne (by omega)]; exact a1
  · rw [Array.getElem?_setIfInBounds_ne (by omega)]; exact a2
theorem RowLab.made (cur : Array Value) (o j : Nat) (f : LabD) (h : o + j * 2 + 1 < cur.size) :
    RowLab ((cur.setIfInBounds (o + j * 2) (.string f.name)).setIfInBounds (o + j * 2 + 1) (.string f.value)) o j f := by
  refine ⟨?_, ?_⟩ <;> simp [Array.getElem?_setIfInBounds] <;> omega
theorem labsAt_of_rows {w : World} {g o : Nat} {cur : Array Value} {t : TypeId} {fs : List LabD} (h : Blk w g cur t) (hr : ∀ j (hj : j < fs.length), RowLab cur o j fs[j]) : LabsAt w g o fs := by
  intro j hj
  simp only [h.cell]
  exact hr j hj
theorem rows_of_labsAt {w : World} {g o : Nat} {cur : Array Value} {t : TypeId} {fs : List LabD} (h : Blk w g cur t) (hf : LabsAt w g o fs) : ∀ j (hj : j < fs.length), RowLab cur o j fs[j] := by
  intro j hj
  have := hf j hj
  simp only [h.cell] at this
  exact this
theorem labs_size {cur : Array Value} {o : Nat} {fs : List LabD} (hr : ∀ j (hj : j < fs.length), RowLab cur o j fs[j]) : fs.length = 0 ∨ o + fs.length * 2 ≤ cur.size := by
  by_cases h : fs.length = 0
  · exact Or.inl h
  · right
    have := (hr (fs.length - 1) (by omega)).2
    have := (Array.getElem?_eq_some_iff.1 this).1
    omega
theorem labs_of_row {w : World} {B : Nat} {e : TypeId} {a : Option Addr} {cap : Nat} {l : List LabD}
    (h : w.ownsRow B e 2 (.slice a l.length cap) l.length (l.flatMap fun x => [.string x.name, .string x.value])) : LabsOwn w B a l := by
  rcases h.2 with ⟨_, hl⟩ | ⟨g, cap', cur, he, hB, hg, _, _, hsz, htk⟩
  · exact Or.inl (List.length_eq_zero_iff.1 hl)
  · simp only [Value.slice.injEq] at he
    have hf : ∀ (l : List LabD) i (hi : i < l.length), (l.flatMap fun x => [Value.string x.name, .string x.value])[i * 2]? = some (.string l[i].name) ∧ (l.flatMap fun x => [Value.string x.name, .string x.value])[i * 2 + 1]? = some (.string l[i].value) := by
      intro l
      induction l with
      | nil => intro i hi; exact absurd hi (by simp)
      | cons x r ih =>
        intro i hi
        cases i with
        | zero => simp
        | succ i =>
          have := ih i (by simpa using hi)
          simp only [List.flatMap_cons, List.cons_append, List.nil_append, List.getElem_cons_succ]
          rw [show (i + 1) * 2 = i * 2 + 1 + 1 by omega, List.getElem?_cons_succ, List.getElem?_cons_succ, List.getElem?_cons_succ, List.getElem?_cons_succ]
          exact this
    refine Or.inr ⟨g, 0, cur, e, he.1, hB, hg, fun i hi => ?_⟩
    have h2 : ∀ j, j < l.length * 2 → cur[j]? = (l.flatMap fun x => [Value.string x.name, .string x.value])[j]? := fun j hj => by
      rw [← htk, List.getElem?_take_of_lt hj, Array.getElem?_toList]
    rw [cell_of_row w g _ cur _ _ hg, cell_of_row w g _ cur _ _ hg, Nat.zero_add, h2 _ (by omega), h2 _ (by omega)]
    exact hf l i hi
def labBulk : List LabD → Nat
  | [] => 0
  | f :: r => f.name.size + f.value.size + labBulk r
theorem labBulk_append (a b : List LabD) : labBulk (a ++ b) = labBulk a + labBulk b := by
  induction a with
  | nil => simp [labBulk]
  | cons f r ih => simp [labBulk, ih]; omega
theorem labBulk_take_succ (fs : List LabD) (k : Nat) (h : k < fs.length) : labBulk (fs.take (k + 1)) = labBulk (fs.take k) + (fs[k].name.size + fs[k].value.size) := by
  rw [List.take_succ_eq_append_getElem h, labBulk_append]; simp [labBulk]
theorem labBulk_take_le (fs : List LabD) (k : Nat) : labBulk (fs.take k) ≤ labBulk fs := by
  have := labBulk_append (fs.take k) (fs.drop k)
  rw [List.take_append_drop] at this; omega
def szLab (left : Int) (f : LabD) : Int := if (f.name.size + f.value.size : Int) ≤ left then left - f.name.size - f.value.size else -1
def szLabs (left : Int) (fs : List LabD) : Int := if (fs.length + labBulk fs : Int) ≤ left then left - fs.length - labBulk fs else -1
def ShortL (fs : List LabD) : Prop := ∀ i (h : i < fs.length), fs[i].name.size ≤ maxLen ∧ fs[i].value.size ≤ maxLen
def markB (k : Nat) (i : Nat) : LabD := ⟨mt (k + 2 * i), mt (k + 2 * i + 1)⟩
def markLabs (k n : Nat) : List LabD := (List.range n).map (markB k)
theorem markLabs_length (k n : Nat) : (markLabs k n).length = n := by simp [markLabs]
theorem markLabs_get (k n i : Nat) (h : i < (markLabs k n).length) : (markLabs k n)[i] = markB k i := by simp [markLabs]
end Go.Proofs.YtojeemogabhaoaaGreatDoor
