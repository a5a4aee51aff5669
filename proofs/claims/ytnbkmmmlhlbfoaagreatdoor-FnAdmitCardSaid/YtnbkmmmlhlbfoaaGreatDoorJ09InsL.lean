import Derived.Maps.Ext
import Derived.Maps.OwnSet
import Derived.Sort.KeysCollected
import Derived.Test.YtnbkmmmlhlbfoaaGreatDoorJ02AppA
import Derived.Test.YtnbkmmmlhlbfoaaGreatDoorJ01DrawV
import Derived.Test.YtnbkmmmlhlbfoaaGreatDoorJ06Win
namespace Go.Proofs.YtnbkmmmlhlbfoaaGreatDoor
open Go.Maps
def kL (s : ByteArray) : Lit := .string s.data.toList
theorem kL_list (s : ByteArray) : kL s = .string s.toList := by rw [kL, ByteArray.toList_eq]
theorem kL_inj {x y : ByteArray} (h : kL x = kL y) : x = y := by
  rw [kL_list, kL_list] at h
  exact toList_inj (by simpa using h)
theorem before_less : ∀ x y : List UInt8, bytesBefore x y = Op.bytesLess x y
  | [], [] => rfl
  | [], _ :: _ => rfl
  | _ :: _, [] => rfl
  | a :: x, b :: y => by rw [bytesBefore, Op.bytesLess, before_less x y]
def blt (x y : ByteArray) : Bool := Op.bytesLess x.toList y.toList
theorem blt_irrefl (x : ByteArray) : blt x x = false := less_irrefl _
theorem blt_trans {x y z : ByteArray} (h1 : blt x y = true) (h2 : blt y z = true) : blt x z = true := less_trans _ _ _ h1 h2
theorem blt_asymm {x y : ByteArray} (h : blt x y = true) : blt y x = false := less_asymm h
theorem blt_total {x y : ByteArray} (h : blt x y = false) (hne : x ≠ y) : blt y x = true := less_total _ _ h (fun e => hne (toList_inj e))
theorem blt_ne {x y : ByteArray} (h : blt x y = true) : x ≠ y := fun e => by rw [e, blt_irrefl] at h; cases h
theorem before_kL (x y : ByteArray) : (kL x).before (kL y) = blt x y := by
  rw [kL_list, kL_list, blt]
  exact before_less _ _
theorem sameKey_kL (x y : ByteArray) : (kL x).sameKey (kL y) = (x.toList == y.toList) := by rw [kL_list, kL_list]; rfl
theorem same_iff (x y : ByteArray) : (x.toList == y.toList) = true ↔ x = y := by
  rw [beq_iff_eq]
  exact ⟨toList_inj, fun e => by rw [e]⟩
theorem same_not {x y : ByteArray} (h : x ≠ y) : (x.toList == y.toList) = false := by
  rw [Bool.eq_false_iff]
  exact fun e => h ((same_iff x y).1 e)
section
variable {V : Type}
def Rise (L : List (ByteArray × V)) : Prop := L.Pairwise (fun p q => blt p.1 q.1 = true)
def lk (L : List (ByteArray × V)) (k : ByteArray) : Option V := (L.find? (fun p => p.1.toList == k.toList)).map (·.2)
def insKV (k : ByteArray) (d : V) : List (ByteArray × V) → List (ByteArray × V)
  | [] => [(k, d)]
  | p :: r => if blt p.1 k = true then p :: insKV k d r else if p.1.toList == k.toList then (k, d) :: r else (k, d) :: p :: r
def delKV (k : ByteArray) (L : List (ByteArray × V)) : List (ByteArray × V) := L.filter (fun p => !(p.1.toList == k.toList))
theorem lk_nil (k : ByteArray) : lk ([] : List (ByteArray × V)) k = none := rfl
theorem lk_cons (p : ByteArray × V) (r : List (ByteArray × V)) (k : ByteArray) : lk (p :: r) k = if p.1 = k then some p.2 else lk r k := by
  unfold lk
  by_cases h : p.1 = k
  · rw [List.find?_cons_of_pos (p := fun p : ByteArray × V => p.1.toList == k.toList) (by exact (same_iff _ _).2 h), if_pos h]; rfl
  · rw [List.find?_cons_of_neg (p := fun p : ByteArray × V => p.1.toList == k.toList) (by simpa using same_not h), if_neg h]
theorem lk_mem {L : List (ByteArray × V)} {k : ByteArray} {d : V} (h : lk L k = some d) : (k, d) ∈ L := by
  induction L with
  | nil => cases h
  | cons p r ih =>
    rw [lk_cons] at h
    by_cases e : p.1 = k
    · rw [if_pos e] at h
      obtain ⟨a, b⟩ := p
      simp only [Option.some.injEq] at h e
      rw [← h, ← e]
      exact List.mem_cons_self ..
    · rw [if_neg e] at h
      exact List.mem_cons_of_mem _ (ih h)
theorem lk_none {L : List (ByteArray × V)} {k : ByteArray} (h : lk L k = none) : ∀ p ∈ L, p.1 ≠ k := by
  induction L with
  | nil => intro p hp; cases hp
  | cons p r ih =>
    rw [lk_cons] at h
    by_cases e : p.1 = k
    · rw [if_pos e] at h; cases h
    · rw [if_neg e] at h
      intro q hq
      rcases List.mem_cons.1 hq with rfl | hq
      · exact e
      · exact ih h q hq
theorem lk_none_of {L : List (ByteArray × V)} {k : ByteArray} (h : ∀ p ∈ L, p.1 ≠ k) : lk L k = none := by
  cases hl : lk L k with
  | none => rfl
  | some d => exact absurd rfl (h _ (lk_mem hl))
theorem Rise.head {p : ByteArray × V} {r : List (ByteArray × V)} (h : Rise (p :: r)) : ∀ q ∈ r, blt p.1 q.1 = true := (List.pairwise_cons.1 h).1
theorem Rise.tail {p : ByteArray × V} {r : List (ByteArray × V)} (h : Rise (p :: r)) : Rise r := (List.pairwise_cons.1 h).2
theorem lk_of_mem {L : List (ByteArray × V)} (hr : Rise L) {k : ByteArray} {d : V} (h : (k, d) ∈ L) : lk L k = some d := by
  induction L with
  | nil => cases h
  | cons p r ih =>
    rw [lk_cons]
    rcases List.mem_cons.1 h with e | h
    · rw [← e, if_pos rfl]
    · have := hr.head _ h
      rw [if_neg (blt_ne this)]
      exact ih hr.tail h
theorem insKV_mem {k : ByteArray} {d : V} {L : List (ByteArray × V)} {q : ByteArray × V} (h : q ∈ insKV k d L) : q = (k, d) ∨ q ∈ L := by
  induction L with
  | nil => exact Or.inl (by simpa [insKV] using h)
  | cons p r ih =>
    unfold insKV at h
    split at h
    · rcases List.mem_cons.1 h with rfl | h
      · exact Or.inr (List.mem_cons_self ..)
      · rcases ih h with h | h
        · exact Or.inl h
        · exact Or.inr (List.mem_cons_of_mem _ h)
    · split at h
      · rcases List.mem_cons.1 h with h | h
        · exact Or.inl h
        · exact Or.inr (List.mem_cons_of_mem _ h)
      · rcases List.mem_cons.1 h with h | h
        · exact Or.inl h
        · exact Or.inr h
theorem insKV_rise {k : ByteArray} {d : V} {L : List (ByteArray × V)} (h : Rise L) : Rise (insKV k d L) := by
  induction L with
  | nil => exact List.pairwise_singleton ..
  | cons p r ih =>
    unfold insKV
    split
    · rename_i hlt
      refine List.pairwise_cons.2 ⟨fun q hq => ?_, ih h.tail⟩
      rcases insKV_mem hq with rfl | hq
      · exact hlt
      · exact h.head q hq
    · rename_i hlt
      split
      · rename_i he
        rw [same_iff] at he
        refine List.pairwise_cons.2 ⟨fun q hq => ?_, h.tail⟩
        show blt k q.1 = true
        rw [← he]; exact h.head q hq
      · rename_i he
        have hkp : blt k p.1 = true := blt_total (by simpa using hlt) (fun e => he ((same_iff _ _).2 e))
        refine List.pairwise_cons.2 ⟨fun q hq => ?_, h⟩
        rcases List.mem_cons.1 hq with rfl | hq
        · exact hkp
        · exact blt_trans hkp (h.head q hq)
theorem lk_insKV {k : ByteArray} {d : V} {L : List (ByteArray × V)} (hr : Rise L) (k' : ByteArray) : lk (insKV k d L) k' = if k = k' then some d else lk L k' := by
  induction L with
  | nil =>
    unfold insKV
    rw [lk_cons]
  | cons p r ih =>
    unfold insKV
    split
    · rename_i hlt
      rw [lk_cons, lk_cons, ih hr.tail]
      by_cases e : p.1 = k'
      · rw [if_pos e, if_pos e, if_neg (fun e' => blt_ne hlt (e.trans e'.symm))]
      · rw [if_neg e, if_neg e]
    · split
      · rename_i he
        rw [same_iff] at he
        rw [lk_cons, lk_cons]
        by_cases e : k = k'
        · rw [if_pos e, if_pos e]
        · rw [if_neg e, if_neg e, if_neg (by rw [he]; exact e)]
      · rw [lk_cons]
theorem delKV_rise {k : ByteArray} {L : List (ByteArray × V)} (h : Rise L) : Rise (delKV k L) := List.Pairwise.filter _ h
theorem lk_delKV {k : ByteArray} {L : List (ByteArray × V)} (k' : ByteArray) : lk (delKV k L) k' = if k = k' then none else lk L k' := by
  induction L with
  | nil => rw [show delKV k ([] : List (ByteArray × V)) = [] from rfl, lk_nil]; simp
  | cons p r ih =>
    unfold delKV at ih ⊢
    by_cases e : p.1 = k
    · rw [List.filter_cons_of_neg (by simp [(same_iff p.1 k).2 e]), ih, lk_cons]
      by_cases e' : k = k'
      · rw [if_pos e', if_pos e']
      · rw [if_neg e', if_neg e', if_neg (by rw [e]; exact e')]
    · rw [List.filter_cons_of_pos (by simp [same_not e]), lk_cons, lk_cons, ih]
      by_cases e' : k = k'
      · rw [if_pos e', if_pos e', if_neg (by rw [← e']; exact e)]
      · rw [if_neg e', if_neg e']
theorem Rise.eq_of_lk {L₁ L₂ : List (ByteArray × V)} (h1 : Rise L₁) (h2 : Rise L₂) (h : ∀ k, lk L₁ k = lk L₂ k) : L₁ = L₂ := by
  refine List.Perm.eq_of_pairwise (le := fun (p q : ByteArray × V) => blt p.1 q.1 = true) (fun p q hp hq h3 h4 => by rw [blt_asymm h3] at h4; cases h4) h1 h2 ?_
  have nd : ∀ {L : List (ByteArray × V)}, Rise L → L.Nodup := fun hr => hr.imp (fun {a b} hab e => by rw [e, blt_irrefl] at hab; cases hab)
  refine (List.perm_ext_iff_of_nodup (nd h1) (nd h2)).2 fun p => ?_
  constructor
  · intro hp
    exact lk_mem (k := p.1) (d := p.2) (by rw [← h]; exact lk_of_mem h1 hp)
  · intro hp
    exact lk_mem (k := p.1) (d := p.2) (by rw [h]; exact lk_of_mem h2 hp)
end
def mapOf (L : List (ByteArray × DataW Unit)) : DataW Unit := .map (L.map fun p => (kL p.1, p.2))
theorem find_mapOf (L : List (ByteArray × DataW Unit)) (k : ByteArray) : (L.map fun p => (kL p.1, p.2)).find? (fun p => p.1.sameKey (kL k)) = (L.find? (fun p => p.1.toList == k.toList)).map (fun p => (kL p.1, p.2)) := by
  rw [List.find?_map]
  congr 1
  apply congrFun
  congr 1
  funext p
  exact sameKey_kL p.1 k
theorem atKey_mapOf (L : List (ByteArray × DataW Unit)) (k : ByteArray) (z : DataW Unit) : (mapOf L).atKey (kL k) z = (lk L k).getD z := by
  simp only [mapOf, DataW.atKey]
  rw [find_mapOf, lk]
  cases L.find? (fun p => p.1.toList == k.toList) <;> rfl
theorem has_mapOf (L : List (ByteArray × DataW Unit)) (k : ByteArray) : has (mapOf L) (kL k) = (lk L k).isSome := by
  have h : ∀ (l : List (Lit × DataW Unit)) f, l.any f = (l.find? f).isSome := fun l f => by rw [Bool.eq_iff_iff, List.find?_isSome, List.any_eq_true]
  rw [mapOf, has_eq, h, find_mapOf, lk]
  cases L.find? (fun p => p.1.toList == k.toList) <;> rfl
theorem size_mapOf (L : List (ByteArray × DataW Unit)) : Maps.size (mapOf L) = L.length := by rw [mapOf, size_eq, List.length_map]
theorem notKey_kL (k : ByteArray) (q : ByteArray × DataW Unit) : ChangeMaps.notKey (kL k) (kL q.1, q.2) = !(q.1.toList == k.toList) := by
  show (!(kL q.1).sameKey (kL k)) = _
  rw [sameKey_kL]
theorem filter_mapOf (k : ByteArray) (L : List (ByteArray × DataW Unit)) : (L.map fun p => (kL p.1, p.2)).filter (ChangeMaps.notKey (kL k)) = (delKV k L).map fun p => (kL p.1, p.2) := by
  rw [List.filter_map, delKV]
  congr 1
  apply List.filter_congr
  intro q _
  exact notKey_kL k q
theorem insert_mapOf (k : ByteArray) (d : DataW Unit) {L : List (ByteArray × DataW Unit)} (hr : Rise L) (hn : lk L k = none) : DataW.insert (kL k, d) (L.map fun p => (kL p.1, p.2)) = (insKV k d L).map fun p => (kL p.1, p.2) := by
  induction L with
  | nil => rfl
  | cons p r ih =>
    have hne := lk_none hn
    rw [List.map_cons, DataW.insert, insKV]
    by_cases h : blt p.1 k = true
    · rw [if_neg (by rw [before_kL, blt_asymm h]; simp), if_pos h, List.map_cons, ih hr.tail (lk_none_of fun q hq => hne q (List.mem_cons_of_mem _ hq))]
    · have hne' := hne p (List.mem_cons_self ..)
      have hkp : blt k p.1 = true := blt_total (by simpa using h) hne'
      rw [if_pos (by rw [before_kL]; exact hkp), if_neg h, if_neg (by rw [same_not hne']; simp)]
      rfl
theorem insKV_delKV (k : ByteArray) (d : DataW Unit) {L : List (ByteArray × DataW Unit)} (hr : Rise L) : insKV k d (delKV k L) = insKV k d L := by
  refine Rise.eq_of_lk (insKV_rise (delKV_rise hr)) (insKV_rise hr) fun k' => ?_
  rw [lk_insKV (delKV_rise hr), lk_insKV hr, lk_delKV]
  by_cases e : k = k'
  · rw [if_pos e, if_pos e]
  · rw [if_neg e, if_neg e, if_neg e]
theorem put_mapOf (k : ByteArray) (d : DataW Unit) {L : List (ByteArray × DataW Unit)} (hr : Rise L) : (mapOf L).put (kL k) d = mapOf (insKV k d L) := by
  rw [mapOf, DataW.put_eq, ChangeMaps.putKey, filter_mapOf, insert_mapOf k d (delKV_rise hr) (by rw [lk_delKV, if_pos rfl]), insKV_delKV k d hr, mapOf]
theorem strKeys_mapOf (L : List (ByteArray × DataW Unit)) : strKeys (mapOf L) = L.map (fun p => p.1.data.toList) := by
  show ((L.map fun p => (kL p.1, p.2)).map fun p => strOf p.1) = _
  rw [List.map_map]
  rfl
end Go.Proofs.YtnbkmmmlhlbfoaaGreatDoor
namespace Go.Proofs.YtnbkmmmlhlbfoaaGreatDoor
open Go.RowKit
structure PairD where
  s : ByteArray
  n : Int
def PairsAt (w : World) (b o : Nat) (ls : List PairD) : Prop :=
  ∀ i (h : i < ls.length), w.cell? ⟨b, o + i * 2, none⟩ = some (.string ls[i].s) ∧ w.cell? ⟨b, o + i * 2 + 1, none⟩ = some (.int .i64 ls[i].n)
def PairsIn (w : World) (a : Option Addr) (ls : List PairD) : Prop := ls = [] ∨ ∃ b o, a = some ⟨b, o, none⟩ ∧ b < w.heap.size ∧ PairsAt w b o ls
theorem PairsIn.later {w w' : World} {a : Option Addr} {ls : List PairD} (h : PairsIn w a ls) (hb : Below w.heap.size w w') : PairsIn w' a ls := by
  rcases h with h | ⟨b, o, rfl, hlt, h⟩
  · exact Or.inl h
  · refine Or.inr ⟨b, o, rfl, Nat.lt_of_lt_of_le hlt hb.size, fun i hi => ?_⟩
    obtain ⟨h1, h2⟩ := h i hi
    exact ⟨by rw [← h1]; exact hb.cell hlt, by rw [← h2]; exact hb.cell hlt⟩
theorem PairsIn.at {w : World} {a : Option Addr} {ls : List PairD} (h : PairsIn w a ls) {i : Nat} (hi : i < ls.length) :
    ∃ b o, a = some ⟨b, o, none⟩ ∧ b < w.heap.size ∧ w.cell? ⟨b, o + i * 2, none⟩ = some (.string ls[i].s) ∧ w.cell? ⟨b, o + i * 2 + 1, none⟩ = some (.int .i64 ls[i].n) := by
  rcases h with rfl | ⟨b, o, rfl, hlt, h⟩
  · exact absurd hi (by simp)
  · exact ⟨b, o, rfl, hlt, h i hi⟩
def PairsOwn (w : World) (B : Nat) (a : Option Addr) (ls : List PairD) : Prop :=
  ls = [] ∨ ∃ g o cur t, a = some ⟨g, o, none⟩ ∧ B ≤ g ∧ w.heap[g]? = some (.cells cur t (0, 0)) ∧ PairsAt w g o ls
theorem PairsOwn.pairs {w : World} {B : Nat} {a : Option Addr} {ls : List PairD} (h : PairsOwn w B a ls) : PairsIn w a ls := by
  rcases h with h | ⟨g, o, cur, t, rfl, _, hb, h⟩
  · exact Or.inl h
  · exact Or.inr ⟨g, o, rfl, lt_of_block hb, h⟩
theorem PairsOwn.later {w w' : World} {B : Nat} {a : Option Addr} {ls : List PairD} (h : PairsOwn w B a ls) (hb : Below w.heap.size w w') : PairsOwn w' B a ls := by
  rcases h with h | ⟨g, o, cur, t, rfl, hB, hg, h⟩
  · exact Or.inl h
  · have hlt := lt_of_block hg
    have hk : ∀ j, w'.cell? ⟨g, j, none⟩ = w.cell? ⟨g, j, none⟩ := fun j => World.cell?_of_block (hb.block g hlt)
    exact Or.inr ⟨g, o, cur, t, rfl, hB, (hb.block g hlt).trans hg, fun i hi => by simp only [hk]; exact h i hi⟩
theorem PairsOwn.mono {w : World} {B B' : Nat} {a : Option Addr} {ls : List PairD} (h : PairsOwn w B a ls) (hB : B' ≤ B) : PairsOwn w B' a ls := by
  rcases h with h | ⟨g, o, cur, t, rfl, hB', hg, h⟩
  · exact Or.inl h
  · exact Or.inr ⟨g, o, cur, t, rfl, Nat.le_trans hB hB', hg, h⟩
theorem pairs_of_row {w : World} {B : Nat} {e : TypeId} {a : Option Addr} {cap : Nat} {l : List PairD}
    (h : w.ownsRow B e 2 (.slice a l.length cap) l.length (l.flatMap fun x => [.string x.s, .int .i64 x.n])) : PairsOwn w B a l := by
  rcases h.2 with ⟨_, hl⟩ | ⟨g, cap', cur, he, hB, hg, _, _, hsz, htk⟩
  · exact Or.inl (List.length_eq_zero_iff.1 hl)
  · simp only [Value.slice.injEq] at he
    have hf : ∀ (l : List PairD) i (hi : i < l.length), (l.flatMap fun x => [Value.string x.s, .int .i64 x.n])[i * 2]? = some (.string l[i].s) ∧ (l.flatMap fun x => [Value.string x.s, .int .i64 x.n])[i * 2 + 1]? = some (.int .i64 l[i].n) := by
      intro l
      induction l with
      | nil => intro i hi; exact absurd hi (by simp)
      | cons x r ih =>
        intro i hi
        cases i with
        | zero => simp
        | succ i =>
          have := ih i (by simpa using hi)
          simp only [List.flatMap_cons, List.cons_append, List.nil_append, List.getElem_cons_succ]
          rw [show (i + 1) * 2 = i * 2 + 1 + 1 by omega, List.getElem?_cons_succ, List.getElem?_cons_succ, List.getElem?_cons_succ, List.getElem?_cons_succ]
          exact this
    refine Or.inr ⟨g, 0, cur, e, he.1, hB, hg, fun i hi => ?_⟩
    have h2 : ∀ j, j < l.length * 2 → cur[j]? = (l.flatMap fun x => [Value.string x.s, .int .i64 x.n])[j]? := fun j hj => by
      rw [← htk, List.getElem?_take_of_lt hj, Array.getElem?_toList]
    rw [cell_of_row w g _ cur _ _ hg, cell_of_row w g _ cur _ _ hg, Nat.zero_add, h2 _ (by omega), h2 _ (by omega)]
    exact hf l i hi
def pairBulk : List PairD → Nat
  | [] => 0
  | f :: r => f.s.size + pairBulk r
theorem pairBulk_append (a b : List PairD) : pairBulk (a ++ b) = pairBulk a + pairBulk b := by
  induction a with
  | nil => simp [pairBulk]
  | cons f r ih => simp [pairBulk, ih]; omega
theorem pairBulk_take_succ (fs : List PairD) (k : Nat) (h : k < fs.length) : pairBulk (fs.take (k + 1)) = pairBulk (fs.take k) + fs[k].s.size := by
  rw [List.take_succ_eq_append_getElem h, pairBulk_append]; simp [pairBulk]
theorem pairBulk_take_le (fs : List PairD) (k : Nat) : pairBulk (fs.take k) ≤ pairBulk fs := by
  have := pairBulk_append (fs.take k) (fs.drop k)
  rw [List.take_append_drop] at this; omega
end Go.Proofs.YtnbkmmmlhlbfoaaGreatDoor
namespace Go.Proofs.YtnbkmmmlhlbfoaaGreatDoor
open Go.RowKit
structure TenD where
  name : ByteArray
  limit : Int
  mets : List PairD
  sers : List PairD
def TenAt (w : World) (b o : Nat) (t : TenD) : Prop :=
  ∃ a1 c1 a2 c2, w.cell? ⟨b, o, none⟩ = some (.string t.name) ∧ w.cell? ⟨b, o + 1, none⟩ = some (.int .i64 t.limit) ∧ w.cell? ⟨b, o + 2, none⟩ = some (.slice a1 t.mets.length c1) ∧ w.cell? ⟨b, o + 3, none⟩ = some (.slice a2 t.sers.length c2) ∧
    PairsIn w a1 t.mets ∧ PairsIn w a2 t.sers
def TensAt (w : World) (b o : Nat) (ts : List TenD) : Prop := ∀ i (h : i < ts.length), TenAt w b (o + i * 4) ts[i]
def TensIn (w : World) (a : Option Addr) (ts : List TenD) : Prop := ts = [] ∨ ∃ b o, a = some ⟨b, o, none⟩ ∧ b < w.heap.size ∧ TensAt w b o ts
theorem TenAt.later {w w' : World} {b o : Nat} {t : TenD} (h : TenAt w b o t) (hlt : b < w.heap.size) (hb : Below w.heap.size w w') : TenAt w' b o t := by
  obtain ⟨a1, c1, a2, c2, h0, h1, h2, h3, h4, h5⟩ := h
  exact ⟨a1, c1, a2, c2, (hb.cell hlt).trans h0, (hb.cell hlt).trans h1, (hb.cell hlt).trans h2, (hb.cell hlt).trans h3, h4.later hb, h5.later hb⟩
theorem TensIn.later {w w' : World} {a : Option Addr} {ts : List TenD} (h : TensIn w a ts) (hb : Below w.heap.size w w') : TensIn w' a ts := by
  rcases h with h | ⟨b, o, rfl, hlt, h⟩
  · exact Or.inl h
  · exact Or.inr ⟨b, o, rfl, Nat.lt_of_lt_of_le hlt hb.size, fun i hi => (h i hi).later hlt hb⟩
theorem TensIn.at {w : World} {a : Option Addr} {ts : List TenD} (h : TensIn w a ts) {i : Nat} (hi : i < ts.length) :
    ∃ b o a1 c1 a2 c2, a = some ⟨b, o, none⟩ ∧ b < w.heap.size ∧ w.cell? ⟨b, o + i * 4, none⟩ = some (.string ts[i].name) ∧ w.cell? ⟨b, o + i * 4 + 1, none⟩ = some (.int .i64 ts[i].limit) ∧
      w.cell? ⟨b, o + i * 4 + 2, none⟩ = some (.slice a1 ts[i].mets.length c1) ∧ w.cell? ⟨b, o + i * 4 + 3, none⟩ = some (.slice a2 ts[i].sers.length c2) ∧ PairsIn w a1 ts[i].mets ∧ PairsIn w a2 ts[i].sers := by
  rcases h with rfl | ⟨b, o, rfl, hlt, h⟩
  · exact absurd hi (by simp)
  · obtain ⟨a1, c1, a2, c2, h⟩ := h i hi
    exact ⟨b, o, a1, c1, a2, c2, rfl, hlt, h⟩
def PairsTag (w : World) (B : Nat) (T : Nat → Nat) (n : Nat) (a : Option Addr) (ps : List PairD) : Prop :=
  ps = [] ∨ ∃ g o cur t, a = some ⟨g, o, none⟩ ∧ B ≤ g ∧ T g = n ∧ w.heap[g]? = some (.cells cur t (0, 0)) ∧ PairsAt w g o ps
theorem PairsTag.pairs {w : World} {B n : Nat} {T : Nat → Nat} {a : Option Addr} {ps : List PairD} (h : PairsTag w B T n a ps) : PairsIn w a ps := by
  rcases h with h | ⟨g, o, cur, t, rfl, _, _, hb, h⟩
  · exact Or.inl h
  · exact Or.inr ⟨g, o, rfl, lt_of_block hb, h⟩
theorem PairsTag.own {w : World} {B n : Nat} {T : Nat → Nat} {a : Option Addr} {ps : List PairD} (h : PairsTag w B T n a ps) : PairsOwn w B a ps := by
  rcases h with h | ⟨g, o, cur, t, e, hB, _, hb, h⟩
  · exact Or.inl h
  · exact Or.inr ⟨g, o, cur, t, e, hB, hb, h⟩
theorem PairsTag.keep {w w' : World} {B n : Nat} {T T' : Nat → Nat} {a : Option Addr} {ps : List PairD} (h : PairsTag w B T n a ps)
    (hk : ∀ g, g < w.heap.size → B ≤ g → T g = n → w'.heap[g]? = w.heap[g]? ∧ T' g = n) : PairsTag w' B T' n a ps := by
  rcases h with h | ⟨g, o, cur, t, e, hB, hT, hb, h⟩
  · exact Or.inl h
  · obtain ⟨h1, h2⟩ := hk g (lt_of_block hb) hB hT
    have hc : ∀ j, w'.cell? ⟨g, j, none⟩ = w.cell? ⟨g, j, none⟩ := fun j => World.cell?_of_block h1
    exact Or.inr ⟨g, o, cur, t, e, hB, h2, h1.trans hb, fun i hi => by simp only [hc]; exact h i hi⟩
def TenOwn (w : World) (B : Nat) (T : Nat → Nat) (i b o : Nat) (t : TenD) : Prop :=
  ∃ a1 c1 a2 c2, w.cell? ⟨b, o, none⟩ = some (.string t.name) ∧ w.cell? ⟨b, o + 1, none⟩ = some (.int .i64 t.limit) ∧ w.cell? ⟨b, o + 2, none⟩ = some (.slice a1 t.mets.length c1) ∧ w.cell? ⟨b, o + 3, none⟩ = some (.slice a2 t.sers.length c2) ∧
    PairsTag w B T (2 * i + 1) a1 t.mets ∧ PairsTag w B T (2 * i + 2) a2 t.sers
def TensOwn (w : World) (B : Nat) (a : Option Addr) (ts : List TenD) : Prop :=
  ts = [] ∨ ∃ g o cur t T, a = some ⟨g, o, none⟩ ∧ B ≤ g ∧ w.heap[g]? = some (.cells cur t (0, 0)) ∧ T g = 0 ∧ ∀ i (h : i < ts.length), TenOwn w B T i g (o + i * 4) ts[i]
theorem TenOwn.at {w : World} {B i b o : Nat} {T : Nat → Nat} {t : TenD} (h : TenOwn w B T i b o t) : TenAt w b o t := by
  obtain ⟨a1, c1, a2, c2, h0, h1, h2, h3, h4, h5⟩ := h
  exact ⟨a1, c1, a2, c2, h0, h1, h2, h3, h4.pairs, h5.pairs⟩
theorem TensOwn.tens {w : World} {B : Nat} {a : Option Addr} {ts : List TenD} (h : TensOwn w B a ts) : TensIn w a ts := by
  rcases h with h | ⟨g, o, cur, t, T, rfl, _, hb, _, h⟩
  · exact Or.inl h
  · exact Or.inr ⟨g, o, rfl, lt_of_block hb, fun i hi => (h i hi).at⟩
theorem TenOwn.keep {w w' : World} {B i b o : Nat} {T T' : Nat → Nat} {t : TenD} (h : TenOwn w B T i b o t) (hc : ∀ j, j < 4 → w'.cell? ⟨b, o + j, none⟩ = w.cell? ⟨b, o + j, none⟩)
    (hk : ∀ g, g < w.heap.size → B ≤ g → (T g = 2 * i + 1 ∨ T g = 2 * i + 2) → w'.heap[g]? = w.heap[g]? ∧ T' g = T g) : TenOwn w' B T' i b o t := by
  obtain ⟨a1, c1, a2, c2, h0, h1, h2, h3, h4, h5⟩ := h
  refine ⟨a1, c1, a2, c2, (hc 0 (by omega)).trans h0, (hc 1 (by omega)).trans h1, (hc 2 (by omega)).trans h2, (hc 3 (by omega)).trans h3, h4.keep fun g hg hB hT => ?_, h5.keep fun g hg hB hT => ?_⟩
  · obtain ⟨q1, q2⟩ := hk g hg hB (Or.inl hT); exact ⟨q1, q2.trans hT⟩
  · obtain ⟨q1, q2⟩ := hk g hg hB (Or.inr hT); exact ⟨q1, q2.trans hT⟩
theorem TensOwn.later {w w' : World} {B : Nat} {a : Option Addr} {ts : List TenD} (h : TensOwn w B a ts) (hb : Below w.heap.size w w') : TensOwn w' B a ts := by
  rcases h with h | ⟨g, o, cur, t, T, rfl, hB, hg, hT, h⟩
  · exact Or.inl h
  · have hlt := lt_of_block hg
    exact Or.inr ⟨g, o, cur, t, T, rfl, hB, (hb.block g hlt).trans hg, hT, fun i hi => (h i hi).keep (fun j _ => World.cell?_of_block (hb.block g hlt)) fun g' hg' _ _ => ⟨hb.block g' hg', rfl⟩⟩
def tenBulk (t : TenD) : Nat := t.name.size + (t.mets.length + pairBulk t.mets) + (t.sers.length + pairBulk t.sers)
def tensBulk : List TenD → Nat
  | [] => 0
  | f :: r => tenBulk f + tensBulk r
theorem tensBulk_append (a b : List TenD) : tensBulk (a ++ b) = tensBulk a + tensBulk b := by
  induction a with
  | nil => simp [tensBulk]
  | cons f r ih => simp [tensBulk, ih]; omega
theorem tensBulk_take_succ (fs : List TenD) (k : Nat) (h : k < fs.length) : tensBulk (fs.take (k + 1)) = tensBulk (fs.take k) + tenBulk fs[k] := by
  rw [List.take_succ_eq_append_getElem h, tensBulk_append]; simp [tensBulk]
theorem tensBulk_take_le (fs : List TenD) (k : Nat) : tensBulk (fs.take k) ≤ tensBulk fs := by
  have := tensBulk_append (fs.take k) (fs.drop k)
  rw [List.take_append_drop] at this; omega
theorem tenBulk_at (fs : List TenD) (k : Nat) (h : k < fs.length) : tenBulk fs[k] ≤ tensBulk fs := by
  have h1 := tensBulk_take_succ fs k h
  have h2 := tensBulk_take_le fs (k + 1)
  omega
end Go.Proofs.YtnbkmmmlhlbfoaaGreatDoor
namespace Go.Proofs.YtnbkmmmlhlbfoaaGreatDoor
open Go.Maps
section
variable {α β : Type}
def insBy (key : α → ByteArray) (a : α) : List α → List α
  | [] => [a]
  | p :: r => if blt (key p) (key a) = true then p :: insBy key a r else if (key p).toList == (key a).toList then a :: r else a :: p :: r
def delBy (key : α → ByteArray) (k : ByteArray) (l : List α) : List α := l.filter (fun p => !((key p).toList == k.toList))
def getBy (key : α → ByteArray) (k : ByteArray) (l : List α) : Option α := l.find? (fun p => (key p).toList == k.toList)
def RiseBy (key : α → ByteArray) (l : List α) : Prop := l.Pairwise (fun p q => blt (key p) (key q) = true)
theorem insBy_map {key : α → ByteArray} {key' : β → ByteArray} (g : α → β) (hg : ∀ a, key' (g a) = key a) (a : α) (l : List α) : (insBy key a l).map g = insBy key' (g a) (l.map g) := by
  induction l with
  | nil => rfl
  | cons p r ih =>
    rw [List.map_cons, insBy, insBy, hg, hg]
    split
    · rw [List.map_cons, ih]
    · split <;> simp
theorem getBy_map {key : α → ByteArray} {key' : β → ByteArray} (g : α → β) (hg : ∀ a, key' (g a) = key a) (k : ByteArray) (l : List α) : getBy key' k (l.map g) = (getBy key k l).map g := by
  unfold getBy
  rw [List.find?_map]
  congr 2
  funext p
  simp only [Function.comp, hg]
theorem riseBy_map {key : α → ByteArray} {key' : β → ByteArray} (g : α → β) (hg : ∀ a, key' (g a) = key a) {l : List α} : RiseBy key' (l.map g) ↔ RiseBy key l := by
  unfold RiseBy
  rw [List.pairwise_map]
  simp only [hg]
theorem insBy_kv (k : ByteArray) (d : β) (l : List (ByteArray × β)) : insBy (·.1) (k, d) l = insKV k d l := by
  induction l with
  | nil => rfl
  | cons p r ih => rw [insBy, insKV, ih]
theorem getBy_kv (k : ByteArray) (l : List (ByteArray × β)) : (getBy (·.1) k l).map (·.2) = lk l k := rfl
theorem riseBy_kv {l : List (ByteArray × β)} : RiseBy (·.1) l ↔ Rise l := Iff.rfl
theorem getBy_mem {key : α → ByteArray} {k : ByteArray} {l : List α} {a : α} (h : getBy key k l = some a) : a ∈ l ∧ key a = k :=
  ⟨List.mem_of_find?_eq_some h, (same_iff _ _).1 (List.find?_some (p := fun p => (key p).toList == k.toList) h)⟩
theorem getBy_none {key : α → ByteArray} {k : ByteArray} {l : List α} (h : getBy key k l = none) : ∀ a ∈ l, key a ≠ k := fun a ha e => by
  have := List.find?_eq_none.1 h a ha
  exact this ((same_iff _ _).2 e)
theorem getBy_none_of {key : α → ByteArray} {k : ByteArray} {l : List α} (h : ∀ a ∈ l, key a ≠ k) : getBy key k l = none :=
  List.find?_eq_none.2 fun a ha e => h a ha ((same_iff _ _).1 e)
theorem RiseBy.head {key : α → ByteArray} {p : α} {r : List α} (h : RiseBy key (p :: r)) : ∀ q ∈ r, blt (key p) (key q) = true := (List.pairwise_cons.1 h).1
theorem RiseBy.tail {key : α → ByteArray} {p : α} {r : List α} (h : RiseBy key (p :: r)) : RiseBy key r := (List.pairwise_cons.1 h).2
theorem getBy_cons {key : α → ByteArray} (p : α) (r : List α) (k : ByteArray) : getBy key k (p :: r) = if key p = k then some p else getBy key k r := by
  unfold getBy
  by_cases h : key p = k
  · rw [List.find?_cons_of_pos (p := fun p : α => (key p).toList == k.toList) (by exact (same_iff _ _).2 h), if_pos h]
  · rw [List.find?_cons_of_neg (p := fun p : α => (key p).toList == k.toList) (by simpa using same_not h), if_neg h]
theorem getBy_of_mem {key : α → ByteArray} {l : List α} (hr : RiseBy key l) {a : α} (h : a ∈ l) : getBy key (key a) l = some a := by
  induction l with
  | nil => cases h
  | cons p r ih =>
    rw [getBy_cons]
    rcases List.mem_cons.1 h with rfl | h
    · rw [if_pos rfl]
    · rw [if_neg (blt_ne (hr.head _ h))]
      exact ih hr.tail h
theorem insBy_mem {key : α → ByteArray} {a q : α} {l : List α} (h : q ∈ insBy key a l) : q = a ∨ q ∈ l := by
  induction l with
  | nil => exact Or.inl (by simpa [insBy] using h)
  | cons p r ih =>
    unfold insBy at h
    split at h
    · rcases List.mem_cons.1 h with rfl | h
      · exact Or.inr (List.mem_cons_self ..)
      · rcases ih h with h | h
        · exact Or.inl h
        · exact Or.inr (List.mem_cons_of_mem _ h)
    · split at h
      · rcases List.mem_cons.1 h with h | h
        · exact Or.inl h
        · exact Or.inr (List.mem_cons_of_mem _ h)
      · rcases List.mem_cons.1 h with h | h
        · exact Or.inl h
        · exact Or.inr h
theorem insBy_rise {key : α → ByteArray} {a : α} {l : List α} (h : RiseBy key l) : RiseBy key (insBy key a l) := by
  induction l with
  | nil => exact List.pairwise_singleton ..
  | cons p r ih =>
    unfold insBy
    split
    · rename_i hlt
      refine List.pairwise_cons.2 ⟨fun q hq => ?_, ih h.tail⟩
      rcases insBy_mem hq with rfl | hq
      · exact hlt
      · exact h.head q hq
    · rename_i hlt
      split
      · rename_i he
        rw [same_iff] at he
        refine List.pairwise_cons.2 ⟨fun q hq => ?_, h.tail⟩
        rw [← he]; exact h.head q hq
      · rename_i he
        have hkp : blt (key a) (key p) = true := blt_total (by simpa using hlt) (fun e => he ((same_iff _ _).2 e))
        refine List.pairwise_cons.2 ⟨fun q hq => ?_, h⟩
        rcases List.mem_cons.1 hq with rfl | hq
        · exact hkp
        · exact blt_trans hkp (h.head q hq)
theorem insBy_end {key : α → ByteArray} {a : α} {l : List α} (h : ∀ p ∈ l, blt (key p) (key a) = true) : insBy key a l = l ++ [a] := by
  induction l with
  | nil => rfl
  | cons p r ih =>
    unfold insBy
    rw [if_pos (h p (List.mem_cons_self ..)), ih (fun q hq => h q (List.mem_cons_of_mem _ hq))]
    rfl
theorem insBy_new {key : α → ByteArray} {a : α} {l : List α} (h : getBy key (key a) l = none) : (insBy key a l).Perm (a :: l) := by
  induction l with
  | nil => exact List.Perm.refl _
  | cons p r ih =>
    have hne := getBy_none h
    unfold insBy
    split
    · have := ih (getBy_none_of fun q hq => hne q (List.mem_cons_of_mem _ hq))
      exact (List.Perm.cons p this).trans (List.Perm.swap a p r)
    · rw [if_neg (by rw [same_not (hne p (List.mem_cons_self ..))]; simp)]
end
theorem has_by {α : Type} (key : α → ByteArray) (val : α → DataW Unit) (l : List α) (k : ByteArray) : has (mapOf (l.map fun a => (key a, val a))) (kL k) = (getBy key k l).isSome := by
  rw [has_mapOf, ← getBy_kv, getBy_map (key := key) (fun a => (key a, val a)) (fun _ => rfl)]
  cases getBy key k l <;> rfl
theorem atKey_by {α : Type} (key : α → ByteArray) (val : α → DataW Unit) (l : List α) (k : ByteArray) (z : DataW Unit) : (mapOf (l.map fun a => (key a, val a))).atKey (kL k) z = ((getBy key k l).map val).getD z := by
  rw [atKey_mapOf, ← getBy_kv, getBy_map (key := key) (fun a => (key a, val a)) (fun _ => rfl)]
  cases getBy key k l <;> rfl
theorem rise_by {α : Type} {key : α → ByteArray} (val : α → DataW Unit) {l : List α} (h : RiseBy key l) : Rise (l.map fun a => (key a, val a)) := by
  rw [← riseBy_kv, riseBy_map (key := key) (fun a => (key a, val a)) (fun _ => rfl)]
  exact h
theorem put_by {α : Type} {key : α → ByteArray} (val : α → DataW Unit) (a : α) {l : List α} (h : RiseBy key l) : (mapOf (l.map fun a => (key a, val a))).put (kL (key a)) (val a) = mapOf ((insBy key a l).map fun a => (key a, val a)) := by
  rw [put_mapOf _ _ (rise_by val h), insBy_map (key' := (·.1)) (fun a => (key a, val a)) (fun _ => rfl), insBy_kv]
theorem size_by {α : Type} (key : α → ByteArray) (val : α → DataW Unit) (l : List α) : Maps.size (mapOf (l.map fun a => (key a, val a))) = l.length := by
  rw [size_mapOf, List.length_map]
def cntM (met : ByteArray → ByteArray) (l : List PairD) (m : ByteArray) : Nat := (l.filter fun p => (met p.s).toList == m.toList).length
theorem cntM_perm {met : ByteArray → ByteArray} {l l' : List PairD} (h : l.Perm l') (m : ByteArray) : cntM met l m = cntM met l' m := (h.filter _).length_eq
theorem cntM_cons (met : ByteArray → ByteArray) (p : PairD) (l : List PairD) (m : ByteArray) : cntM met (p :: l) m = cntM met l m + if met p.s = m then 1 else 0 := by
  unfold cntM
  by_cases h : met p.s = m
  · rw [List.filter_cons_of_pos (by exact (same_iff _ _).2 h), if_pos h]; rfl
  · rw [List.filter_cons_of_neg (by rw [same_not h]; simp), if_neg h]; rfl
theorem cntM_le (met : ByteArray → ByteArray) (l : List PairD) (m : ByteArray) : cntM met l m ≤ l.length := List.length_filter_le _ _
end Go.Proofs.YtnbkmmmlhlbfoaaGreatDoor
