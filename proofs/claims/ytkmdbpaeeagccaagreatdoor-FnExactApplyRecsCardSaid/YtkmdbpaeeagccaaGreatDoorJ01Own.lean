import Derived.WalkKit
import Derived.Maps.Ext
import Derived.Maps.OwnSet
import Derived.Sort.KeysCollected
import Derived.Below
import Derived.BigQuiet
import Derived.WalkLawsBesides
import Derived.WalkSpells
namespace Go.Proofs.YtkmdbpaeeagccaaGreatDoor
theorem less_irrefl : ∀ x : List UInt8,Op.bytesLess x x = false
  | []=>rfl
  | a :: x=>by simp [Op.bytesLess,less_irrefl x]
theorem less_trans : ∀ x y z : List UInt8,Op.bytesLess x y = true → Op.bytesLess y z = true → Op.bytesLess x z = true
  | _,_,[],_,h=>by simp [Op.bytesLess] at h
  | _,[],_ :: _,h,_=>by simp [Op.bytesLess] at h
  | [],_ :: _,_ :: _,_,_=>by simp [Op.bytesLess]
  | a :: x,b :: y,c :: z,h1,h2=>by
    simp only [Op.bytesLess,Bool.or_eq_true,Bool.and_eq_true,decide_eq_true_eq,beq_iff_eq] at h1 h2 ⊢
    rcases h1 with h1 | ⟨rfl,h1⟩
    · rcases h2 with h2 | ⟨rfl,_⟩
      · exact Or.inl (UInt8.lt_trans h1 h2)
      · exact Or.inl h1
    · rcases h2 with h2 | ⟨rfl,h2⟩
      · exact Or.inl h2
      · exact Or.inr ⟨rfl,less_trans x y z h1 h2⟩
theorem less_total : ∀ x y : List UInt8,Op.bytesLess x y = false → x ≠ y → Op.bytesLess y x = true
  | [],[],_,h=>absurd rfl h
  | [],_ :: _,h,_=>by simp [Op.bytesLess] at h
  | _ :: _,[],_,_=>by simp [Op.bytesLess]
  | a :: x,b :: y,h,hne=>by
    simp only [Op.bytesLess,Bool.or_eq_false_iff,Bool.and_eq_false_iff,decide_eq_false_iff_not,Bool.or_eq_true,Bool.and_eq_true,decide_eq_true_eq,beq_iff_eq] at h ⊢
    obtain ⟨h1,h2⟩:=h
    by_cases e : a = b
    · subst e
      rcases h2 with h2 | h2
      · simp at h2
      · exact Or.inr ⟨rfl,less_total x y h2 (fun e=>hne (by rw [e]))⟩
    · left
      rcases UInt8.lt_or_lt_of_ne e with h | h
      · exact absurd h h1
      · exact h
theorem less_asymm {x y : List UInt8} (h : Op.bytesLess x y = true) : Op.bytesLess y x = false:=by
  rw [Bool.eq_false_iff]
  intro h'
  have:=less_trans x y x h h'
  rw [less_irrefl] at this
  exact absurd this (by simp)
theorem toList_inj {x y : ByteArray} (h : x.toList = y.toList) : x = y:=by
  have h' : x.data.toList = y.data.toList:=by rw [← ByteArray.toList_eq x,← ByteArray.toList_eq y]; exact h
  cases x; cases y
  simp only [ByteArray.mk.injEq]
  exact Array.toList_inj.1 h'
end Go.Proofs.YtkmdbpaeeagccaaGreatDoor
namespace Go.Proofs.YtkmdbpaeeagccaaGreatDoor
open Go.Maps
def kL (s : ByteArray) : Lit:=.string s.data.toList
theorem kL_list (s : ByteArray) : kL s = .string s.toList:=by rw [kL,ByteArray.toList_eq]
theorem kL_inj {x y : ByteArray} (h : kL x = kL y) : x = y:=by
  rw [kL_list,kL_list] at h
  exact toList_inj (by simpa using h)
theorem before_less : ∀ x y : List UInt8,bytesBefore x y = Op.bytesLess x y
  | [],[]=>rfl
  | [],_ :: _=>rfl
  | _ :: _,[]=>rfl
  | a :: x,b :: y=>by rw [bytesBefore,Op.bytesLess,before_less x y]
def blt (x y : ByteArray) : Bool:=Op.bytesLess x.toList y.toList
theorem blt_irrefl (x : ByteArray) : blt x x = false:=less_irrefl _
theorem blt_trans {x y z : ByteArray} (h1 : blt x y = true) (h2 : blt y z = true) : blt x z = true:=less_trans _ _ _ h1 h2
theorem blt_asymm {x y : ByteArray} (h : blt x y = true) : blt y x = false:=less_asymm h
theorem blt_total {x y : ByteArray} (h : blt x y = false) (hne : x ≠ y) : blt y x = true:=less_total _ _ h (fun e=>hne (toList_inj e))
theorem blt_ne {x y : ByteArray} (h : blt x y = true) : x ≠ y:=fun e=>by rw [e,blt_irrefl] at h; cases h
theorem before_kL (x y : ByteArray) : (kL x).before (kL y) = blt x y:=by
  rw [kL_list,kL_list,blt]
  exact before_less _ _
theorem sameKey_kL (x y : ByteArray) : (kL x).sameKey (kL y) = (x.toList == y.toList):=by rw [kL_list,kL_list]; rfl
theorem same_iff (x y : ByteArray) : (x.toList == y.toList) = true ↔ x = y:=by
  rw [beq_iff_eq]
  exact ⟨toList_inj,fun e=>by rw [e]⟩
theorem same_not {x y : ByteArray} (h : x ≠ y) : (x.toList == y.toList) = false:=by
  rw [Bool.eq_false_iff]
  exact fun e=>h ((same_iff x y).1 e)
section
variable {V : Type}
def Rise (L : List (ByteArray × V)) : Prop:=L.Pairwise (fun p q=>blt p.1 q.1 = true)
def lk (L : List (ByteArray × V)) (k : ByteArray) : Option V:=(L.find? (fun p=>p.1.toList == k.toList)).map (·.2)
def insKV (k : ByteArray) (d : V) : List (ByteArray × V) → List (ByteArray × V)
  | []=>[(k,d)]
  | p :: r=>if blt p.1 k = true then p :: insKV k d r else if p.1.toList == k.toList then (k,d) :: r else (k,d) :: p :: r
def delKV (k : ByteArray) (L : List (ByteArray × V)) : List (ByteArray × V):=L.filter (fun p=>!(p.1.toList == k.toList))
theorem lk_nil (k : ByteArray) : lk ([] : List (ByteArray × V)) k = none:=rfl
theorem lk_cons (p : ByteArray × V) (r : List (ByteArray × V)) (k : ByteArray) : lk (p :: r) k = if p.1 = k then some p.2 else lk r k:=by
  unfold lk
  by_cases h : p.1 = k
  · rw [List.find?_cons_of_pos (p:=fun p : ByteArray × V=>p.1.toList == k.toList) (by exact (same_iff _ _).2 h),if_pos h]; rfl
  · rw [List.find?_cons_of_neg (p:=fun p : ByteArray × V=>p.1.toList == k.toList) (by simpa using same_not h),if_neg h]
theorem lk_mem {L : List (ByteArray × V)} {k : ByteArray} {d : V} (h : lk L k = some d) : (k,d) ∈ L:=by
  induction L with
  | nil=>cases h
  | cons p r ih =>
    rw [lk_cons] at h
    by_cases e : p.1 = k
    · rw [if_pos e] at h
      obtain ⟨a,b⟩:=p
      simp only [Option.some.injEq] at h e
      rw [← h,← e]
      exact List.mem_cons_self ..
    · rw [if_neg e] at h
      exact List.mem_cons_of_mem _ (ih h)
theorem lk_none {L : List (ByteArray × V)} {k : ByteArray} (h : lk L k = none) : ∀ p ∈ L,p.1 ≠ k:=by
  induction L with
  | nil=>intro p hp; cases hp
  | cons p r ih =>
    rw [lk_cons] at h
    by_cases e : p.1 = k
    · rw [if_pos e] at h; cases h
    · rw [if_neg e] at h
      intro q hq
      rcases List.mem_cons.1 hq with rfl | hq
      · exact e
      · exact ih h q hq
theorem lk_none_of {L : List (ByteArray × V)} {k : ByteArray} (h : ∀ p ∈ L,p.1 ≠ k) : lk L k = none:=by
  cases hl : lk L k with
  | none=>rfl
  | some d=>exact absurd rfl (h _ (lk_mem hl))
theorem Rise.head {p : ByteArray × V} {r : List (ByteArray × V)} (h : Rise (p :: r)) : ∀ q ∈ r,blt p.1 q.1 = true:=(List.pairwise_cons.1 h).1
theorem Rise.tail {p : ByteArray × V} {r : List (ByteArray × V)} (h : Rise (p :: r)) : Rise r:=(List.pairwise_cons.1 h).2
theorem lk_of_mem {L : List (ByteArray × V)} (hr : Rise L) {k : ByteArray} {d : V} (h : (k,d) ∈ L) : lk L k = some d:=by
  induction L with
  | nil=>cases h
  | cons p r ih =>
    rw [lk_cons]
    rcases List.mem_cons.1 h with e | h
    · rw [← e,if_pos rfl]
    · have:=hr.head _ h
      rw [if_neg (blt_ne this)]
      exact ih hr.tail h
theorem insKV_mem {k : ByteArray} {d : V} {L : List (ByteArray × V)} {q : ByteArray × V} (h : q ∈ insKV k d L) : q = (k,d) ∨ q ∈ L:=by
  induction L with
  | nil=>exact Or.inl (by simpa [insKV] using h)
  | cons p r ih =>
    unfold insKV at h
    split at h
    · rcases List.mem_cons.1 h with rfl | h
      · exact Or.inr (List.mem_cons_self ..)
      · rcases ih h with h | h
        · exact Or.inl h
        · exact Or.inr (List.mem_cons_of_mem _ h)
    · split at h
      · rcases List.mem_cons.1 h with h | h
        · exact Or.inl h
        · exact Or.inr (List.mem_cons_of_mem _ h)
      · rcases List.mem_cons.1 h with h | h
        · exact Or.inl h
        · exact Or.inr h
theorem insKV_rise {k : ByteArray} {d : V} {L : List (ByteArray × V)} (h : Rise L) : Rise (insKV k d L):=by
  induction L with
  | nil=>exact List.pairwise_singleton ..
  | cons p r ih =>
    unfold insKV
    split
    · rename_i hlt
      refine List.pairwise_cons.2 ⟨fun q hq=>?_,ih h.tail⟩
      rcases insKV_mem hq with rfl | hq
      · exact hlt
      · exact h.head q hq
    · rename_i hlt
      split
      · rename_i he
        rw [same_iff] at he
        refine List.pairwise_cons.2 ⟨fun q hq=>?_,h.tail⟩
        show blt k q.1 = true
        rw [← he]; exact h.head q hq
      · rename_i he
        have hkp : blt k p.1 = true:=blt_total (by simpa using hlt) (fun e=>he ((same_iff _ _).2 e))
        refine List.pairwise_cons.2 ⟨fun q hq=>?_,h⟩
        rcases List.mem_cons.1 hq with rfl | hq
        · exact hkp
        · exact blt_trans hkp (h.head q hq)
theorem lk_insKV {k : ByteArray} {d : V} {L : List (ByteArray × V)} (hr : Rise L) (k' : ByteArray) : lk (insKV k d L) k' = if k = k' then some d else lk L k':=by
  induction L with
  | nil =>
    unfold insKV
    rw [lk_cons]
  | cons p r ih =>
    unfold insKV
    split
    · rename_i hlt
      rw [lk_cons,lk_cons,ih hr.tail]
      by_cases e : p.1 = k'
      · rw [if_pos e,if_pos e,if_neg (fun e'=>blt_ne hlt (e.trans e'.symm))]
      · rw [if_neg e,if_neg e]
    · split
      · rename_i he
        rw [same_iff] at he
        rw [lk_cons,lk_cons]
        by_cases e : k = k'
        · rw [if_pos e,if_pos e]
        · rw [if_neg e,if_neg e,if_neg (by rw [he]; exact e)]
      · rw [lk_cons]
theorem delKV_rise {k : ByteArray} {L : List (ByteArray × V)} (h : Rise L) : Rise (delKV k L):=List.Pairwise.filter _ h
theorem lk_delKV {k : ByteArray} {L : List (ByteArray × V)} (k' : ByteArray) : lk (delKV k L) k' = if k = k' then none else lk L k':=by
  induction L with
  | nil=>rw [show delKV k ([] : List (ByteArray × V)) = [] from rfl,lk_nil]; simp
  | cons p r ih =>
    unfold delKV at ih ⊢
    by_cases e : p.1 = k
    · rw [List.filter_cons_of_neg (by simp [(same_iff p.1 k).2 e]),ih,lk_cons]
      by_cases e' : k = k'
      · rw [if_pos e',if_pos e']
      · rw [if_neg e',if_neg e',if_neg (by rw [e]; exact e')]
    · rw [List.filter_cons_of_pos (by simp [same_not e]),lk_cons,lk_cons,ih]
      by_cases e' : k = k'
      · rw [if_pos e',if_pos e',if_neg (by rw [← e']; exact e)]
      · rw [if_neg e',if_neg e']
theorem Rise.eq_of_lk {L₁ L₂ : List (ByteArray × V)} (h1 : Rise L₁) (h2 : Rise L₂) (h : ∀ k,lk L₁ k = lk L₂ k) : L₁ = L₂:=by
  refine List.Perm.eq_of_pairwise (le:=fun (p q : ByteArray × V)=>blt p.1 q.1 = true) (fun p q hp hq h3 h4=>by rw [blt_asymm h3] at h4; cases h4) h1 h2 ?_
  have nd : ∀ {L : List (ByteArray × V)},Rise L → L.Nodup:=fun hr=>hr.imp (fun {a b} hab e=>by rw [e,blt_irrefl] at hab; cases hab)
  refine (List.perm_ext_iff_of_nodup (nd h1) (nd h2)).2 fun p=>?_
  constructor
  · intro hp
    exact lk_mem (k:=p.1) (d:=p.2) (by rw [← h]; exact lk_of_mem h1 hp)
  · intro hp
    exact lk_mem (k:=p.1) (d:=p.2) (by rw [h]; exact lk_of_mem h2 hp)
end
def mapOf (L : List (ByteArray × DataW Unit)) : DataW Unit:=.map (L.map fun p=>(kL p.1,p.2))
theorem find_mapOf (L : List (ByteArray × DataW Unit)) (k : ByteArray) : (L.map fun p=>(kL p.1,p.2)).find? (fun p=>p.1.sameKey (kL k)) = (L.find? (fun p=>p.1.toList == k.toList)).map (fun p=>(kL p.1,p.2)):=by
  rw [List.find?_map]
  congr 1
  apply congrFun
  congr 1
  funext p
  exact sameKey_kL p.1 k
theorem atKey_mapOf (L : List (ByteArray × DataW Unit)) (k : ByteArray) (z : DataW Unit) : (mapOf L).atKey (kL k) z = (lk L k).getD z:=by
  simp only [mapOf,DataW.atKey]
  rw [find_mapOf,lk]
  cases L.find? (fun p=>p.1.toList == k.toList) <;> rfl
theorem has_mapOf (L : List (ByteArray × DataW Unit)) (k : ByteArray) : has (mapOf L) (kL k) = (lk L k).isSome:=by
  have h : ∀ (l : List (Lit × DataW Unit)) f,l.any f = (l.find? f).isSome:=fun l f=>by rw [Bool.eq_iff_iff,List.find?_isSome,List.any_eq_true]
  rw [mapOf,has_eq,h,find_mapOf,lk]
  cases L.find? (fun p=>p.1.toList == k.toList) <;> rfl
theorem size_mapOf (L : List (ByteArray × DataW Unit)) : Maps.size (mapOf L) = L.length:=by rw [mapOf,size_eq,List.length_map]
theorem notKey_kL (k : ByteArray) (q : ByteArray × DataW Unit) : ChangeMaps.notKey (kL k) (kL q.1,q.2) = !(q.1.toList == k.toList):=by
  show (!(kL q.1).sameKey (kL k)) = _
  rw [sameKey_kL]
theorem filter_mapOf (k : ByteArray) (L : List (ByteArray × DataW Unit)) : (L.map fun p=>(kL p.1,p.2)).filter (ChangeMaps.notKey (kL k)) = (delKV k L).map fun p=>(kL p.1,p.2):=by
  rw [List.filter_map,delKV]
  congr 1
  apply List.filter_congr
  intro q _
  exact notKey_kL k q
theorem del_mapOf (k : ByteArray) (L : List (ByteArray × DataW Unit)) : (mapOf L).del (kL k) = mapOf (delKV k L):=by
  rw [mapOf,DataW.del_eq,ChangeMaps.delKey,filter_mapOf,mapOf]
theorem insert_mapOf (k : ByteArray) (d : DataW Unit) {L : List (ByteArray × DataW Unit)} (hr : Rise L) (hn : lk L k = none) : DataW.insert (kL k,d) (L.map fun p=>(kL p.1,p.2)) = (insKV k d L).map fun p=>(kL p.1,p.2):=by
  induction L with
  | nil=>rfl
  | cons p r ih =>
    have hne:=lk_none hn
    rw [List.map_cons,DataW.insert,insKV]
    by_cases h : blt p.1 k = true
    · rw [if_neg (by rw [before_kL,blt_asymm h]; simp),if_pos h,List.map_cons,ih hr.tail (lk_none_of fun q hq=>hne q (List.mem_cons_of_mem _ hq))]
    · have hne':=hne p (List.mem_cons_self ..)
      have hkp : blt k p.1 = true:=blt_total (by simpa using h) hne'
      rw [if_pos (by rw [before_kL]; exact hkp),if_neg h,if_neg (by rw [same_not hne']; simp)]
      rfl
theorem insKV_delKV (k : ByteArray) (d : DataW Unit) {L : List (ByteArray × DataW Unit)} (hr : Rise L) : insKV k d (delKV k L) = insKV k d L:=by
  refine Rise.eq_of_lk (insKV_rise (delKV_rise hr)) (insKV_rise hr) fun k'=>?_
  rw [lk_insKV (delKV_rise hr),lk_insKV hr,lk_delKV]
  by_cases e : k = k'
  · rw [if_pos e,if_pos e]
  · rw [if_neg e,if_neg e,if_neg e]
theorem put_mapOf (k : ByteArray) (d : DataW Unit) {L : List (ByteArray × DataW Unit)} (hr : Rise L) : (mapOf L).put (kL k) d = mapOf (insKV k d L):=by
  rw [mapOf,DataW.put_eq,ChangeMaps.putKey,filter_mapOf,insert_mapOf k d (delKV_rise hr) (by rw [lk_delKV,if_pos rfl]),insKV_delKV k d hr,mapOf]
theorem strKeys_mapOf (L : List (ByteArray × DataW Unit)) : strKeys (mapOf L) = L.map (fun p=>p.1.data.toList):=by
  show ((L.map fun p=>(kL p.1,p.2)).map fun p=>strOf p.1) = _
  rw [List.map_map]
  rfl
end Go.Proofs.YtkmdbpaeeagccaaGreatDoor
namespace Go.Proofs.YtkmdbpaeeagccaaGreatDoor
open Go.RowKit
structure FileD where
  name : ByteArray
  data : ByteArray
  synced : Int
def FilesAt (w : World) (b o : Nat) (fs : List FileD) : Prop :=
  ∀ i (h : i < fs.length),w.cell? ⟨b,o + i * 3,none⟩ = some (.string fs[i].name) ∧
    w.cell? ⟨b,o + i * 3 + 1,none⟩ = some (.string fs[i].data) ∧ w.cell? ⟨b,o + i * 3 + 2,none⟩ = some (.int .i64 fs[i].synced)
theorem bcell {B : Nat} {W w1 : World} (hb : Below B W w1) : (∀ b o,b < B → w1.cell? ⟨b,o,none⟩ = W.cell? ⟨b,o,none⟩) ∧ (∀ b o,b < B → w1.frozen? ⟨b,o,none⟩ = W.frozen? ⟨b,o,none⟩) :=
  ⟨fun b o h=>hb.cell (p:=⟨b,o,none⟩) h,fun b o h=>hb.frozen (p:=⟨b,o,none⟩) h⟩
theorem ret_int {k : IntKind} {a b : Int} (h : a = b) : Ending.returned (.int k a) = .returned (.int k b):=by rw [h]
theorem ret_bool {a b : Bool} (h : a = b) : Ending.returned (.bool a) = .returned (.bool b):=by rw [h]
structure Later (w : World) where
  w' : World
  h : Below w.heap.size w w'
theorem Later.there (w : World) : Nonempty (Later w):=⟨⟨w,Below.refl _ _⟩⟩
theorem Later.cell {w : World} (x : Later w) {b o : Nat} {v : Value} (h : w.cell? ⟨b,o,none⟩ = some v) : x.w'.cell? ⟨b,o,none⟩ = some v:=by
  have hb : b < w.heap.size:=by
    rcases Nat.lt_or_ge b w.heap.size with hlt | hge
    · exact hlt
    · simp [World.cell?,Array.getElem?_eq_none hge] at h
  rw [← h]; exact x.h.cell hb
theorem Later.cells {w : World} {b o : Nat} {v : Value} (h : w.cell? ⟨b,o,none⟩ = some v) : ∀ x : Later w,x.w'.cell? ⟨b,o,none⟩ = some v:=fun x=>x.cell h
theorem wp_region_later {P : Program} {id : Nat} {Q : Exit → Act → World → Prop} {a : Act} {w : World} {l : List Oper} (hm : P.follows .mixedOrders = true) (hB : Region.lexB .any l.toArray = true)
    (h : wpQuiet P l.toArray (fun w'=>∃ x : Later w,w' = x.w') (fun a'=>∀ w',(∃ x : Later w,w' = x.w') → Q .normal a' w') l a) : (Code.region id l.toArray true).wp P Q a w :=
  wp_region_quiet (C:=fun w'=>∃ x : Later w,w' = x.w') hm hB ⟨⟨w.drew,(Below.refl _ _).drew⟩,rfl⟩ (by simpa using h)
theorem calls_later {P : Program} {f : FuncId} {args : Array Value} {w : World} {x : Later w} {v : Value}
    (h : Calls P f args x.w' fun e w''=>e = .returned v ∧ Below x.w'.heap.size x.w' w'') : Calls P f args x.w' fun e w''=>e = .returned v ∧ ∃ y : Later w,w'' = y.w' :=
  h.mono fun _ w'' ⟨he,hb⟩=>⟨he,⟨w'',x.h.trans (hb.mono x.h.size)⟩,rfl⟩
theorem calls_later_same {P : Program} {f : FuncId} {args : Array Value} {w : World} {x : Later w} {v : Value}
    (h : Calls P f args x.w' fun e w''=>e = .returned v ∧ w'' = x.w') : Calls P f args x.w' fun e w''=>e = .returned v ∧ ∃ y : Later w,w'' = y.w' :=
  h.mono fun _ _ ⟨he,hb⟩=>⟨he,x,hb⟩
def FilesIn (w : World) (a : Option Addr) (fs : List FileD) : Prop:=fs = [] ∨ ∃ b o,a = some ⟨b,o,none⟩ ∧ b < w.heap.size ∧ FilesAt w b o fs
theorem FilesIn.later {w w' : World} {a : Option Addr} {fs : List FileD} (h : FilesIn w a fs) (hb : Below w.heap.size w w') : FilesIn w' a fs:=by
  rcases h with h | ⟨b,o,rfl,hlt,h⟩
  · exact Or.inl h
  · refine Or.inr ⟨b,o,rfl,Nat.lt_of_lt_of_le hlt hb.size,fun i hi=>?_⟩
    obtain ⟨h1,h2,h3⟩:=h i hi
    exact ⟨by rw [← h1]; exact hb.cell hlt,by rw [← h2]; exact hb.cell hlt,by rw [← h3]; exact hb.cell hlt⟩
theorem FilesIn.at {w : World} {a : Option Addr} {fs : List FileD} (h : FilesIn w a fs) {i : Nat} (hi : i < fs.length) :
    ∃ b o,a = some ⟨b,o,none⟩ ∧ b < w.heap.size ∧ w.cell? ⟨b,o + i * 3,none⟩ = some (.string fs[i].name) ∧
      w.cell? ⟨b,o + i * 3 + 1,none⟩ = some (.string fs[i].data) ∧ w.cell? ⟨b,o + i * 3 + 2,none⟩ = some (.int .i64 fs[i].synced):=by
  rcases h with rfl | ⟨b,o,rfl,hlt,h⟩
  · exact absurd hi (by simp)
  · exact ⟨b,o,rfl,hlt,h i hi⟩
theorem FilesIn.setCell {w : World} {g o : Nat} {fs : List FileD} (h : FilesIn w (some ⟨g,o,none⟩) fs) {p : Addr} (hp : p.block ≠ g) (v : Value) : FilesIn (w.setCell p v) (some ⟨g,o,none⟩) fs:=by
  rcases h with h | ⟨b,o',e,hlt,h⟩
  · exact Or.inl h
  · simp only [Option.some.injEq,Addr.mk.injEq,and_true] at e
    obtain ⟨rfl,rfl⟩:=e
    have hk : ∀ j,(w.setCell p v).cell? ⟨g,j,none⟩ = w.cell? ⟨g,j,none⟩:=fun j=>World.cell?_of_block (Below.heap_setCell w p v g (Ne.symm hp))
    refine Or.inr ⟨g,o,rfl,by simpa [World.setCell] using hlt,fun i hi=>?_⟩
    simp only [hk]
    exact h i hi
def BoxAt (w : World) (b : Nat) (v0 v1 v2 v3 v4 v5 : Value) : Prop :=
  w.cell? ⟨b,0,none⟩ = some v0 ∧ w.cell? ⟨b,1,none⟩ = some v1 ∧ w.cell? ⟨b,2,none⟩ = some v2 ∧ w.cell? ⟨b,3,none⟩ = some v3 ∧ w.cell? ⟨b,4,none⟩ = some v4 ∧ w.cell? ⟨b,5,none⟩ = some v5
theorem BoxAt.new (w : World) (v0 v1 v2 v3 v4 v5 : Value) (t : TypeId) : BoxAt (w.alloc (.cells #[v0,v1,v2,v3,v4,v5] t)) w.heap.size v0 v1 v2 v3 v4 v5:=by
  simp [BoxAt,go_sem]
theorem BoxAt.lt {w : World} {b : Nat} {v0 v1 v2 v3 v4 v5 : Value} (h : BoxAt w b v0 v1 v2 v3 v4 v5) : b < w.heap.size:=by
  rcases Nat.lt_or_ge b w.heap.size with hlt | hge
  · exact hlt
  · have:=h.1
    simp [World.cell?,Array.getElem?_eq_none hge] at this
theorem BoxAt.later {w w' : World} {b : Nat} {v0 v1 v2 v3 v4 v5 : Value} (h : BoxAt w b v0 v1 v2 v3 v4 v5) (hb : Below w.heap.size w w') : BoxAt w' b v0 v1 v2 v3 v4 v5:=by
  have hl:=h.lt
  obtain ⟨h0,h1,h2,h3,h4,h5⟩:=h
  exact ⟨(hb.cell hl).trans h0,(hb.cell hl).trans h1,(hb.cell hl).trans h2,(hb.cell hl).trans h3,(hb.cell hl).trans h4,(hb.cell hl).trans h5⟩
theorem bto {a b c : World} (h : Below a.heap.size a b) (k : Below b.heap.size b c) : Below a.heap.size a c:=h.trans (k.mono h.size)
theorem bnew (w : World) (o : Obj) : Below w.heap.size w (w.alloc o):=(Below.refl _ _).alloc (Nat.le_refl _) _
end Go.Proofs.YtkmdbpaeeagccaaGreatDoor
namespace Go.Proofs.YtkmdbpaeeagccaaGreatDoor
open Go.RowKit
structure But (g : Nat) (w w' : World) : Prop where
  os : w'.os = w.os
  tape : w'.tape = w.tape
  output : w'.output = w.output
  size : w.heap.size ≤ w'.heap.size
  block : ∀ k,k < w.heap.size → k ≠ g → w'.heap[k]? = w.heap[k]?
theorem But.refl (g : Nat) (w : World) : But g w w:=⟨rfl,rfl,rfl,Nat.le_refl _,fun _ _ _=>rfl⟩
theorem But.trans {g : Nat} {a b c : World} (h : But g a b) (k : But g b c) : But g a c :=
  ⟨k.os.trans h.os,k.tape.trans h.tape,k.output.trans h.output,Nat.le_trans h.size k.size,fun i hi hg=>(k.block i (Nat.lt_of_lt_of_le hi h.size) hg).trans (h.block i hi hg)⟩
theorem But.of {g : Nat} {w w' : World} (h : Below w.heap.size w w') : But g w w':=⟨h.os,h.tape,h.output,h.size,fun k hk _=>h.block k hk⟩
theorem But.setCell {g : Nat} {a w : World} (h : But g a w) (o : Nat) (v : Value) : But g a (w.setCell ⟨g,o,none⟩ v) :=
  h.trans ⟨rfl,rfl,rfl,by simp [World.setCell],fun k _ hk=>Below.heap_setCell _ _ _ _ hk⟩
theorem But.below {g B : Nat} {w w' : World} (h : But g w w') (hB : B ≤ g) (hs : B ≤ w.heap.size) : Below B w w' :=
  ⟨h.os,h.tape,h.output,h.size,fun k hk=>h.block k (by omega) (by omega)⟩
theorem FilesIn.but {g b o : Nat} {w w' : World} {fs : List FileD} (h : FilesIn w (some ⟨b,o,none⟩) fs) (hb : But g w w') (hg : b ≠ g) : FilesIn w' (some ⟨b,o,none⟩) fs:=by
  rcases h with h | ⟨b',o',e,hlt,h⟩
  · exact Or.inl h
  · simp only [Option.some.injEq,Addr.mk.injEq,and_true] at e
    obtain ⟨rfl,rfl⟩:=e
    have hk : ∀ j,w'.cell? ⟨b,j,none⟩ = w.cell? ⟨b,j,none⟩:=fun j=>World.cell?_of_block (hb.block b hlt hg)
    exact Or.inr ⟨b,o,rfl,Nat.lt_of_lt_of_le hlt hb.size,fun i hi=>by simp only [hk]; exact h i hi⟩
def Owned (w : World) (B : Nat) (a : Option Addr) (fs : List FileD) : Prop :=
  fs = [] ∨ ∃ g o cur t,a = some ⟨g,o,none⟩ ∧ B ≤ g ∧ w.heap[g]? = some (.cells cur t (0,0)) ∧ FilesAt w g o fs
theorem lt_of_block {w : World} {g : Nat} {x : Obj} (h : w.heap[g]? = some x) : g < w.heap.size:=by
  rcases Nat.lt_or_ge g w.heap.size with hlt | hge
  · exact hlt
  · rw [Array.getElem?_eq_none hge] at h; exact absurd h (by simp)
theorem Owned.later {w w' : World} {B : Nat} {a : Option Addr} {fs : List FileD} (h : Owned w B a fs) (hb : Below w.heap.size w w') : Owned w' B a fs:=by
  rcases h with h | ⟨g,o,cur,t,rfl,hB,hg,h⟩
  · exact Or.inl h
  · have hlt:=lt_of_block hg
    have hk : ∀ j,w'.cell? ⟨g,j,none⟩ = w.cell? ⟨g,j,none⟩:=fun j=>World.cell?_of_block (hb.block g hlt)
    exact Or.inr ⟨g,o,cur,t,rfl,hB,(hb.block g hlt).trans hg,fun i hi=>by simp only [hk]; exact h i hi⟩
theorem Owned.mono {w : World} {B B' : Nat} {a : Option Addr} {fs : List FileD} (h : Owned w B a fs) (hB : B' ≤ B) : Owned w B' a fs:=by
  rcases h with h | ⟨g,o,cur,t,rfl,hB',hg,h⟩
  · exact Or.inl h
  · exact Or.inr ⟨g,o,cur,t,rfl,Nat.le_trans hB hB',hg,h⟩
def digits : Nat → Nat → List UInt8 → List UInt8
  | 0,_,acc=>acc
  | fuel + 1,k,acc=>if k = 0 then acc else digits fuel (k / 10) ((48 + UInt8.ofNat (k % 10)) :: acc)
def mt (k : Nat) : ByteArray:=⟨(109 :: digits k k []).toArray⟩
theorem digits_fuel : ∀ (f f' k : Nat) (acc : List UInt8),k ≤ f → k ≤ f' → digits f k acc = digits f' k acc
  | 0,0,_,_,_,_=>rfl
  | 0, f' + 1, k, acc, h, _ => by have : k = 0 := by omega
                                  subst this; simp [digits]
  | f + 1, 0, k, acc, _, h => by have : k = 0 := by omega
                                 subst this; simp [digits]
  | f + 1,f' + 1,k,acc,h,h'=>by
    rw [digits,digits]
    split
    · rfl
    · exact digits_fuel f f' (k / 10) _ (by omega) (by omega)
def Marked (w w' : World) (B : Nat) (a : Option Addr) (n : Nat) : Prop :=
  (n = 0 ∧ Below w.heap.size w w') ∨ 0 < n ∧ ∃ g o,a = some ⟨g,o,none⟩ ∧ B ≤ g ∧ But g w w'
theorem Marked.below {w w' : World} {B n : Nat} {a : Option Addr} (h : Marked w w' B a n) (hs : B ≤ w.heap.size) : Below B w w':=by
  rcases h with ⟨_,h⟩ | ⟨_,g,o,_,hB,h⟩
  · exact h.mono hs
  · exact h.below hB hs
def Blk (w : World) (g : Nat) (cur : Array Value) (t : TypeId) : Prop:=w.heap[g]? = some (.cells cur t (0,0))
theorem Blk.set {w : World} {g : Nat} {cur : Array Value} {t : TypeId} (h : Blk w g cur t) (j : Nat) (v : Value) : Blk (w.setCell ⟨g,j,none⟩ v) g (cur.setIfInBounds j v) t:=heap_setCell_same w g j cur t v h
theorem Blk.later {w w' : World} {g : Nat} {cur : Array Value} {t : TypeId} (h : Blk w g cur t) (hb : Below w.heap.size w w') : Blk w' g cur t:=(hb.block g (lt_of_block h)).trans h
theorem Blk.cell {w : World} {g : Nat} {cur : Array Value} {t : TypeId} (h : Blk w g cur t) (j : Nat) : w.cell? ⟨g,j,none⟩ = cur[j]?:=cell_of_row w g j cur t _ h
theorem Blk.free {w : World} {g : Nat} {cur : Array Value} {t : TypeId} (h : Blk w g cur t) (j : Nat) : w.frozen? ⟨g,j,none⟩ = false:=frozen_of_row w g j cur t h
theorem Blk.there {w : World} {g : Nat} {cur : Array Value} {t : TypeId} (h : Blk w g cur t) {j : Nat} (hj : j < cur.size) : ∃ v,w.cell? ⟨g,j,none⟩ = some v:=⟨cur[j],by rw [h.cell]; exact Array.getElem?_eq_getElem hj⟩
def RowFile (cur : Array Value) (o j : Nat) (f : FileD) : Prop:=cur[o + j * 3]? = some (.string f.name) ∧ cur[o + j * 3 + 1]? = some (.string f.data) ∧ cur[o + j * 3 + 2]? = some (.int .i64 f.synced)
theorem RowFile.set {cur : Array Value} {o j : Nat} {f : FileD} (h : RowFile cur o j f) {p : Nat} (hp : p < o + j * 3 ∨ o + j * 3 + 2 < p) (v : Value) : RowFile (cur.setIfInBounds p v) o j f:=by
  obtain ⟨a1,a2,a3⟩:=h
  refine ⟨?_,?_,?_⟩
  · rw [Array.getElem?_setIfInBounds_ne (by omega)]; exact a1
  · rw [Array.getElem?_setIfInBounds_ne (by omega)]; exact a2
  · rw [Array.getElem?_setIfInBounds_ne (by omega)]; exact a3
theorem RowFile.made (cur : Array Value) (o j : Nat) (f : FileD) (h : o + j * 3 + 2 < cur.size) :
    RowFile (((cur.setIfInBounds (o + j * 3) (.string f.name)).setIfInBounds (o + j * 3 + 1) (.string f.data)).setIfInBounds (o + j * 3 + 2) (.int .i64 f.synced)) o j f:=by
  refine ⟨?_,?_,?_⟩ <;> simp [Array.getElem?_setIfInBounds] <;> omega
end Go.Proofs.YtkmdbpaeeagccaaGreatDoor
