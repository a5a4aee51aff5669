import Derived.Test.YtkmdbpaeeagccaaGreatDoorJ02LabB
import Derived.Test.YtkmdbpaeeagccaaGreatDoorJ04Cfg
import Derived.Test.YtkmdbpaeeagccaaGreatDoorJ01Own
import Derived.Test.YtkmdbpaeeagccaaGreatDoorProg
import Derived.BigRegion
import Derived.Maps.OwnSet
import Derived.Deep.AppendLies
import Derived.Deep.RegionLaw
import Derived.Deep.DeepCutAuto
namespace Go.Proofs.YtkmdbpaeeagccaaGreatDoor
def allTo (f : Nat → Bool) : Nat → Bool
  | 0=>true
  | k + 1=>allTo f k && f k
theorem allTo_succ (f : Nat → Bool) (k : Nat) : allTo f (k + 1) = (allTo f k && f k):=rfl
theorem allTo_not {f : Nat → Bool} {k n : Nat} (h : f k = false) (hk : k < n) : allTo f n = false:=by
  induction n with
  | zero=>omega
  | succ n ih =>
    rw [allTo_succ]
    by_cases e : k = n
    · subst e; rw [h,Bool.and_false]
    · rw [ih (by omega),Bool.false_and]
theorem allTo_at {f : Nat → Bool} {k n : Nat} (h : allTo f n = true) (hk : k < n) : f k = true:=by
  cases hf : f k with
  | true=>rfl
  | false=>rw [allTo_not hf hk] at h; cases h
def okT (c : UInt8) : Bool:=(97 ≤ c && c ≤ 122) || (48 ≤ c && c ≤ 57) || c == 45
def tnameB (s : ByteArray) : Bool:=decide (1 ≤ s.size) && decide (s.size ≤ 32) && s.data.toList.all okT
def mnameB (s : ByteArray) : Bool:=!s.toList.isEmpty && decide (valV s = 0)
def metK (s : ByteArray) : ByteArray:=metV (decV s).1
def keyOK (s : ByteArray) : Bool:=!(metK s).toList.isEmpty
def idleB (t : TenD) : Bool:=t.limit == -1 && t.mets.length == 0 && t.sers.length == 0
def prevB (ps : List PairD) (i : Nat) : Bool:=match i with
  | 0=>true
  | j + 1=>match ps[j]?,ps[j + 1]? with
    | some p,some q=>blt p.s q.s
    | _,_=>false
def metAt (ms : List PairD) (i : Nat) : Bool:=match ms[i]? with
  | some m=>prevB ms i && mnameB m.s && btwB m.n 0 1000000
  | none=>false
def metsB (ms : List PairD) : Bool:=allTo (metAt ms) ms.length
def serAt (win now : Int) (xs : List PairD) (i : Nat) : Bool:=match xs[i]? with
  | some x=>prevB xs i && keyOK x.s && btwB x.n 0 now && decide (now - x.n < win)
  | none=>false
def sersB (win now : Int) (xs : List PairD) : Bool:=allTo (serAt win now xs) xs.length
def prevT (ts : List TenD) (i : Nat) : Bool:=match i with
  | 0=>true
  | j + 1=>match ts[j]?,ts[j + 1]? with
    | some p,some q=>blt p.name q.name
    | _,_=>false
def tenB (win now : Int) (t : TenD) : Bool:=tnameB t.name && btwB t.limit (-1) 1000000 && metsB t.mets && sersB win now t.sers && !idleB t
def tenAt (win now : Int) (ts : List TenD) (i : Nat) : Bool:=match ts[i]? with
  | some t=>prevT ts i && tenB win now t
  | none=>false
def tensB (win now : Int) (ts : List TenD) : Bool:=allTo (tenAt win now ts) ts.length
def stateB (c : CfgD) (now : Int) (ts : List TenD) : Bool:=cfgB c && btwB now 0 1000000000000 && decide (ts.length ≤ 10000) && tensB c.w now ts
theorem prevB_at {ps : List PairD} {k : Nat} (hk : 0 < k) (hl : k < ps.length) : prevB ps k = blt (ps[k - 1]'(by omega)).s ps[k].s:=by
  obtain ⟨j,rfl⟩ : ∃ j,k = j + 1:=⟨k - 1,by omega⟩
  simp [prevB,List.getElem?_eq_getElem (show j < ps.length by omega),List.getElem?_eq_getElem hl]
theorem prevT_at {ps : List TenD} {k : Nat} (hk : 0 < k) (hl : k < ps.length) : prevT ps k = blt (ps[k - 1]'(by omega)).name ps[k].name:=by
  obtain ⟨j,rfl⟩ : ∃ j,k = j + 1:=⟨k - 1,by omega⟩
  simp [prevT,List.getElem?_eq_getElem (show j < ps.length by omega),List.getElem?_eq_getElem hl]
theorem metAt_eq {ms : List PairD} {k : Nat} (hl : k < ms.length) : metAt ms k = (prevB ms k && mnameB ms[k].s && btwB ms[k].n 0 1000000):=by simp [metAt,List.getElem?_eq_getElem hl]
theorem serAt_eq {win now : Int} {ms : List PairD} {k : Nat} (hl : k < ms.length) : serAt win now ms k = (prevB ms k && keyOK ms[k].s && btwB ms[k].n 0 now && decide (now - ms[k].n < win)):=by simp [serAt,List.getElem?_eq_getElem hl]
theorem tenAt_eq {win now : Int} {ts : List TenD} {k : Nat} (hl : k < ts.length) : tenAt win now ts k = (prevT ts k && tenB win now ts[k]):=by simp [tenAt,List.getElem?_eq_getElem hl]
theorem rise_steps {α : Type} {key : α → ByteArray} : ∀ (l : List α),(∀ k (h : k + 1 < l.length),blt (key (l[k]'(by omega))) (key l[k + 1]) = true) → RiseBy key l
  | [],_=>List.Pairwise.nil
  | [a],_=>List.pairwise_singleton ..
  | a :: b :: r,h=>by
    have hr : RiseBy key (b :: r):=rise_steps (b :: r) fun k hk=>h (k + 1) (by simp at hk ⊢; omega)
    have h0 : blt (key a) (key b) = true:=h 0 (by simp)
    refine List.pairwise_cons.2 ⟨fun q hq=>?_,hr⟩
    rcases List.mem_cons.1 hq with rfl | hq
    · exact h0
    · exact blt_trans h0 (hr.head q hq)
theorem rise_take {α : Type} {key : α → ByteArray} {l : List α} (k : Nat) (h : RiseBy key l) : RiseBy key (l.take k):=List.Pairwise.sublist (List.take_sublist ..) h
theorem mets_rise {ms : List PairD} {n : Nat} (h : allTo (metAt ms) n = true) (hn : n ≤ ms.length) : RiseBy (·.s) (ms.take n):=by
  apply rise_steps
  intro k hk
  simp only [List.length_take] at hk
  have:=allTo_at h (k:=k + 1) (by omega)
  rw [metAt_eq (by omega),Bool.and_eq_true,Bool.and_eq_true] at this
  have h1:=this.1.1
  rw [prevB_at (by omega) (by omega)] at h1
  simpa using h1
theorem sers_rise {win now : Int} {ms : List PairD} {n : Nat} (h : allTo (serAt win now ms) n = true) (hn : n ≤ ms.length) : RiseBy (·.s) (ms.take n):=by
  apply rise_steps
  intro k hk
  simp only [List.length_take] at hk
  have:=allTo_at h (k:=k + 1) (by omega)
  rw [serAt_eq (by omega),Bool.and_eq_true,Bool.and_eq_true,Bool.and_eq_true] at this
  have h1:=this.1.1.1
  rw [prevB_at (by omega) (by omega)] at h1
  simpa using h1
theorem tens_rise {win now : Int} {ts : List TenD} {n : Nat} (h : allTo (tenAt win now ts) n = true) (hn : n ≤ ts.length) : RiseBy (·.name) (ts.take n):=by
  apply rise_steps
  intro k hk
  simp only [List.length_take] at hk
  have:=allTo_at h (k:=k + 1) (by omega)
  rw [tenAt_eq (by omega),Bool.and_eq_true] at this
  have h1:=this.1
  rw [prevT_at (by omega) (by omega)] at h1
  simpa using h1
theorem ins_take {α : Type} {key : α → ByteArray} {l : List α} {k : Nat} (hk : k < l.length) (h : RiseBy key (l.take (k + 1))) : insBy key l[k] (l.take k) = l.take (k + 1) ∧ getBy key (key l[k]) (l.take k) = none:=by
  rw [List.take_succ_eq_append_getElem hk] at h ⊢
  have hb : ∀ p ∈ l.take k,blt (key p) (key l[k]) = true:=fun p hp=>(List.pairwise_append.1 h).2.2 p hp _ (List.mem_singleton.2 rfl)
  exact ⟨insBy_end hb,getBy_none_of fun p hp=>blt_ne (hb p hp)⟩
end Go.Proofs.YtkmdbpaeeagccaaGreatDoor
namespace Go.Proofs.YtkmdbpaeeagccaaGreatDoor
def tenOf (ts : List TenD) (name : ByteArray) : TenD:=(getBy (·.name) name ts).getD ⟨name,-1,[],[]⟩
def metLim (ms : List PairD) (m : ByteArray) (d : Int) : Int:=ms.foldl (fun d p=>if p.s.toList == m.toList then p.n else d) d
theorem metLim_take (ms : List PairD) (m : ByteArray) (d : Int) (k : Nat) (h : k < ms.length) : metLim (ms.take (k + 1)) m d = if ms[k].s.toList == m.toList then ms[k].n else metLim (ms.take k) m d:=by
  rw [List.take_succ_eq_append_getElem h,metLim,List.foldl_append]
  rfl
theorem metLim_none {ms : List PairD} {m : ByteArray} (h : ∀ p ∈ ms,p.s ≠ m) (d : Int) : metLim ms m d = d:=by
  induction ms generalizing d with
  | nil=>rfl
  | cons p r ih =>
    rw [metLim,List.foldl_cons,if_neg (by rw [same_not (h p (List.mem_cons_self ..))]; simp)]
    exact ih (fun q hq=>h q (List.mem_cons_of_mem _ hq)) d
theorem metLim_by {ms : List PairD} (hr : RiseBy (·.s) ms) (m : ByteArray) (d : Int) : metLim ms m d = ((getBy (·.s) m ms).map (·.n)).getD d:=by
  induction ms generalizing d with
  | nil=>rfl
  | cons p r ih =>
    rw [metLim,List.foldl_cons,getBy_cons]
    by_cases e : p.s = m
    · rw [if_pos ((same_iff _ _).2 e),if_pos e]
      exact metLim_none (fun q hq e'=>blt_ne (hr.head q hq) (e.trans e'.symm)) _
    · rw [if_neg (by rw [same_not e]; simp),if_neg e]
      exact ih hr.tail d
def countV (c : CfgD) (t : TenD) (m : ByteArray) : Int × Int :=
  if m.toList.isEmpty = true then ((t.sers.length : Nat),if t.limit < 0 then c.tl else t.limit) else ((cntM metK t.sers m : Nat),metLim t.mets m c.ml)
theorem cntM_take (l : List PairD) (m : ByteArray) (k : Nat) (h : k < l.length) : cntM metK (l.take (k + 1)) m = cntM metK (l.take k) m + if (metK l[k].s).toList == m.toList then 1 else 0:=by
  rw [List.take_succ_eq_append_getElem h,cntM,cntM,List.filter_append,List.length_append]
  congr 1
  cases hb : (metK l[k].s).toList == m.toList <;> simp [hb]
theorem getBy_drop {α : Type} {key : α → ByteArray} {l : List α} {k : ByteArray} : ∀ (n : Nat),(∀ j (_ : j < n) (h' : j < l.length),key l[j] ≠ k) → getBy key k l = getBy key k (l.drop n)
  | 0,_=>by simp
  | n + 1,h=>by
    rw [getBy_drop n (fun j hj hj'=>h j (by omega) hj')]
    by_cases hn : n < l.length
    · rw [List.drop_eq_getElem_cons hn,getBy_cons,if_neg (h n (by omega) hn)]
    · rw [List.drop_of_length_le (by omega),List.drop_of_length_le (by omega)]
end Go.Proofs.YtkmdbpaeeagccaaGreatDoor
namespace Go.Proofs.YtkmdbpaeeagccaaGreatDoor
structure SgD where
  b : Nat
  t : Int
def hget (l : List SgD) (i : Nat) : SgD:=l.getD i ⟨0,0⟩
def swapL (l : List SgD) (i j : Nat) : List SgD:=(l.set i (hget l j)).set j (hget l i)
theorem hget_eq {l : List SgD} {i : Nat} (h : i < l.length) : hget l i = l[i]:=by simp [hget,List.getD,List.getElem?_eq_getElem h]
theorem swapL_length (l : List SgD) (i j : Nat) : (swapL l i j).length = l.length:=by simp [swapL]
theorem hget_swap {l : List SgD} {i j : Nat} (hi : i < l.length) (hj : j < l.length) (k : Nat) : hget (swapL l i j) k = if k = j then hget l i else if k = i then hget l j else hget l k:=by
  unfold swapL
  have e : ∀ (m : List SgD) (p : Nat) (x : SgD) (k : Nat),p < m.length → hget (m.set p x) k = if k = p then x else hget m k:=fun m p x k hp=>by
    by_cases h : k = p
    · subst h; simp [hget,List.getD,hp]
    · rw [if_neg h]; simp [hget,List.getD,Ne.symm h]
  rw [e _ _ _ _ (by simpa using hj),e _ _ _ _ hi]
theorem swapL_perm {l : List SgD} {i j : Nat} (hi : i < l.length) (hj : j < l.length) : (swapL l i j).Perm l:=by
  unfold swapL
  rw [hget_eq hi,hget_eq hj]
  exact List.set_set_perm hi hj
def HeapOK (l : List SgD) : Prop:=∀ i,0 < i → i < l.length → (hget l ((i - 1) / 2)).t ≤ (hget l i).t
def HeapUp (l : List SgD) (k : Nat) : Prop:=(∀ i,0 < i → i < l.length → i ≠ k → (hget l ((i - 1) / 2)).t ≤ (hget l i).t) ∧ ∀ i,0 < i → i < l.length → (i - 1) / 2 = k → 0 < k → (hget l ((k - 1) / 2)).t ≤ (hget l i).t
theorem HeapOK.push {l : List SgD} (h : HeapOK l) (x : SgD) : HeapUp (l ++ [x]) l.length:=by
  have e : ∀ i,i < l.length → hget (l ++ [x]) i = hget l i:=fun i hi=>by simp [hget,List.getD,List.getElem?_append_left hi]
  refine ⟨fun i h0 hi hne=>?_,fun i h0 hi hp _=>?_⟩
  · simp at hi
    rw [e i (by omega),e _ (by omega)]
    exact h i h0 (by omega)
  · simp at hi
    omega
theorem HeapUp.done {l : List SgD} {k : Nat} (h : HeapUp l k) (hk : k = 0 ∨ (hget l ((k - 1) / 2)).t ≤ (hget l k).t) : HeapOK l:=by
  intro i h0 hi
  by_cases e : i = k
  · subst e
    rcases hk with hk | hk
    · omega
    · exact hk
  · exact h.1 i h0 hi e
theorem HeapUp.step {l : List SgD} {k : Nat} (h : HeapUp l k) (hk : k < l.length) (h0 : 0 < k) (hlt : (hget l k).t < (hget l ((k - 1) / 2)).t) : HeapUp (swapL l k ((k - 1) / 2)) ((k - 1) / 2):=by
  have hp : (k - 1) / 2 < l.length:=by omega
  have hpk : (k - 1) / 2 ≠ k:=by omega
  refine ⟨fun i hi0 hi hne=>?_,fun i hi0 hi hpi hp0=>?_⟩
  · rw [swapL_length] at hi
    rw [hget_swap hk hp,hget_swap hk hp,if_neg hne]
    by_cases e1 : i = k
    · subst e1
      rw [if_pos rfl,if_pos rfl]; omega
    · rw [if_neg e1]
      by_cases e2 : (i - 1) / 2 = (k - 1) / 2
      · rw [if_pos e2]
        have:=h.1 i hi0 hi e1
        rw [e2] at this; omega
      · rw [if_neg e2]
        by_cases e3 : (i - 1) / 2 = k
        · rw [if_pos e3]; exact h.2 i hi0 hi e3 h0
        · rw [if_neg e3]; exact h.1 i hi0 hi e1
  · rw [swapL_length] at hi
    rw [hget_swap hk hp,hget_swap hk hp,if_neg (by omega : ((k - 1) / 2 - 1) / 2 ≠ (k - 1) / 2),if_neg (by omega : ((k - 1) / 2 - 1) / 2 ≠ k),if_neg (by omega : i ≠ (k - 1) / 2)]
    have hg:=h.1 ((k - 1) / 2) hp0 hp hpk
    by_cases e1 : i = k
    · rw [if_pos e1]; exact hg
    · rw [if_neg e1]
      have:=h.1 i hi0 hi e1
      rw [hpi] at this; omega
def siftUp (l : List SgD) : Nat → List SgD
  | 0=>l
  | k + 1=>if (hget l (k + 1)).t < (hget l (k / 2)).t then siftUp (swapL l (k + 1) (k / 2)) (k / 2) else l
theorem siftUp_step {l : List SgD} {k : Nat} (h0 : 0 < k) : siftUp l k = if (hget l k).t < (hget l ((k - 1) / 2)).t then siftUp (swapL l k ((k - 1) / 2)) ((k - 1) / 2) else l:=by
  obtain ⟨j,rfl⟩ : ∃ j,k = j + 1:=⟨k - 1,by omega⟩
  rw [siftUp,Nat.add_sub_cancel]
theorem siftUp_zero (l : List SgD) : siftUp l 0 = l:=by rw [siftUp]
theorem siftUp_says : ∀ (k : Nat) (l : List SgD),k < l.length → HeapUp l k → HeapOK (siftUp l k) ∧ (siftUp l k).Perm l ∧ (siftUp l k).length = l.length
  | 0,l,_,h=>by rw [siftUp_zero]; exact ⟨h.done (Or.inl rfl),List.Perm.refl _,rfl⟩
  | k + 1,l,hk,h=>by
    rw [siftUp_step (by omega)]
    by_cases hlt : (hget l (k + 1)).t < (hget l ((k + 1 - 1) / 2)).t
    · rw [if_pos hlt]
      obtain ⟨a,b,c⟩:=siftUp_says ((k + 1 - 1) / 2) (swapL l (k + 1) ((k + 1 - 1) / 2)) (by rw [swapL_length]; omega) (h.step hk (by omega) hlt)
      exact ⟨a,b.trans (swapL_perm hk (by omega)),c.trans (swapL_length _ _ _)⟩
    · rw [if_neg hlt]
      exact ⟨h.done (Or.inr (by omega)),List.Perm.refl _,rfl⟩
def pushL (l : List SgD) (x : SgD) : List SgD:=siftUp (l ++ [x]) l.length
theorem pushL_says {l : List SgD} (h : HeapOK l) (x : SgD) : HeapOK (pushL l x) ∧ (pushL l x).Perm (x :: l) ∧ (pushL l x).length = l.length + 1:=by
  obtain ⟨a,b,c⟩:=siftUp_says l.length (l ++ [x]) (by simp) (h.push x)
  exact ⟨a,b.trans (List.perm_append_singleton x l),by rw [pushL,c]; simp⟩
end Go.Proofs.YtkmdbpaeeagccaaGreatDoor
namespace Go.Proofs.YtkmdbpaeeagccaaGreatDoor
open Go.RowKit
def SgAt (cur : Array Value) (hs : List SgD) : Prop:=∀ k,k < hs.length → cur[k * 2]? = some (.pointer (some ⟨(hget hs k).b,0,none⟩)) ∧ cur[k * 2 + 1]? = some (.int .i64 (hget hs k).t)
def HeapM (w : World) (g cap : Nat) (hs : List SgD) : Prop:=∃ cur,Blk w g cur 189 ∧ cur.size = cap * 2 ∧ hs.length ≤ cap ∧ cap ≤ maxLen ∧ SgAt cur hs
theorem HeapM.cells {w : World} {g cap k : Nat} {hs : List SgD} (h : HeapM w g cap hs) (hk : k < hs.length) :
    w.cell? ⟨g,k * 2,none⟩ = some (.pointer (some ⟨(hget hs k).b,0,none⟩)) ∧ w.cell? ⟨g,k * 2 + 1,none⟩ = some (.int .i64 (hget hs k).t) ∧ w.frozen? ⟨g,k * 2,none⟩ = false ∧ w.frozen? ⟨g,k * 2 + 1,none⟩ = false:=by
  obtain ⟨cur,hb,_,_,_,hc⟩:=h
  rw [hb.cell,hb.cell]
  exact ⟨(hc k hk).1,(hc k hk).2,hb.free _,hb.free _⟩
theorem HeapM.later {w w' : World} {g cap : Nat} {hs : List SgD} (h : HeapM w g cap hs) (hb : Below w.heap.size w w') : HeapM w' g cap hs:=by
  obtain ⟨cur,h1,h2⟩:=h
  exact ⟨cur,h1.later hb,h2⟩
theorem HeapM.lt {w : World} {g cap : Nat} {hs : List SgD} (h : HeapM w g cap hs) : g < w.heap.size:=by
  obtain ⟨cur,h1,h2⟩:=h
  exact lt_of_block h1
theorem But.drew {g : Nat} {a w : World} (h : But g a w) : But g a w.drew:=⟨h.os,h.tape,h.output,h.size,h.block⟩
theorem HeapM.swap {w : World} {g cap i j : Nat} {hs : List SgD} (h : HeapM w g cap hs) (hi : i < hs.length) (hj : j < hs.length) :
    HeapM ((((w.setCell ⟨g,i * 2,none⟩ (.pointer (some ⟨(hget hs j).b,0,none⟩))).setCell ⟨g,i * 2 + 1,none⟩ (.int .i64 (hget hs j).t)).setCell ⟨g,j * 2,none⟩ (.pointer (some ⟨(hget hs i).b,0,none⟩))).setCell ⟨g,j * 2 + 1,none⟩ (.int .i64 (hget hs i).t)) g cap (swapL hs i j):=by
  obtain ⟨cur,h1,h2,h3,h4,h5⟩:=h
  refine ⟨_,(((h1.set _ _).set _ _).set _ _).set _ _,by simp [h2],by rw [swapL_length]; exact h3,h4,fun k hk=>?_⟩
  rw [swapL_length] at hk
  rw [hget_swap hi hj]
  by_cases e1 : k = j
  · subst e1
    rw [if_pos rfl]
    constructor <;> simp [Array.getElem?_setIfInBounds,h2] <;> omega
  · rw [if_neg e1]
    by_cases e2 : k = i
    · subst e2
      rw [if_pos rfl]
      constructor
      · rw [Array.getElem?_setIfInBounds_ne (by omega),Array.getElem?_setIfInBounds_ne (by omega),Array.getElem?_setIfInBounds_ne (by omega)]; simp [Array.getElem?_setIfInBounds,h2]; omega
      · rw [Array.getElem?_setIfInBounds_ne (by omega),Array.getElem?_setIfInBounds_ne (by omega)]; simp [Array.getElem?_setIfInBounds,h2]; omega
    · rw [if_neg e2]
      obtain ⟨c1,c2⟩:=h5 k hk
      constructor
      · rw [Array.getElem?_setIfInBounds_ne (by omega),Array.getElem?_setIfInBounds_ne (by omega),Array.getElem?_setIfInBounds_ne (by omega),Array.getElem?_setIfInBounds_ne (by omega)]; exact c1
      · rw [Array.getElem?_setIfInBounds_ne (by omega),Array.getElem?_setIfInBounds_ne (by omega),Array.getElem?_setIfInBounds_ne (by omega),Array.getElem?_setIfInBounds_ne (by omega)]; exact c2
set_option maxRecDepth 100000 in
set_option maxHeartbeats 4000000 in
theorem swap_any (x o g n cap i j : Nat) (hs : List SgD) (w : World) (hp : w.cell? ⟨x,o,none⟩ = some (.slice (some ⟨g,0,none⟩) n cap)) (hn : n = hs.length) (hH : HeapM w g cap hs) (hi : i < n) (hj : j < n) :
    Calls Tryz.prog 145 #[.pointer (some ⟨x,o,none⟩),.int .i64 i,.int .i64 j] w fun e w'=>e = .returned (.tuple #[]) ∧ HeapM w' g cap (swapL hs i j) ∧ But g w w':=by
  have HSW : Hid (HeapM ((((w.setCell ⟨g,i * 2,none⟩ (.pointer (some ⟨(hget hs j).b,0,none⟩))).setCell ⟨g,i * 2 + 1,none⟩ (.int .i64 (hget hs j).t)).setCell ⟨g,j * 2,none⟩ (.pointer (some ⟨(hget hs i).b,0,none⟩))).setCell ⟨g,j * 2 + 1,none⟩ (.int .i64 (hget hs i).t)) g cap (swapL hs i j)):=hH.swap (by omega) (by omega)
  obtain ⟨c0,c1,f0,f1⟩:=hH.cells (k:=i) (by omega)
  obtain ⟨d0,d1,u0,u1⟩:=hH.cells (k:=j) (by omega)
  have HE : ∀ (a b : Value),(∃ v,((w.setCell ⟨g,i * 2,none⟩ a).setCell ⟨g,i * 2 + 1,none⟩ b).cell? ⟨g,j * 2,none⟩ = some v) ∧ (∃ v,((w.setCell ⟨g,i * 2,none⟩ a).setCell ⟨g,i * 2 + 1,none⟩ b).cell? ⟨g,j * 2 + 1,none⟩ = some v) ∧
      ((w.setCell ⟨g,i * 2,none⟩ a).setCell ⟨g,i * 2 + 1,none⟩ b).frozen? ⟨g,j * 2,none⟩ = false ∧ ((w.setCell ⟨g,i * 2,none⟩ a).setCell ⟨g,i * 2 + 1,none⟩ b).frozen? ⟨g,j * 2 + 1,none⟩ = false:=fun a b=>by
    obtain ⟨cur,h1,h2,h3,_⟩:=hH
    have hB:=(h1.set (i * 2) a).set (i * 2 + 1) b
    exact ⟨hB.there (by simp; omega),hB.there (by simp; omega),hB.free _,hB.free _⟩
  obtain ⟨⟨v0,e0⟩,⟨v1,e1⟩,e2,e3⟩:=HE (.pointer (some ⟨(hget hs j).b,0,none⟩)) (.int .i64 (hget hs j).t)
  clear hn hH HE
  generalize hget hs i = A at *
  generalize hget hs j = C at *
  generalize swapL hs i j = R at *
  clear hs
  go_enter Tryz.func145,Tryz.ntmps145
  go_wp2_with fail
  go_region
  go_wp2
  go_end0
  exact ⟨rfl,HSW.out,(((((But.refl g w).setCell _ _).setCell _ _).setCell _ _).setCell _ _).drew⟩
end Go.Proofs.YtkmdbpaeeagccaaGreatDoor
namespace Go.Proofs.YtkmdbpaeeagccaaGreatDoor
open Go.RowKit
structure Turn (S : Nat → Prop) (w w' : World) : Prop where
  os : w'.os = w.os
  tape : w'.tape = w.tape
  output : w'.output = w.output
  size : w.heap.size ≤ w'.heap.size
  block : ∀ k,k < w.heap.size → ¬ S k → w'.heap[k]? = w.heap[k]?
theorem Turn.refl (S : Nat → Prop) (w : World) : Turn S w w:=⟨rfl,rfl,rfl,Nat.le_refl _,fun _ _ _=>rfl⟩
theorem Turn.trans {S : Nat → Prop} {a b c : World} (h : Turn S a b) (k : Turn (fun i=>S i ∨ a.heap.size ≤ i) b c) : Turn S a c :=
  ⟨k.os.trans h.os,k.tape.trans h.tape,k.output.trans h.output,Nat.le_trans h.size k.size,fun i hi hn=>(k.block i (Nat.lt_of_lt_of_le hi h.size) (fun h'=>by rcases h' with h' | h'; exact hn h'; omega)).trans (h.block i hi hn)⟩
theorem Turn.trans' {S : Nat → Prop} {a b c : World} (h : Turn S a b) (k : Turn S b c) : Turn S a c :=
  ⟨k.os.trans h.os,k.tape.trans h.tape,k.output.trans h.output,Nat.le_trans h.size k.size,fun i hi hn=>(k.block i (Nat.lt_of_lt_of_le hi h.size) hn).trans (h.block i hi hn)⟩
theorem Turn.mono {S S' : Nat → Prop} {a b : World} (h : Turn S a b) (hs : ∀ i,i < a.heap.size → S i → S' i) : Turn S' a b :=
  ⟨h.os,h.tape,h.output,h.size,fun i hi hn=>h.block i hi (fun h'=>hn (hs i hi h'))⟩
theorem Turn.of {S : Nat → Prop} {a b : World} (h : Below a.heap.size a b) : Turn S a b:=⟨h.os,h.tape,h.output,h.size,fun k hk _=>h.block k hk⟩
theorem Turn.but {g : Nat} {a b : World} (h : But g a b) : Turn (· = g) a b:=⟨h.os,h.tape,h.output,h.size,fun k hk hn=>h.block k hk hn⟩
theorem Turn.grown {r : Option Nat} {a b : World} (h : a.grownBy b r) : Turn (fun k=>r = some k) a b:=⟨h.os,h.tape,h.output,h.size,fun k hk hn=>h.block k hk (fun e=>hn e.symm)⟩
theorem Turn.below {S : Nat → Prop} {B : Nat} {a b : World} (h : Turn S a b) (hB : B ≤ a.heap.size) (hs : ∀ k,k < B → ¬ S k) : Below B a b :=
  ⟨h.os,h.tape,h.output,h.size,fun k hk=>h.block k (by omega) (hs k hk)⟩
theorem Turn.drew {S : Nat → Prop} {a b : World} (h : Turn S a b) : Turn S a b.drew:=⟨h.os,h.tape,h.output,h.size,h.block⟩
theorem Turn.alloc {S : Nat → Prop} {a b : World} (h : Turn S a b) (o : Obj) : Turn S a (b.alloc o):=h.trans' (Turn.of (bnew _ _))
theorem Turn.setCell {S : Nat → Prop} {a b : World} (h : Turn S a b) {g : Nat} (hg : S g ∨ a.heap.size ≤ g) (o : Nat) (v : Value) : Turn S a (b.setCell ⟨g,o,none⟩ v) :=
  h.trans ((Turn.but ((But.refl g b).setCell o v)).mono fun i _ e=>by subst e; exact hg)
theorem Turn.blk {S : Nat → Prop} {a b : World} (h : Turn S a b) {g : Nat} {cur : Array Value} {t : TypeId} (hb : Blk a g cur t) (hg : ¬ S g) : Blk b g cur t:=(h.block g (lt_of_block hb) hg).trans hb
theorem Turn.row {S : Nat → Prop} {a b : World} (h : Turn S a b) {B : Nat} {e : TypeId} {size : Nat} {v : Value} {n : Nat} {xs : List Value} (hr : a.ownsRow B e size v n xs) (hg : ∀ g,v.ownBlock = some g → ¬ S g) : b.ownsRow B e size v n xs:=by
  refine ⟨hr.1,?_⟩
  rcases hr.2 with h0 | ⟨g,cap,cur,rfl,hB,hb,r⟩
  · exact Or.inl h0
  · exact Or.inr ⟨g,cap,cur,rfl,hB,(h.block g (lt_of_block hb) (hg g rfl)).trans hb,r⟩
theorem Turn.map {H : Type} {S : Nat → Prop} {a b : World} (h : Turn S a b) {P : Program} {k : TypeId} {R : Value → Option (DataW H × List MemPlace)} {m n : Nat} {D : DataW H} (hm : a.ownsMap P k R m n D) (hg : ¬ S m) : b.ownsMap P k R m n D:=by
  have hlt:=hm.lt
  obtain ⟨es,clock,hb,r⟩:=hm
  exact ⟨es,clock,(h.block m hlt hg).trans hb,r⟩
end Go.Proofs.YtkmdbpaeeagccaaGreatDoor
namespace Go.Proofs.YtkmdbpaeeagccaaGreatDoor
open Go.RowKit
def flatS (hs : List SgD) : List Value:=hs.flatMap fun x=>[.pointer (some ⟨x.b,0,none⟩),.int .i64 x.t]
theorem flatS_append (a b : List SgD) : flatS (a ++ b) = flatS a ++ flatS b:=by simp [flatS]
theorem flatS_length (hs : List SgD) : (flatS hs).length = hs.length * 2:=by
  induction hs with
  | nil=>rfl
  | cons x r ih=>simp [flatS] at ih ⊢; omega
theorem flatS_get : ∀ (hs : List SgD) (k : Nat),k < hs.length → (flatS hs)[k * 2]? = some (.pointer (some ⟨(hget hs k).b,0,none⟩)) ∧ (flatS hs)[k * 2 + 1]? = some (.int .i64 (hget hs k).t)
  | [],k,h=>absurd h (by simp)
  | x :: r,0,_=>⟨rfl,rfl⟩
  | x :: r,k + 1,h=>by
    have ih:=flatS_get r k (by simpa using h)
    have e : flatS (x :: r) = .pointer (some ⟨x.b,0,none⟩) :: .int .i64 x.t :: flatS r:=rfl
    rw [e,show (k + 1) * 2 = k * 2 + 1 + 1 by omega,List.getElem?_cons_succ,List.getElem?_cons_succ,List.getElem?_cons_succ,List.getElem?_cons_succ]
    exact ih
theorem heapM_of_row {w : World} {B g n cap : Nat} {hs : List SgD} (h : w.ownsRow B 189 2 (.slice (some ⟨g,0,none⟩) n cap) n (flatS hs)) (hn : n = hs.length) : HeapM w g cap hs ∧ B ≤ g:=by
  rcases h.2 with ⟨e,_⟩ | ⟨g',cap',cur,e,hB,hb,h1,h2,h3,h4⟩
  · simp at e
  · simp only [Value.slice.injEq,Option.some.injEq,Addr.mk.injEq,and_true,true_and] at e
    obtain ⟨rfl,rfl⟩:=e
    refine ⟨⟨cur,hb,h3,by omega,h2,fun k hk=>?_⟩,hB⟩
    have h5 : ∀ j,j < n * 2 → cur[j]? = (flatS hs)[j]?:=fun j hj=>by rw [← h4,List.getElem?_take_of_lt hj,Array.getElem?_toList]
    rw [h5 _ (by omega),h5 _ (by omega)]
    exact flatS_get hs k hk
theorem row_of_heapM {w : World} {B g cap : Nat} {hs : List SgD} (h : HeapM w g cap hs) (hB : B ≤ g) : w.ownsRow B 189 2 (.slice (some ⟨g,0,none⟩) hs.length cap) hs.length (flatS hs):=by
  obtain ⟨cur,h1,h2,h3,h4,h5⟩:=h
  refine ⟨flatS_length hs,Or.inr ⟨g,cap,cur,rfl,hB,h1,h3,h4,h2,?_⟩⟩
  apply List.ext_getElem?
  intro j
  by_cases hj : j < hs.length * 2
  · rw [List.getElem?_take_of_lt hj,Array.getElem?_toList]
    obtain ⟨q1,q2⟩:=h5 (j / 2) (by omega)
    obtain ⟨r1,r2⟩:=flatS_get hs (j / 2) (by omega)
    rcases Nat.mod_two_eq_zero_or_one j with e | e
    · have : j = j / 2 * 2:=by omega
      rw [this,q1,r1]
    · have : j = j / 2 * 2 + 1:=by omega
      rw [this,q2,r2]
  · rw [List.getElem?_eq_none (by simp; omega),List.getElem?_eq_none (by rw [flatS_length]; omega)]
theorem info_sight : (Tryz.prog.info? 189).map (fun i=>(i.zero,i.size,i.bytes)) = some (some (.agg #[.pointer none,.int .i64 0]),2,16):=by kernel_rfl
set_option maxHeartbeats 1000000 in
theorem before_any (p q : Value) (s t : Int) (w : World) : Calls Tryz.prog 205 #[.agg #[p,.int .i64 s],.agg #[q,.int .i64 t]] w fun e w'=>e = .returned (.bool (decide (s < t))) ∧ Below w.heap.size w w':=by
  go_enter Tryz.func205,Tryz.ntmps205
  go_wp2
  go_ret
  exact ⟨rfl,bto (bnew _ _) (bnew _ _)⟩
theorem invokeBefore (x y : Value) (w : World) : (invoke (.fn (.method "loop.example/s02176/impl.before") #[]) #[.iface 189 x, y]).run Tryz.prog w = .ok (.enter 205 #[x, y]) w := by kernel_rfl
theorem wpQuiet_enter {P : Program} {ops : Array Oper} {C : World → Prop} {Q : Act → Prop} {a : Act} {o : Oper} {rest : List Oper} {f : FuncId} {args : Array Value} {v : Value} (hw : Region.wanted o (yielded ops a.tmps) = true)
    (hx : ∀ w,(execOp a.eval o).run P w = .ok (.enter f args) w) (hc : ∀ w,C w → Calls P f args w (fun e w''=>e = .returned v ∧ C w'')) (h : wpQuiet P ops C Q rest (a.put o.dst v)) : wpQuiet P ops C Q (o :: rest) a :=
  BigFrame.wpQuiet_want hw fun K hK=>⟨v,fun w hw=>by unfold Oper.quietAt; rw [hx]; exact ⟨rfl,hc w hw⟩,hK _ h⟩
theorem exec_invoke {P : Program} (ρ : Operand → Value) (o : Oper) (r y : Operand) (name : String) (ts : Array TypeId) (ho : o.op = .call { callee:=.invoke r name,args:=#[y],argTypes:=ts }) {u z : Value} (hr : ρ r = u) (hy : ρ y = z) {n : Next} {w : World}
    (h : (invoke (.fn (.method name) #[]) #[u,z]).run P w = .ok n w) : (execOp ρ o).run P w = .ok n w:=by
  unfold execOp
  simp only [ho,resolve]
  simp [hr,hy,h]
set_option maxRecDepth 100000 in
set_option maxHeartbeats 4000000 in
theorem push_any (x o B : Nat) (v : Value) (hs : List SgD) (s : SgD) (w : World) (cx : Array Value) (tx : TypeId) (hX : Blk w x cx tx) (ho : cx[o]? = some v) (hown : w.ownsRow B 189 2 v hs.length (flatS hs)) (hsep : v.ownBlock ≠ some x) (hB : B ≤ w.heap.size) (hn : hs.length ≤ 1000000000) :
    Calls Tryz.prog 123 #[.pointer (some ⟨x,o,none⟩),.agg #[.pointer (some ⟨s.b,0,none⟩),.int .i64 s.t]] w fun e w'=>e = .returned (.tuple #[]) ∧ ∃ g cap,Blk w' x (cx.setIfInBounds o (.slice (some ⟨g,0,none⟩) (hs.length + 1) cap)) tx ∧
      w'.ownsRow B 189 2 (.slice (some ⟨g,0,none⟩) (hs.length + 1) cap) (hs.length + 1) (flatS (pushL hs s)) ∧ (v.ownBlock = some g ∨ w.heap.size ≤ g) ∧ Turn (fun k=>k = x ∨ v.ownBlock = some k) w w':=by
  obtain ⟨i0,hi,hz0,hz1,hz2⟩:=info_parts info_sight
  have c0 : w.cell? ⟨x,o,none⟩ = some v:=by rw [hX.cell]; exact ho
  have f0:=hX.free o
  have hxl:=lt_of_block hX
  have HX : Hid (Blk w x cx tx):=hX
  clear hX
  have OWN : Hid (((w.alloc (.cells #[.pointer (some ⟨s.b,0,none⟩),.int .i64 s.t] 189)).alloc (.cells #[.pointer (some ⟨s.b,0,none⟩),.int .i64 s.t] 189)).ownsRow B 189 2 v hs.length (flatS hs)):=hid ((hown.alloc _).alloc _)
  have NEW : Hid (((w.alloc (.cells #[.pointer (some ⟨s.b,0,none⟩),.int .i64 s.t] 189)).alloc (.cells #[.pointer (some ⟨s.b,0,none⟩),.int .i64 s.t] 189)).heap[w.heap.size + 1]? = some (.cells #[.pointer (some ⟨s.b,0,none⟩),.int .i64 s.t] 189 (0,0))):=hid (by have:=heap_alloc_new (w.alloc (.cells #[.pointer (some ⟨s.b,0,none⟩),.int .i64 s.t] 189)) (.cells #[.pointer (some ⟨s.b,0,none⟩),.int .i64 s.t] 189); simpa using this)
  have KEEP : Hid (∀ w1 : World,((w.alloc (.cells #[.pointer (some ⟨s.b,0,none⟩),.int .i64 s.t] 189)).alloc (.cells #[.pointer (some ⟨s.b,0,none⟩),.int .i64 s.t] 189)).grownBy w1 v.ownBlock → Blk w1 x cx tx ∧ Turn (fun k=>v.ownBlock = some k) w w1):=fun w1 h=>by
    have ht:=(Turn.of (S:=fun k=>v.ownBlock = some k) (bto (bnew w _) (bnew _ _))).trans' (Turn.grown h)
    exact ⟨ht.blk HX.out hsep,ht⟩
  clear f0 hown
  go_enter Tryz.func123,Tryz.ntmps123
  go_upto_region 1 with fail
  go_cut [13] (fun _ wx=>∃ g cap,Blk wx x (cx.setIfInBounds o (.slice (some ⟨g,0,none⟩) (hs.length + 1) cap)) tx ∧ HeapM wx g cap (hs ++ [s]) ∧ B ≤ g ∧ (v.ownBlock = some g ∨ w.heap.size ≤ g) ∧ g ≠ x ∧ Turn (fun k=>k = x ∨ v.ownBlock = some k) w wx)
  case first =>
    go_region_law (refine step_append_lies _ rfl (.tmp 10) (.tmp 12) 143 rfl B 189 i0 (.agg #[.pointer none,.int .i64 0]) 2 16 Tryz.underlying143 hi hz0 hz1 hz2 rfl (by decide) v hs.length (flatS hs) (by simp [Act.eval]) (by exact OWN.out) ⟨w.heap.size + 1,0,none⟩ 1 1 [.pointer (some ⟨s.b,0,none⟩),.int .i64 s.t] (by simp [Act.eval]) rfl (World.news_of_block (cs:=#[.pointer (some ⟨s.b,0,none⟩),.int .i64 s.t]) (by exact NEW.out)) (by intro u hu; simp at hu; rcases hu with rfl | rfl <;> rfl) (by omega) (by unfold maxLen; omega) (by omega) (by simp; omega) (w.heap.size + 1 + 1) (by simp) ?_; intro g cap w1 hrow hgr hloc hlt; obtain ⟨hx1,ht1⟩:=KEEP.out w1 ⟨hgr.os,hgr.tape,hgr.output,hgr.size,hgr.block⟩; have c1 : w1.cell? ⟨x,o,none⟩ = some v:=(by rw [hx1.cell]; exact ho); have f1:=hx1.free o)
    all_goals (go_wp2_with fail; go_meet)
    all_goals
      have hr2 : w1.ownsRow B 189 2 (.slice (some ⟨g,0,none⟩) (hs.length + 1) cap) (hs.length + 1) (flatS (hs ++ [s])):=by rw [flatS_append]; exact hrow
      obtain ⟨hM,hBg⟩:=heapM_of_row hr2 (by simp)
      have hne : g ≠ x:=by
        rcases hloc with h | h
        · exact fun e=>hsep (by rw [← e]; exact h)
        · omega
      obtain ⟨cur,m1,m2⟩:=hM
      exact ⟨g,cap,hx1.set o _,⟨cur,m1.but ((But.refl _ _).setCell _ _) hne,m2⟩,hBg,by rcases hloc with h | h; exact Or.inl h; exact Or.inr (by omega),hne,Turn.setCell (S:=fun k=>k = x ∨ v.ownBlock = some k) (ht1.mono fun k _ hk=>Or.inr hk) (Or.inl (Or.inl rfl)) _ _⟩
  obtain ⟨g,cap,hx1,hM1,hBg,hloc,hne,ht1⟩:=hcut
  rename World=>w1
  have HX1 : Hid (Blk w1 x (cx.setIfInBounds o (.slice (some ⟨g,0,none⟩) (hs.length + 1) cap)) tx):=hx1
  have HM1 : Hid (HeapM w1 g cap (hs ++ [s])):=hM1
  have HT1 : Hid (Turn (fun k=>k = x ∨ v.ownBlock = some k) w w1):=ht1
  have HLOC : Hid (v.ownBlock = some g ∨ w.heap.size ≤ g):=hloc
  have hoc : o < cx.size:=(Array.getElem?_eq_some_iff.1 ho).1
  have hcx : (cx.setIfInBounds o (.slice (some ⟨g,0,none⟩) (hs.length + 1) cap))[o]? = some (.slice (some ⟨g,0,none⟩) (hs.length + 1) cap):=by simp [hoc]
  obtain ⟨cx1,hcd⟩ : ∃ c,c = cx.setIfInBounds o (.slice (some ⟨g,0,none⟩) (hs.length + 1) cap):=⟨_,rfl⟩
  rw [← hcd] at hcx HX1
  have HCD : Hid (cx1 = cx.setIfInBounds o (.slice (some ⟨g,0,none⟩) (hs.length + 1) cap)):=hcd
  clear hcd
  have k0 : w1.cell? ⟨x,o,none⟩ = some (.slice (some ⟨g,0,none⟩) (hs.length + 1) cap):=by rw [HX1.out.cell]; exact hcx
  clear hx1 hM1 ht1 hloc OWN NEW KEEP HX c0 ho hi hz0 hz1 hz2 hsep
  go_wp2
  go_loopw [4] (fun a wr=>∃ (k : Nat) (l : List SgD),a = .int .i64 k ∧ k < l.length ∧ l.length = hs.length + 1 ∧ Blk wr x cx1 tx ∧ HeapM wr g cap l ∧ Hid (pushL hs s = siftUp l k) ∧ Turn (fun k=>k = x ∨ v.ownBlock = some k) w wr) (fun a _=>(intOf a).toNat)
  case atStart=>exact ⟨hs.length,hs ++ [s],by go_num,by simp,by simp,HX1.out,HM1.out,rfl,HT1.out⟩
  case round =>
    obtain ⟨k,l,rfl,hk,hl,hx2,hM2,HS,ht2⟩:=hrel
    have HX2 : Hid (Blk wr x cx1 tx):=hx2
    have HM2 : Hid (HeapM wr g cap l):=hM2
    have HT2 : Hid (Turn (fun k=>k = x ∨ v.ownBlock = some k) w wr):=ht2
    have k1 : wr.cell? ⟨x,o,none⟩ = some (.slice (some ⟨g,0,none⟩) (hs.length + 1) cap):=by rw [hx2.cell]; exact hcx
    clear hx2 hM2 ht2 k0
    by_cases h0 : 0 < k
    · have hst:=siftUp_step (l:=l) h0
      obtain ⟨q,hqd⟩ : ∃ q,q = (k - 1) / 2:=⟨_,rfl⟩
      rw [← hqd] at hst
      have hq : ((k : Int) - 1) / 2 = (q : Nat):=by omega
      have hp : q < l.length:=by omega
      have hqk : q < k:=by omega
      have h1 : (1 : Int) ≤ k:=by omega
      obtain ⟨a0,a1,_,_⟩:=HM2.out.cells hk
      obtain ⟨b0,b1,_,_⟩:=HM2.out.cells hp
      have HST : Hid (siftUp l k = if (hget l k).t < (hget l q).t then siftUp (swapL l k q) q else l):=hst
      have HSW : Hid (∀ W,Below wr.heap.size wr W → Calls Tryz.prog 145 #[.pointer (some ⟨x,o,none⟩),.int .i64 k,.int .i64 (((k : Int) - 1) / 2)] W fun e w'=>e = .returned (.tuple #[]) ∧ HeapM w' g cap (swapL l k q) ∧ But g W w') :=
        fun W hW=>by rw [hq]; exact swap_any x o g (hs.length + 1) cap k q l W (by rw [(HX2.out.later hW).cell]; exact hcx) hl.symm (HM2.out.later hW) (by omega) (by omega)
      have HL : Hid (l.length = hs.length + 1):=hl
      have hkn : k < hs.length + 1:=by omega
      have hqn : q < hs.length + 1:=by omega
      clear hst hqd hl
      have d0:=Later.cells k1
      have d1:=Later.cells a0
      have d2:=Later.cells a1
      have d3:=Later.cells b0
      have d4:=Later.cells b1
      have hnel:=Later.there wr
      clear a0 a1 b0 b1 k1
      generalize hget l k = A at *
      generalize hget l q = C at *
      go_wp2_with fail
      refine wp_region_later (by kernel_rfl) (by kernel_rfl) ?_
      repeat (go_big_quiet_step (fail))
      refine wpQuiet_enter (by rfl) (fun W=>exec_invoke _ _ _ _ _ _ rfl rfl rfl (invokeBefore _ _ W)) (by rintro _ ⟨x,rfl⟩; exact calls_later (before_any _ _ _ _ _)) ?_
      simp only [Act.put,List.setIfInBounds_toArray,List.set_cons_succ,List.set_cons_zero]
      repeat (go_big_quiet_step (fail))
      refine wpQuiet_nil ?_
      rintro _ ⟨y,rfl⟩
      have HY : Hid (Below wr.heap.size wr y.w'):=y.h
      have HE : Hid ((((k : Int) - 1) / 2) = (q : Nat)):=hq
      clear d0 d1 d2 d3 d4 hnel hq
      generalize y.w' = W2 at *
      clear y
      by_cases hAC : A.t < C.t
      · have hd : decide (A.t < C.t) = true:=by simpa using hAC
        rw [hd]
        have HS2 : Hid (pushL hs s = siftUp (swapL l k q) q):=by show _ = _; rw [HS.out,HST.out,if_pos hAC]
        go_wp2_with fail
        refine (HSW.out _ HY.out).mono ?_
        rintro e w3 ⟨rfl,hM3,hb3⟩
        have HM3 : Hid (HeapM w3 g cap (swapL l k q)):=hM3
        have HX3 : Hid (Blk w3 x cx1 tx):=(HX2.out.later HY.out).but hb3 hne.symm
        have HT3 : Hid (Turn (fun k=>k = x ∨ v.ownBlock = some k) w w3):=by
          refine (HT2.out.trans' (Turn.of HY.out)).trans ((Turn.but hb3).mono fun i _ e=>?_)
          subst e
          rcases HLOC.out with h | h
          · exact Or.inl (Or.inr h)
          · exact Or.inr h
        clear hM3 hb3 HSW
        go_wp2
        exact ⟨⟨q,swapL l k q,by rw [HE.out],by rw [swapL_length]; exact hp,by rw [swapL_length]; exact HL.out,HX3.out,HM3.out,HS2.out,HT3.out⟩,by simp [intOf]; omega⟩
      · have hd : decide (A.t < C.t) = false:=by simpa using hAC
        rw [hd]
        have HS2 : Hid (pushL hs s = l):=by show _ = _; rw [HS.out,HST.out,if_neg hAC]
        go_wp2
        refine bodyPost_ret (v:=.tuple #[]) (by simp [results,Tryz.results123,go_sem]) rfl ⟨rfl,g,cap,HCD.out ▸ HX2.out.later HY.out,?_,HLOC.out,HT2.out.trans' (Turn.of HY.out)⟩
        rw [HS2.out,← HL.out]
        exact row_of_heapM (HM2.out.later HY.out) hBg
    · go_wp2
      go_end0
      obtain rfl : k = 0:=by omega
      rw [HS.out,siftUp_zero]
      refine ⟨rfl,g,cap,HCD.out ▸ HX2.out,?_,HLOC.out,HT2.out⟩
      rw [← hl]
      exact row_of_heapM HM2.out hBg
end Go.Proofs.YtkmdbpaeeagccaaGreatDoor
