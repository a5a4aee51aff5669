import Derived.Test.YtkmdbpaeeagccaaGreatDoorJ18ISlm
import Derived.Test.YtkmdbpaeeagccaaGreatDoorJ05HpP
import Derived.Test.YtkmdbpaeeagccaaGreatDoorProg
import Derived.Test.YtkmdbpaeeagccaaGreatDoorJ14Met
import Derived.Test.YtkmdbpaeeagccaaGreatDoorJ17TkL
import Derived.Deep.RegionLaw
namespace Go.Proofs.YtkmdbpaeeagccaaGreatDoor
def midTs (win now : Int) (left : ByteArray → Bool) (ts : List TenD) : List TenD:=(ts.map fun t=>if left t.name = true then t else keptT win now t).filter fun t=>left t.name || !idleB t
theorem mid_name {win now : Int} {left : ByteArray → Bool} (t : TenD) : (if left t.name = true then t else keptT win now t).name = t.name:=by split <;> rfl
theorem midTs_all {win now : Int} {left : ByteArray → Bool} {ts : List TenD} (h : ∀ t ∈ ts,left t.name = true) : midTs win now left ts = ts:=by
  have h1 : ts.map (fun t=>if left t.name = true then t else keptT win now t) = ts:=by
    have : ∀ t ∈ ts,(if left t.name = true then t else keptT win now t) = id t:=fun t ht=>by rw [if_pos (h t ht)]; rfl
    rw [List.map_congr_left this,List.map_id]
  unfold midTs
  rw [h1]
  exact List.filter_eq_self.2 fun t ht=>by rw [h t ht]; rfl
theorem midTs_none {win now : Int} {left : ByteArray → Bool} {ts : List TenD} (h : ∀ n,left n = false) : midTs win now left ts = keptTs win now ts:=by
  unfold midTs keptTs
  simp only [h,Bool.false_or,Bool.false_eq_true,if_false]
theorem midTs_cons {win now : Int} {left : ByteArray → Bool} {p : TenD} {r : List TenD} : midTs win now left (p :: r) = if (left p.name || !idleB (if left p.name = true then p else keptT win now p)) = true then (if left p.name = true then p else keptT win now p) :: midTs win now left r else midTs win now left r:=by
  unfold midTs
  rw [List.map_cons,List.filter_cons,mid_name]
theorem midTs_mem {win now : Int} {left : ByteArray → Bool} {ts : List TenD} {q : TenD} (h : q ∈ midTs win now left ts) : ∃ t ∈ ts,q = (if left t.name = true then t else keptT win now t) ∧ q.name = t.name:=by
  have:=(List.mem_filter.1 h).1
  obtain ⟨t,ht,rfl⟩:=List.mem_map.1 this
  exact ⟨t,ht,rfl,mid_name t⟩
theorem midTs_congr {win now : Int} {left left' : ByteArray → Bool} {ts : List TenD} (h : ∀ t ∈ ts,left t.name = left' t.name) : midTs win now left ts = midTs win now left' ts:=by
  induction ts with
  | nil=>rfl
  | cons p r ih =>
    rw [midTs_cons,midTs_cons,ih fun t ht=>h t (List.mem_cons_of_mem _ ht),h p (List.mem_cons_self ..)]
theorem midTs_step {win now : Int} {left left' : ByteArray → Bool} {ts : List TenD} (hr : RiseBy (·.name) ts) {t : TenD} (ht : t ∈ ts) (hl : left t.name = true) (hl' : ∀ n,left' n = (left n && !(n.toList == t.name.toList))) :
    midTs win now left' ts = if idleB (keptT win now t) = true then delBy (·.name) t.name (midTs win now left ts) else insBy (·.name) (keptT win now t) (midTs win now left ts):=by
  induction ts with
  | nil=>cases ht
  | cons p r ih =>
    have hself : left' t.name = false:=by rw [hl',(same_iff t.name t.name).2 rfl]; simp
    have hoth : ∀ n,n ≠ t.name → left' n = left n:=fun n hne=>by rw [hl',same_not hne]; simp
    rcases List.mem_cons.1 ht with rfl | ht
    · have hrest : midTs win now left' r = midTs win now left r:=midTs_congr fun q hq=>hoth q.name (fun e=>blt_ne (hr.head q hq) e.symm)
      have hne : ∀ q ∈ midTs win now left r,q.name ≠ t.name:=fun q hq=>by
        obtain ⟨s,hs,_,e⟩:=midTs_mem hq
        rw [e]
        exact fun e'=>blt_ne (hr.head s hs) e'.symm
      rw [midTs_cons,midTs_cons,hself,hl,hrest]
      simp only [Bool.false_eq_true,if_false,Bool.false_or,if_true,Bool.true_or]
      by_cases hi : idleB (keptT win now t) = true
      · rw [if_pos hi,hi]
        have hd : delBy (·.name) t.name (midTs win now left r) = midTs win now left r:=List.filter_eq_self.2 fun q hq=>by rw [same_not (hne q hq)]; rfl
        unfold delBy at hd ⊢
        rw [List.filter_cons_of_neg (by simp),hd]
        simp
      · have hi' : idleB (keptT win now t) = false:=by simpa using hi
        rw [if_neg hi,hi',if_pos (by rfl),insBy,if_neg (by show ¬ blt t.name t.name = true; rw [blt_irrefl]; simp),if_pos (by exact (same_iff t.name t.name).2 rfl)]
    · have hb:=hr.head t ht
      have hpn : p.name ≠ t.name:=blt_ne hb
      have ihr:=ih hr.tail ht
      rw [midTs_cons,midTs_cons,hoth p.name hpn,ihr]
      by_cases hk : (left p.name || !idleB (if left p.name = true then p else keptT win now p)) = true
      · rw [if_pos hk,if_pos hk]
        have hn:=mid_name (win:=win) (now:=now) (left:=left) p
        generalize (if left p.name = true then p else keptT win now p) = q at *
        by_cases hi : idleB (keptT win now t) = true
        · rw [if_pos hi,if_pos hi]
          unfold delBy
          rw [List.filter_cons_of_pos (by show (!(q.name.toList == t.name.toList)) = true; rw [hn,same_not hpn]; rfl)]
        · rw [if_neg hi,if_neg hi,insBy,if_pos (by show blt q.name t.name = true; rw [hn]; exact hb)]
      · rw [if_neg hk,if_neg hk]
def tickL (win now : Int) (ts : List TenD) (by_ : Int) : Int × List TenD × Bool:=if by_ < 1 ∨ 1000000000000 - now < by_ then (now,ts,false) else (now + by_,keptTs win (now + by_) ts,true)
theorem tickL_eq {c : CfgD} {now : Int} {ts : List TenD} (h : stateB c now ts = true) (by_ : Int) : tickV c now ts by_ = tickL c.w now ts by_:=by
  unfold tickV tickL
  rw [if_neg (by rw [h]; simp)]
theorem keptT_all {win now u : Int} {t : TenD} {xs : List PairD} (hu : u = now - win) (hk : xs.filter (fun p=>decide (u < p.n)) = t.sers.filter (fun p=>decide (u < p.n))) (ha : ∀ p ∈ xs,u < p.n) : keptT win now t = ⟨t.name,t.limit,t.mets,xs⟩:=by
  unfold keptT
  have e : (fun p : PairD=>decide (now - p.n < win)) = fun p=>decide (u < p.n):=by
    funext p
    rw [decide_eq_decide]
    omega
  rw [e,← hk,List.filter_eq_self.2 fun p hp=>decide_eq_true (ha p hp)]
theorem delBy_perm {α : Type} {key : α → ByteArray} {l : List α} (hr : RiseBy key l) {a : α} (h : a ∈ l) : (a :: delBy key (key a) l).Perm l:=by
  induction l with
  | nil=>cases h
  | cons p r ih =>
    unfold delBy at ih ⊢
    rcases List.mem_cons.1 h with rfl | h
    · rw [List.filter_cons_of_neg (by simp)]
      have : r.filter (fun q=>!((key q).toList == (key a).toList)) = r:=List.filter_eq_self.2 fun q hq=>by rw [same_not (fun e=>blt_ne (hr.head q hq) e.symm)]; rfl
      rw [this]
    · rw [List.filter_cons_of_pos (by rw [same_not (blt_ne (hr.head a h))]; rfl)]
      exact (List.Perm.swap _ _ _).trans ((ih hr.tail h).cons p)
theorem cntM_del {met : ByteArray → ByteArray} {l : List PairD} (hr : RiseBy (·.s) l) {p : PairD} (h : p ∈ l) (m : ByteArray) : cntM met l m = cntM met (delBy (·.s) p.s l) m + if met p.s = m then 1 else 0:=by
  rw [← cntM_cons]
  exact cntM_perm (delBy_perm hr h).symm m
end Go.Proofs.YtkmdbpaeeagccaaGreatDoor
namespace Go.Proofs.YtkmdbpaeeagccaaGreatDoor
def childL (l : List SgD) (k : Nat) : Nat:=if 2 * k + 2 < l.length ∧ (hget l (2 * k + 2)).t < (hget l (2 * k + 1)).t then 2 * k + 2 else 2 * k + 1
theorem childL_two (l : List SgD) (k : Nat) : childL l k = 2 * k + 1 ∨ childL l k = 2 * k + 2:=by
  unfold childL
  split
  · exact Or.inr rfl
  · exact Or.inl rfl
theorem childL_first {l : List SgD} {k i : Nat} (h0 : 0 < i) (hi : i < l.length) (hp : (i - 1) / 2 = k) : childL l k < l.length ∧ (hget l (childL l k)).t ≤ (hget l i).t:=by
  have hi2 : i = 2 * k + 1 ∨ i = 2 * k + 2:=by omega
  unfold childL
  split
  · rename_i h
    refine ⟨h.1,?_⟩
    rcases hi2 with rfl | rfl
    · omega
    · exact Int.le_refl _
  · rename_i h
    refine ⟨by omega,?_⟩
    rcases hi2 with rfl | rfl
    · exact Int.le_refl _
    · have : ¬ (hget l (2 * k + 2)).t < (hget l (2 * k + 1)).t:=fun h'=>h ⟨hi,h'⟩
      omega
def HeapDn (l : List SgD) (k : Nat) : Prop:=(∀ i,0 < i → i < l.length → (i - 1) / 2 ≠ k → (hget l ((i - 1) / 2)).t ≤ (hget l i).t) ∧ ∀ i,0 < i → i < l.length → (i - 1) / 2 = k → 0 < k → (hget l ((k - 1) / 2)).t ≤ (hget l i).t
theorem HeapDn.done {l : List SgD} {k : Nat} (h : HeapDn l k) (hk : ¬ (childL l k < l.length ∧ (hget l (childL l k)).t < (hget l k).t)) : HeapOK l:=by
  intro i h0 hi
  by_cases e : (i - 1) / 2 = k
  · obtain ⟨h1,h2⟩:=childL_first h0 hi e
    rw [e]
    have : ¬ (hget l (childL l k)).t < (hget l k).t:=fun h'=>hk ⟨h1,h'⟩
    omega
  · exact h.1 i h0 hi e
theorem HeapDn.step {l : List SgD} {k : Nat} (h : HeapDn l k) (hc : childL l k < l.length) (hlt : (hget l (childL l k)).t < (hget l k).t) : HeapDn (swapL l k (childL l k)) (childL l k):=by
  have h2:=childL_two l k
  have hfirst : ∀ i,0 < i → i < l.length → (i - 1) / 2 = k → (hget l (childL l k)).t ≤ (hget l i).t:=fun i h0 hi e=>(childL_first h0 hi e).2
  generalize childL l k = c at *
  have hck : (c - 1) / 2 = k:=by omega
  have hk : k < l.length:=by omega
  refine ⟨fun i hi0 hi hne=>?_,fun i hi0 hi hpi _=>?_⟩
  · rw [swapL_length] at hi
    rw [hget_swap hk hc,hget_swap hk hc,if_neg hne]
    by_cases e1 : i = c
    · subst e1
      rw [if_pos rfl,if_pos hck]
      omega
    · rw [if_neg e1]
      by_cases e2 : (i - 1) / 2 = k
      · rw [if_pos e2,if_neg (by omega : i ≠ k)]
        exact hfirst i hi0 hi e2
      · rw [if_neg e2]
        by_cases e3 : i = k
        · subst e3
          rw [if_pos rfl]
          exact h.2 c (by omega) hc hck hi0
        · rw [if_neg e3]
          exact h.1 i hi0 hi e2
  · rw [swapL_length] at hi
    rw [hget_swap hk hc,hget_swap hk hc,hck,if_neg (by omega : k ≠ c),if_pos rfl,if_neg (by omega : i ≠ c),if_neg (by omega : i ≠ k)]
    have:=h.1 i hi0 hi (by omega)
    rw [hpi] at this
    exact this
def siftDnN : Nat → List SgD → Nat → List SgD
  | 0,l,_=>l
  | n + 1,l,k=>if childL l k < l.length ∧ (hget l (childL l k)).t < (hget l k).t then siftDnN n (swapL l k (childL l k)) (childL l k) else l
theorem siftDnN_more : ∀ (n m k : Nat) (l : List SgD),l.length - k ≤ n → l.length - k ≤ m → siftDnN n l k = siftDnN m l k
  | 0,0,_,_,_,_=>rfl
  | 0,m + 1,k,l,hn,_=>by
    have:=childL_two l k
    rw [siftDnN,siftDnN,if_neg fun h=>by omega]
  | n + 1,0,k,l,_,hm=>by
    have:=childL_two l k
    rw [siftDnN,siftDnN,if_neg fun h=>by omega]
  | n + 1,m + 1,k,l,hn,hm=>by
    have h2:=childL_two l k
    rw [siftDnN,siftDnN]
    by_cases h : childL l k < l.length ∧ (hget l (childL l k)).t < (hget l k).t
    · rw [if_pos h,if_pos h]
      exact siftDnN_more n m _ _ (by rw [swapL_length]; omega) (by rw [swapL_length]; omega)
    · rw [if_neg h,if_neg h]
def siftDn (l : List SgD) (k : Nat) : List SgD:=siftDnN (l.length - k) l k
theorem siftDn_go {l : List SgD} {k : Nat} (h : childL l k < l.length ∧ (hget l (childL l k)).t < (hget l k).t) : siftDn l k = siftDn (swapL l k (childL l k)) (childL l k):=by
  have h2:=childL_two l k
  obtain ⟨n,hn⟩ : ∃ n,l.length - k = n + 1:=⟨l.length - k - 1,by have:=h.1; omega⟩
  unfold siftDn
  rw [hn,siftDnN,if_pos h]
  exact siftDnN_more _ _ _ _ (by rw [swapL_length]; omega) (by rw [swapL_length]; omega)
theorem siftDn_end {l : List SgD} {k : Nat} (h : ¬ (childL l k < l.length ∧ (hget l (childL l k)).t < (hget l k).t)) : siftDn l k = l:=by
  unfold siftDn
  cases l.length - k with
  | zero=>rfl
  | succ n=>rw [siftDnN,if_neg h]
theorem siftDn_says : ∀ (n k : Nat) (l : List SgD),l.length - k ≤ n → k ≤ l.length → HeapDn l k → HeapOK (siftDn l k) ∧ (siftDn l k).Perm l ∧ (siftDn l k).length = l.length
  | 0,k,l,hn,hk,h=>by
    have hno : ¬ (childL l k < l.length ∧ (hget l (childL l k)).t < (hget l k).t):=fun hh=>by
      have:=childL_two l k
      have:=hh.1
      omega
    rw [siftDn_end hno]
    exact ⟨h.done hno,List.Perm.refl _,rfl⟩
  | n + 1,k,l,hn,hk,h=>by
    by_cases hh : childL l k < l.length ∧ (hget l (childL l k)).t < (hget l k).t
    · have h2:=childL_two l k
      rw [siftDn_go hh]
      obtain ⟨a,b,c⟩:=siftDn_says n (childL l k) (swapL l k (childL l k)) (by rw [swapL_length]; have:=hh.1; omega) (by rw [swapL_length]; have:=hh.1; omega) (h.step hh.1 hh.2)
      exact ⟨a,b.trans (swapL_perm (by have:=hh.1; omega) hh.1),c.trans (swapL_length _ _ _)⟩
    · rw [siftDn_end hh]
      exact ⟨h.done hh,List.Perm.refl _,rfl⟩
def cutL (l : List SgD) : List SgD:=(swapL l 0 (l.length - 1)).take (l.length - 1)
def popL (l : List SgD) : List SgD:=siftDn (cutL l) 0
theorem cutL_length (l : List SgD) : (cutL l).length = l.length - 1:=by simp [cutL,swapL_length]
theorem cutL_get {l : List SgD} (h : 0 < l.length) {i : Nat} (hi : i < l.length - 1) : hget (cutL l) i = if i = 0 then hget l (l.length - 1) else hget l i:=by
  have e : hget (cutL l) i = hget (swapL l 0 (l.length - 1)) i:=by simp [cutL,hget,List.getD,List.getElem?_take_of_lt hi]
  rw [e,hget_swap h (by omega),if_neg (by omega)]
theorem cutL_dn {l : List SgD} (h : HeapOK l) (h0 : 0 < l.length) : HeapDn (cutL l) 0:=by
  refine ⟨fun i hi0 hi hne=>?_,fun _ _ _ _ hk=>absurd hk (Nat.lt_irrefl _)⟩
  rw [cutL_length] at hi
  rw [cutL_get h0 hi,cutL_get h0 (by omega),if_neg hne,if_neg (by omega)]
  exact h i hi0 (by omega)
theorem cutL_perm {l : List SgD} (h : 0 < l.length) : (hget l 0 :: cutL l).Perm l:=by
  have hp:=swapL_perm (l:=l) (i:=0) (j:=l.length - 1) h (by omega)
  have hl : (swapL l 0 (l.length - 1)).length = l.length:=swapL_length _ _ _
  have hlast : (swapL l 0 (l.length - 1)).drop (l.length - 1) = [hget l 0]:=by
    have hi : l.length - 1 < (swapL l 0 (l.length - 1)).length:=by omega
    rw [List.drop_eq_getElem_cons hi,← hget_eq hi,hget_swap h (by omega),if_pos rfl,List.drop_eq_nil_of_le (by omega)]
  have e : cutL l ++ [hget l 0] = swapL l 0 (l.length - 1):=by rw [← hlast]; exact List.take_append_drop _ _
  exact (List.perm_append_singleton (hget l 0) (cutL l)).symm.trans (e ▸ hp)
theorem popL_says {l : List SgD} (h : HeapOK l) (h0 : 0 < l.length) : HeapOK (popL l) ∧ (hget l 0 :: popL l).Perm l ∧ (popL l).length = l.length - 1:=by
  obtain ⟨a,b,c⟩:=siftDn_says (cutL l).length 0 (cutL l) (by omega) (Nat.zero_le _) (cutL_dn h h0)
  exact ⟨a,(b.cons _).trans (cutL_perm h0),c.trans (cutL_length l)⟩
theorem heap_top {l : List SgD} (h : HeapOK l) : ∀ (n i : Nat),i ≤ n → i < l.length → (hget l 0).t ≤ (hget l i).t
  | 0,i,hn,_=>by
    obtain rfl : i = 0:=by omega
    exact Int.le_refl _
  | n + 1,i,hn,hi=>by
    by_cases e : i = 0
    · subst e; exact Int.le_refl _
    · exact Int.le_trans (heap_top h n ((i - 1) / 2) (by omega) (by omega)) (h i (by omega) hi)
theorem top_le {l : List SgD} (h : HeapOK l) {x : SgD} (hx : x ∈ l) : (hget l 0).t ≤ x.t:=by
  obtain ⟨i,hi,rfl⟩:=List.getElem_of_mem hx
  have:=heap_top h i i (Nat.le_refl _) hi
  rw [hget_eq hi] at this
  exact this
end Go.Proofs.YtkmdbpaeeagccaaGreatDoor
namespace Go.Proofs.YtkmdbpaeeagccaaGreatDoor
open Go.RowKit Go.Maps
theorem own_size {H : Type} {P : Program} {w : World} {k : TypeId} {R : Value → Option (DataW H × List MemPlace)} {b n : Nat} {D : DataW H} (h : w.ownsMap P k R b n D) : Maps.size D ≤ n:=by
  obtain ⟨es,clock,hb,F,hs,rfl⟩:=h
  rw [size_eq,length_sorted,List.length_map,Array.length_toList]
  exact hs
theorem own_one {H : Type} {P : Program} {w : World} {k : TypeId} {R : Value → Option (DataW H × List MemPlace)} {b n n' : Nat} {D D' : DataW H} (h : w.ownsMap P k R b n D) (h' : w.ownsMap P k R b n' D') : D = D':=by
  obtain ⟨es,clock,hb,F,hs,rfl⟩:=h
  obtain ⟨es',clock',hb',F',hs',rfl⟩:=h'
  rw [hb] at hb'
  simp only [Option.some.injEq,Obj.map.injEq] at hb'
  rw [hb'.1]
theorem own_over {w : World} {cm n M : Nat} {D : DataW Unit} {m : ByteArray} {c d : Int} (h : w.ownsMap Tryz.prog 9 (plainElem Tryz.prog 3) cm n (D.put (kL m) (iVal d))) (hT : Tidy D) (hD : Maps.size D ≤ M) (hat : D.atKey (kL m) (iVal 0) = iVal c) (hc : c ≠ 0) : w.ownsMap Tryz.prog 9 (plainElem Tryz.prog 3) cm M (D.put (kL m) (iVal d)):=by
  have hh : has D (kL m) = true:=by
    cases e : has D (kL m) with
    | true=>rfl
    | false =>
      rw [atKey_of_not_has e] at hat
      simp [iVal] at hat
      exact absurd hat.symm hc
  have:=tight h
  rw [Maps.size_put hT,hh,if_pos rfl] at this
  exact this.mono hD
structure Popped (w w1 : World) (x : Nat) (lim : Int) (lm sm cm : Nat) (iv iv' : Value) (hs : List SgD) : Prop where
  blk : Blk w1 x #[.int .i64 lim,.map (some lm),.map (some sm),.map (some cm),iv'] 147
  row : w1.ownsRow 0 189 2 iv' (hs.length - 1) (flatS (popL hs))
  same : iv'.ownBlock = iv.ownBlock
  turn : Turn (fun k=>k = x ∨ iv.ownBlock = some k) w w1
theorem IdxS.top {w : World} {S : Nat → Prop} {x : Nat} {t : TenD} {M lm sm cm : Nat} {iv : Value} {Q : List (PairD × Nat)} {hs : List SgD} {D : DataW Unit} (h : IdxS w S x t M lm sm cm iv Q hs D) (h0 : 0 < hs.length) : ∃ q ∈ Q,q.2 = (hget hs 0).b:=by
  have : (hget hs 0).b ∈ Q.map (·.2):=h.perm.mem_iff.1 (List.mem_map.2 ⟨hget hs 0,by rw [hget_eq h0]; exact List.getElem_mem h0,rfl⟩)
  obtain ⟨q,hq,e⟩:=List.mem_map.1 this
  exact ⟨q,hq,e⟩
theorem popL_perm {hs : List SgD} {Q : List (PairD × Nat)} {q : PairD × Nat} (hh : HeapOK hs) (h0 : 0 < hs.length) (hp : (hs.map (·.b)).Perm (Q.map (·.2))) (hrq : RiseBy (fun q : PairD × Nat=>q.1.s) Q) (hq : q ∈ Q) (hb : q.2 = (hget hs 0).b) :
    ((popL hs).map (·.b)).Perm ((delBy (fun q : PairD × Nat=>q.1.s) q.1.s Q).map (·.2)):=by
  obtain ⟨_,p2,_⟩:=popL_says hh h0
  have h1 : (q.2 :: (popL hs).map (·.b)).Perm (Q.map (·.2)):=by
    rw [hb]
    exact (p2.map (·.b)).trans hp
  have h2 : (q.2 :: (delBy (fun q : PairD × Nat=>q.1.s) q.1.s Q).map (·.2)).Perm (Q.map (·.2)):=(delBy_perm hrq hq).map (fun q : PairD × Nat=>q.2)
  exact (List.perm_cons _).1 (h1.trans h2.symm)
theorem IdxS.dropped {w w1 w4 : World} {S : Nat → Prop} {x : Nat} {t : TenD} {M lm sm cm n : Nat} {iv iv' : Value} {Q : List (PairD × Nat)} {hs : List SgD} {D : DataW Unit} {q : PairD × Nat} {c : Nat} (h : IdxS w S x t M lm sm cm iv Q hs D) (h0 : 0 < hs.length) (hq : q ∈ Q) (hb : q.2 = (hget hs 0).b)
    (hp : Popped w w1 x t.limit lm sm cm iv iv' hs) (t4 : Turn (fun k=>k = sm ∨ k = cm) w1 w4) (own2 : w4.ownsMap Tryz.prog 9 ptrElem sm n (DataW.del (mapOf (Q.map fun q=>(q.1.s,pVal q.2))) (kL q.1.s)))
    (own4 : w4.ownsMap Tryz.prog 9 (plainElem Tryz.prog 3) cm M (D.put (kL (metK q.1.s)) (iVal c))) (hc : cntM metK t.sers (metK q.1.s) = c + 1) :
    IdxS w4 S x ⟨t.name,t.limit,t.mets,delBy (·.s) q.1.s t.sers⟩ M lm sm cm iv' (delBy (fun q : PairD × Nat=>q.1.s) q.1.s Q) (popL hs) (D.put (kL (metK q.1.s)) (iVal c)) ∧ Turn S w w4:=by
  have nx1 : sm ≠ x:=map_ne_cells h.sers h.blk
  have nx2 : cm ≠ x:=map_ne_cells h.cnts h.blk
  have nx0 : lm ≠ x:=map_ne_cells h.lims h.blk
  have ni0:=map_ne_row h.lims h.row
  have ni1:=map_ne_row h.sers h.row
  have ni2:=map_ne_row h.cnts h.row
  have hrq : RiseBy (fun q : PairD × Nat=>q.1.s) Q:=by
    rw [← riseBy_map (key':=fun p : PairD=>p.s) (fun q : PairD × Nat=>q.1) (fun _=>rfl),h.q1]
    exact h.rs
  obtain ⟨p1,p2,p3⟩:=popL_says h.heap h0
  have hq1 : q.1 ∈ t.sers:=by rw [← h.q1]; exact List.mem_map_of_mem hq
  have hmem : ∀ p ∈ delBy (fun q : PairD × Nat=>q.1.s) q.1.s Q,p ∈ Q:=fun p hp=>(mem_delBy.1 hp).1
  have hdel : DataW.del (mapOf (Q.map fun q=>(q.1.s,pVal q.2))) (kL q.1.s) = mapOf ((delBy (fun q : PairD × Nat=>q.1.s) q.1.s Q).map fun q=>(q.1.s,pVal q.2)) :=
    del_by (key:=fun q : PairD × Nat=>q.1.s) (fun q=>pVal q.2) q.1.s Q
  have hkeep : ∀ g,¬ (g = x ∨ iv.ownBlock = some g) → ¬ (g = sm ∨ g = cm) → g < w.heap.size → w4.heap[g]? = w.heap[g]?:=fun g e1 e2 hg=>by
    rw [t4.block g (by have:=hp.turn.size; omega) e2,hp.turn.block g hg e1]
  refine ⟨?_,?_⟩
  · exact {
      blk:=t4.blk hp.blk (fun e=>by rcases e with e | e; exact nx1 e.symm; exact nx2 e.symm)
      lims:=t4.map (hp.turn.map h.lims (fun e=>by rcases e with e | e; exact nx0 e; exact ni0 e)) (fun e=>by rcases e with e | e; exact h.d1 e; exact h.d2 e)
      sers:=by
        have:=tight own2
        rw [hdel,size_by] at this
        exact this
      cnts:=own4
      cnt:=fun m=>by
        have hd:=cntM_del (met:=metK) h.rs hq1 m
        by_cases e : metK q.1.s = m
        · rw [if_pos e] at hd
          rw [← e,atKey_put_same (k:=kL (metK q.1.s)) h.cnts.isMap trivial]
          rw [← e] at hd
          have : cntM metK (delBy (·.s) q.1.s t.sers) (metK q.1.s) = c:=by omega
          rw [this]
        · rw [if_neg e] at hd
          rw [atKey_put_other (fun e'=>e (kL_inj e').symm),h.cnt m,hd]
          rfl
      q1:=by rw [delBy_map (key':=fun p : PairD=>p.s) (fun q : PairD × Nat=>q.1) (fun _=>rfl),h.q1]
      cells:=fun p hp'=>by
        have hpq:=hmem p hp'
        refine (hkeep p.2 (fun e=>?_) (fun e=>?_) (lt_of_block (h.cells p hpq))).trans (h.cells p hpq)
        · rcases e with e | e
          · exact h.dx p hpq e
          · exact (h.di _ e).2 p hpq rfl
        · rcases e with e | e
          · exact map_ne_cells h.sers (h.cells p hpq) e.symm
          · exact map_ne_cells h.cnts (h.cells p hpq) e.symm
      row:=by
        rw [p3]
        exact t4.row hp.row (fun g hg e=>by
          rw [hp.same] at hg
          rcases e with rfl | rfl
          · exact ni1 hg
          · exact ni2 hg)
      heap:=p1
      perm:=popL_perm h.heap h0 h.perm hrq hq hb
      early:=fun s hs' p hp' e=>h.early s (p2.mem_iff.1 (List.mem_cons_of_mem _ hs')) p (hmem p hp') e
      rm:=h.rm
      rs:=delBy_rise h.rs
      sx:=h.sx
      sl:=h.sl
      ss:=h.ss
      sc:=h.sc
      sq:=fun p hp'=>h.sq p (hmem p hp')
      si:=fun g hg=>h.si g (by rw [← hp.same]; exact hg)
      d1:=h.d1
      d2:=h.d2
      d3:=h.d3
      nd:=h.nd.sublist (List.Sublist.map _ List.filter_sublist)
      dx:=fun p hp'=>h.dx p (hmem p hp')
      di:=fun g hg=>⟨(h.di g (by rw [← hp.same]; exact hg)).1,fun p hp'=>(h.di g (by rw [← hp.same]; exact hg)).2 p (hmem p hp')⟩ }
  · refine (hp.turn.mono fun k _ e=>by rcases e with rfl | e; exact h.sx; exact h.si _ e).trans' (t4.mono fun k _ e=>?_)
    rcases e with rfl | rfl
    · exact h.ss
    · exact h.sc
theorem IdxS.again {w w1 w4 : World} {S : Nat → Prop} {x : Nat} {t : TenD} {M lm sm cm : Nat} {iv iv' : Value} {Q : List (PairD × Nat)} {hs : List SgD} {D : DataW Unit} {q : PairD × Nat} {g cap B : Nat} (h : IdxS w S x t M lm sm cm iv Q hs D) (h0 : 0 < hs.length) (hq : q ∈ Q) (hb : q.2 = (hget hs 0).b)
    (hp : Popped w w1 x t.limit lm sm cm iv iv' hs)
    (hb4 : Blk w4 x #[.int .i64 t.limit,.map (some lm),.map (some sm),.map (some cm),.slice (some ⟨g,0,none⟩) ((popL hs).length + 1) cap] 147)
    (hr4 : w4.ownsRow 0 189 2 (.slice (some ⟨g,0,none⟩) ((popL hs).length + 1) cap) ((popL hs).length + 1) (flatS (pushL (popL hs) ⟨q.2,q.1.n⟩))) (hloc : iv'.ownBlock = some g ∨ w1.heap.size ≤ g) (t4 : Turn (fun k=>k = x ∨ iv'.ownBlock = some k) w1 w4) (hB : B ≤ w.heap.size) (hS : ∀ g,B ≤ g → w.heap.size ≤ g → S g) :
    IdxS w4 S x t M lm sm cm (.slice (some ⟨g,0,none⟩) ((popL hs).length + 1) cap) Q (pushL (popL hs) ⟨q.2,q.1.n⟩) D ∧ Turn S w w4:=by
  have nx1 : sm ≠ x:=map_ne_cells h.sers h.blk
  have nx2 : cm ≠ x:=map_ne_cells h.cnts h.blk
  have nx0 : lm ≠ x:=map_ne_cells h.lims h.blk
  have ni0:=map_ne_row h.lims h.row
  have ni1:=map_ne_row h.sers h.row
  have ni2:=map_ne_row h.cnts h.row
  obtain ⟨p1,p2,p3⟩:=popL_says h.heap h0
  obtain ⟨r1,r2,r3⟩:=pushL_says p1 ⟨q.2,q.1.n⟩
  have hsz:=hp.turn.size
  have t14 : Turn (fun k=>k = x ∨ iv.ownBlock = some k) w w4:=hp.turn.trans' (t4.mono fun k _ e=>by rw [← hp.same]; exact e)
  have qlt : ∀ q ∈ Q,q.2 < w.heap.size:=fun q hq=>lt_of_block (h.cells q hq)
  have hxl:=lt_of_block h.blk
  have hloc' : iv.ownBlock = some g ∨ w.heap.size ≤ g:=by
    rcases hloc with e | e
    · exact Or.inl (by rw [← hp.same]; exact e)
    · exact Or.inr (by omega)
  refine ⟨?_,?_⟩
  · exact { h with
      blk:=hb4
      lims:=t14.map h.lims (fun e=>by rcases e with e | e; exact nx0 e; exact ni0 e)
      sers:=t14.map h.sers (fun e=>by rcases e with e | e; exact nx1 e; exact ni1 e)
      cnts:=t14.map h.cnts (fun e=>by rcases e with e | e; exact nx2 e; exact ni2 e)
      cells:=fun p hp'=>t14.blk (h.cells p hp') (fun e=>by
        rcases e with e | e
        · exact h.dx p hp' e
        · exact (h.di _ e).2 p hp' rfl)
      row:=by rw [r3]; exact hr4
      heap:=r1
      perm:=by
        refine (r2.map _).trans ?_
        rw [List.map_cons]
        show (q.2 :: (popL hs).map (·.b)).Perm _
        rw [hb]
        exact (p2.map (·.b)).trans h.perm
      early:=fun s hs' p hp' e=>by
        rcases List.mem_cons.1 (r2.mem_iff.1 hs') with rfl | hs'
        · have:=nodup_inj h.nd hp' hq e
          rw [this]
          exact Int.le_refl _
        · exact h.early s (p2.mem_iff.1 (List.mem_cons_of_mem _ hs')) p hp' e
      si:=fun g' hg'=>by
        simp only [Value.ownBlock,Option.some.injEq] at hg'
        subst hg'
        rcases hloc' with e | e
        · exact h.si g e
        · exact hS g (by omega) e
      di:=fun g' hg'=>by
        simp only [Value.ownBlock,Option.some.injEq] at hg'
        subst hg'
        rcases hloc' with e | e
        · exact h.di g e
        · exact ⟨by omega,fun p hp'=>by have:=qlt p hp'; omega⟩ }
  · exact t14.mono fun k _ e=>by
      rcases e with rfl | e
      · exact h.sx
      · exact h.si _ e
theorem late_pop {hs : List SgD} {u : Int} (hh : HeapOK hs) (h0 : 0 < hs.length) (ht : (hget hs 0).t ≤ u) : (popL hs).countP (fun s=>decide (s.t ≤ u)) + 1 = hs.countP (fun s=>decide (s.t ≤ u)):=by
  obtain ⟨_,p2,_⟩:=popL_says hh h0
  rw [← p2.countP_eq,List.countP_cons_of_pos (by simpa using ht)]
theorem late_push {hs : List SgD} {u : Int} {s : SgD} (hh : HeapOK hs) (hs' : u < s.t) : (pushL hs s).countP (fun s=>decide (s.t ≤ u)) = hs.countP (fun s=>decide (s.t ≤ u)):=by
  obtain ⟨_,q2,_⟩:=pushL_says hh s
  rw [q2.countP_eq,List.countP_cons_of_neg (by simp; omega)]
theorem least_is {R : Nat → Prop} (h : ∃ n,R n) : ∃ m,R m ∧ ∀ k,R k → m ≤ k:=by
  obtain ⟨n,hn⟩:=h
  induction n using Nat.strongRecOn with
  | _ n ih =>
    by_cases hk : ∃ k,k < n ∧ R k
    · obtain ⟨k,hk,hr⟩:=hk
      exact ih k hk hr
    · exact ⟨n,hn,fun k hr=>Nat.le_of_not_lt fun hlt=>hk ⟨k,hlt,hr⟩⟩
end Go.Proofs.YtkmdbpaeeagccaaGreatDoor
namespace Go.Proofs.YtkmdbpaeeagccaaGreatDoor
open Go.RowKit Go.Maps
theorem step_enterD {P : Program} {w : World} {ops : Array Oper} {o : Oper} {a : Act} {K : Act → World → Prop} {Q : Exit → Act → World → Prop} {E : Prop} {f : FuncId} {args : Array Value} (hgd : o.guard = none) (hx : (execOp a.eval o).run P w = .ok (.enter f args) w)
    (h : Calls P f args w (fun e w'=>∃ v,e = .returned v ∧ K (a.put o.dst v) w')) : if Region.wanted o (yielded ops a.tmps) = true then Oper.wp P o a w K Q else E:=by
  have hw : Region.wanted o (yielded ops a.tmps) = true:=by simp [Region.wanted,hgd]
  rw [if_pos hw]
  unfold Oper.wp
  rw [hx]
  refine h.mono ?_
  rintro e w' ⟨v,rfl,hK⟩
  exact hK
set_option maxRecDepth 100000 in
set_option maxHeartbeats 4000000 in
theorem drop_any (x lm sm cm : Nat) (lim : Int) (iv : Value) (key : ByteArray) (Q : List (PairD × Nat)) (D : DataW Unit) (M c : Nat) (w : World) (hX : Blk w x #[.int .i64 lim,.map (some lm),.map (some sm),.map (some cm),iv] 147)
    (hs : w.ownsMap Tryz.prog 9 ptrElem sm Q.length (mapOf (Q.map fun q=>(q.1.s,pVal q.2)))) (hc : w.ownsMap Tryz.prog 9 (plainElem Tryz.prog 3) cm M D) (hat : D.atKey (kL (metK key)) (iVal 0) = iVal ((c + 1 : Nat) : Int)) (hd : sm ≠ cm) (hk : key.size ≤ 1000000000) (hM : M ≤ 1000000000) (hc9 : c ≤ 1000000000) (hU : ∀ W,Turn (· = sm) w W → UTab W) :
    Calls Tryz.prog 125 #[.pointer (some ⟨x,0,none⟩),.string key] w fun e w'=>e = .returned (.tuple #[]) ∧ w'.ownsMap Tryz.prog 9 ptrElem sm Q.length (DataW.del (mapOf (Q.map fun q=>(q.1.s,pVal q.2))) (kL key)) ∧ w'.ownsMap Tryz.prog 9 (plainElem Tryz.prog 3) cm M (D.put (kL (metK key)) (iVal c)) ∧ Turn (fun k=>k = sm ∨ k = cm) w w':=by
  have HK : Hid (keyOf Tryz.prog 9 (.string key) = some (kL key)):=key_mk (by unfold maxLen; omega)
  have HKM : Hid (keyOf Tryz.prog 9 (.string (metK key)) = some (kL (metK key))):=key_mk (metK_size key)
  have HMT : Hid (∀ W,UTab W → Calls Tryz.prog 96 #[.string key] W fun e w'=>e = .returned (.string (metK key)) ∧ Below W.heap.size W w'):=fun W hW=>implMet_any key W hk hW
  obtain ⟨n1,hn1⟩ : ∃ n1,n1 = c + 1:=⟨_,rfl⟩
  rw [← hn1] at hat
  have hn2 : (n1 : Int) - 1 = (c : Nat):=by omega
  have hn0 : (n1 : Int) ≠ 0:=by omega
  have hn3 : 1 ≤ (n1 : Int):=by omega
  have hn9 : n1 ≤ 1000000001:=by omega
  have hwc : IntKind.i64.wrap ((c : Nat) : Int) = (c : Nat):=by
    simp only [IntKind.wrap,IntKind.bits,IntKind.signed]
    simp
    omega
  have HLK : Hid (∀ W,W.ownsMap Tryz.prog 9 (plainElem Tryz.prog 3) cm M D → (Instr.lookup 141 (.map (some cm)) (.string (metK key)) false).run Tryz.prog W = .ok (.int .i64 (n1 : Int)) W):=fun W h=>look_cnt h hat (metK_size key)
  have HX:=hid hX
  have HS:=hid hs
  have HC:=hid hc
  have HAT:=hid hat
  have HU:=hid hU
  have nx1 : sm ≠ x:=map_ne_cells hs hX
  have x2 : w.cell? ⟨x,2,none⟩ = some (.map (some sm)):=hX.cell 2
  have HCS : Hid (∀ W,W.ownsMap Tryz.prog 9 (plainElem Tryz.prog 3) cm M D → ∃ w4,(Instr.mapUpdate 141 (.map (some cm)) (.string (metK key)) (.int .i64 (c : Nat))).run Tryz.prog W = .ok () w4 ∧ w4.ownsMap Tryz.prog 9 (plainElem Tryz.prog 3) cm M (D.put (kL (metK key)) (iVal c)) ∧ Turn (· = cm) W w4):=fun W h=>by
    obtain ⟨w4,run4,own4,tn4⟩:=h.store keyed Tryz.underlying141 (by unfold maxLen; omega) (val:=.int .i64 (c : Nat)) HKM.out (plainElem_int Tryz.underlying3 (WalkArith.wf_i64 (by omega)))
    exact ⟨w4,run4,own_over own4 (h.tidy keyed) (own_size h) hat hn0,Turn.mapped tn4⟩
  clear hX hs hc hat hU hn1
  generalize metK key = mk at *
  go_enter Tryz.func125,Tryz.ntmps125
  go_upto_region 1 with (at_delete; refine wpList_delete_own _ rfl _ _ 142 9 rfl 150 keyed Tryz.underlying142 ptrElem sm _ _ rfl HS.out _ _ rfl HK.out ?_; intro w1 hown1 hturn1)
  have ht1:=Turn.mapped hturn1
  have O1:=hid hown1
  have T1:=hid ht1
  have X1 : Hid (Blk w1 x #[.int .i64 lim,.map (some lm),.map (some sm),.map (some cm),iv] 147):=ht1.blk HX.out nx1.symm
  have C1 : Hid (w1.ownsMap Tryz.prog 9 (plainElem Tryz.prog 3) cm M D):=ht1.map HC.out hd.symm
  have U1 : Hid (UTab w1):=HU.out w1 ht1
  have x3 : w1.cell? ⟨x,3,none⟩ = some (.map (some cm)):=X1.out.cell 3
  clear hown1 hturn1 ht1 HX HS HC HU x2
  have hd1 : w1.drew.heap.size = w1.heap.size:=rfl
  go_region_law (refine step_enterD (f:=96) (args:=#[.string key]) rfl (by go_simp) ?_; refine (HMT.out _ (U1.out.later (Below.refl _ _).drew)).mono ?_; rintro e w2 ⟨rfl,hb2⟩; have b2 : Below w1.heap.size w1 w2:=(bto (Below.refl w1.heap.size w1).drew hb2); have C2:=(Turn.of (S:=fun _=>False) b2).map C1.out (fun e=>e); have hl:=HLK.out w2 C2; obtain ⟨w4,run4,own4,tn4⟩:=HCS.out w2 C2; have x4 : w2.cell? ⟨x,3,none⟩ = some (.map (some cm)):=(X1.out.later b2).cell 3; refine ⟨_,rfl,?_⟩)
  all_goals (go_wp2; go_end0)
  all_goals exact ⟨rfl,tn4.map ((Turn.of (S:=fun _=>False) b2).map O1.out (fun e=>e)) hd,own4,((T1.out.mono fun i _ e=>Or.inl e).trans' (Turn.of b2)).trans' (tn4.mono fun i _ e=>Or.inr e)⟩
end Go.Proofs.YtkmdbpaeeagccaaGreatDoor
