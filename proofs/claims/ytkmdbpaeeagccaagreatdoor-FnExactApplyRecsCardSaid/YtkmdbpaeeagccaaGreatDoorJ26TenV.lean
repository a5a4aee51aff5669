import Derived.Test.YtkmdbpaeeagccaaGreatDoorJ17TkL
import Derived.Test.YtkmdbpaeeagccaaGreatDoorJ02LabB
import Derived.Test.YtkmdbpaeeagccaaGreatDoorJ05HpP
namespace Go.Proofs.YtkmdbpaeeagccaaGreatDoor
def wStep (t : TenD) (s : List TenD × Bool) (p : TenD) : List TenD × Bool :=
  (s.1 ++ (if s.2 = true then [] else if blt p.name t.name = true then [] else [t]) ++ (if (p.name.toList == t.name.toList) = true then [] else [p]),if s.2 = true then true else !blt p.name t.name)
def wUpto (t : TenD) (b : Bool) (ps : List TenD) : List TenD × Bool:=ps.foldl (wStep t) ([],b)
def wAll (t : TenD) (b : Bool) (ps : List TenD) : List TenD:=(wUpto t b ps).1 ++ if (wUpto t b ps).2 = true then [] else [t]
theorem wUpto_take (t : TenD) (b : Bool) (ps : List TenD) (k : Nat) (h : k < ps.length) : wUpto t b (ps.take (k + 1)) = wStep t (wUpto t b (ps.take k)) ps[k]:=by
  rw [List.take_succ_eq_append_getElem h,wUpto,List.foldl_append]; rfl
theorem wUpto_acc (t : TenD) (ps : List TenD) : ∀ (acc : List TenD) (b : Bool),ps.foldl (wStep t) (acc,b) = (acc ++ (ps.foldl (wStep t) ([],b)).1,(ps.foldl (wStep t) ([],b)).2):=by
  induction ps with
  | nil=>intro acc b; simp
  | cons p r ih =>
    intro acc b
    simp only [List.foldl_cons]
    rw [ih (wStep t (acc,b) p).1 (wStep t (acc,b) p).2,ih (wStep t ([],b) p).1 (wStep t ([],b) p).2]
    simp [wStep]
theorem wAll_cons (t p : TenD) (r : List TenD) (b : Bool) : wAll t b (p :: r) = (wStep t ([],b) p).1 ++ wAll t (wStep t ([],b) p).2 r:=by
  unfold wAll wUpto
  rw [List.foldl_cons,wUpto_acc t r (wStep t ([],b) p).1 (wStep t ([],b) p).2]
  simp
theorem wAll_placed {t : TenD} {ps : List TenD} (h : ∀ p ∈ ps,p.name ≠ t.name) : wAll t true ps = ps:=by
  induction ps with
  | nil=>rfl
  | cons p r ih =>
    rw [wAll_cons]
    have h1 : (p.name.toList == t.name.toList) = false:=same_not (h p (List.mem_cons_self ..))
    simp only [wStep,h1,if_true,List.nil_append]
    simp [ih fun q hq=>h q (List.mem_cons_of_mem _ hq)]
theorem wAll_ins {t : TenD} {ps : List TenD} (hr : RiseBy (·.name) ps) : wAll t false ps = insBy (·.name) t ps:=by
  induction ps with
  | nil=>rfl
  | cons p r ih =>
    have ihr:=ih hr.tail
    rw [wAll_cons,insBy]
    by_cases h2 : blt p.name t.name = true
    · have h3 : (p.name.toList == t.name.toList) = false:=same_not (blt_ne h2)
      simp only [wStep,h2,h3,if_true]
      simp [ihr]
    · have h2' : blt p.name t.name = false:=by simpa using h2
      have hnone : ∀ q ∈ r,q.name ≠ t.name:=fun q hq e=>by
        have hb:=hr.head q hq
        rw [e] at hb
        exact h2 hb
      by_cases h3 : p.name = t.name
      · have h4 : (p.name.toList == t.name.toList) = true:=(same_iff _ _).2 h3
        simp only [wStep,h2',h4,if_true]
        simp [wAll_placed hnone]
      · have h4 : (p.name.toList == t.name.toList) = false:=same_not h3
        simp only [wStep,h2',h4]
        simp [wAll_placed hnone]
theorem kts_take (win now : Int) (ts : List TenD) (k : Nat) (h : k < ts.length) : keptTs win now (ts.take (k + 1)) = keptTs win now (ts.take k) ++ if idleB (keptT win now ts[k]) = true then [] else [keptT win now ts[k]]:=by
  rw [List.take_succ_eq_append_getElem h,keptTs,List.map_append,List.filter_append]
  congr 1
  by_cases e : idleB (keptT win now ts[k]) = true
  · rw [if_pos e]
    simp [e]
  · rw [if_neg e]
    simp [e]
theorem kts_le (win now : Int) (ts : List TenD) (k : Nat) : (keptTs win now (ts.take k)).length ≤ ts.length:=by
  unfold keptTs
  have h1:=List.length_filter_le (fun t=>!idleB t) ((ts.take k).map (keptT win now))
  rw [List.length_map,List.length_take] at h1
  omega
theorem wAll_mem {t : TenD} {b : Bool} {ps : List TenD} {q : TenD} (h : q ∈ wAll t b ps) : q = t ∨ q ∈ ps:=by
  induction ps generalizing b with
  | nil =>
    unfold wAll wUpto at h
    simp only [List.foldl_nil,List.nil_append] at h
    cases b with
    | true=>cases h
    | false=>exact Or.inl (by simpa using h)
  | cons p r ih =>
    rw [wAll_cons,List.mem_append] at h
    rcases h with h | h
    · unfold wStep at h
      simp only [List.nil_append,List.mem_append] at h
      rcases h with h | h
      · by_cases hb : b = true
        · rw [if_pos hb] at h; cases h
        · rw [if_neg hb] at h
          by_cases h2 : blt p.name t.name = true
          · rw [if_pos h2] at h; cases h
          · rw [if_neg h2] at h; exact Or.inl (by simpa using h)
      · by_cases h2 : (p.name.toList == t.name.toList) = true
        · rw [if_pos h2] at h; cases h
        · rw [if_neg h2] at h; exact Or.inr (by simp at h; simp [h])
    · rcases ih h with h | h
      · exact Or.inl h
      · exact Or.inr (List.mem_cons_of_mem _ h)
end Go.Proofs.YtkmdbpaeeagccaaGreatDoor
namespace Go.Proofs.YtkmdbpaeeagccaaGreatDoor
open Go.RowKit
structure TV where
  t : TenD
  a1 : Option Addr
  c1 : Nat
  a2 : Option Addr
  c2 : Nat
def flatV (ys : List TV) : List Value:=ys.flatMap fun y=>[.string y.t.name,.int .i64 y.t.limit,.slice y.a1 y.t.mets.length y.c1,.slice y.a2 y.t.sers.length y.c2]
theorem flatV_append (a b : List TV) : flatV (a ++ b) = flatV a ++ flatV b:=by simp [flatV]
def PartsV (w : World) (b : Nat) (T : Nat → Nat) (ys : List TV) : Prop :=
  ∀ i (h : i < ys.length),PairsTag w b T (2 * i + 1) ys[i].a1 ys[i].t.mets ∧ PairsTag w b T (2 * i + 2) ys[i].a2 ys[i].t.sers
def RowV (w : World) (b : Nat) (e : TypeId) (v : Value) (n : Nat) (ts : List TenD) : Prop :=
  ∃ T ys,w.ownsRow b e 4 v n (flatV ys) ∧ ys.map (·.t) = ts ∧ (∀ g,v.ownBlock = some g → T g = 0) ∧ PartsV w b T ys
theorem RowV.nil (w : World) (b : Nat) (e : TypeId) : RowV w b e (.slice none 0 0) 0 [] :=
  ⟨fun _=>0,[],World.ownsRow_nil _ _ _ _,rfl,fun _ _=>rfl,fun i h=>absurd h (by simp)⟩
theorem RowV.row {w : World} {b : Nat} {e : TypeId} {v : Value} {n : Nat} {ts : List TenD} (h : RowV w b e v n ts) : ∃ a c,v = .slice a n c:=by
  obtain ⟨_,_,h,_⟩:=h
  rcases h.2 with ⟨rfl,rfl⟩ | ⟨g,cap,cur,rfl,_⟩
  · exact ⟨none,0,rfl⟩
  · exact ⟨_,_,rfl⟩
theorem RowV.lt {w : World} {b : Nat} {e : TypeId} {v : Value} {n : Nat} {ts : List TenD} (h : RowV w b e v n ts) : ∀ g,v.ownBlock = some g → b ≤ g ∧ g < w.heap.size:=by
  obtain ⟨_,_,h,_⟩:=h
  exact fun g hg=>h.lt g hg
theorem RowV.turn {w w' : World} {S : Nat → Prop} {b : Nat} {e : TypeId} {v : Value} {n : Nat} {ts : List TenD} (h : RowV w b e v n ts) (ht : Turn S w w') (hS : ∀ g,S g → g < b) : RowV w' b e v n ts:=by
  obtain ⟨T,ys,h1,h2,h3,h4⟩:=h
  refine ⟨T,ys,ht.row h1 (fun g hg e=>by have:=(h1.lt g hg).1; have:=hS g e; omega),h2,h3,fun i hi=>?_⟩
  have hk : ∀ g,g < w.heap.size → b ≤ g → w'.heap[g]? = w.heap[g]?:=fun g hg hb=>ht.block g hg (fun e=>by have:=hS g e; omega)
  exact ⟨(h4 i hi).1.keep fun g hg hb hT=>⟨hk g hg hb,hT⟩,(h4 i hi).2.keep fun g hg hb hT=>⟨hk g hg hb,hT⟩⟩
theorem RowV.snoc {wr w4 w6 : World} {b M gg cap k : Nat} {e : TypeId} {v : Value} {T : Nat → Nat} {ys : List TV} {ts : List TenD} {t : TenD} {a1 a2 : Option Addr} {c1 c2 : Nat}
    (hrow : w6.ownsRow b e 4 (.slice (some ⟨gg,0,none⟩) (k + 1) cap) (k + 1) (flatV ys ++ [.string t.name,.int .i64 t.limit,.slice a1 t.mets.length c1,.slice a2 t.sers.length c2]))
    (hys : ys.map (·.t) = ts) (hyk : ys.length = k) (hv : ∀ g,v.ownBlock = some g → T g = 0) (hp : PartsV wr b T ys) (hb : b ≤ wr.heap.size) (hM : wr.heap.size ≤ M)
    (hk0 : ∀ g,g < wr.heap.size → b ≤ g → v.ownBlock ≠ some g → w6.heap[g]? = wr.heap[g]?) (hk4 : ∀ g,wr.heap.size ≤ g → g < w4.heap.size → w6.heap[g]? = w4.heap[g]?)
    (h1 : PairsOwn w4 wr.heap.size a1 t.mets) (h1M : ∀ g o,a1 = some ⟨g,o,none⟩ → g < M) (h2 : PairsOwn w4 M a2 t.sers)
    (hgg : (v.ownBlock = some gg ∧ gg < wr.heap.size) ∨ w4.heap.size ≤ gg) (h4r : wr.heap.size ≤ w4.heap.size) (hM4 : M ≤ w4.heap.size) : RowV w6 b e (.slice (some ⟨gg,0,none⟩) (k + 1) cap) (k + 1) (ts ++ [t]):=by
  have own6 : ∀ {B n : Nat} {T' : Nat → Nat} {a : Option Addr} {ps : List PairD},wr.heap.size ≤ B → PairsOwn w4 B a ps → (∀ g o,a = some ⟨g,o,none⟩ → B ≤ g → g < w4.heap.size → T' g = n) → PairsTag w6 b T' n a ps:=by
    intro B n T' a ps hB h hT
    rcases h with h | ⟨g,o,cur,ty,rfl,hBg,hblk,hat⟩
    · exact Or.inl h
    · have hlt:=lt_of_block hblk
      have hke:=hk4 g (by omega) hlt
      have hc : ∀ j,w6.cell? ⟨g,j,none⟩ = w4.cell? ⟨g,j,none⟩:=fun j=>World.cell?_of_block hke
      exact Or.inr ⟨g,o,cur,ty,rfl,by omega,hT g o rfl hBg hlt,hke.trans hblk,fun i hi=>by simp only [hc]; exact hat i hi⟩
  refine ⟨fun g=>if g < wr.heap.size then T g else if g < M then 2 * k + 1 else if g < w4.heap.size then 2 * k + 2 else 0,ys ++ [⟨t,a1,c1,a2,c2⟩],?_,?_,?_,?_⟩
  · rw [flatV_append]; exact hrow
  · rw [List.map_append,hys]; rfl
  · intro g hg
    simp only [Value.ownBlock,Option.some.injEq] at hg
    subst hg
    rcases hgg with ⟨h,hl⟩ | h
    · simp only [if_pos hl]; exact hv _ h
    · simp only [if_neg (show ¬ gg < wr.heap.size by omega),if_neg (show ¬ gg < M by omega),if_neg (show ¬ gg < w4.heap.size by omega)]
  · intro i hi
    by_cases hik : i < ys.length
    · rw [List.getElem_append_left hik]
      obtain ⟨p1,p2⟩:=hp i hik
      refine ⟨p1.keep fun g hg hbg hT=>⟨hk0 g hg hbg (fun e=>by have:=hv g e; omega),by simp only [if_pos hg]; exact hT⟩,p2.keep fun g hg hbg hT=>⟨hk0 g hg hbg (fun e=>by have:=hv g e; omega),by simp only [if_pos hg]; exact hT⟩⟩
    · have e : i = k:=by simp at hi; omega
      subst e
      rw [List.getElem_append_right (by omega)]
      simp only [hyk,Nat.sub_self,List.getElem_cons_zero]
      refine ⟨own6 (Nat.le_refl _) h1 fun g o ha hg _=>?_,own6 hM h2 fun g o ha hg hl=>?_⟩
      · simp only [if_neg (show ¬ g < wr.heap.size by omega),if_pos (h1M g o ha)]
      · simp only [if_neg (show ¬ g < wr.heap.size by omega),if_neg (show ¬ g < M by omega),if_pos hl]
theorem RowV.own {w : World} {b : Nat} {e : TypeId} {a : Option Addr} {n cap : Nat} {ts : List TenD} (h : RowV w b e (.slice a n cap) n ts) (hn : ts.length = n) : TensOwn w b a ts:=by
  obtain ⟨T,ys,h1,h2,h3,h4⟩:=h
  have hyl : ys.length = n:=by rw [← hn,← h2,List.length_map]
  rcases h1.2 with ⟨_,hl⟩ | ⟨g,cap',cur,he,hB,hg,_,_,hsz,htk⟩
  · exact Or.inl (List.length_eq_zero_iff.1 (by omega))
  · simp only [Value.slice.injEq] at he
    have hT : T g = 0:=h3 g (by rw [he.1]; rfl)
    have hf : ∀ (l : List TV) i (hi : i < l.length),(flatV l)[i * 4]? = some (.string l[i].t.name) ∧ (flatV l)[i * 4 + 1]? = some (.int .i64 l[i].t.limit) ∧ (flatV l)[i * 4 + 2]? = some (.slice l[i].a1 l[i].t.mets.length l[i].c1) ∧ (flatV l)[i * 4 + 3]? = some (.slice l[i].a2 l[i].t.sers.length l[i].c2):=by
      intro l
      unfold flatV
      induction l with
      | nil=>intro i hi; exact absurd hi (by simp)
      | cons x r ih =>
        intro i hi
        cases i with
        | zero=>simp
        | succ i =>
          have:=ih i (by simpa using hi)
          simp only [List.flatMap_cons,List.cons_append,List.nil_append,List.getElem_cons_succ]
          refine ⟨?_,?_,?_,?_⟩
          · rw [show (i + 1) * 4 = i * 4 + 1 + 1 + 1 + 1 by omega,List.getElem?_cons_succ,List.getElem?_cons_succ,List.getElem?_cons_succ,List.getElem?_cons_succ]; exact this.1
          · rw [show (i + 1) * 4 + 1 = i * 4 + 1 + 1 + 1 + 1 + 1 by omega,List.getElem?_cons_succ,List.getElem?_cons_succ,List.getElem?_cons_succ,List.getElem?_cons_succ]; exact this.2.1
          · rw [show (i + 1) * 4 + 2 = i * 4 + 2 + 1 + 1 + 1 + 1 by omega,List.getElem?_cons_succ,List.getElem?_cons_succ,List.getElem?_cons_succ,List.getElem?_cons_succ]; exact this.2.2.1
          · rw [show (i + 1) * 4 + 3 = i * 4 + 3 + 1 + 1 + 1 + 1 by omega,List.getElem?_cons_succ,List.getElem?_cons_succ,List.getElem?_cons_succ,List.getElem?_cons_succ]; exact this.2.2.2
    have hc : ∀ j,j < n * 4 → w.cell? ⟨g,j,none⟩ = (flatV ys)[j]?:=fun j hj=>by
      rw [Blk.cell (show Blk w g cur e from hg) j,← Array.getElem?_toList,← htk,List.getElem?_take_of_lt hj]
    refine Or.inr ⟨g,0,cur,e,T,he.1,hB,hg,hT,fun i hi=>?_⟩
    have hiy : i < ys.length:=by omega
    have et : ts[i] = ys[i].t:=by simp only [← h2,List.getElem_map]
    obtain ⟨f0,f1,f2,f3⟩:=hf ys i hiy
    rw [et]
    refine ⟨ys[i].a1,ys[i].c1,ys[i].a2,ys[i].c2,?_,?_,?_,?_,(h4 i hiy).1,(h4 i hiy).2⟩
    · rw [Nat.zero_add,hc _ (by omega)]; exact f0
    · rw [Nat.zero_add,hc _ (by omega)]; exact f1
    · rw [Nat.zero_add,hc _ (by omega)]; exact f2
    · rw [Nat.zero_add,hc _ (by omega)]; exact f3
end Go.Proofs.YtkmdbpaeeagccaaGreatDoor
