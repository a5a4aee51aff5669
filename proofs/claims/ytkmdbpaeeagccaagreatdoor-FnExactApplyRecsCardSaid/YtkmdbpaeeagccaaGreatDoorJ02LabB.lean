import Derived.Test.YtkmdbpaeeagccaaGreatDoorJ01Own
namespace Go.Proofs.YtkmdbpaeeagccaaGreatDoor
open Go.RowKit
structure PairD where
  s : ByteArray
  n : Int
def PairsAt (w : World) (b o : Nat) (ls : List PairD) : Prop :=
  ∀ i (h : i < ls.length),w.cell? ⟨b,o + i * 2,none⟩ = some (.string ls[i].s) ∧ w.cell? ⟨b,o + i * 2 + 1,none⟩ = some (.int .i64 ls[i].n)
def PairsIn (w : World) (a : Option Addr) (ls : List PairD) : Prop:=ls = [] ∨ ∃ b o,a = some ⟨b,o,none⟩ ∧ b < w.heap.size ∧ PairsAt w b o ls
theorem PairsIn.later {w w' : World} {a : Option Addr} {ls : List PairD} (h : PairsIn w a ls) (hb : Below w.heap.size w w') : PairsIn w' a ls:=by
  rcases h with h | ⟨b,o,rfl,hlt,h⟩
  · exact Or.inl h
  · refine Or.inr ⟨b,o,rfl,Nat.lt_of_lt_of_le hlt hb.size,fun i hi=>?_⟩
    obtain ⟨h1,h2⟩:=h i hi
    exact ⟨by rw [← h1]; exact hb.cell hlt,by rw [← h2]; exact hb.cell hlt⟩
theorem PairsIn.at {w : World} {a : Option Addr} {ls : List PairD} (h : PairsIn w a ls) {i : Nat} (hi : i < ls.length) :
    ∃ b o,a = some ⟨b,o,none⟩ ∧ b < w.heap.size ∧ w.cell? ⟨b,o + i * 2,none⟩ = some (.string ls[i].s) ∧ w.cell? ⟨b,o + i * 2 + 1,none⟩ = some (.int .i64 ls[i].n):=by
  rcases h with rfl | ⟨b,o,rfl,hlt,h⟩
  · exact absurd hi (by simp)
  · exact ⟨b,o,rfl,hlt,h i hi⟩
theorem PairsIn.but {g : Nat} {w w' : World} {a : Option Addr} {l : List PairD} (h : PairsIn w a l) (hb : But g w w') (hg : l = [] ∨ ∃ b o,a = some ⟨b,o,none⟩ ∧ b ≠ g) : PairsIn w' a l:=by
  rcases hg with hg | ⟨b,o,rfl,hne⟩
  · exact Or.inl hg
  · rcases h with h | ⟨b',o',e,hlt,h⟩
    · exact Or.inl h
    · simp only [Option.some.injEq,Addr.mk.injEq,and_true] at e
      obtain ⟨rfl,rfl⟩:=e
      have hk : ∀ j,w'.cell? ⟨b,j,none⟩ = w.cell? ⟨b,j,none⟩:=fun j=>World.cell?_of_block (hb.block b hlt hne)
      exact Or.inr ⟨b,o,rfl,Nat.lt_of_lt_of_le hlt hb.size,fun i hi=>by simp only [hk]; exact h i hi⟩
theorem PairsIn.take {w : World} {a : Option Addr} {ls : List PairD} (h : PairsIn w a ls) (n : Nat) : PairsIn w a (ls.take n):=by
  rcases h with h | ⟨b,o,e,hlt,h⟩
  · exact Or.inl (by rw [h]; simp)
  · refine Or.inr ⟨b,o,e,hlt,fun i hi=>?_⟩
    rw [List.getElem_take]
    exact h i (by simp at hi; omega)
def PairsOwn (w : World) (B : Nat) (a : Option Addr) (ls : List PairD) : Prop :=
  ls = [] ∨ ∃ g o cur t,a = some ⟨g,o,none⟩ ∧ B ≤ g ∧ w.heap[g]? = some (.cells cur t (0,0)) ∧ PairsAt w g o ls
theorem PairsOwn.pairs {w : World} {B : Nat} {a : Option Addr} {ls : List PairD} (h : PairsOwn w B a ls) : PairsIn w a ls:=by
  rcases h with h | ⟨g,o,cur,t,rfl,_,hb,h⟩
  · exact Or.inl h
  · exact Or.inr ⟨g,o,rfl,lt_of_block hb,h⟩
theorem PairsOwn.later {w w' : World} {B : Nat} {a : Option Addr} {ls : List PairD} (h : PairsOwn w B a ls) (hb : Below w.heap.size w w') : PairsOwn w' B a ls:=by
  rcases h with h | ⟨g,o,cur,t,rfl,hB,hg,h⟩
  · exact Or.inl h
  · have hlt:=lt_of_block hg
    have hk : ∀ j,w'.cell? ⟨g,j,none⟩ = w.cell? ⟨g,j,none⟩:=fun j=>World.cell?_of_block (hb.block g hlt)
    exact Or.inr ⟨g,o,cur,t,rfl,hB,(hb.block g hlt).trans hg,fun i hi=>by simp only [hk]; exact h i hi⟩
theorem PairsOwn.mono {w : World} {B B' : Nat} {a : Option Addr} {ls : List PairD} (h : PairsOwn w B a ls) (hB : B' ≤ B) : PairsOwn w B' a ls:=by
  rcases h with h | ⟨g,o,cur,t,rfl,hB',hg,h⟩
  · exact Or.inl h
  · exact Or.inr ⟨g,o,cur,t,rfl,Nat.le_trans hB hB',hg,h⟩
def RowPair (cur : Array Value) (o j : Nat) (f : PairD) : Prop:=cur[o + j * 2]? = some (.string f.s) ∧ cur[o + j * 2 + 1]? = some (.int .i64 f.n)
theorem RowPair.set {cur : Array Value} {o j : Nat} {f : PairD} (h : RowPair cur o j f) {p : Nat} (hp : p < o + j * 2 ∨ o + j * 2 + 1 < p) (v : Value) : RowPair (cur.setIfInBounds p v) o j f:=by
  obtain ⟨a1,a2⟩:=h
  refine ⟨?_,?_⟩
  · rw [Array.getElem?_setIfInBounds_ne (by omega)]; exact a1
  · rw [Array.getElem?_setIfInBounds_ne (by omega)]; exact a2
theorem RowPair.made (cur : Array Value) (o j : Nat) (f : PairD) (h : o + j * 2 + 1 < cur.size) :
    RowPair ((cur.setIfInBounds (o + j * 2) (.string f.s)).setIfInBounds (o + j * 2 + 1) (.int .i64 f.n)) o j f:=by
  refine ⟨?_,?_⟩ <;> simp [Array.getElem?_setIfInBounds] <;> omega
theorem pairsAt_of_rows {w : World} {g o : Nat} {cur : Array Value} {t : TypeId} {fs : List PairD} (h : Blk w g cur t) (hr : ∀ j (hj : j < fs.length),RowPair cur o j fs[j]) : PairsAt w g o fs:=by
  intro j hj
  simp only [h.cell]
  exact hr j hj
theorem rows_of_pairsAt {w : World} {g o : Nat} {cur : Array Value} {t : TypeId} {fs : List PairD} (h : Blk w g cur t) (hf : PairsAt w g o fs) : ∀ j (hj : j < fs.length),RowPair cur o j fs[j]:=by
  intro j hj
  have:=hf j hj
  simp only [h.cell] at this
  exact this
theorem pairs_size {cur : Array Value} {o : Nat} {fs : List PairD} (hr : ∀ j (hj : j < fs.length),RowPair cur o j fs[j]) : fs.length = 0 ∨ o + fs.length * 2 ≤ cur.size:=by
  by_cases h : fs.length = 0
  · exact Or.inl h
  · right
    have:=(hr (fs.length - 1) (by omega)).2
    have:=(Array.getElem?_eq_some_iff.1 this).1
    omega
theorem pairs_of_row {w : World} {B : Nat} {e : TypeId} {a : Option Addr} {cap : Nat} {l : List PairD}
    (h : w.ownsRow B e 2 (.slice a l.length cap) l.length (l.flatMap fun x=>[.string x.s,.int .i64 x.n])) : PairsOwn w B a l:=by
  rcases h.2 with ⟨_,hl⟩ | ⟨g,cap',cur,he,hB,hg,_,_,hsz,htk⟩
  · exact Or.inl (List.length_eq_zero_iff.1 hl)
  · simp only [Value.slice.injEq] at he
    have hf : ∀ (l : List PairD) i (hi : i < l.length),(l.flatMap fun x=>[Value.string x.s,.int .i64 x.n])[i * 2]? = some (.string l[i].s) ∧ (l.flatMap fun x=>[Value.string x.s,.int .i64 x.n])[i * 2 + 1]? = some (.int .i64 l[i].n):=by
      intro l
      induction l with
      | nil=>intro i hi; exact absurd hi (by simp)
      | cons x r ih =>
        intro i hi
        cases i with
        | zero=>simp
        | succ i =>
          have:=ih i (by simpa using hi)
          simp only [List.flatMap_cons,List.cons_append,List.nil_append,List.getElem_cons_succ]
          rw [show (i + 1) * 2 = i * 2 + 1 + 1 by omega,List.getElem?_cons_succ,List.getElem?_cons_succ,List.getElem?_cons_succ,List.getElem?_cons_succ]
          exact this
    refine Or.inr ⟨g,0,cur,e,he.1,hB,hg,fun i hi=>?_⟩
    have h2 : ∀ j,j < l.length * 2 → cur[j]? = (l.flatMap fun x=>[Value.string x.s,.int .i64 x.n])[j]?:=fun j hj=>by
      rw [← htk,List.getElem?_take_of_lt hj,Array.getElem?_toList]
    rw [cell_of_row w g _ cur _ _ hg,cell_of_row w g _ cur _ _ hg,Nat.zero_add,h2 _ (by omega),h2 _ (by omega)]
    exact hf l i hi
def pairBulk : List PairD → Nat
  | []=>0
  | f :: r=>f.s.size + pairBulk r
theorem pairBulk_append (a b : List PairD) : pairBulk (a ++ b) = pairBulk a + pairBulk b:=by
  induction a with
  | nil=>simp [pairBulk]
  | cons f r ih=>simp [pairBulk,ih]; omega
theorem pairBulk_take_succ (fs : List PairD) (k : Nat) (h : k < fs.length) : pairBulk (fs.take (k + 1)) = pairBulk (fs.take k) + fs[k].s.size:=by
  rw [List.take_succ_eq_append_getElem h,pairBulk_append]; simp [pairBulk]
theorem pairBulk_take_le (fs : List PairD) (k : Nat) : pairBulk (fs.take k) ≤ pairBulk fs:=by
  have:=pairBulk_append (fs.take k) (fs.drop k)
  rw [List.take_append_drop] at this; omega
def szPair (left : Int) (f : PairD) : Int:=if (f.s.size : Int) ≤ left then left - f.s.size else -1
def szPairs (left : Int) (fs : List PairD) : Int:=if (fs.length + pairBulk fs : Int) ≤ left then left - fs.length - pairBulk fs else -1
def ShortP (fs : List PairD) : Prop:=∀ i (h : i < fs.length),fs[i].s.size ≤ maxLen
def markP (k : Nat) (i : Nat) : PairD:=⟨mt (k + 2 * i),((k + 2 * i + 1 : Nat) : Int)⟩
def markPairs (k n : Nat) : List PairD:=(List.range n).map (markP k)
theorem markPairs_length (k n : Nat) : (markPairs k n).length = n:=by simp [markPairs]
theorem markPairs_get (k n i : Nat) (h : i < (markPairs k n).length) : (markPairs k n)[i] = markP k i:=by simp [markPairs]
end Go.Proofs.YtkmdbpaeeagccaaGreatDoor
namespace Go.Proofs.YtkmdbpaeeagccaaGreatDoor
open Go.RowKit
theorem hid {p : Prop} (h : p) : Hid p:=h
theorem Blk.new (w : World) (cs : Array Value) (t : TypeId) : Blk (w.alloc (.cells cs t)) w.heap.size cs t:=heap_alloc_new _ _
theorem Blk.alloc {w : World} {g : Nat} {cur : Array Value} {t : TypeId} (h : Blk w g cur t) (o : Obj) : Blk (w.alloc o) g cur t:=h.later (bnew _ _)
theorem Blk.but {w w' : World} {g g' : Nat} {cur : Array Value} {t : TypeId} (h : Blk w g cur t) (hb : But g' w w') (hne : g ≠ g') : Blk w' g cur t:=(hb.block g (lt_of_block h) hne).trans h
end Go.Proofs.YtkmdbpaeeagccaaGreatDoor
namespace Go.Proofs.YtkmdbpaeeagccaaGreatDoor
open Go.RowKit
theorem PairsOwn.but {g b o B : Nat} {w w' : World} {fs : List PairD} (h : PairsOwn w B (some ⟨b,o,none⟩) fs) (hb : But g w w') (hg : b ≠ g) : PairsOwn w' B (some ⟨b,o,none⟩) fs:=by
  rcases h with h | ⟨b',o',cur,t,e,hB,hblk,h⟩
  · exact Or.inl h
  · simp only [Option.some.injEq,Addr.mk.injEq,and_true] at e
    obtain ⟨rfl,rfl⟩:=e
    have hk:=hb.block b (lt_of_block hblk) hg
    have hc : ∀ j,w'.cell? ⟨b,j,none⟩ = w.cell? ⟨b,j,none⟩:=fun j=>World.cell?_of_block hk
    exact Or.inr ⟨b,o,cur,t,rfl,hB,hk.trans hblk,fun i hi=>by simp only [hc]; exact h i hi⟩
structure TenD where
  name : ByteArray
  limit : Int
  mets : List PairD
  sers : List PairD
def TenAt (w : World) (b o : Nat) (t : TenD) : Prop :=
  ∃ a1 c1 a2 c2,w.cell? ⟨b,o,none⟩ = some (.string t.name) ∧ w.cell? ⟨b,o + 1,none⟩ = some (.int .i64 t.limit) ∧ w.cell? ⟨b,o + 2,none⟩ = some (.slice a1 t.mets.length c1) ∧ w.cell? ⟨b,o + 3,none⟩ = some (.slice a2 t.sers.length c2) ∧
    PairsIn w a1 t.mets ∧ PairsIn w a2 t.sers
def TensAt (w : World) (b o : Nat) (ts : List TenD) : Prop:=∀ i (h : i < ts.length),TenAt w b (o + i * 4) ts[i]
def TensIn (w : World) (a : Option Addr) (ts : List TenD) : Prop:=ts = [] ∨ ∃ b o,a = some ⟨b,o,none⟩ ∧ b < w.heap.size ∧ TensAt w b o ts
theorem TenAt.later {w w' : World} {b o : Nat} {t : TenD} (h : TenAt w b o t) (hlt : b < w.heap.size) (hb : Below w.heap.size w w') : TenAt w' b o t:=by
  obtain ⟨a1,c1,a2,c2,h0,h1,h2,h3,h4,h5⟩:=h
  exact ⟨a1,c1,a2,c2,(hb.cell hlt).trans h0,(hb.cell hlt).trans h1,(hb.cell hlt).trans h2,(hb.cell hlt).trans h3,h4.later hb,h5.later hb⟩
theorem TensIn.later {w w' : World} {a : Option Addr} {ts : List TenD} (h : TensIn w a ts) (hb : Below w.heap.size w w') : TensIn w' a ts:=by
  rcases h with h | ⟨b,o,rfl,hlt,h⟩
  · exact Or.inl h
  · exact Or.inr ⟨b,o,rfl,Nat.lt_of_lt_of_le hlt hb.size,fun i hi=>(h i hi).later hlt hb⟩
theorem TensIn.at {w : World} {a : Option Addr} {ts : List TenD} (h : TensIn w a ts) {i : Nat} (hi : i < ts.length) :
    ∃ b o a1 c1 a2 c2,a = some ⟨b,o,none⟩ ∧ b < w.heap.size ∧ w.cell? ⟨b,o + i * 4,none⟩ = some (.string ts[i].name) ∧ w.cell? ⟨b,o + i * 4 + 1,none⟩ = some (.int .i64 ts[i].limit) ∧
      w.cell? ⟨b,o + i * 4 + 2,none⟩ = some (.slice a1 ts[i].mets.length c1) ∧ w.cell? ⟨b,o + i * 4 + 3,none⟩ = some (.slice a2 ts[i].sers.length c2) ∧ PairsIn w a1 ts[i].mets ∧ PairsIn w a2 ts[i].sers:=by
  rcases h with rfl | ⟨b,o,rfl,hlt,h⟩
  · exact absurd hi (by simp)
  · obtain ⟨a1,c1,a2,c2,h⟩:=h i hi
    exact ⟨b,o,a1,c1,a2,c2,rfl,hlt,h⟩
def PairsTag (w : World) (B : Nat) (T : Nat → Nat) (n : Nat) (a : Option Addr) (ps : List PairD) : Prop :=
  ps = [] ∨ ∃ g o cur t,a = some ⟨g,o,none⟩ ∧ B ≤ g ∧ T g = n ∧ w.heap[g]? = some (.cells cur t (0,0)) ∧ PairsAt w g o ps
theorem PairsTag.pairs {w : World} {B n : Nat} {T : Nat → Nat} {a : Option Addr} {ps : List PairD} (h : PairsTag w B T n a ps) : PairsIn w a ps:=by
  rcases h with h | ⟨g,o,cur,t,rfl,_,_,hb,h⟩
  · exact Or.inl h
  · exact Or.inr ⟨g,o,rfl,lt_of_block hb,h⟩
theorem PairsTag.own {w : World} {B n : Nat} {T : Nat → Nat} {a : Option Addr} {ps : List PairD} (h : PairsTag w B T n a ps) : PairsOwn w B a ps:=by
  rcases h with h | ⟨g,o,cur,t,e,hB,_,hb,h⟩
  · exact Or.inl h
  · exact Or.inr ⟨g,o,cur,t,e,hB,hb,h⟩
theorem PairsTag.keep {w w' : World} {B n : Nat} {T T' : Nat → Nat} {a : Option Addr} {ps : List PairD} (h : PairsTag w B T n a ps)
    (hk : ∀ g,g < w.heap.size → B ≤ g → T g = n → w'.heap[g]? = w.heap[g]? ∧ T' g = n) : PairsTag w' B T' n a ps:=by
  rcases h with h | ⟨g,o,cur,t,e,hB,hT,hb,h⟩
  · exact Or.inl h
  · obtain ⟨h1,h2⟩:=hk g (lt_of_block hb) hB hT
    have hc : ∀ j,w'.cell? ⟨g,j,none⟩ = w.cell? ⟨g,j,none⟩:=fun j=>World.cell?_of_block h1
    exact Or.inr ⟨g,o,cur,t,e,hB,h2,h1.trans hb,fun i hi=>by simp only [hc]; exact h i hi⟩
theorem PairsOwn.tag {w : World} {B n : Nat} {T : Nat → Nat} {a : Option Addr} {ps : List PairD} (h : PairsOwn w B a ps) (hT : ∀ g o,a = some ⟨g,o,none⟩ → T g = n) : PairsTag w B T n a ps:=by
  rcases h with h | ⟨g,o,cur,t,e,hB,hb,h⟩
  · exact Or.inl h
  · exact Or.inr ⟨g,o,cur,t,e,hB,hT g o e,hb,h⟩
def TenOwn (w : World) (B : Nat) (T : Nat → Nat) (i b o : Nat) (t : TenD) : Prop :=
  ∃ a1 c1 a2 c2,w.cell? ⟨b,o,none⟩ = some (.string t.name) ∧ w.cell? ⟨b,o + 1,none⟩ = some (.int .i64 t.limit) ∧ w.cell? ⟨b,o + 2,none⟩ = some (.slice a1 t.mets.length c1) ∧ w.cell? ⟨b,o + 3,none⟩ = some (.slice a2 t.sers.length c2) ∧
    PairsTag w B T (2 * i + 1) a1 t.mets ∧ PairsTag w B T (2 * i + 2) a2 t.sers
def TensOwn (w : World) (B : Nat) (a : Option Addr) (ts : List TenD) : Prop :=
  ts = [] ∨ ∃ g o cur t T,a = some ⟨g,o,none⟩ ∧ B ≤ g ∧ w.heap[g]? = some (.cells cur t (0,0)) ∧ T g = 0 ∧ ∀ i (h : i < ts.length),TenOwn w B T i g (o + i * 4) ts[i]
theorem TenOwn.at {w : World} {B i b o : Nat} {T : Nat → Nat} {t : TenD} (h : TenOwn w B T i b o t) : TenAt w b o t:=by
  obtain ⟨a1,c1,a2,c2,h0,h1,h2,h3,h4,h5⟩:=h
  exact ⟨a1,c1,a2,c2,h0,h1,h2,h3,h4.pairs,h5.pairs⟩
theorem TensOwn.tens {w : World} {B : Nat} {a : Option Addr} {ts : List TenD} (h : TensOwn w B a ts) : TensIn w a ts:=by
  rcases h with h | ⟨g,o,cur,t,T,rfl,_,hb,_,h⟩
  · exact Or.inl h
  · exact Or.inr ⟨g,o,rfl,lt_of_block hb,fun i hi=>(h i hi).at⟩
theorem TenOwn.keep {w w' : World} {B i b o : Nat} {T T' : Nat → Nat} {t : TenD} (h : TenOwn w B T i b o t) (hc : ∀ j,j < 4 → w'.cell? ⟨b,o + j,none⟩ = w.cell? ⟨b,o + j,none⟩)
    (hk : ∀ g,g < w.heap.size → B ≤ g → (T g = 2 * i + 1 ∨ T g = 2 * i + 2) → w'.heap[g]? = w.heap[g]? ∧ T' g = T g) : TenOwn w' B T' i b o t:=by
  obtain ⟨a1,c1,a2,c2,h0,h1,h2,h3,h4,h5⟩:=h
  refine ⟨a1,c1,a2,c2,(hc 0 (by omega)).trans h0,(hc 1 (by omega)).trans h1,(hc 2 (by omega)).trans h2,(hc 3 (by omega)).trans h3,h4.keep fun g hg hB hT=>?_,h5.keep fun g hg hB hT=>?_⟩
  · obtain ⟨q1,q2⟩:=hk g hg hB (Or.inl hT); exact ⟨q1,q2.trans hT⟩
  · obtain ⟨q1,q2⟩:=hk g hg hB (Or.inr hT); exact ⟨q1,q2.trans hT⟩
theorem TensOwn.later {w w' : World} {B : Nat} {a : Option Addr} {ts : List TenD} (h : TensOwn w B a ts) (hb : Below w.heap.size w w') : TensOwn w' B a ts:=by
  rcases h with h | ⟨g,o,cur,t,T,rfl,hB,hg,hT,h⟩
  · exact Or.inl h
  · have hlt:=lt_of_block hg
    exact Or.inr ⟨g,o,cur,t,T,rfl,hB,(hb.block g hlt).trans hg,hT,fun i hi=>(h i hi).keep (fun j _=>World.cell?_of_block (hb.block g hlt)) fun g' hg' _ _=>⟨hb.block g' hg',rfl⟩⟩
def tenBulk (t : TenD) : Nat:=t.name.size + (t.mets.length + pairBulk t.mets) + (t.sers.length + pairBulk t.sers)
def tensBulk : List TenD → Nat
  | []=>0
  | f :: r=>tenBulk f + tensBulk r
theorem tensBulk_append (a b : List TenD) : tensBulk (a ++ b) = tensBulk a + tensBulk b:=by
  induction a with
  | nil=>simp [tensBulk]
  | cons f r ih=>simp [tensBulk,ih]; omega
theorem tensBulk_take_succ (fs : List TenD) (k : Nat) (h : k < fs.length) : tensBulk (fs.take (k + 1)) = tensBulk (fs.take k) + tenBulk fs[k]:=by
  rw [List.take_succ_eq_append_getElem h,tensBulk_append]; simp [tensBulk]
theorem tensBulk_take_le (fs : List TenD) (k : Nat) : tensBulk (fs.take k) ≤ tensBulk fs:=by
  have:=tensBulk_append (fs.take k) (fs.drop k)
  rw [List.take_append_drop] at this; omega
def szTen (left : Int) (f : TenD) : Int:=if (tenBulk f : Int) ≤ left then left - tenBulk f else -1
def szTens (left : Int) (fs : List TenD) : Int:=if (fs.length + tensBulk fs : Int) ≤ left then left - fs.length - tensBulk fs else -1
def ShortTen (t : TenD) : Prop:=t.name.size ≤ maxLen ∧ ShortP t.mets ∧ t.mets.length ≤ maxLen ∧ ShortP t.sers ∧ t.sers.length ≤ maxLen
def ShortT (fs : List TenD) : Prop:=∀ i (h : i < fs.length),ShortTen fs[i]
theorem tenBulk_at (fs : List TenD) (k : Nat) (h : k < fs.length) : tenBulk fs[k] ≤ tensBulk fs:=by
  have h1:=tensBulk_take_succ fs k h
  have h2:=tensBulk_take_le fs (k + 1)
  omega
end Go.Proofs.YtkmdbpaeeagccaaGreatDoor
namespace Go.Proofs.YtkmdbpaeeagccaaGreatDoor
open Go.Maps
section
variable {α β : Type}
def insBy (key : α → ByteArray) (a : α) : List α → List α
  | []=>[a]
  | p :: r=>if blt (key p) (key a) = true then p :: insBy key a r else if (key p).toList == (key a).toList then a :: r else a :: p :: r
def delBy (key : α → ByteArray) (k : ByteArray) (l : List α) : List α:=l.filter (fun p=>!((key p).toList == k.toList))
def getBy (key : α → ByteArray) (k : ByteArray) (l : List α) : Option α:=l.find? (fun p=>(key p).toList == k.toList)
def RiseBy (key : α → ByteArray) (l : List α) : Prop:=l.Pairwise (fun p q=>blt (key p) (key q) = true)
theorem insBy_map {key : α → ByteArray} {key' : β → ByteArray} (g : α → β) (hg : ∀ a,key' (g a) = key a) (a : α) (l : List α) : (insBy key a l).map g = insBy key' (g a) (l.map g):=by
  induction l with
  | nil=>rfl
  | cons p r ih =>
    rw [List.map_cons,insBy,insBy,hg,hg]
    split
    · rw [List.map_cons,ih]
    · split <;> simp
theorem delBy_map {key : α → ByteArray} {key' : β → ByteArray} (g : α → β) (hg : ∀ a,key' (g a) = key a) (k : ByteArray) (l : List α) : (delBy key k l).map g = delBy key' k (l.map g):=by
  unfold delBy
  rw [List.filter_map]
  congr 1
  apply List.filter_congr
  intro p _
  simp only [Function.comp,hg]
theorem getBy_map {key : α → ByteArray} {key' : β → ByteArray} (g : α → β) (hg : ∀ a,key' (g a) = key a) (k : ByteArray) (l : List α) : getBy key' k (l.map g) = (getBy key k l).map g:=by
  unfold getBy
  rw [List.find?_map]
  congr 2
  funext p
  simp only [Function.comp,hg]
theorem riseBy_map {key : α → ByteArray} {key' : β → ByteArray} (g : α → β) (hg : ∀ a,key' (g a) = key a) {l : List α} : RiseBy key' (l.map g) ↔ RiseBy key l:=by
  unfold RiseBy
  rw [List.pairwise_map]
  simp only [hg]
theorem insBy_kv (k : ByteArray) (d : β) (l : List (ByteArray × β)) : insBy (·.1) (k,d) l = insKV k d l:=by
  induction l with
  | nil=>rfl
  | cons p r ih=>rw [insBy,insKV,ih]
theorem delBy_kv (k : ByteArray) (l : List (ByteArray × β)) : delBy (·.1) k l = delKV k l:=rfl
theorem getBy_kv (k : ByteArray) (l : List (ByteArray × β)) : (getBy (·.1) k l).map (·.2) = lk l k:=rfl
theorem riseBy_kv {l : List (ByteArray × β)} : RiseBy (·.1) l ↔ Rise l:=Iff.rfl
theorem getBy_mem {key : α → ByteArray} {k : ByteArray} {l : List α} {a : α} (h : getBy key k l = some a) : a ∈ l ∧ key a = k :=
  ⟨List.mem_of_find?_eq_some h,(same_iff _ _).1 (List.find?_some (p:=fun p=>(key p).toList == k.toList) h)⟩
theorem getBy_none {key : α → ByteArray} {k : ByteArray} {l : List α} (h : getBy key k l = none) : ∀ a ∈ l,key a ≠ k:=fun a ha e=>by
  have:=List.find?_eq_none.1 h a ha
  exact this ((same_iff _ _).2 e)
theorem getBy_none_of {key : α → ByteArray} {k : ByteArray} {l : List α} (h : ∀ a ∈ l,key a ≠ k) : getBy key k l = none :=
  List.find?_eq_none.2 fun a ha e=>h a ha ((same_iff _ _).1 e)
theorem RiseBy.head {key : α → ByteArray} {p : α} {r : List α} (h : RiseBy key (p :: r)) : ∀ q ∈ r,blt (key p) (key q) = true:=(List.pairwise_cons.1 h).1
theorem RiseBy.tail {key : α → ByteArray} {p : α} {r : List α} (h : RiseBy key (p :: r)) : RiseBy key r:=(List.pairwise_cons.1 h).2
theorem getBy_cons {key : α → ByteArray} (p : α) (r : List α) (k : ByteArray) : getBy key k (p :: r) = if key p = k then some p else getBy key k r:=by
  unfold getBy
  by_cases h : key p = k
  · rw [List.find?_cons_of_pos (p:=fun p : α=>(key p).toList == k.toList) (by exact (same_iff _ _).2 h),if_pos h]
  · rw [List.find?_cons_of_neg (p:=fun p : α=>(key p).toList == k.toList) (by simpa using same_not h),if_neg h]
theorem getBy_of_mem {key : α → ByteArray} {l : List α} (hr : RiseBy key l) {a : α} (h : a ∈ l) : getBy key (key a) l = some a:=by
  induction l with
  | nil=>cases h
  | cons p r ih =>
    rw [getBy_cons]
    rcases List.mem_cons.1 h with rfl | h
    · rw [if_pos rfl]
    · rw [if_neg (blt_ne (hr.head _ h))]
      exact ih hr.tail h
theorem insBy_mem {key : α → ByteArray} {a q : α} {l : List α} (h : q ∈ insBy key a l) : q = a ∨ q ∈ l:=by
  induction l with
  | nil=>exact Or.inl (by simpa [insBy] using h)
  | cons p r ih =>
    unfold insBy at h
    split at h
    · rcases List.mem_cons.1 h with rfl | h
      · exact Or.inr (List.mem_cons_self ..)
      · rcases ih h with h | h
        · exact Or.inl h
        · exact Or.inr (List.mem_cons_of_mem _ h)
    · split at h
      · rcases List.mem_cons.1 h with h | h
        · exact Or.inl h
        · exact Or.inr (List.mem_cons_of_mem _ h)
      · rcases List.mem_cons.1 h with h | h
        · exact Or.inl h
        · exact Or.inr h
theorem insBy_rise {key : α → ByteArray} {a : α} {l : List α} (h : RiseBy key l) : RiseBy key (insBy key a l):=by
  induction l with
  | nil=>exact List.pairwise_singleton ..
  | cons p r ih =>
    unfold insBy
    split
    · rename_i hlt
      refine List.pairwise_cons.2 ⟨fun q hq=>?_,ih h.tail⟩
      rcases insBy_mem hq with rfl | hq
      · exact hlt
      · exact h.head q hq
    · rename_i hlt
      split
      · rename_i he
        rw [same_iff] at he
        refine List.pairwise_cons.2 ⟨fun q hq=>?_,h.tail⟩
        rw [← he]; exact h.head q hq
      · rename_i he
        have hkp : blt (key a) (key p) = true:=blt_total (by simpa using hlt) (fun e=>he ((same_iff _ _).2 e))
        refine List.pairwise_cons.2 ⟨fun q hq=>?_,h⟩
        rcases List.mem_cons.1 hq with rfl | hq
        · exact hkp
        · exact blt_trans hkp (h.head q hq)
theorem insBy_end {key : α → ByteArray} {a : α} {l : List α} (h : ∀ p ∈ l,blt (key p) (key a) = true) : insBy key a l = l ++ [a]:=by
  induction l with
  | nil=>rfl
  | cons p r ih =>
    unfold insBy
    rw [if_pos (h p (List.mem_cons_self ..)),ih (fun q hq=>h q (List.mem_cons_of_mem _ hq))]
    rfl
theorem insBy_new {key : α → ByteArray} {a : α} {l : List α} (h : getBy key (key a) l = none) : (insBy key a l).Perm (a :: l):=by
  induction l with
  | nil=>exact List.Perm.refl _
  | cons p r ih =>
    have hne:=getBy_none h
    unfold insBy
    split
    · have:=ih (getBy_none_of fun q hq=>hne q (List.mem_cons_of_mem _ hq))
      exact (List.Perm.cons p this).trans (List.Perm.swap a p r)
    · rw [if_neg (by rw [same_not (hne p (List.mem_cons_self ..))]; simp)]
theorem delBy_rise {key : α → ByteArray} {k : ByteArray} {l : List α} (h : RiseBy key l) : RiseBy key (delBy key k l):=List.Pairwise.filter _ h
theorem mem_delBy {key : α → ByteArray} {k : ByteArray} {l : List α} {a : α} : a ∈ delBy key k l ↔ a ∈ l ∧ key a ≠ k:=by
  unfold delBy
  rw [List.mem_filter]
  constructor
  · rintro ⟨h1,h2⟩
    exact ⟨h1,fun e=>by rw [(same_iff _ _).2 e] at h2; cases h2⟩
  · rintro ⟨h1,h2⟩
    exact ⟨h1,by rw [same_not h2]; rfl⟩
end
theorem has_by {α : Type} (key : α → ByteArray) (val : α → DataW Unit) (l : List α) (k : ByteArray) : has (mapOf (l.map fun a=>(key a,val a))) (kL k) = (getBy key k l).isSome:=by
  rw [has_mapOf,← getBy_kv,getBy_map (key:=key) (fun a=>(key a,val a)) (fun _=>rfl)]
  cases getBy key k l <;> rfl
theorem atKey_by {α : Type} (key : α → ByteArray) (val : α → DataW Unit) (l : List α) (k : ByteArray) (z : DataW Unit) : (mapOf (l.map fun a=>(key a,val a))).atKey (kL k) z = ((getBy key k l).map val).getD z:=by
  rw [atKey_mapOf,← getBy_kv,getBy_map (key:=key) (fun a=>(key a,val a)) (fun _=>rfl)]
  cases getBy key k l <;> rfl
theorem rise_by {α : Type} {key : α → ByteArray} (val : α → DataW Unit) {l : List α} (h : RiseBy key l) : Rise (l.map fun a=>(key a,val a)):=by
  rw [← riseBy_kv,riseBy_map (key:=key) (fun a=>(key a,val a)) (fun _=>rfl)]
  exact h
theorem put_by {α : Type} {key : α → ByteArray} (val : α → DataW Unit) (a : α) {l : List α} (h : RiseBy key l) : (mapOf (l.map fun a=>(key a,val a))).put (kL (key a)) (val a) = mapOf ((insBy key a l).map fun a=>(key a,val a)):=by
  rw [put_mapOf _ _ (rise_by val h),insBy_map (key':=(·.1)) (fun a=>(key a,val a)) (fun _=>rfl),insBy_kv]
theorem del_by {α : Type} {key : α → ByteArray} (val : α → DataW Unit) (k : ByteArray) (l : List α) : (mapOf (l.map fun a=>(key a,val a))).del (kL k) = mapOf ((delBy key k l).map fun a=>(key a,val a)):=by
  rw [del_mapOf,delBy_map (key':=(·.1)) (fun a=>(key a,val a)) (fun _=>rfl),delBy_kv]
theorem size_by {α : Type} (key : α → ByteArray) (val : α → DataW Unit) (l : List α) : Maps.size (mapOf (l.map fun a=>(key a,val a))) = l.length:=by
  rw [size_mapOf,List.length_map]
def cntM (met : ByteArray → ByteArray) (l : List PairD) (m : ByteArray) : Nat:=(l.filter fun p=>(met p.s).toList == m.toList).length
theorem cntM_perm {met : ByteArray → ByteArray} {l l' : List PairD} (h : l.Perm l') (m : ByteArray) : cntM met l m = cntM met l' m:=(h.filter _).length_eq
theorem cntM_cons (met : ByteArray → ByteArray) (p : PairD) (l : List PairD) (m : ByteArray) : cntM met (p :: l) m = cntM met l m + if met p.s = m then 1 else 0:=by
  unfold cntM
  by_cases h : met p.s = m
  · rw [List.filter_cons_of_pos (by exact (same_iff _ _).2 h),if_pos h]; rfl
  · rw [List.filter_cons_of_neg (by rw [same_not h]; simp),if_neg h]; rfl
theorem cntM_le (met : ByteArray → ByteArray) (l : List PairD) (m : ByteArray) : cntM met l m ≤ l.length:=List.length_filter_le _ _
end Go.Proofs.YtkmdbpaeeagccaaGreatDoor
namespace Go.Proofs.YtkmdbpaeeagccaaGreatDoor
open Go.RowKit
structure LabD where
  name : ByteArray
  value : ByteArray
def LabsAt (w : World) (b o : Nat) (ls : List LabD) : Prop :=
  ∀ i (h : i < ls.length),w.cell? ⟨b,o + i * 2,none⟩ = some (.string ls[i].name) ∧ w.cell? ⟨b,o + i * 2 + 1,none⟩ = some (.string ls[i].value)
def LabsIn (w : World) (a : Option Addr) (ls : List LabD) : Prop:=ls = [] ∨ ∃ b o,a = some ⟨b,o,none⟩ ∧ b < w.heap.size ∧ LabsAt w b o ls
theorem LabsIn.later {w w' : World} {a : Option Addr} {ls : List LabD} (h : LabsIn w a ls) (hb : Below w.heap.size w w') : LabsIn w' a ls:=by
  rcases h with h | ⟨b,o,rfl,hlt,h⟩
  · exact Or.inl h
  · refine Or.inr ⟨b,o,rfl,Nat.lt_of_lt_of_le hlt hb.size,fun i hi=>?_⟩
    obtain ⟨h1,h2⟩:=h i hi
    exact ⟨by rw [← h1]; exact hb.cell hlt,by rw [← h2]; exact hb.cell hlt⟩
theorem LabsIn.at {w : World} {a : Option Addr} {ls : List LabD} (h : LabsIn w a ls) {i : Nat} (hi : i < ls.length) :
    ∃ b o,a = some ⟨b,o,none⟩ ∧ b < w.heap.size ∧ w.cell? ⟨b,o + i * 2,none⟩ = some (.string ls[i].name) ∧ w.cell? ⟨b,o + i * 2 + 1,none⟩ = some (.string ls[i].value):=by
  rcases h with rfl | ⟨b,o,rfl,hlt,h⟩
  · exact absurd hi (by simp)
  · exact ⟨b,o,rfl,hlt,h i hi⟩
theorem LabsIn.but {g : Nat} {w w' : World} {a : Option Addr} {l : List LabD} (h : LabsIn w a l) (hb : But g w w') (hg : l = [] ∨ ∃ b o,a = some ⟨b,o,none⟩ ∧ b ≠ g) : LabsIn w' a l:=by
  rcases hg with hg | ⟨b,o,rfl,hne⟩
  · exact Or.inl hg
  · rcases h with h | ⟨b',o',e,hlt,h⟩
    · exact Or.inl h
    · simp only [Option.some.injEq,Addr.mk.injEq,and_true] at e
      obtain ⟨rfl,rfl⟩:=e
      have hk : ∀ j,w'.cell? ⟨b,j,none⟩ = w.cell? ⟨b,j,none⟩:=fun j=>World.cell?_of_block (hb.block b hlt hne)
      exact Or.inr ⟨b,o,rfl,Nat.lt_of_lt_of_le hlt hb.size,fun i hi=>by simp only [hk]; exact h i hi⟩
theorem LabsIn.take {w : World} {a : Option Addr} {ls : List LabD} (h : LabsIn w a ls) (n : Nat) : LabsIn w a (ls.take n):=by
  rcases h with h | ⟨b,o,e,hlt,h⟩
  · exact Or.inl (by rw [h]; simp)
  · refine Or.inr ⟨b,o,e,hlt,fun i hi=>?_⟩
    rw [List.getElem_take]
    exact h i (by simp at hi; omega)
def LabsOwn (w : World) (B : Nat) (a : Option Addr) (ls : List LabD) : Prop :=
  ls = [] ∨ ∃ g o cur t,a = some ⟨g,o,none⟩ ∧ B ≤ g ∧ w.heap[g]? = some (.cells cur t (0,0)) ∧ LabsAt w g o ls
theorem LabsOwn.labs {w : World} {B : Nat} {a : Option Addr} {ls : List LabD} (h : LabsOwn w B a ls) : LabsIn w a ls:=by
  rcases h with h | ⟨g,o,cur,t,rfl,_,hb,h⟩
  · exact Or.inl h
  · exact Or.inr ⟨g,o,rfl,lt_of_block hb,h⟩
theorem LabsOwn.later {w w' : World} {B : Nat} {a : Option Addr} {ls : List LabD} (h : LabsOwn w B a ls) (hb : Below w.heap.size w w') : LabsOwn w' B a ls:=by
  rcases h with h | ⟨g,o,cur,t,rfl,hB,hg,h⟩
  · exact Or.inl h
  · have hlt:=lt_of_block hg
    have hk : ∀ j,w'.cell? ⟨g,j,none⟩ = w.cell? ⟨g,j,none⟩:=fun j=>World.cell?_of_block (hb.block g hlt)
    exact Or.inr ⟨g,o,cur,t,rfl,hB,(hb.block g hlt).trans hg,fun i hi=>by simp only [hk]; exact h i hi⟩
theorem LabsOwn.mono {w : World} {B B' : Nat} {a : Option Addr} {ls : List LabD} (h : LabsOwn w B a ls) (hB : B' ≤ B) : LabsOwn w B' a ls:=by
  rcases h with h | ⟨g,o,cur,t,rfl,hB',hg,h⟩
  · exact Or.inl h
  · exact Or.inr ⟨g,o,cur,t,rfl,Nat.le_trans hB hB',hg,h⟩
def RowLab (cur : Array Value) (o j : Nat) (f : LabD) : Prop:=cur[o + j * 2]? = some (.string f.name) ∧ cur[o + j * 2 + 1]? = some (.string f.value)
theorem RowLab.set {cur : Array Value} {o j : Nat} {f : LabD} (h : RowLab cur o j f) {p : Nat} (hp : p < o + j * 2 ∨ o + j * 2 + 1 < p) (v : Value) : RowLab (cur.setIfInBounds p v) o j f:=by
  obtain ⟨a1,a2⟩:=h
  refine ⟨?_,?_⟩
  · rw [Array.getElem?_setIfInBounds_ne (by omega)]; exact a1
  · rw [Array.getElem?_setIfInBounds_ne (by omega)]; exact a2
theorem RowLab.made (cur : Array Value) (o j : Nat) (f : LabD) (h : o + j * 2 + 1 < cur.size) :
    RowLab ((cur.setIfInBounds (o + j * 2) (.string f.name)).setIfInBounds (o + j * 2 + 1) (.string f.value)) o j f:=by
  refine ⟨?_,?_⟩ <;> simp [Array.getElem?_setIfInBounds] <;> omega
theorem labs_of_row {w : World} {B : Nat} {e : TypeId} {a : Option Addr} {cap : Nat} {l : List LabD}
    (h : w.ownsRow B e 2 (.slice a l.length cap) l.length (l.flatMap fun x=>[.string x.name,.string x.value])) : LabsOwn w B a l:=by
  rcases h.2 with ⟨_,hl⟩ | ⟨g,cap',cur,he,hB,hg,_,_,hsz,htk⟩
  · exact Or.inl (List.length_eq_zero_iff.1 hl)
  · simp only [Value.slice.injEq] at he
    have hf : ∀ (l : List LabD) i (hi : i < l.length),(l.flatMap fun x=>[Value.string x.name,.string x.value])[i * 2]? = some (.string l[i].name) ∧ (l.flatMap fun x=>[Value.string x.name,.string x.value])[i * 2 + 1]? = some (.string l[i].value):=by
      intro l
      induction l with
      | nil=>intro i hi; exact absurd hi (by simp)
      | cons x r ih =>
        intro i hi
        cases i with
        | zero=>simp
        | succ i =>
          have:=ih i (by simpa using hi)
          simp only [List.flatMap_cons,List.cons_append,List.nil_append,List.getElem_cons_succ]
          rw [show (i + 1) * 2 = i * 2 + 1 + 1 by omega,List.getElem?_cons_succ,List.getElem?_cons_succ,List.getElem?_cons_succ,List.getElem?_cons_succ]
          exact this
    refine Or.inr ⟨g,0,cur,e,he.1,hB,hg,fun i hi=>?_⟩
    have h2 : ∀ j,j < l.length * 2 → cur[j]? = (l.flatMap fun x=>[Value.string x.name,.string x.value])[j]?:=fun j hj=>by
      rw [← htk,List.getElem?_take_of_lt hj,Array.getElem?_toList]
    rw [cell_of_row w g _ cur _ _ hg,cell_of_row w g _ cur _ _ hg,Nat.zero_add,h2 _ (by omega),h2 _ (by omega)]
    exact hf l i hi
end Go.Proofs.YtkmdbpaeeagccaaGreatDoor
