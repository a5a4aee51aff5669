import Derived.Test.YtnbkmmmlhlbfoaaGreatDoorProg
import Derived.Test.YtnbkmmmlhlbfoaaGreatDoorJ29SKin
import Derived.Test.YtnbkmmmlhlbfoaaGreatDoorJ10RecB
import Derived.Test.YtnbkmmmlhlbfoaaGreatDoorJ05SIns
import Derived.Test.YtnbkmmmlhlbfoaaGreatDoorJ13TenS
import Derived.Test.YtnbkmmmlhlbfoaaGreatDoorJ01DrawV
import Derived.Test.YtnbkmmmlhlbfoaaGreatDoorJ06Win
namespace Go.Proofs.YtnbkmmmlhlbfoaaGreatDoor
open Go.RowKit
def KXR (w2 : World) (X : Nat) (K : TenD) (wx : World) : Prop :=
  ∃ M q1 e1 q2 e2, Blk wx X #[.string K.name, .int .i64 K.limit, .slice q1 K.mets.length e1, .slice q2 K.sers.length e2] 46 ∧ PairsOwn wx w2.heap.size q1 K.mets ∧ (∀ g o, q1 = some ⟨g, o, none⟩ → g < M) ∧ wx.ownsRow M 50 2 (.slice q2 K.sers.length e2) K.sers.length (flatK K.sers) ∧ (∀ q, (Value.slice q2 K.sers.length e2).ownBlock = some q → q ≠ X) ∧ (∀ g o, q1 = some ⟨g, o, none⟩ → K.mets ≠ [] → g ≠ X) ∧ w2.heap.size ≤ X ∧ w2.heap.size ≤ M ∧ Below w2.heap.size w2 wx
theorem kxr_new {w2 w4 : World} {K : TenD} {B M : Nat} {q1 q2 : Option Addr} {e1 e2 : Nat} (hB : w2.heap.size ≤ B) (h1 : PairsOwn w4 B q1 K.mets) (h1M : ∀ g o, q1 = some ⟨g, o, none⟩ → g < M) (h2 : w4.ownsRow M 50 2 (.slice q2 K.sers.length e2) K.sers.length (flatK K.sers)) (hM : B ≤ M) (hb : Below w2.heap.size w2 w4) :
    KXR w2 w4.heap.size K (w4.alloc (.cells #[.string K.name, .int .i64 K.limit, .slice q1 K.mets.length e1, .slice q2 K.sers.length e2] 46)) := by
  refine ⟨M, q1, e1, q2, e2, Blk.new _ _ _, (h1.mono hB).later (bnew _ _), h1M, row_later h2 (bnew _ _), fun q hq e => ?_, fun g o e hne e' => ?_, hb.size, by omega, bto hb (bnew _ _)⟩
  · have := (h2.lt q hq).2; omega
  · rcases h1 with h | ⟨g', o', cur, t, e1, _, hg, _⟩
    · exact hne h
    · rw [e1] at e
      simp only [Option.some.injEq, Addr.mk.injEq, and_true] at e
      have := lt_of_block hg
      omega
theorem kxr_old {w2 w4 : World} {K : TenD} {B M X : Nat} {q1 q2 : Option Addr} {e1 e2 : Nat} (h1 : PairsOwn w4 B q1 K.mets) (h1M : ∀ g o, q1 = some ⟨g, o, none⟩ → g < M) (h2 : w4.ownsRow M 50 2 (.slice q2 K.sers.length e2) K.sers.length (flatK K.sers)) (hX : X < B) (hM : B ≤ M) (hx : w2.heap.size ≤ X) (hbx : Blk w4 X #[.string ⟨#[]⟩, .int .i64 0, .slice none 0 0, .slice none 0 0] 46) (hb : Below w2.heap.size w2 w4) :
    KXR w2 X K ((((w4.setCell ⟨X, 0, none⟩ (.string K.name)).setCell ⟨X, 1, none⟩ (.int .i64 K.limit)).setCell ⟨X, 2, none⟩ (.slice q1 K.mets.length e1)).setCell ⟨X, 3, none⟩ (.slice q2 K.sers.length e2)) := by
  have ht : Turn (· = X) w4 ((((w4.setCell ⟨X, 0, none⟩ (.string K.name)).setCell ⟨X, 1, none⟩ (.int .i64 K.limit)).setCell ⟨X, 2, none⟩ (.slice q1 K.mets.length e1)).setCell ⟨X, 3, none⟩ (.slice q2 K.sers.length e2)) := ((((Turn.refl (· = X) w4).setCell (Or.inl rfl) 0 _).setCell (Or.inl rfl) 1 _).setCell (Or.inl rfl) 2 _).setCell (Or.inl rfl) 3 _
  refine ⟨M, q1, e1, q2, e2, ?_, ?_, h1M, ht.row h2 (fun q hq e => by have := (h2.lt q hq).1; omega), fun q hq e => by have := (h2.lt q hq).1; omega, fun g o e hne e' => ?_, hx, by omega, set4 hb hx⟩
  · have := (((hbx.set 0 (.string K.name)).set 1 (.int .i64 K.limit)).set 2 (.slice q1 K.mets.length e1)).set 3 (.slice q2 K.sers.length e2)
    simpa using this
  · rcases h1 with h | ⟨g, o, cur, t, rfl, hB', hg, h⟩
    · exact Or.inl h
    · have hk := ht.block g (lt_of_block hg) (by omega)
      have hc : ∀ j, ((((w4.setCell ⟨X, 0, none⟩ (.string K.name)).setCell ⟨X, 1, none⟩ (.int .i64 K.limit)).setCell ⟨X, 2, none⟩ (.slice (some ⟨g, o, none⟩) K.mets.length e1)).setCell ⟨X, 3, none⟩ (.slice q2 K.sers.length e2)).cell? ⟨g, j, none⟩ = w4.cell? ⟨g, j, none⟩ := fun j => World.cell?_of_block hk
      exact Or.inr ⟨g, o, cur, t, rfl, by omega, hk.trans hg, fun i hi => by simp only [hc]; exact h i hi⟩
  · rcases h1 with h | ⟨g', o', cur, t, e1, hB', hg, _⟩
    · exact hne h
    · rw [e1] at e
      simp only [Option.some.injEq, Addr.mk.injEq, and_true] at e
      omega
theorem own_keep {S : Nat → Prop} {w W : World} {B : Nat} {q : Option Addr} {ps : List PairD} (h : PairsOwn w B q ps) (ht : Turn S w W) (hS : ∀ g o, q = some ⟨g, o, none⟩ → ps ≠ [] → ¬ S g) : PairsIn W q ps := by
  rcases h with h | ⟨g, o, cur, t, rfl, hB, hg, h⟩
  · exact Or.inl h
  · by_cases hn : ps = []
    · exact Or.inl hn
    · have hk := ht.block g (lt_of_block hg) (hS g o rfl hn)
      have hc : ∀ j, W.cell? ⟨g, j, none⟩ = w.cell? ⟨g, j, none⟩ := fun j => World.cell?_of_block hk
      exact Or.inr ⟨g, o, rfl, by have := ht.size; have := lt_of_block hg; omega, fun i hi => by simp only [hc]; exact h i hi⟩
theorem insBy_at {l : List PairD} (hr : RiseBy (·.s) l) {k : ByteArray} {n : Int} {i : Nat} (hi : i < l.length) (h : l[i].s = k) : insBy (·.s) ⟨k, n⟩ l = l.set i ⟨k, n⟩ := by
  induction l generalizing i with
  | nil => simp at hi
  | cons p r ih =>
    cases i with
    | zero =>
      have hp : p.s = k := h
      rw [insBy, if_neg (by show ¬ blt p.s k = true; rw [hp, blt_irrefl]; simp), if_pos (by exact (same_iff _ _).2 hp)]
      rfl
    | succ i =>
      have hi' : i < r.length := by simpa using hi
      have hk : r[i].s = k := by simpa using h
      have hb : blt p.s k = true := by rw [← hk]; exact hr.head _ (List.getElem_mem hi')
      rw [insBy, if_pos hb, ih hr.tail hi' hk]
      rfl
theorem flatK_set (l : List PairD) (i : Nat) (hi : i < l.length) (n : Int) : flatK (l.set i ⟨l[i].s, n⟩) = (flatK l).set (i * 2 + 1) (.int .i64 n) := by
  induction l generalizing i with
  | nil => simp at hi
  | cons p r ih =>
    cases i with
    | zero => rfl
    | succ i =>
      have hi' : i < r.length := by simpa using hi
      have := ih i hi'
      simp only [flatK, List.set_cons_succ, List.flatMap_cons, List.getElem_cons_succ] at this ⊢
      rw [this]
      have e : (i + 1) * 2 + 1 = (i * 2 + 1) + 2 := by omega
      rw [e]
      rfl
theorem row_set1 {w : World} {M g n cap : Nat} {xs : List Value} {j : Nat} {v : Value} (h : w.ownsRow M 50 2 (.slice (some ⟨g, 0, none⟩) n cap) n xs) : (w.setCell ⟨g, j, none⟩ v).ownsRow M 50 2 (.slice (some ⟨g, 0, none⟩) n cap) n (xs.set j v) := by
  refine ⟨by rw [List.length_set]; exact h.1, ?_⟩
  rcases h.2 with ⟨e, _⟩ | ⟨g', cap', cur, e, hB, hb, h1, h2, h3, h4⟩
  · cases e
  · simp only [Value.slice.injEq, Option.some.injEq, Addr.mk.injEq, and_true] at e
    obtain ⟨rfl, _, rfl⟩ := e
    have hb' : Blk w g cur 50 := hb
    refine Or.inr ⟨g, cap, cur.setIfInBounds j v, rfl, hB, hb'.set j v, h1, h2, by simp [h3], ?_⟩
    have hl := h.1
    rw [Array.toList_setIfInBounds, List.take_set, h4]
theorem row_addr {w : World} {M n cap : Nat} {a : Option Addr} {xs : List Value} (h : w.ownsRow M 50 2 (.slice a n cap) n xs) (hn : 0 < n) : ∃ g, a = some ⟨g, 0, none⟩ := by
  rcases h.2 with ⟨_, e⟩ | ⟨g, cap', cur, e, _⟩
  · omega
  · simp only [Value.slice.injEq] at e
    exact ⟨g, e.1⟩
theorem row_or {w : World} {M n cap : Nat} {a : Option Addr} {xs : List Value} (h : w.ownsRow M 50 2 (.slice a n cap) n xs) : (a = none ∧ cap = 0 ∧ n = 0) ∨ ∃ g, a = some ⟨g, 0, none⟩ := by
  rcases h.2 with ⟨e, e2⟩ | ⟨g, cap', cur, e, _⟩
  · simp only [Value.slice.injEq] at e
    exact Or.inl ⟨e.1, e.2.2, e2⟩
  · simp only [Value.slice.injEq] at e
    exact Or.inr ⟨g, e.1⟩
theorem row_cap {w : World} {M n cap g : Nat} {xs : List Value} (h : w.ownsRow M 50 2 (.slice (some ⟨g, 0, none⟩) n cap) n xs) : n ≤ cap := by
  rcases h.2 with ⟨e, _⟩ | ⟨g', cap', cur, e, _, _, h1, _⟩
  · cases e
  · simp only [Value.slice.injEq] at e
    rw [e.2.2]; exact h1
theorem src_two {w : World} {M g cap j : Nat} {l : List PairD} (h : w.ownsRow M 50 2 (.slice (some ⟨g, 0, none⟩) l.length cap) l.length (flatK l)) (hj : j ≤ l.length) : SrcAt w (some ⟨g, 0, none⟩) j (flatK (l.take j)) ∧ SrcAt w (some ⟨g, j * 2, none⟩) (l.length - j) (flatK (l.drop j)) := by
  have hp := pairs_of_row h
  by_cases hn : l = []
  · subst hn
    exact ⟨Or.inl (by simpa using hj), Or.inl (by simp)⟩
  rcases hp with h0 | ⟨g', o, cur, t, e, _, _, hc⟩
  · exact absurd h0 hn
  simp only [Option.some.injEq, Addr.mk.injEq, and_true] at e
  obtain ⟨rfl, rfl⟩ := e
  refine ⟨Or.inr ⟨_, rfl, pairs_news fun i hi => ?_⟩, Or.inr ⟨_, rfl, pairs_news fun i hi => ?_⟩⟩
  · rw [List.length_take] at hi
    have := hc i (by omega)
    simpa [List.getElem_take] using this
  · rw [List.length_drop] at hi
    have := hc (j + i) (by omega)
    have e1 : 0 + (j + i) * 2 = j * 2 + i * 2 := by omega
    rw [e1] at this
    simpa [List.getElem_drop] using this
theorem wpList_append_anyS {P : Program} (w : World) {ops : Array Oper} {rest : List Oper} {o : Oper} {a : Act} {Q : Exit → Act → World → Prop} (hgd : o.guard = none) (s x : Operand) (t : TypeId)
    (ho : o.op = .call { callee := .builtin .append, args := #[s, x], argTypes := #[t, t] })
    (base : Nat) (e : TypeId) (i : TypeInfo) (z : Value) (size bytes : Nat) (ht : P.underlying t = some (.slice e)) (hi : P.info? e = some i) (hz : i.zero = some z)
    (hsize : i.size = size) (hby : i.bytes = bytes) (hzs : z.cells.size = size) (hsz : 0 < size)
    (g0 n c0 : Nat) (xs : List Value) (hs : a.eval s = .slice (some ⟨g0, 0, none⟩) n c0) (hown : w.ownsRow base e size (.slice (some ⟨g0, 0, none⟩) n c0) n xs)
    (ad : Option Addr) (m c : Nat) (news : List Value) (hx : a.eval x = .slice ad m c) (hl : news.length = m * size) (hsrc : SrcAt w ad m news) (h1 : ∀ u ∈ news, u.oneCell' = true)
    (h63 : n + m ≤ maxLen) (hbytes : (n + m) * bytes ≤ 140737488355328) (hbase : base ≤ w.heap.size)
    (h : ∀ g cap w', w'.ownsRow base e size (.slice (some ⟨g, 0, none⟩) (n + m) cap) (n + m) (xs ++ news) → Below base w w' → (∀ k, k < w.heap.size → k ≠ g0 → w'.heap[k]? = w.heap[k]?) → base ≤ g → (g = g0 ∨ g = w.heap.size) → g < w'.heap.size → wpList P ops Q rest (a.put o.dst (.slice (some ⟨g, 0, none⟩) (n + m) cap)) w') : wpList P ops Q (o :: rest) a w :=
  wpList_plain hgd fun _ hK => wp_append_any w hgd s x t ho base e i z size bytes ht hi hz hsize hby hzs hsz g0 n c0 xs hs hown ad m c news hx hl hsrc h1 h63 hbytes hbase fun g cap w' h2 h3 h4 h5 h6 h7 => hK _ _ (h g cap w' h2 h3 h4 h5 h6 h7)
end Go.Proofs.YtnbkmmmlhlbfoaaGreatDoor
namespace Go.Proofs.YtnbkmmmlhlbfoaaGreatDoor
open Go.RowKit
theorem flatV_length (ys : List TV) : (flatV ys).length = ys.length * 4 := by
  induction ys with
  | nil => rfl
  | cons y r ih => simp only [flatV, List.flatMap_cons, List.length_append, List.length_cons, List.length_nil] at ih ⊢; omega
theorem flatV_cell (ys : List TV) : ∀ u ∈ flatV ys, u.oneCell' = true := by
  intro u hu
  simp only [flatV, List.mem_flatMap] at hu
  obtain ⟨y, _, hy⟩ := hu
  simp only [List.mem_cons, List.not_mem_nil, or_false] at hy
  rcases hy with rfl | rfl | rfl | rfl <;> rfl
theorem flatV_cons (y : TV) (r : List TV) : flatV (y :: r) = .string y.t.name :: .int .i64 y.t.limit :: .slice y.a1 y.t.mets.length y.c1 :: .slice y.a2 y.t.sers.length y.c2 :: flatV r := rfl
theorem flatV_at : ∀ (ys : List TV) (i : Nat) (h : i < ys.length), (flatV ys)[i * 4]? = some (.string ys[i].t.name) ∧ (flatV ys)[i * 4 + 1]? = some (.int .i64 ys[i].t.limit) ∧ (flatV ys)[i * 4 + 2]? = some (.slice ys[i].a1 ys[i].t.mets.length ys[i].c1) ∧ (flatV ys)[i * 4 + 3]? = some (.slice ys[i].a2 ys[i].t.sers.length ys[i].c2)
  | [], i, h => absurd h (by simp)
  | y :: r, 0, _ => ⟨rfl, rfl, rfl, rfl⟩
  | y :: r, i + 1, h => by
    have := flatV_at r i (by simpa using h)
    have e : (i + 1) * 4 = i * 4 + 1 + 1 + 1 + 1 := by omega
    have e1 : i * 4 + 1 + 1 + 1 + 1 + 1 = i * 4 + 1 + 1 + 1 + 1 + 1 := rfl
    rw [flatV_cons, e]
    simp only [List.getElem?_cons_succ, List.getElem_cons_succ]
    exact this
theorem flatV_set : ∀ (ys : List TV) (i : Nat) (_ : i < ys.length) (y : TV), ((((flatV ys).set (i * 4) (.string y.t.name)).set (i * 4 + 1) (.int .i64 y.t.limit)).set (i * 4 + 2) (.slice y.a1 y.t.mets.length y.c1)).set (i * 4 + 3) (.slice y.a2 y.t.sers.length y.c2) = flatV (ys.set i y)
  | [], i, h, _ => absurd h (by simp)
  | x :: r, 0, _, y => rfl
  | x :: r, i + 1, h, y => by
    have := flatV_set r i (by simpa using h) y
    have e : (i + 1) * 4 = i * 4 + 1 + 1 + 1 + 1 := by omega
    rw [flatV_cons, e]
    simp only [List.set_cons_succ, flatV_cons]
    rw [← this]
theorem TensN.toV {w : World} {A : Nat → Prop} {a : Option Addr} {ts : List TenD} (h : TensN w A a ts) : ∃ ys : List TV, ys.map (·.t) = ts ∧ (∀ y ∈ ys, PairsN w A y.a1 y.t.mets ∧ PairsN w A y.a2 y.t.sers) ∧ ∀ W, Below w.heap.size w W → SrcAt W a ts.length (flatV ys) := by
  rcases h with rfl | ⟨b, o, rfl, _, hlt, h⟩
  · exact ⟨[], rfl, fun y hy => (by cases hy), fun _ _ => Or.inl rfl⟩
  · have key : ∀ n, n ≤ ts.length → ∃ ys : List TV, ys.length = n ∧ ys.map (·.t) = ts.take n ∧ (∀ y ∈ ys, PairsN w A y.a1 y.t.mets ∧ PairsN w A y.a2 y.t.sers) ∧ ∀ j u, (flatV ys)[j]? = some u → w.cell? ⟨b, o + j, none⟩ = some u := by
      intro n
      induction n with
      | zero => exact fun _ => ⟨[], rfl, by simp, fun y hy => (by cases hy), fun j u hu => by simp [flatV] at hu⟩
      | succ n ih =>
        intro hn
        obtain ⟨ys, hl, hm, hp, hc⟩ := ih (by omega)
        obtain ⟨a1, c1, a2, c2, h0, h1, h2, h3, h4, h5⟩ := h n (by omega)
        refine ⟨ys ++ [⟨ts[n], a1, c1, a2, c2⟩], by simp [hl], ?_, fun y hy => ?_, fun j u hu => ?_⟩
        · rw [List.map_append, hm, List.take_succ_eq_append_getElem (by omega)]; rfl
        · rcases List.mem_append.1 hy with hy | hy
          · exact hp y hy
          · rw [List.mem_singleton] at hy
            subst hy
            exact ⟨h4, h5⟩
        · rw [flatV_append] at hu
          have hfl := flatV_length ys
          by_cases hj : j < (flatV ys).length
          · rw [List.getElem?_append_left hj] at hu
            exact hc j u hu
          · rw [List.getElem?_append_right (by omega)] at hu
            obtain ⟨d, hd⟩ : ∃ d, j = n * 4 + d := ⟨j - n * 4, by omega⟩
            rw [show j - (flatV ys).length = d by omega] at hu
            rw [hd]
            have e : flatV [(⟨ts[n], a1, c1, a2, c2⟩ : TV)] = [.string ts[n].name, .int .i64 ts[n].limit, .slice a1 ts[n].mets.length c1, .slice a2 ts[n].sers.length c2] := rfl
            rw [e] at hu
            match d, hu with
            | 0, hu => rw [← hu]; exact h0
            | 1, hu => rw [← hu]; exact h1
            | 2, hu => rw [← hu]; exact h2
            | 3, hu => rw [← hu]; exact h3
            | d + 4, hu => simp at hu
    obtain ⟨ys, hl, hm, hp, hc⟩ := key ts.length (Nat.le_refl _)
    rw [List.take_length] at hm
    exact ⟨ys, hm, hp, fun W hW => Or.inr ⟨_, rfl, fun j u hu => by rw [addr_add]; exact (hW.cell hlt).trans (hc j u hu)⟩⟩
theorem row_setM {w : World} {base g cv n m : Nat} {e : TypeId} {xs : List Value} (h : w.ownsRow base e m (.slice (some ⟨g, 0, none⟩) n cv) n xs) (j : Nat) (u : Value) : (w.setCell ⟨g, j, none⟩ u).ownsRow base e m (.slice (some ⟨g, 0, none⟩) n cv) n (xs.set j u) := by
  obtain ⟨h1, h2⟩ := h
  refine ⟨by rw [List.length_set]; exact h1, ?_⟩
  rcases h2 with ⟨e1, _⟩ | ⟨g', cap, cur, e1, hb, hg, hn, hm, hs, ht⟩
  · exact absurd e1 (by simp)
  · simp only [Value.slice.injEq, Option.some.injEq, Addr.mk.injEq, and_true, true_and] at e1
    obtain ⟨rfl, rfl⟩ := e1
    refine Or.inr ⟨g, cv, cur.setIfInBounds j u, rfl, hb, heap_setCell_same w g j cur e u hg, hn, hm, by rw [Array.size_setIfInBounds]; exact hs, ?_⟩
    rw [Array.toList_setIfInBounds, List.take_set, ht]
theorem row_cellM {w : World} {base g cv n m : Nat} {e : TypeId} {xs : List Value} (h : w.ownsRow base e m (.slice (some ⟨g, 0, none⟩) n cv) n xs) : n ≤ cv ∧ cv ≤ maxLen ∧ g < w.heap.size ∧ base ≤ g ∧ (∀ j u, xs[j]? = some u → w.cell? ⟨g, j, none⟩ = some u) ∧ ∀ j, w.frozen? ⟨g, j, none⟩ = false := by
  rcases h.2 with ⟨e1, _⟩ | ⟨g', cap, cur, e1, hb, hg, hn, hm, hs, ht⟩
  · exact absurd e1 (by simp)
  · simp only [Value.slice.injEq, Option.some.injEq, Addr.mk.injEq, and_true, true_and] at e1
    obtain ⟨rfl, rfl⟩ := e1
    refine ⟨hn, hm, lt_of_block hg, hb, fun j u hu => ?_, fun j => frozen_of_row w g j cur _ hg⟩
    rw [cell_of_row w g _ cur _ _ hg]
    rw [← ht, List.getElem?_take] at hu
    split at hu
    · simpa using hu
    · exact absurd hu (by simp)
theorem tensN_of_row {w : World} {A : Nat → Prop} {base g cv : Nat} {e : TypeId} {ys : List TV} (h : w.ownsRow base e 4 (.slice (some ⟨g, 0, none⟩) ys.length cv) ys.length (flatV ys)) (hA : ∀ q, base ≤ q → A q) (hp : ∀ y ∈ ys, PairsN w A y.a1 y.t.mets ∧ PairsN w A y.a2 y.t.sers) : TensN w A (some ⟨g, 0, none⟩) (ys.map (·.t)) := by
  obtain ⟨_, _, hlt, hbg, hc, _⟩ := row_cellM h
  refine Or.inr ⟨g, 0, rfl, hA g hbg, hlt, fun i hi => ?_⟩
  rw [List.length_map] at hi
  obtain ⟨q0, q1, q2, q3⟩ := flatV_at ys i hi
  obtain ⟨p1, p2⟩ := hp _ (List.getElem_mem hi)
  refine ⟨ys[i].a1, ys[i].c1, ys[i].a2, ys[i].c2, ?_⟩
  simp only [List.getElem_map, Nat.zero_add]
  exact ⟨hc _ _ q0, hc _ _ q1, hc _ _ q2, hc _ _ q3, p1, p2⟩
theorem row_keepM {w w' : World} {base g cv n m : Nat} {e : TypeId} {xs : List Value} (h : w.ownsRow base e m (.slice (some ⟨g, 0, none⟩) n cv) n xs) (hk : w'.heap[g]? = w.heap[g]?) : w'.ownsRow base e m (.slice (some ⟨g, 0, none⟩) n cv) n xs := by
  obtain ⟨h1, h2⟩ := h
  refine ⟨h1, ?_⟩
  rcases h2 with ⟨e1, _⟩ | ⟨g', cap, cur, e1, hb, hg, hn, hm, hs, ht⟩
  · exact absurd e1 (by simp)
  · simp only [Value.slice.injEq, Option.some.injEq, Addr.mk.injEq, and_true, true_and] at e1
    obtain ⟨rfl, rfl⟩ := e1
    exact Or.inr ⟨g, cv, cur, rfl, hb, hk.trans hg, hn, hm, hs, ht⟩
theorem PairsOwn.keepC {w w' : World} {C : Nat} {a : Option Addr} {ps : List PairD} (h : PairsOwn w C a ps) (hk : ∀ g, C ≤ g → g < w.heap.size → w'.heap[g]? = w.heap[g]?) : PairsOwn w' C a ps := by
  rcases h with h | ⟨g, o, cur, t, rfl, hC, hb, h⟩
  · exact Or.inl h
  · have e := hk g hC (lt_of_block hb)
    have hc : ∀ j, w'.cell? ⟨g, j, none⟩ = w.cell? ⟨g, j, none⟩ := fun j => World.cell?_of_block e
    exact Or.inr ⟨g, o, cur, t, rfl, hC, e.trans hb, fun i hi => by simp only [hc]; exact h i hi⟩
theorem spl_end {B P E g cv i : Nat} {A : Nat → Prop} {bs : List Nat} {τ : CSt} {w wz : World} {ys : List TV} {y : TV} {now : Int} (hc : CurX wz B P bs τ) (hbu : But B w wz) (hrow : wz.ownsRow (w.heap.size + 1 + 1) 46 4 (.slice (some ⟨g, 0, none⟩) ys.length cv) ys.length (flatV ys)) (hold : ∀ y ∈ ys, PairsN w A y.a1 y.t.mets ∧ PairsN w A y.a2 y.t.sers) (hi : i < ys.length) (hgE : g < E) (h1 : PairsOwn wz E y.a1 y.t.mets) (h2 : PairsOwn wz E y.a2 y.t.sers) (hPw : P ≤ w.heap.size) (hAB : ¬ A B) (hA : ∀ q, w.heap.size ≤ q → A q) :
    TensN ((((((wz.setCell ⟨g, i * 4, none⟩ (.string y.t.name)).setCell ⟨g, i * 4 + 1, none⟩ (.int .i64 y.t.limit)).setCell ⟨g, i * 4 + 2, none⟩ (.slice y.a1 y.t.mets.length y.c1)).setCell ⟨g, i * 4 + 3, none⟩ (.slice y.a2 y.t.sers.length y.c2)).setCell ⟨w.heap.size + 1, 0, none⟩ (.int .i64 now)).setCell ⟨w.heap.size + 1, 1, none⟩ (.slice (some ⟨g, 0, none⟩) ys.length cv)) A (some ⟨g, 0, none⟩) ((ys.map (·.t)).set i y.t) ∧
    CurX ((((((wz.setCell ⟨g, i * 4, none⟩ (.string y.t.name)).setCell ⟨g, i * 4 + 1, none⟩ (.int .i64 y.t.limit)).setCell ⟨g, i * 4 + 2, none⟩ (.slice y.a1 y.t.mets.length y.c1)).setCell ⟨g, i * 4 + 3, none⟩ (.slice y.a2 y.t.sers.length y.c2)).setCell ⟨w.heap.size + 1, 0, none⟩ (.int .i64 now)).setCell ⟨w.heap.size + 1, 1, none⟩ (.slice (some ⟨g, 0, none⟩) ys.length cv)) B P bs τ ∧
    But B w ((((((wz.setCell ⟨g, i * 4, none⟩ (.string y.t.name)).setCell ⟨g, i * 4 + 1, none⟩ (.int .i64 y.t.limit)).setCell ⟨g, i * 4 + 2, none⟩ (.slice y.a1 y.t.mets.length y.c1)).setCell ⟨g, i * 4 + 3, none⟩ (.slice y.a2 y.t.sers.length y.c2)).setCell ⟨w.heap.size + 1, 0, none⟩ (.int .i64 now)).setCell ⟨w.heap.size + 1, 1, none⟩ (.slice (some ⟨g, 0, none⟩) ys.length cv)) := by
  obtain ⟨_, _, hlt, hbg, _, _⟩ := row_cellM hrow
  have hg0 : w.heap.size ≤ g := by omega
  have hR0 : w.heap.size ≤ w.heap.size + 1 := by omega
  have r4 := row_setM (row_setM (row_setM (row_setM hrow (i * 4) (.string y.t.name)) (i * 4 + 1) (.int .i64 y.t.limit)) (i * 4 + 2) (.slice y.a1 y.t.mets.length y.c1)) (i * 4 + 3) (.slice y.a2 y.t.sers.length y.c2)
  rw [flatV_set ys i hi y] at r4
  have b4 : But g wz ((((wz.setCell ⟨g, i * 4, none⟩ (.string y.t.name)).setCell ⟨g, i * 4 + 1, none⟩ (.int .i64 y.t.limit)).setCell ⟨g, i * 4 + 2, none⟩ (.slice y.a1 y.t.mets.length y.c1)).setCell ⟨g, i * 4 + 3, none⟩ (.slice y.a2 y.t.sers.length y.c2)) := ((((But.refl g wz).setCell _ _).setCell _ _).setCell _ _).setCell _ _
  have e4 : Below w.heap.size wz ((((wz.setCell ⟨g, i * 4, none⟩ (.string y.t.name)).setCell ⟨g, i * 4 + 1, none⟩ (.int .i64 y.t.limit)).setCell ⟨g, i * 4 + 2, none⟩ (.slice y.a1 y.t.mets.length y.c1)).setCell ⟨g, i * 4 + 3, none⟩ (.slice y.a2 y.t.sers.length y.c2)) := ((((Below.refl w.heap.size wz).setCell hg0 _).setCell hg0 _).setCell hg0 _).setCell hg0 _
  generalize ((((wz.setCell ⟨g, i * 4, none⟩ (.string y.t.name)).setCell ⟨g, i * 4 + 1, none⟩ (.int .i64 y.t.limit)).setCell ⟨g, i * 4 + 2, none⟩ (.slice y.a1 y.t.mets.length y.c1)).setCell ⟨g, i * 4 + 3, none⟩ (.slice y.a2 y.t.sers.length y.c2)) = w4 at *
  have b5 : But (w.heap.size + 1) w4 ((w4.setCell ⟨w.heap.size + 1, 0, none⟩ (.int .i64 now)).setCell ⟨w.heap.size + 1, 1, none⟩ (.slice (some ⟨g, 0, none⟩) ys.length cv)) := ((But.refl _ w4).setCell _ _).setCell _ _
  have e5 : Below w.heap.size w4 ((w4.setCell ⟨w.heap.size + 1, 0, none⟩ (.int .i64 now)).setCell ⟨w.heap.size + 1, 1, none⟩ (.slice (some ⟨g, 0, none⟩) ys.length cv)) := ((Below.refl w.heap.size w4).setCell hR0 _).setCell hR0 _
  generalize (w4.setCell ⟨w.heap.size + 1, 0, none⟩ (.int .i64 now)).setCell ⟨w.heap.size + 1, 1, none⟩ (.slice (some ⟨g, 0, none⟩) ys.length cv) = w5 at *
  have hbw : But B w w5 := (hbu.below_to e4).below_to e5
  have hs4 := b4.size
  have hgl : g < w4.heap.size := by omega
  have hkE : ∀ q, E ≤ q → q < wz.heap.size → w5.heap[q]? = wz.heap[q]? := fun q hq hl => (b5.block q (by omega) (by omega)).trans (b4.block q hl (by omega))
  refine ⟨?_, (hc.below (e4.mono hPw)).below (e5.mono hPw), hbw⟩
  have r5 := row_keepM r4 (b5.block g hgl (by omega))
  have hl : ys.length = (ys.set i y).length := (List.length_set ..).symm
  have := tensN_of_row (A := A) (ys := ys.set i y) (by rw [← hl]; exact r5) (fun q hq => hA q (by omega)) fun z hz => by
    rcases List.mem_or_eq_of_mem_set hz with hz | rfl
    · exact ⟨((hold z hz).1).but hbw hAB, ((hold z hz).2).but hbw hAB⟩
    · exact ⟨(h1.keepC hkE).toN fun q hq => hA q (by omega), (h2.keepC hkE).toN fun q hq => hA q (by omega)⟩
  rw [List.map_set] at this
  exact this
theorem pairsN_src {w : World} {A : Nat → Prop} {a : Option Addr} {ps : List PairD} (h : PairsN w A a ps) : SrcAt w a ps.length (flatK ps) := by
  rcases h with rfl | ⟨g, o, rfl, _, _, h⟩
  · exact Or.inl rfl
  · exact Or.inr ⟨_, rfl, pairs_news h⟩
theorem spl_end0 {B P g cv : Nat} {A : Nat → Prop} {bs : List Nat} {τ : CSt} {w wz : World} {ys : List TV} {x x' x2 : Value} (hc : CurX wz B P bs τ) (hbu : But B w wz) (hrow : wz.ownsRow (w.heap.size + 1 + 1) 46 4 (.slice (some ⟨g, 0, none⟩) ys.length cv) ys.length (flatV ys)) (hold : ∀ y ∈ ys, PairsN w A y.a1 y.t.mets ∧ PairsN w A y.a2 y.t.sers) (hPw : P ≤ w.heap.size) (hAB : ¬ A B) (hA : ∀ q, w.heap.size ≤ q → A q) :
    TensN (((wz.setCell ⟨w.heap.size, 0, none⟩ x).setCell ⟨w.heap.size + 1, 0, none⟩ x').setCell ⟨w.heap.size + 1, 1, none⟩ x2) A (some ⟨g, 0, none⟩) (ys.map (·.t)) ∧
    CurX (((wz.setCell ⟨w.heap.size, 0, none⟩ x).setCell ⟨w.heap.size + 1, 0, none⟩ x').setCell ⟨w.heap.size + 1, 1, none⟩ x2) B P bs τ ∧
    But B w (((wz.setCell ⟨w.heap.size, 0, none⟩ x).setCell ⟨w.heap.size + 1, 0, none⟩ x').setCell ⟨w.heap.size + 1, 1, none⟩ x2) := by
  obtain ⟨_, _, hlt, hbg, _, _⟩ := row_cellM hrow
  have hS0 : w.heap.size ≤ w.heap.size := Nat.le_refl _
  have hR0 : w.heap.size ≤ w.heap.size + 1 := by omega
  have b4 : But w.heap.size wz (wz.setCell ⟨w.heap.size, 0, none⟩ x) := (But.refl _ wz).setCell _ _
  have e4 : Below w.heap.size wz (wz.setCell ⟨w.heap.size, 0, none⟩ x) := (Below.refl w.heap.size wz).setCell hS0 _
  generalize wz.setCell ⟨w.heap.size, 0, none⟩ x = w4 at *
  have b5 : But (w.heap.size + 1) w4 ((w4.setCell ⟨w.heap.size + 1, 0, none⟩ x').setCell ⟨w.heap.size + 1, 1, none⟩ x2) := ((But.refl _ w4).setCell _ _).setCell _ _
  have e5 : Below w.heap.size w4 ((w4.setCell ⟨w.heap.size + 1, 0, none⟩ x').setCell ⟨w.heap.size + 1, 1, none⟩ x2) := ((Below.refl w.heap.size w4).setCell hR0 _).setCell hR0 _
  generalize (w4.setCell ⟨w.heap.size + 1, 0, none⟩ x').setCell ⟨w.heap.size + 1, 1, none⟩ x2 = w5 at *
  have hbw : But B w w5 := (hbu.below_to e4).below_to e5
  have hs4 := b4.size
  have r5 := row_keepM (row_keepM hrow (b4.block g hlt (by omega))) (b5.block g (by omega) (by omega))
  exact ⟨tensN_of_row r5 (fun q hq => hA q (by omega)) fun z hz => ⟨((hold z hz).1).but hbw hAB, ((hold z hz).2).but hbw hAB⟩, (hc.below (e4.mono hPw)).below (e5.mono hPw), hbw⟩
theorem flatK_cons (x : PairD) (r : List PairD) : flatK (x :: r) = .string x.s :: .int .i64 x.n :: flatK r := rfl
theorem flatK_setS : ∀ (ps : List PairD) (i : Nat) (_ : i < ps.length) (s : ByteArray) (d : PairD), (flatK ps).set (i * 2) (.string s) = flatK (ps.set i ⟨s, (ps.getD i d).n⟩)
  | [], i, h, _, _ => absurd h (by simp)
  | x :: r, 0, _, s, _ => rfl
  | x :: r, i + 1, h, s, d => by
    have := flatK_setS r i (by simpa using h) s d
    have e : (i + 1) * 2 = i * 2 + 1 + 1 := by omega
    rw [flatK_cons, e]
    simp only [List.set_cons_succ, List.getD_cons_succ, flatK_cons]
    rw [← this]
theorem flatK_setN : ∀ (ps : List PairD) (i : Nat) (_ : i < ps.length) (n : Int) (d : PairD), (flatK ps).set (i * 2 + 1) (.int .i64 n) = flatK (ps.set i ⟨(ps.getD i d).s, n⟩)
  | [], i, h, _, _ => absurd h (by simp)
  | x :: r, 0, _, n, _ => rfl
  | x :: r, i + 1, h, n, d => by
    have := flatK_setN r i (by simpa using h) n d
    have e : (i + 1) * 2 + 1 = i * 2 + 1 + 1 + 1 := by omega
    rw [flatK_cons, e]
    simp only [List.set_cons_succ, List.getD_cons_succ, flatK_cons]
    rw [← this]
theorem flatK_at : ∀ (ps : List PairD) (i : Nat) (h : i < ps.length), (flatK ps)[i * 2]? = some (.string ps[i].s) ∧ (flatK ps)[i * 2 + 1]? = some (.int .i64 ps[i].n)
  | [], i, h => absurd h (by simp)
  | y :: r, 0, _ => ⟨rfl, rfl⟩
  | y :: r, i + 1, h => by
    have := flatK_at r i (by simpa using h)
    have e : (i + 1) * 2 = i * 2 + 1 + 1 := by omega
    rw [flatK_cons, e]
    simp only [List.getElem?_cons_succ, List.getElem_cons_succ]
    exact this
def SplO (B P : Nat) (A : Nat → Prop) (bs : List Nat) (V : Int × List TenD × CSt) (w : World) (e : Ending) (w' : World) : Prop :=
  ∃ a' cap', e = .returned (.agg #[.int .i64 V.1, .slice a' V.2.1.length cap']) ∧ TensN w' A a' V.2.1 ∧ CurX w' B P bs V.2.2 ∧ But B w w'
theorem Blk.butZ {w w' : World} {B g : Nat} {cs : Array Value} {t : TypeId} (h : Blk w g cs t) (hb : But B w w') (hg : g ≠ B) : Blk w' g cs t := (hb.block g (lt_of_block h) hg).trans h
theorem at_world {C R : World → Prop} {W : World} (h : R W) (k : ∀ wz, R wz → C wz) : C W := k W h
def SwO (B P : Nat) (bs : List Nat) (w : World) (TB E g1 cap1 n : Nat) (now : Int) (ys : List TV) (V : TenD × CSt) (wx : World) : Prop :=
  ∃ y : TV, V.1 = y.t ∧ Blk wx TB #[.string y.t.name, .int .i64 y.t.limit, .slice y.a1 y.t.mets.length y.c1, .slice y.a2 y.t.sers.length y.c2] 46 ∧ PairsOwn wx E y.a1 y.t.mets ∧ PairsOwn wx E y.a2 y.t.sers ∧ CurX wx B P bs V.2 ∧ But B w wx ∧
    Blk wx w.heap.size #[.int .i64 now, .slice (some ⟨g1, 0, none⟩) n cap1] 27 ∧ Blk wx (w.heap.size + 1) #[.int .i64 0, .slice none 0 0] 27 ∧ wx.ownsRow (w.heap.size + 1 + 1) 46 4 (.slice (some ⟨g1, 0, none⟩) ys.length cap1) ys.length (flatV ys)
theorem swo_mk {B P : Nat} {bs : List Nat} {w wi W : World} {TB E g1 cap1 n : Nat} {now : Int} {ys : List TV} {V : TenD × CSt} (y : TV) (hy : V.1 = y.t) (hc : CurX wi B P bs V.2) (hb : But B w wi)
    (hS : Blk wi w.heap.size #[.int .i64 now, .slice (some ⟨g1, 0, none⟩) n cap1] 27) (hR : Blk wi (w.heap.size + 1) #[.int .i64 0, .slice none 0 0] 27) (hrow : wi.ownsRow (w.heap.size + 1 + 1) 46 4 (.slice (some ⟨g1, 0, none⟩) ys.length cap1) ys.length (flatV ys))
    (hPw : P ≤ w.heap.size) (hg : g1 < TB) (hw : w.heap.size + 1 < TB) (hE : TB < E) (hbe : Below w.heap.size wi W) (hk : ∀ q, q < TB → q < wi.heap.size → W.heap[q]? = wi.heap[q]?)
    (hT : Blk W TB #[.string y.t.name, .int .i64 y.t.limit, .slice y.a1 y.t.mets.length y.c1, .slice y.a2 y.t.sers.length y.c2] 46) (h1 : PairsOwn W E y.a1 y.t.mets) (h2 : PairsOwn W E y.a2 y.t.sers) : SwO B P bs w TB E g1 cap1 n now ys V W :=
  have _ := hE
  ⟨y, hy, hT, h1, h2, hc.below (hbe.mono hPw), hb.below_to hbe, (hk _ (by omega) (lt_of_block hS)).trans hS, (hk _ (by omega) (lt_of_block hR)).trans hR, row_keepM hrow (hk _ (by omega) (row_cellM hrow).2.2.1)⟩
theorem swo_cells {B P : Nat} {A : Nat → Prop} {bs : List Nat} {w wz : World} {TB E g1 cap1 n p : Nat} {now : Int} {ys : List TV} {ts : List TenD} {V : TenD × CSt} (h : SwO B P bs w TB E g1 cap1 n now ys V wz) (hold : ∀ y ∈ ys, PairsN w A y.a1 y.t.mets ∧ PairsN w A y.a2 y.t.sers) (hys : ys.map (·.t) = ts) (hyl : ys.length = n) (hp : p < ys.length) (hgE : g1 < E) (hPw : P ≤ w.heap.size) (hAB : ¬ A B) (hA : ∀ q, w.heap.size ≤ q → A q) :
    ∃ y : TV, (TensN ((((((wz.setCell ⟨g1, p * 4, none⟩ (.string y.t.name)).setCell ⟨g1, p * 4 + 1, none⟩ (.int .i64 y.t.limit)).setCell ⟨g1, p * 4 + 2, none⟩ (.slice y.a1 y.t.mets.length y.c1)).setCell ⟨g1, p * 4 + 3, none⟩ (.slice y.a2 y.t.sers.length y.c2)).setCell ⟨w.heap.size + 1, 0, none⟩ (.int .i64 now)).setCell ⟨w.heap.size + 1, 1, none⟩ (.slice (some ⟨g1, 0, none⟩) n cap1)) A (some ⟨g1, 0, none⟩) (ts.set p V.1) ∧ CurX ((((((wz.setCell ⟨g1, p * 4, none⟩ (.string y.t.name)).setCell ⟨g1, p * 4 + 1, none⟩ (.int .i64 y.t.limit)).setCell ⟨g1, p * 4 + 2, none⟩ (.slice y.a1 y.t.mets.length y.c1)).setCell ⟨g1, p * 4 + 3, none⟩ (.slice y.a2 y.t.sers.length y.c2)).setCell ⟨w.heap.size + 1, 0, none⟩ (.int .i64 now)).setCell ⟨w.heap.size + 1, 1, none⟩ (.slice (some ⟨g1, 0, none⟩) n cap1)) B P bs V.2 ∧ But B w ((((((wz.setCell ⟨g1, p * 4, none⟩ (.string y.t.name)).setCell ⟨g1, p * 4 + 1, none⟩ (.int .i64 y.t.limit)).setCell ⟨g1, p * 4 + 2, none⟩ (.slice y.a1 y.t.mets.length y.c1)).setCell ⟨g1, p * 4 + 3, none⟩ (.slice y.a2 y.t.sers.length y.c2)).setCell ⟨w.heap.size + 1, 0, none⟩ (.int .i64 now)).setCell ⟨w.heap.size + 1, 1, none⟩ (.slice (some ⟨g1, 0, none⟩) n cap1))) ∧
      wz.cell? ⟨g1, p * 4, none⟩ = some (.string ys[p].t.name) ∧ wz.cell? ⟨g1, p * 4 + 1, none⟩ = some (.int .i64 ys[p].t.limit) ∧ wz.cell? ⟨g1, p * 4 + 2, none⟩ = some (.slice ys[p].a1 ys[p].t.mets.length ys[p].c1) ∧ wz.cell? ⟨g1, p * 4 + 3, none⟩ = some (.slice ys[p].a2 ys[p].t.sers.length ys[p].c2) ∧
      (∀ j, wz.frozen? ⟨g1, j, none⟩ = false) ∧ wz.cell? ⟨TB, 0, none⟩ = some (.string y.t.name) ∧ wz.cell? ⟨TB, 1, none⟩ = some (.int .i64 y.t.limit) ∧ wz.cell? ⟨TB, 2, none⟩ = some (.slice y.a1 y.t.mets.length y.c1) ∧ wz.cell? ⟨TB, 3, none⟩ = some (.slice y.a2 y.t.sers.length y.c2) ∧
      wz.cell? ⟨w.heap.size, 0, none⟩ = some (.int .i64 now) ∧ wz.cell? ⟨w.heap.size, 1, none⟩ = some (.slice (some ⟨g1, 0, none⟩) n cap1) ∧ wz.cell? ⟨w.heap.size + 1, 0, none⟩ = some (.int .i64 0) ∧ wz.cell? ⟨w.heap.size + 1, 1, none⟩ = some (.slice none 0 0) ∧ wz.frozen? ⟨w.heap.size + 1, 0, none⟩ = false ∧ wz.frozen? ⟨w.heap.size + 1, 1, none⟩ = false ∧
      ¬ (w.heap.size = g1) ∧ ¬ (w.heap.size + 1 = g1) ∧ ¬ (g1 = w.heap.size) ∧ ¬ (g1 = w.heap.size + 1) := by
  obtain ⟨y, hyt, hT, hp1, hp2, hcz, hbz, hS, hR, hrow⟩ := h
  have HE := spl_end (y := y) (now := now) hcz hbz hrow hold hp hgE hp1 hp2 hPw hAB hA
  have rc := row_cellM hrow
  obtain ⟨k0, k1, k2, k3⟩ := flatV_at ys p hp
  rw [hys, hyl] at HE
  rw [hyt]
  exact ⟨y, HE, rc.2.2.2.2.1 _ _ k0, rc.2.2.2.2.1 _ _ k1, rc.2.2.2.2.1 _ _ k2, rc.2.2.2.2.1 _ _ k3, rc.2.2.2.2.2, hT.cell 0, hT.cell 1, hT.cell 2, hT.cell 3, hS.cell 0, hS.cell 1, hR.cell 0, hR.cell 1, hR.free 0, hR.free 1, by omega, by omega, by omega, by omega⟩
theorem pairs_row {w : World} {b g c : Nat} {e : TypeId} {l : List PairD} (h : w.ownsRow b e 2 (.slice (some ⟨g, 0, none⟩) l.length c) l.length (flatK l)) : PairsOwn w b (some ⟨g, 0, none⟩) l := pairs_of_row h
end Go.Proofs.YtnbkmmmlhlbfoaaGreatDoor
namespace Go.Proofs.YtnbkmmmlhlbfoaaGreatDoor
open Go.RowKit
theorem step_enterE {P : Program} {w : World} {ops : Array Oper} {o : Oper} {a : Act} {K : Act → World → Prop} {Q : Exit → Act → World → Prop} {E : Prop} {f : FuncId} {args : Array Value} (hgd : o.guard = none) (hx : (execOp a.eval o).run P w = .ok (.enter f args) w)
    (h : Calls P f args w (fun e w' => ∃ v, e = .returned v ∧ K (a.put o.dst v) w')) : if Region.wanted o (yielded ops a.tmps) = true then Oper.wp P o a w K Q else E := by
  have hw : Region.wanted o (yielded ops a.tmps) = true := by simp [Region.wanted, hgd]
  rw [if_pos hw]
  unfold Oper.wp
  rw [hx]
  refine h.mono ?_
  rintro e w' ⟨v, rfl, hK⟩
  exact hK
theorem ButDrewE {B : Nat} {w w' : World} (h : But B w w') : But B w w'.drew := ⟨h.os, h.tape, h.output, h.size, h.block⟩
end Go.Proofs.YtnbkmmmlhlbfoaaGreatDoor
