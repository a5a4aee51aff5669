import Derived.Test.YtoecnlhnfhongaaGreatDoorJ03StaB
import Derived.Test.YtoecnlhnfhongaaGreatDoorJ02BatL
namespace Go.Proofs.YtoecnlhnfhongaaGreatDoor
open Go.RowKit

/-- A tenant and where its two lists lie. -/
structure TV where
  t : TenD
  a1 : Option Addr
  c1 : Nat
  a2 : Option Addr
  c2 : Nat
def flatV (ys : List TV) : List Value := ys.flatMap fun y => [.string y.t.name, .int .i64 y.t.limit, .slice y.a1 y.t.mets.length y.c1, .slice y.a2 y.t.sers.length y.c2]
theorem flatV_append (a b : List TV) : flatV (a ++ b) = flatV a ++ flatV b := by simp [flatV]
def PartsV (w : World) (b : Nat) (T : Nat → Nat) (ys : List TV) : Prop :=
  ∀ i (h : i < ys.length), PairsTag w b T (2 * i + 1) ys[i].a1 ys[i].t.mets ∧ PairsTag w b T (2 * i + 2) ys[i].a2 ys[i].t.sers
def RowV (w : World) (b : Nat) (e : TypeId) (v : Value) (n : Nat) (ts : List TenD) : Prop :=
  ∃ T ys, w.ownsRow b e 4 v n (flatV ys) ∧ ys.map (·.t) = ts ∧ (∀ g, v.ownBlock = some g → T g = 0) ∧ PartsV w b T ys
theorem RowV.nil (w : World) (b : Nat) (e : TypeId) : RowV w b e (.slice none 0 0) 0 [] :=
  ⟨fun _ => 0, [], World.ownsRow_nil _ _ _ _, rfl, fun _ _ => rfl, fun i h => absurd h (by simp)⟩
theorem RowV.row {w : World} {b : Nat} {e : TypeId} {v : Value} {n : Nat} {ts : List TenD} (h : RowV w b e v n ts) : ∃ a c, v = .slice a n c := by
  obtain ⟨_, _, h, _⟩ := h
  rcases h.2 with ⟨rfl, rfl⟩ | ⟨g, cap, cur, rfl, _⟩
  · exact ⟨none, 0, rfl⟩
  · exact ⟨_, _, rfl⟩
theorem RowV.lt {w : World} {b : Nat} {e : TypeId} {v : Value} {n : Nat} {ts : List TenD} (h : RowV w b e v n ts) : ∀ g, v.ownBlock = some g → b ≤ g ∧ g < w.heap.size := by
  obtain ⟨_, _, h, _⟩ := h
  exact fun g hg => h.lt g hg
theorem RowV.turn {w w' : World} {S : Nat → Prop} {b : Nat} {e : TypeId} {v : Value} {n : Nat} {ts : List TenD} (h : RowV w b e v n ts) (ht : Turn S w w') (hS : ∀ g, S g → g < b) : RowV w' b e v n ts := by
  obtain ⟨T, ys, h1, h2, h3, h4⟩ := h
  refine ⟨T, ys, ht.row h1 (fun g hg e => by have := (h1.lt g hg).1; have := hS g e; omega), h2, h3, fun i hi => ?_⟩
  have hk : ∀ g, g < w.heap.size → b ≤ g → w'.heap[g]? = w.heap[g]? := fun g hg hb => ht.block g hg (fun e => by have := hS g e; omega)
  exact ⟨(h4 i hi).1.keep fun g hg hb hT => ⟨hk g hg hb, hT⟩, (h4 i hi).2.keep fun g hg hb hT => ⟨hk g hg hb, hT⟩⟩
/-- One tenant more: its lists lie in blocks that were made since. -/
theorem RowV.snoc {wr w4 w6 : World} {b M gg cap k : Nat} {e : TypeId} {v : Value} {T : Nat → Nat} {ys : List TV} {ts : List TenD} {t : TenD} {a1 a2 : Option Addr} {c1 c2 : Nat}
    (hrow : w6.ownsRow b e 4 (.slice (some ⟨gg, 0, none⟩) (k + 1) cap) (k + 1) (flatV ys ++ [.string t.name, .int .i64 t.limit, .slice a1 t.mets.length c1, .slice a2 t.sers.length c2]))
    (hys : ys.map (·.t) = ts) (hyk : ys.length = k) (hv : ∀ g, v.ownBlock = some g → T g = 0) (hp : PartsV wr b T ys) (hb : b ≤ wr.heap.size) (hM : wr.heap.size ≤ M)
    (hk0 : ∀ g, g < wr.heap.size → b ≤ g → v.ownBlock ≠ some g → w6.heap[g]? = wr.heap[g]?) (hk4 : ∀ g, wr.heap.size ≤ g → g < w4.heap.size → w6.heap[g]? = w4.heap[g]?)
    (h1 : PairsOwn w4 wr.heap.size a1 t.mets) (h1M : ∀ g o, a1 = some ⟨g, o, none⟩ → g < M) (h2 : PairsOwn w4 M a2 t.sers)
    (hgg : (v.ownBlock = some gg ∧ gg < wr.heap.size) ∨ w4.heap.size ≤ gg) (h4r : wr.heap.size ≤ w4.heap.size) (hM4 : M ≤ w4.heap.size) : RowV w6 b e (.slice (some ⟨gg, 0, none⟩) (k + 1) cap) (k + 1) (ts ++ [t]) := by
  have own6 : ∀ {B n : Nat} {T' : Nat → Nat} {a : Option Addr} {ps : List PairD}, wr.heap.size ≤ B → PairsOwn w4 B a ps → (∀ g o, a = some ⟨g, o, none⟩ → B ≤ g → g < w4.heap.size → T' g = n) → PairsTag w6 b T' n a ps := by
    intro B n T' a ps hB h hT
    rcases h with h | ⟨g, o, cur, ty, rfl, hBg, hblk, hat⟩
    · exact Or.inl h
    · have hlt := lt_of_block hblk
      have hke := hk4 g (by omega) hlt
      have hc : ∀ j, w6.cell? ⟨g, j, none⟩ = w4.cell? ⟨g, j, none⟩ := fun j => World.cell?_of_block hke
      exact Or.inr ⟨g, o, cur, ty, rfl, by omega, hT g o rfl hBg hlt, hke.trans hblk, fun i hi => by simp only [hc]; exact hat i hi⟩
  refine ⟨fun g => if g < wr.heap.size then T g else if g < M then 2 * k + 1 else if g < w4.heap.size then 2 * k + 2 else 0, ys ++ [⟨t, a1, c1, a2, c2⟩], ?_, ?_, ?_, ?_⟩
  · rw [flatV_append]; exact hrow
  · rw [List.map_append, hys]; rfl
  · intro g hg
    simp only [Value.ownBlock, Option.some.injEq] at hg
    subst hg
    rcases hgg with ⟨h, hl⟩ | h
    · simp only [if_pos hl]; exact hv _ h
    · simp only [if_neg (show ¬ gg < wr.heap.size by omega), if_neg (show ¬ gg < M by omega), if_neg (show ¬ gg < w4.heap.size by omega)]
  · intro i hi
    by_cases hik : i < ys.length
    · rw [List.getElem_append_left hik]
      obtain ⟨p1, p2⟩ := hp i hik
      refine ⟨p1.keep fun g hg hbg hT => ⟨hk0 g hg hbg (fun e => by have := hv g e; omega), by simp only [if_pos hg]; exact hT⟩, p2.keep fun g hg hbg hT => ⟨hk0 g hg hbg (fun e => by have := hv g e; omega), by simp only [if_pos hg]; exact hT⟩⟩
    · have e : i = k := by simp at hi; omega
      subst e
      rw [List.getElem_append_right (by omega)]
      simp only [hyk, Nat.sub_self, List.getElem_cons_zero]
      refine ⟨own6 (Nat.le_refl _) h1 fun g o ha hg _ => ?_, own6 hM h2 fun g o ha hg hl => ?_⟩
      · simp only [if_neg (show ¬ g < wr.heap.size by omega), if_pos (h1M g o ha)]
      · simp only [if_neg (show ¬ g < wr.heap.size by omega), if_neg (show ¬ g < M by omega), if_pos hl]
/-- A row of tenants is tenants in blocks of their own. -/
theorem RowV.own {w : World} {b : Nat} {e : TypeId} {a : Option Addr} {n cap : Nat} {ts : List TenD} (h : RowV w b e (.slice a n cap) n ts) (hn : ts.length = n) : TensOwn w b a ts := by
  obtain ⟨T, ys, h1, h2, h3, h4⟩ := h
  have hyl : ys.length = n := by rw [← hn, ← h2, List.length_map]
  rcases h1.2 with ⟨_, hl⟩ | ⟨g, cap', cur, he, hB, hg, _, _, hsz, htk⟩
  · exact Or.inl (List.length_eq_zero_iff.1 (by omega))
  · simp only [Value.slice.injEq] at he
    have hT : T g = 0 := h3 g (by rw [he.1]; rfl)
    have hf : ∀ (l : List TV) i (hi : i < l.length), (flatV l)[i * 4]? = some (.string l[i].t.name) ∧ (flatV l)[i * 4 + 1]? = some (.int .i64 l[i].t.limit) ∧ (flatV l)[i * 4 + 2]? = some (.slice l[i].a1 l[i].t.mets.length l[i].c1) ∧ (flatV l)[i * 4 + 3]? = some (.slice l[i].a2 l[i].t.sers.length l[i].c2) := by
      intro l
      unfold flatV
      induction l with
      | nil => intro i hi; exact absurd hi (by simp)
      | cons x r ih =>
        intro i hi
        cases i with
        | zero => simp
        | succ i =>
          have := ih i (by simpa using hi)
          simp only [List.flatMap_cons, List.cons_append, List.nil_append, List.getElem_cons_succ]
          refine ⟨?_, ?_, ?_, ?_⟩
          · rw [show (i + 1) * 4 = i * 4 + 1 + 1 + 1 + 1 by omega, List.getElem?_cons_succ, List.getElem?_cons_succ, List.getElem?_cons_succ, List.getElem?_cons_succ]; exact this.1
          · rw [show (i + 1) * 4 + 1 = i * 4 + 1 + 1 + 1 + 1 + 1 by omega, List.getElem?_cons_succ, List.getElem?_cons_succ, List.getElem?_cons_succ, List.getElem?_cons_succ]; exact this.2.1
          · rw [show (i + 1) * 4 + 2 = i * 4 + 2 + 1 + 1 + 1 + 1 by omega, List.getElem?_cons_succ, List.getElem?_cons_succ, List.getElem?_cons_succ, List.getElem?_cons_succ]; exact this.2.2.1
          · rw [show (i + 1) * 4 + 3 = i * 4 + 3 + 1 + 1 + 1 + 1 by omega, List.getElem?_cons_succ, List.getElem?_cons_succ, List.getElem?_cons_succ, List.getElem?_cons_succ]; exact this.2.2.2
    have hc : ∀ j, j < n * 4 → w.cell? ⟨g, j, none⟩ = (flatV ys)[j]? := fun j hj => by
      rw [Blk.cell (show Blk w g cur e from hg) j, ← Array.getElem?_toList, ← htk, List.getElem?_take_of_lt hj]
    refine Or.inr ⟨g, 0, cur, e, T, he.1, hB, hg, hT, fun i hi => ?_⟩
    have hiy : i < ys.length := by omega
    have et : ts[i] = ys[i].t := by simp only [← h2, List.getElem_map]
    obtain ⟨f0, f1, f2, f3⟩ := hf ys i hiy
    rw [et]
    refine ⟨ys[i].a1, ys[i].c1, ys[i].a2, ys[i].c2, ?_, ?_, ?_, ?_, (h4 i hiy).1, (h4 i hiy).2⟩
    · rw [Nat.zero_add, hc _ (by omega)]; exact f0
    · rw [Nat.zero_add, hc _ (by omega)]; exact f1
    · rw [Nat.zero_add, hc _ (by omega)]; exact f2
    · rw [Nat.zero_add, hc _ (by omega)]; exact f3
end Go.Proofs.YtoecnlhnfhongaaGreatDoor

