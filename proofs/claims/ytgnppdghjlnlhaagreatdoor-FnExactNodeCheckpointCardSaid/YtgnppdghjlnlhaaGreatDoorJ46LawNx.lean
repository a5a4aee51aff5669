import Derived.Test.YtgnppdghjlnlhaaGreatDoorJ40INdX
import Derived.Test.YtgnppdghjlnlhaaGreatDoorJ45SNdR
namespace Go.Proofs.YtgnppdghjlnlhaaGreatDoor
open Go.RowKit
theorem blk_allocB {w w' : World} {cs : Array Value} {t : TypeId} (h : Below (w.alloc (.cells cs t)).heap.size (w.alloc (.cells cs t)) w') : Blk w' w.heap.size cs t := (Blk.new w cs t).later h
theorem blk_drewB {w w' : World} {cs : Array Value} {t : TypeId} (h : Below (w.alloc (.cells cs t)).drew.heap.size (w.alloc (.cells cs t)).drew w') : Blk w' w.heap.size cs t := (Blk.new w cs t).later ⟨h.os, h.tape, h.output, h.size, h.block⟩
theorem set14 {w1 w5 : World} {X : Nat} {v0 v1 v2 v3 v4 v5 v6 v7 v8 v9 v10 v11 v12 v13 : Value} (h : Below w1.heap.size w1 w5) (hX : w1.heap.size ≤ X) : Below w1.heap.size w1 ((((((((((((((w5.setCell ⟨X, 0, none⟩ (v0)).setCell ⟨X, 1, none⟩ (v1)).setCell ⟨X, 2, none⟩ (v2)).setCell ⟨X, 3, none⟩ (v3)).setCell ⟨X, 4, none⟩ (v4)).setCell ⟨X, 5, none⟩ (v5)).setCell ⟨X, 6, none⟩ (v6)).setCell ⟨X, 7, none⟩ (v7)).setCell ⟨X, 8, none⟩ (v8)).setCell ⟨X, 9, none⟩ (v9)).setCell ⟨X, 10, none⟩ (v10)).setCell ⟨X, 11, none⟩ (v11)).setCell ⟨X, 12, none⟩ (v12)).setCell ⟨X, 13, none⟩ (v13)) := ((((((((((((((h.setCell hX _).setCell hX _).setCell hX _).setCell hX _).setCell hX _).setCell hX _).setCell hX _).setCell hX _).setCell hX _).setCell hX _).setCell hX _).setCell hX _).setCell hX _).setCell hX _)
theorem TensIn.store {w W : World} {a : Option Addr} {ts : List TenD} {P : Nat} {cs : Array Value} {t : TypeId} (h : TensIn w a ts) (hz : Blk w P cs t) (hn : ∀ (j : Nat) (s : ByteArray), cs[j]? ≠ some (Value.string s)) (ht : Turn (· = P) w W) : TensIn W a ts := by
  have hp : ∀ {q : Option Addr} {ps : List PairD}, PairsIn w q ps → PairsIn W q ps := fun {q ps} h => by
    rcases h with h | ⟨b, o, e, hb, h⟩
    · exact Or.inl h
    · by_cases h0 : ps = []
      · exact Or.inl h0
      · have hl : 0 < ps.length := by rcases ps with _ | ⟨f, r⟩; exact absurd rfl h0; simp
        have hne : b ≠ P := fun e2 => by
          subst e2
          have h1 := (h 0 hl).1
          rw [hz.cell] at h1
          exact hn _ _ h1
        have hk := ht.block b hb hne
        have hc : ∀ j, W.cell? ⟨b, j, none⟩ = w.cell? ⟨b, j, none⟩ := fun j => World.cell?_of_block hk
        exact Or.inr ⟨b, o, e, Nat.lt_of_lt_of_le hb ht.size, fun i hi => by simp only [hc]; exact h i hi⟩
  rcases h with h | ⟨b, o, e, hb, h⟩
  · exact Or.inl h
  · by_cases h0 : ts = []
    · exact Or.inl h0
    · have hl : 0 < ts.length := by rcases ts with _ | ⟨f, r⟩; exact absurd rfl h0; simp
      have hne : b ≠ P := fun e2 => by
        subst e2
        obtain ⟨_, _, _, _, h1, _⟩ := h 0 hl
        rw [hz.cell] at h1
        exact hn _ _ h1
      have hk := ht.block b hb hne
      have hc : ∀ j, W.cell? ⟨b, j, none⟩ = w.cell? ⟨b, j, none⟩ := fun j => World.cell?_of_block hk
      refine Or.inr ⟨b, o, e, Nat.lt_of_lt_of_le hb ht.size, fun i hi => ?_⟩
      obtain ⟨a1, c1, a2, c2, h0, h1, h2, h3, h4, h5⟩ := h i hi
      exact ⟨a1, c1, a2, c2, (hc _).trans h0, (hc _).trans h1, (hc _).trans h2, (hc _).trans h3, hp h4, hp h5⟩
def FVal (w : World) (k0 k10 : Value) (N : NodeD) : Prop := ∃ a ca b cb, k0 = .slice a N.d.fs.length ca ∧ k10 = .slice b N.ts.length cb ∧ FilesIn w a N.d.fs ∧ TensIn w b N.ts
def NVal (w : World) (A : Nat → Prop) (k0 k10 : Value) (N : NodeD) : Prop := ∃ a ca b cb, k0 = .slice a N.d.fs.length ca ∧ k10 = .slice b N.ts.length cb ∧ NodeA w A a b N
def HVal (w : World) (k0 k10 : Value) (N : NodeD) : Prop := ∃ a ca b cb, k0 = .slice a N.d.fs.length ca ∧ k10 = .slice b N.ts.length cb ∧ FilesIn w a (markL 1 N.d.fs.length) ∧ TensIn w b (markTens (1 + 3 * N.d.fs.length) N.ts)
theorem NVal.fv {w : World} {A : Nat → Prop} {k0 k10 : Value} {N : NodeD} (h : NVal w A k0 k10 N) : FVal w k0 k10 N := by
  obtain ⟨a, ca, b, cb, h1, h2, h3⟩ := h
  exact ⟨a, ca, b, cb, h1, h2, h3.files, h3.tens⟩
theorem FVal.later {w w' : World} {k0 k10 : Value} {N : NodeD} (h : FVal w k0 k10 N) (hb : Below w.heap.size w w') : FVal w' k0 k10 N := by
  obtain ⟨a, ca, b, cb, h1, h2, h3, h4⟩ := h
  exact ⟨a, ca, b, cb, h1, h2, h3.later hb, h4.later hb⟩
theorem FVal.s0 {w : World} {k0 k10 : Value} {N : NodeD} (h : FVal w k0 k10 N) : ∀ W p, (store p k0).run Tryz.prog W = stored Tryz.prog W p k0 .plain := by
  obtain ⟨a, ca, b, cb, rfl, rfl, _⟩ := h
  exact fun W p => run_store _ _ _ _ _ rfl
theorem FVal.s10 {w : World} {k0 k10 : Value} {N : NodeD} (h : FVal w k0 k10 N) : ∀ W p, (store p k10).run Tryz.prog W = stored Tryz.prog W p k10 .plain := by
  obtain ⟨a, ca, b, cb, rfl, rfl, _⟩ := h
  exact fun W p => run_store _ _ _ _ _ rfl
theorem FVal.store {w W : World} {k0 k10 : Value} {N : NodeD} {P : Nat} {cs : Array Value} {t : TypeId} (h : FVal w k0 k10 N) (hz : Blk w P cs t) (hn : ∀ (j : Nat) (s : ByteArray), cs[j]? ≠ some (Value.string s)) (ht : Turn (· = P) w W) : FVal W k0 k10 N := by
  obtain ⟨a, ca, b, cb, h1, h2, h3, h4⟩ := h
  exact ⟨a, ca, b, cb, h1, h2, h3.store hz hn ht, h4.store hz hn ht⟩
theorem NVal.turned {S A : Nat → Prop} {w w' : World} {k0 k10 : Value} {N : NodeD} (h : NVal w A k0 k10 N) (ht : Turn S w w') (hS : ∀ g, A g → g < w.heap.size → ¬ S g) : NVal w' A k0 k10 N := by
  obtain ⟨a, ca, b, cb, h1, h2, h3⟩ := h
  exact ⟨a, ca, b, cb, h1, h2, h3.turned ht hS⟩
theorem NVal.later {A : Nat → Prop} {w w' : World} {k0 k10 : Value} {N : NodeD} (h : NVal w A k0 k10 N) (hb : Below w.heap.size w w') : NVal w' A k0 k10 N := h.turned (Turn.of (S := fun _ => False) hb) fun _ _ _ e => e
theorem spX_new {wv w4 : World} {M : NodeD} {j0 m1 m2 m3 m4 m5 m6 m7 m8 m9 j10 m11 m12 m13 : Value} (hF : FVal w4 j0 j10 M) (k : Below wv.heap.size wv w4) : ∃ i0 i10, Blk (w4.alloc (.cells #[j0, m1, m2, m3, m4, m5, m6, m7, m8, m9, j10, m11, m12, m13] 43)) w4.heap.size #[i0, m1, m2, m3, m4, m5, m6, m7, m8, m9, i10, m11, m12, m13] 43 ∧ FVal (w4.alloc (.cells #[j0, m1, m2, m3, m4, m5, m6, m7, m8, m9, j10, m11, m12, m13] 43)) i0 i10 M ∧ wv.heap.size ≤ w4.heap.size ∧ Below wv.heap.size wv (w4.alloc (.cells #[j0, m1, m2, m3, m4, m5, m6, m7, m8, m9, j10, m11, m12, m13] 43)) :=
  ⟨j0, j10, Blk.new _ _ _, hF.later (bnew _ _), k.size, bto k (bnew _ _)⟩
theorem spX_old {wv w4 : World} {M : NodeD} {j0 m1 m2 m3 m4 m5 m6 m7 m8 m9 j10 m11 m12 m13 : Value} {X : Nat} (hF : FVal w4 j0 j10 M) (hx : wv.heap.size ≤ X) (hz : Blk w4 X #[.slice none 0 0, .int .i64 0, .int .i64 0, .int .i64 0, .int .i64 0, .bool false, .int .i64 0, .int .i64 0, .int .i64 0, .int .i64 0, .slice none 0 0, .int .i64 0, .bool false, .bool false] 43) (k : Below wv.heap.size wv w4) : ∃ i0 i10, Blk ((((((((((((((w4.setCell ⟨X, 0, none⟩ (j0)).setCell ⟨X, 1, none⟩ (m1)).setCell ⟨X, 2, none⟩ (m2)).setCell ⟨X, 3, none⟩ (m3)).setCell ⟨X, 4, none⟩ (m4)).setCell ⟨X, 5, none⟩ (m5)).setCell ⟨X, 6, none⟩ (m6)).setCell ⟨X, 7, none⟩ (m7)).setCell ⟨X, 8, none⟩ (m8)).setCell ⟨X, 9, none⟩ (m9)).setCell ⟨X, 10, none⟩ (j10)).setCell ⟨X, 11, none⟩ (m11)).setCell ⟨X, 12, none⟩ (m12)).setCell ⟨X, 13, none⟩ (m13)) X #[i0, m1, m2, m3, m4, m5, m6, m7, m8, m9, i10, m11, m12, m13] 43 ∧ FVal ((((((((((((((w4.setCell ⟨X, 0, none⟩ (j0)).setCell ⟨X, 1, none⟩ (m1)).setCell ⟨X, 2, none⟩ (m2)).setCell ⟨X, 3, none⟩ (m3)).setCell ⟨X, 4, none⟩ (m4)).setCell ⟨X, 5, none⟩ (m5)).setCell ⟨X, 6, none⟩ (m6)).setCell ⟨X, 7, none⟩ (m7)).setCell ⟨X, 8, none⟩ (m8)).setCell ⟨X, 9, none⟩ (m9)).setCell ⟨X, 10, none⟩ (j10)).setCell ⟨X, 11, none⟩ (m11)).setCell ⟨X, 12, none⟩ (m12)).setCell ⟨X, 13, none⟩ (m13)) i0 i10 M ∧ wv.heap.size ≤ X ∧ Below wv.heap.size wv ((((((((((((((w4.setCell ⟨X, 0, none⟩ (j0)).setCell ⟨X, 1, none⟩ (m1)).setCell ⟨X, 2, none⟩ (m2)).setCell ⟨X, 3, none⟩ (m3)).setCell ⟨X, 4, none⟩ (m4)).setCell ⟨X, 5, none⟩ (m5)).setCell ⟨X, 6, none⟩ (m6)).setCell ⟨X, 7, none⟩ (m7)).setCell ⟨X, 8, none⟩ (m8)).setCell ⟨X, 9, none⟩ (m9)).setCell ⟨X, 10, none⟩ (j10)).setCell ⟨X, 11, none⟩ (m11)).setCell ⟨X, 12, none⟩ (m12)).setCell ⟨X, 13, none⟩ (m13)) := by
  have ht := (((((((((((((((Turn.refl (· = X) w4).setCell (Or.inl rfl) 0 (j0)).setCell (Or.inl rfl) 1 (m1)).setCell (Or.inl rfl) 2 (m2)).setCell (Or.inl rfl) 3 (m3)).setCell (Or.inl rfl) 4 (m4)).setCell (Or.inl rfl) 5 (m5)).setCell (Or.inl rfl) 6 (m6)).setCell (Or.inl rfl) 7 (m7)).setCell (Or.inl rfl) 8 (m8)).setCell (Or.inl rfl) 9 (m9)).setCell (Or.inl rfl) 10 (j10)).setCell (Or.inl rfl) 11 (m11)).setCell (Or.inl rfl) 12 (m12)).setCell (Or.inl rfl) 13 (m13))
  have hb := ((((((((((((((hz.set 0 (j0)).set 1 (m1)).set 2 (m2)).set 3 (m3)).set 4 (m4)).set 5 (m5)).set 6 (m6)).set 7 (m7)).set 8 (m8)).set 9 (m9)).set 10 (j10)).set 11 (m11)).set 12 (m12)).set 13 (m13))
  exact ⟨j0, j10, by simpa using hb, hF.store hz (no_str14 (by simp) (by simp)) ht, hx, set14 k hx⟩
theorem nX_new {wv w4 : World} {M : NodeD} {j0 m1 m2 m3 m4 m5 m6 m7 m8 m9 j10 m11 m12 m13 : Value} {L : Nat} (hA : NVal w4 (fun x => L ≤ x ∧ x < w4.heap.size) j0 j10 M) (hL : wv.heap.size ≤ L) (k : Below wv.heap.size wv w4) : ∃ i0 i10 L' H, Blk (w4.alloc (.cells #[j0, m1, m2, m3, m4, m5, m6, m7, m8, m9, j10, m11, m12, m13] 43)) w4.heap.size #[i0, m1, m2, m3, m4, m5, m6, m7, m8, m9, i10, m11, m12, m13] 43 ∧ NVal (w4.alloc (.cells #[j0, m1, m2, m3, m4, m5, m6, m7, m8, m9, j10, m11, m12, m13] 43)) (fun x => L' ≤ x ∧ x < H) i0 i10 M ∧ wv.heap.size ≤ L' ∧ H ≤ (w4.alloc (.cells #[j0, m1, m2, m3, m4, m5, m6, m7, m8, m9, j10, m11, m12, m13] 43)).heap.size ∧ (w4.heap.size < L' ∨ H ≤ w4.heap.size) ∧ wv.heap.size ≤ w4.heap.size ∧ Below wv.heap.size wv (w4.alloc (.cells #[j0, m1, m2, m3, m4, m5, m6, m7, m8, m9, j10, m11, m12, m13] 43)) :=
  ⟨j0, j10, L, w4.heap.size, Blk.new _ _ _, hA.later (bnew _ _), hL, by simp, Or.inr (Nat.le_refl _), k.size, bto k (bnew _ _)⟩
theorem nX_old {wv w4 : World} {M : NodeD} {j0 m1 m2 m3 m4 m5 m6 m7 m8 m9 j10 m11 m12 m13 : Value} {X L : Nat} (hA : NVal w4 (fun x => L ≤ x ∧ x < w4.heap.size) j0 j10 M) (hX : X < L) (hL : wv.heap.size ≤ L) (hx : wv.heap.size ≤ X) (hz : Blk w4 X #[.slice none 0 0, .int .i64 0, .int .i64 0, .int .i64 0, .int .i64 0, .bool false, .int .i64 0, .int .i64 0, .int .i64 0, .int .i64 0, .slice none 0 0, .int .i64 0, .bool false, .bool false] 43) (k : Below wv.heap.size wv w4) : ∃ i0 i10 L' H, Blk ((((((((((((((w4.setCell ⟨X, 0, none⟩ (j0)).setCell ⟨X, 1, none⟩ (m1)).setCell ⟨X, 2, none⟩ (m2)).setCell ⟨X, 3, none⟩ (m3)).setCell ⟨X, 4, none⟩ (m4)).setCell ⟨X, 5, none⟩ (m5)).setCell ⟨X, 6, none⟩ (m6)).setCell ⟨X, 7, none⟩ (m7)).setCell ⟨X, 8, none⟩ (m8)).setCell ⟨X, 9, none⟩ (m9)).setCell ⟨X, 10, none⟩ (j10)).setCell ⟨X, 11, none⟩ (m11)).setCell ⟨X, 12, none⟩ (m12)).setCell ⟨X, 13, none⟩ (m13)) X #[i0, m1, m2, m3, m4, m5, m6, m7, m8, m9, i10, m11, m12, m13] 43 ∧ NVal ((((((((((((((w4.setCell ⟨X, 0, none⟩ (j0)).setCell ⟨X, 1, none⟩ (m1)).setCell ⟨X, 2, none⟩ (m2)).setCell ⟨X, 3, none⟩ (m3)).setCell ⟨X, 4, none⟩ (m4)).setCell ⟨X, 5, none⟩ (m5)).setCell ⟨X, 6, none⟩ (m6)).setCell ⟨X, 7, none⟩ (m7)).setCell ⟨X, 8, none⟩ (m8)).setCell ⟨X, 9, none⟩ (m9)).setCell ⟨X, 10, none⟩ (j10)).setCell ⟨X, 11, none⟩ (m11)).setCell ⟨X, 12, none⟩ (m12)).setCell ⟨X, 13, none⟩ (m13)) (fun x => L' ≤ x ∧ x < H) i0 i10 M ∧ wv.heap.size ≤ L' ∧ H ≤ ((((((((((((((w4.setCell ⟨X, 0, none⟩ (j0)).setCell ⟨X, 1, none⟩ (m1)).setCell ⟨X, 2, none⟩ (m2)).setCell ⟨X, 3, none⟩ (m3)).setCell ⟨X, 4, none⟩ (m4)).setCell ⟨X, 5, none⟩ (m5)).setCell ⟨X, 6, none⟩ (m6)).setCell ⟨X, 7, none⟩ (m7)).setCell ⟨X, 8, none⟩ (m8)).setCell ⟨X, 9, none⟩ (m9)).setCell ⟨X, 10, none⟩ (j10)).setCell ⟨X, 11, none⟩ (m11)).setCell ⟨X, 12, none⟩ (m12)).setCell ⟨X, 13, none⟩ (m13)).heap.size ∧ (X < L' ∨ H ≤ X) ∧ wv.heap.size ≤ X ∧ Below wv.heap.size wv ((((((((((((((w4.setCell ⟨X, 0, none⟩ (j0)).setCell ⟨X, 1, none⟩ (m1)).setCell ⟨X, 2, none⟩ (m2)).setCell ⟨X, 3, none⟩ (m3)).setCell ⟨X, 4, none⟩ (m4)).setCell ⟨X, 5, none⟩ (m5)).setCell ⟨X, 6, none⟩ (m6)).setCell ⟨X, 7, none⟩ (m7)).setCell ⟨X, 8, none⟩ (m8)).setCell ⟨X, 9, none⟩ (m9)).setCell ⟨X, 10, none⟩ (j10)).setCell ⟨X, 11, none⟩ (m11)).setCell ⟨X, 12, none⟩ (m12)).setCell ⟨X, 13, none⟩ (m13)) := by
  have ht := (((((((((((((((Turn.refl (· = X) w4).setCell (Or.inl rfl) 0 (j0)).setCell (Or.inl rfl) 1 (m1)).setCell (Or.inl rfl) 2 (m2)).setCell (Or.inl rfl) 3 (m3)).setCell (Or.inl rfl) 4 (m4)).setCell (Or.inl rfl) 5 (m5)).setCell (Or.inl rfl) 6 (m6)).setCell (Or.inl rfl) 7 (m7)).setCell (Or.inl rfl) 8 (m8)).setCell (Or.inl rfl) 9 (m9)).setCell (Or.inl rfl) 10 (j10)).setCell (Or.inl rfl) 11 (m11)).setCell (Or.inl rfl) 12 (m12)).setCell (Or.inl rfl) 13 (m13))
  have hb := ((((((((((((((hz.set 0 (j0)).set 1 (m1)).set 2 (m2)).set 3 (m3)).set 4 (m4)).set 5 (m5)).set 6 (m6)).set 7 (m7)).set 8 (m8)).set 9 (m9)).set 10 (j10)).set 11 (m11)).set 12 (m12)).set 13 (m13))
  exact ⟨j0, j10, L, w4.heap.size, by simpa using hb, hA.turned ht (fun x hx _ e => by omega), hL, ht.size, Or.inl hX, hx, set14 k hx⟩
end Go.Proofs.YtgnppdghjlnlhaaGreatDoor
