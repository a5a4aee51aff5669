import Derived.Test.YtboofidegpnkaaaGreatDoorProg
import Derived.Test.YtboofidegpnkaaaGreatDoorJ22SFrame
import Derived.Test.YtboofidegpnkaaaGreatDoorJ26LogEq
import Derived.Test.YtboofidegpnkaaaGreatDoorJ16SStep
import Derived.Test.YtboofidegpnkaaaGreatDoorJ01Btw
namespace Go.Proofs.YtboofidegpnkaaaGreatDoor
open Go.RowKit
def zeD : Array Value := #[.slice none 0 0, .int .i64 0, .int .i64 0, .int .i64 0, .int .i64 0, .bool false]
def zeL : Array Value := #[.int .i64 0, .int .i64 0, .int .i64 0]
def dkV (a : Option Addr) (n cp : Nat) (c k cr fl : Int) (dn : Bool) : Array Value := #[.slice a n cp, .int .i64 c, .int .i64 k, .int .i64 cr, .int .i64 fl, .bool dn]
def lgV (x y z : Int) : Array Value := #[.int .i64 x, .int .i64 y, .int .i64 z]
def ZD (w : World) (P : Nat) : Prop := Blk w P #[.slice none 0 0, .int .i64 0, .int .i64 0, .int .i64 0, .int .i64 0, .bool false] 30
def ZL (w : World) (Q : Nat) : Prop := Blk w Q #[.int .i64 0, .int .i64 0, .int .i64 0] 31
theorem ZD.later {w w' : World} {P : Nat} (h : ZD w P) (hb : Below w.heap.size w w') : ZD w' P := Blk.later h hb
theorem ZL.later {w w' : World} {P : Nat} (h : ZL w P) (hb : Below w.heap.size w w') : ZL w' P := Blk.later h hb
theorem b_undrew {w w' : World} (h : Below w.drew.heap.size w.drew w') : Below w.heap.size w w' := ⟨h.os, h.tape, h.output, h.size, h.block⟩
theorem zD1 {w w' : World} (h : Below (w.alloc (.cells #[.slice none 0 0, .int .i64 0, .int .i64 0, .int .i64 0, .int .i64 0, .bool false] 30)).heap.size (w.alloc (.cells #[.slice none 0 0, .int .i64 0, .int .i64 0, .int .i64 0, .int .i64 0, .bool false] 30)) w') : ZD w' w.heap.size := blk_of_alloc h
theorem zL1 {w w' : World} (h : Below (w.alloc (.cells #[.int .i64 0, .int .i64 0, .int .i64 0] 31)).heap.size (w.alloc (.cells #[.int .i64 0, .int .i64 0, .int .i64 0] 31)) w') : ZL w' w.heap.size := blk_of_alloc h
theorem zD2 {w w' : World} (h : Below ((w.alloc (.cells #[.slice none 0 0, .int .i64 0, .int .i64 0, .int .i64 0, .int .i64 0, .bool false] 30)).alloc (.cells #[.int .i64 0, .int .i64 0, .int .i64 0] 31)).heap.size ((w.alloc (.cells #[.slice none 0 0, .int .i64 0, .int .i64 0, .int .i64 0, .int .i64 0, .bool false] 30)).alloc (.cells #[.int .i64 0, .int .i64 0, .int .i64 0] 31)) w') : ZD w' w.heap.size := (twoBoxes h).1
theorem zL2 {w w' : World} (h : Below ((w.alloc (.cells #[.slice none 0 0, .int .i64 0, .int .i64 0, .int .i64 0, .int .i64 0, .bool false] 30)).alloc (.cells #[.int .i64 0, .int .i64 0, .int .i64 0] 31)).heap.size ((w.alloc (.cells #[.slice none 0 0, .int .i64 0, .int .i64 0, .int .i64 0, .int .i64 0, .bool false] 30)).alloc (.cells #[.int .i64 0, .int .i64 0, .int .i64 0] 31)) w') : ZL w' (w.heap.size + 1) := (twoBoxes h).2.1
theorem zL3 {w w' : World} (h : Below ((w.alloc (.cells #[.int .i64 0, .int .i64 0, .int .i64 0] 31)).alloc (.cells #[.slice none 0 0, .int .i64 0, .int .i64 0, .int .i64 0, .int .i64 0, .bool false] 30)).heap.size ((w.alloc (.cells #[.int .i64 0, .int .i64 0, .int .i64 0] 31)).alloc (.cells #[.slice none 0 0, .int .i64 0, .int .i64 0, .int .i64 0, .int .i64 0, .bool false] 30)) w') : ZL w' w.heap.size := (twoBoxes h).1
theorem zD3 {w w' : World} (h : Below ((w.alloc (.cells #[.int .i64 0, .int .i64 0, .int .i64 0] 31)).alloc (.cells #[.slice none 0 0, .int .i64 0, .int .i64 0, .int .i64 0, .int .i64 0, .bool false] 30)).heap.size ((w.alloc (.cells #[.int .i64 0, .int .i64 0, .int .i64 0] 31)).alloc (.cells #[.slice none 0 0, .int .i64 0, .int .i64 0, .int .i64 0, .int .i64 0, .bool false] 30)) w') : ZD w' (w.heap.size + 1) := (twoBoxes h).2.1
theorem ZD.sixA {w : World} {P : Nat} (h : ZD w P) : (∀ o, (w.alloc o).cell? ⟨P, 0, none⟩ = some (.slice none 0 0)) ∧ (∀ o, (w.alloc o).cell? ⟨P, 1, none⟩ = some (.int .i64 0)) ∧ (∀ o, (w.alloc o).cell? ⟨P, 2, none⟩ = some (.int .i64 0)) ∧ (∀ o, (w.alloc o).cell? ⟨P, 3, none⟩ = some (.int .i64 0)) ∧ (∀ o, (w.alloc o).cell? ⟨P, 4, none⟩ = some (.int .i64 0)) ∧ (∀ o, (w.alloc o).cell? ⟨P, 5, none⟩ = some (.bool false)) := by
  refine ⟨fun o => ?_, fun o => ?_, fun o => ?_, fun o => ?_, fun o => ?_, fun o => ?_⟩ <;> rw [Blk.cell (ZD.later h (bnew _ o))] <;> rfl
theorem ZD.freeA {w : World} {P : Nat} (h : ZD w P) : (∀ o, (w.alloc o).frozen? ⟨P, 0, none⟩ = false) ∧ (∀ o, (w.alloc o).frozen? ⟨P, 1, none⟩ = false) ∧ (∀ o, (w.alloc o).frozen? ⟨P, 2, none⟩ = false) ∧ (∀ o, (w.alloc o).frozen? ⟨P, 3, none⟩ = false) ∧ (∀ o, (w.alloc o).frozen? ⟨P, 4, none⟩ = false) ∧ (∀ o, (w.alloc o).frozen? ⟨P, 5, none⟩ = false) :=
  ⟨fun o => Blk.free (ZD.later h (bnew _ o)) 0, fun o => Blk.free (ZD.later h (bnew _ o)) 1, fun o => Blk.free (ZD.later h (bnew _ o)) 2, fun o => Blk.free (ZD.later h (bnew _ o)) 3, fun o => Blk.free (ZD.later h (bnew _ o)) 4, fun o => Blk.free (ZD.later h (bnew _ o)) 5⟩
theorem ZL.threeA {w : World} {P : Nat} (h : ZL w P) : (∀ o, (w.alloc o).cell? ⟨P, 0, none⟩ = some (.int .i64 0)) ∧ (∀ o, (w.alloc o).cell? ⟨P, 1, none⟩ = some (.int .i64 0)) ∧ (∀ o, (w.alloc o).cell? ⟨P, 2, none⟩ = some (.int .i64 0)) := by
  refine ⟨fun o => ?_, fun o => ?_, fun o => ?_⟩ <;> rw [Blk.cell (ZL.later h (bnew _ o))] <;> rfl
theorem ZL.freeA {w : World} {P : Nat} (h : ZL w P) : (∀ o, (w.alloc o).frozen? ⟨P, 0, none⟩ = false) ∧ (∀ o, (w.alloc o).frozen? ⟨P, 1, none⟩ = false) ∧ (∀ o, (w.alloc o).frozen? ⟨P, 2, none⟩ = false) :=
  ⟨fun o => Blk.free (ZL.later h (bnew _ o)) 0, fun o => Blk.free (ZL.later h (bnew _ o)) 1, fun o => Blk.free (ZL.later h (bnew _ o)) 2⟩
theorem zzz1 {X : World} {n : Nat} (_ : ZD X n) (_ : ZL X (n + 1)) : True := trivial
theorem zzz2 {X : World} {n : Nat} (_ : ZD X (n + 1)) (_ : ZL X n) : True := trivial
structure EndB (X wx : World) (P Q : Nat) (dv lv : Array Value) : Prop where
  bP : Blk wx P dv 30
  bQ : Blk wx Q lv 31
  keeps : Keeps (fun k => k = P ∨ k = Q) X wx
  zP : P < X.heap.size → ZD X P
  zQ : Q < X.heap.size → ZL X Q
theorem ze_ne {X : World} {P Q : Nat} (h : ZD X P) (k : ZL X Q) : P ≠ Q := by
  intro e
  subst e
  have := (show X.heap[P]? = _ from h).symm.trans k
  simp at this
theorem fill3 {w : World} {P : Nat} {z0 z1 z2 v0 v1 v2 : Value} {t : TypeId} (h : Blk w P #[z0, z1, z2] t) : Blk (((w.setCell ⟨P, 0, none⟩ v0).setCell ⟨P, 1, none⟩ v1).setCell ⟨P, 2, none⟩ v2) P #[v0, v1, v2] t := by
  have h6 := ((h.set 0 v0).set 1 v1).set 2 v2
  simpa using h6
theorem blkO {w : World} {b g j : Nat} {cur : Array Value} {t : TypeId} {x : Value} (h : Blk w b cur t) (hne : b ≠ g) : Blk (w.setCell ⟨g, j, none⟩ x) b cur t := (Below.heap_setCell _ _ _ b (fun e => hne e)).trans h
theorem keepsO {S : Nat → Prop} {a w : World} {g j : Nat} {x : Value} (h : Keeps S a w) (hg : S g) : Keeps S a (w.setCell ⟨g, j, none⟩ x) := h.setCell hg j x
theorem endS1 {X : World} {v0 v1 v2 v3 v4 v5 x0 x1 x2 : Value} : EndB X ((X.alloc (.cells #[v0, v1, v2, v3, v4, v5] 30)).alloc (.cells #[x0, x1, x2] 31)) X.heap.size (X.heap.size + 1) #[v0, v1, v2, v3, v4, v5] #[x0, x1, x2] := by
  obtain ⟨h1, h2, _⟩ := twoBoxes (w := X) (x := #[v0, v1, v2, v3, v4, v5]) (tx := 30) (y := #[x0, x1, x2]) (ty := 31) (Below.refl _ _)
  exact ⟨h1, h2, ((Keeps.refl _ _).alloc _).alloc _, fun h => absurd h (by omega), fun h => absurd h (by omega)⟩
theorem endS2 {X : World} {v0 v1 v2 v3 v4 v5 x0 x1 x2 : Value} : EndB X ((X.alloc (.cells #[x0, x1, x2] 31)).alloc (.cells #[v0, v1, v2, v3, v4, v5] 30)) (X.heap.size + 1) X.heap.size #[v0, v1, v2, v3, v4, v5] #[x0, x1, x2] := by
  obtain ⟨h1, h2, _⟩ := twoBoxes (w := X) (x := #[x0, x1, x2]) (tx := 31) (y := #[v0, v1, v2, v3, v4, v5]) (ty := 30) (Below.refl _ _)
  exact ⟨h2, h1, ((Keeps.refl _ _).alloc _).alloc _, fun h => absurd h (by omega), fun h => absurd h (by omega)⟩
theorem endS3 {X : World} {Q : Nat} {v0 v1 v2 v3 v4 v5 x0 x1 x2 : Value} (hq : ZL X Q) : EndB X ((((X.setCell ⟨Q, 0, none⟩ x0).setCell ⟨Q, 1, none⟩ x1).setCell ⟨Q, 2, none⟩ x2).alloc (.cells #[v0, v1, v2, v3, v4, v5] 30)) X.heap.size Q #[v0, v1, v2, v3, v4, v5] #[x0, x1, x2] := by
  have hb := blk_new (((X.setCell ⟨Q, 0, none⟩ x0).setCell ⟨Q, 1, none⟩ x1).setCell ⟨Q, 2, none⟩ x2) #[v0, v1, v2, v3, v4, v5] 30
  refine ⟨?_, Blk.later (fill3 hq) (bnew _ _), (keepsO (keepsO (keepsO (Keeps.refl _ _) (Or.inr rfl)) (Or.inr rfl)) (Or.inr rfl)).alloc _, fun h => absurd h (by omega), fun _ => hq⟩
  have e : (((X.setCell ⟨Q, 0, none⟩ x0).setCell ⟨Q, 1, none⟩ x1).setCell ⟨Q, 2, none⟩ x2).heap.size = X.heap.size := by simp [World.setCell]
  rw [e] at hb
  exact hb
theorem endS4 {X : World} {P : Nat} {v0 v1 v2 v3 v4 v5 x0 x1 x2 : Value} (hz : ZD X P) : EndB X (((((((X.setCell ⟨P, 0, none⟩ v0).setCell ⟨P, 1, none⟩ v1).setCell ⟨P, 2, none⟩ v2).setCell ⟨P, 3, none⟩ v3).setCell ⟨P, 4, none⟩ v4).setCell ⟨P, 5, none⟩ v5).alloc (.cells #[x0, x1, x2] 31)) P X.heap.size #[v0, v1, v2, v3, v4, v5] #[x0, x1, x2] := by
  have hb := blk_new ((((((X.setCell ⟨P, 0, none⟩ v0).setCell ⟨P, 1, none⟩ v1).setCell ⟨P, 2, none⟩ v2).setCell ⟨P, 3, none⟩ v3).setCell ⟨P, 4, none⟩ v4).setCell ⟨P, 5, none⟩ v5) #[x0, x1, x2] 31
  refine ⟨Blk.later (blk_fill hz) (bnew _ _), ?_, (keepsO (keepsO (keepsO (keepsO (keepsO (keepsO (Keeps.refl _ _) (Or.inl rfl)) (Or.inl rfl)) (Or.inl rfl)) (Or.inl rfl)) (Or.inl rfl)) (Or.inl rfl)).alloc _, fun _ => hz, fun h => absurd h (by omega)⟩
  have e : ((((((X.setCell ⟨P, 0, none⟩ v0).setCell ⟨P, 1, none⟩ v1).setCell ⟨P, 2, none⟩ v2).setCell ⟨P, 3, none⟩ v3).setCell ⟨P, 4, none⟩ v4).setCell ⟨P, 5, none⟩ v5).heap.size = X.heap.size := by simp [World.setCell]
  rw [e] at hb
  exact hb
theorem endS5 {X : World} {P Q : Nat} {v0 v1 v2 v3 v4 v5 x0 x1 x2 : Value} (hz : ZD X P) (hq : ZL X Q) : EndB X (((((((((X.setCell ⟨P, 0, none⟩ v0).setCell ⟨P, 1, none⟩ v1).setCell ⟨P, 2, none⟩ v2).setCell ⟨P, 3, none⟩ v3).setCell ⟨P, 4, none⟩ v4).setCell ⟨P, 5, none⟩ v5).setCell ⟨Q, 0, none⟩ x0).setCell ⟨Q, 1, none⟩ x1).setCell ⟨Q, 2, none⟩ x2) P Q #[v0, v1, v2, v3, v4, v5] #[x0, x1, x2] := by
  have hne := ze_ne hz hq
  refine ⟨blkO (blkO (blkO (blk_fill hz) hne) hne) hne, ?_, ?_, fun _ => hz, fun _ => hq⟩
  · have h := blkO (g := P) (j := 5) (x := v5) (blkO (g := P) (j := 4) (x := v4) (blkO (g := P) (j := 3) (x := v3) (blkO (g := P) (j := 2) (x := v2) (blkO (g := P) (j := 1) (x := v1) (blkO (g := P) (j := 0) (x := v0) hq (Ne.symm hne)) (Ne.symm hne)) (Ne.symm hne)) (Ne.symm hne)) (Ne.symm hne)) (Ne.symm hne)
    exact fill3 h
  · exact keepsO (keepsO (keepsO (keepsO (keepsO (keepsO (keepsO (keepsO (keepsO (Keeps.refl _ _) (Or.inl rfl)) (Or.inl rfl)) (Or.inl rfl)) (Or.inl rfl)) (Or.inl rfl)) (Or.inl rfl)) (Or.inr rfl)) (Or.inr rfl)) (Or.inr rfl)
theorem files_keeps {S : Nat → Prop} {w w' : World} {a : Option Addr} {fs : List FileD} (h : FilesIn w a fs) (hk : Keeps S w w') (ha : fs = [] ∨ ∃ b o, a = some ⟨b, o, none⟩ ∧ ¬ S b) : FilesIn w' a fs := by
  rcases h with h | ⟨b, o, rfl, hlt, h⟩
  · exact Or.inl h
  · rcases ha with hn | ⟨b', o', e, hS⟩
    · exact Or.inl hn
    · simp only [Option.some.injEq, Addr.mk.injEq, and_true] at e
      rw [← e.1] at hS
      have he := hk.block b hlt hS
      have hc : ∀ j, w'.cell? ⟨b, j, none⟩ = w.cell? ⟨b, j, none⟩ := fun j => World.cell?_of_block he
      exact Or.inr ⟨b, o, rfl, Nat.lt_of_lt_of_le hlt hk.size, fun i hi => by simp only [hc]; exact h i hi⟩
theorem EndB.away {X wx : World} {P Q : Nat} {dv lv : Array Value} (h : EndB X wx P Q dv lv) {a : Option Addr} {fs : List FileD} (hf : FilesIn X a fs) : fs = [] ∨ ∃ b o, a = some ⟨b, o, none⟩ ∧ ¬ (b = P ∨ b = Q) := by
  by_cases hn : fs = []
  · exact Or.inl hn
  · obtain ⟨b, o, e, hlt⟩ := hf.lt hn
    refine Or.inr ⟨b, o, e, fun hb => ?_⟩
    rcases hb with rfl | rfl
    · rcases apart_zero hf (h.zP hlt) with h1 | ⟨b', o', e', hne⟩
      · exact hn h1
      · rw [e] at e'
        simp only [Option.some.injEq, Addr.mk.injEq, and_true] at e'
        exact hne e'.1.symm
    · rcases apart_log hf (h.zQ hlt) with h1 | ⟨b', o', e', hne⟩
      · exact hn h1
      · rw [e] at e'
        simp only [Option.some.injEq, Addr.mk.injEq, and_true] at e'
        exact hne e'.1.symm
theorem EndB.files {X wx : World} {P Q : Nat} {dv lv : Array Value} (h : EndB X wx P Q dv lv) {a : Option Addr} {fs : List FileD} (hf : FilesIn X a fs) : FilesIn wx a fs := files_keeps hf h.keeps (h.away hf)
theorem EndB.owned {X wx : World} {P Q : Nat} {dv lv : Array Value} (h : EndB X wx P Q dv lv) {B : Nat} {a : Option Addr} {fs : List FileD} (ho : Owned X B a fs) : Owned wx B a fs := by
  have hf := ho.files
  rcases ho with hn | ⟨g, o, cur, t, rfl, hB, hg, hc⟩
  · exact Or.inl hn
  · rcases h.away hf with hn | ⟨b, o', e, hS⟩
    · exact Or.inl hn
    · simp only [Option.some.injEq, Addr.mk.injEq, and_true] at e
      rw [← e.1] at hS
      have he := h.keeps.block g (lt_of_block hg) hS
      have hk : ∀ j, wx.cell? ⟨g, j, none⟩ = X.cell? ⟨g, j, none⟩ := fun j => World.cell?_of_block he
      exact Or.inr ⟨g, o, cur, t, rfl, hB, he.trans hg, fun i hi => by simp only [hk]; exact hc i hi⟩
theorem EndB.apart {X wx : World} {P Q : Nat} {dv lv : Array Value} (h : EndB X wx P Q dv lv) {a : Option Addr} {fs : List FileD} (hf : FilesIn X a fs) : Apart a fs P := by
  rcases h.away hf with hn | ⟨b, o, e, hS⟩
  · exact Or.inl hn
  · exact Or.inr ⟨b, o, e, fun hb => hS (Or.inl hb)⟩
theorem EndB.below {X wx w1 : World} {P Q n : Nat} {dv lv : Array Value} (h : EndB X wx P Q dv lv) (hb : Below n w1 X) (hn : n ≤ X.heap.size) (hP : n ≤ P) (hQ : n ≤ Q) : Below n w1 wx :=
  hb.trans (h.keeps.below (fun k hk => by rcases hk with rfl | rfl <;> assumption) hn)
theorem endS6 {X : World} {P : Nat} {v0 v1 v2 v3 v4 v5 x0 x1 x2 : Value} (hz : ZD X P) : EndB X (((((((X.alloc (.cells #[x0, x1, x2] 31)).setCell ⟨P, 0, none⟩ v0).setCell ⟨P, 1, none⟩ v1).setCell ⟨P, 2, none⟩ v2).setCell ⟨P, 3, none⟩ v3).setCell ⟨P, 4, none⟩ v4).setCell ⟨P, 5, none⟩ v5) P X.heap.size #[v0, v1, v2, v3, v4, v5] #[x0, x1, x2] := by
  have hlt : P < X.heap.size := lt_of_block hz
  have hz' : ZD (X.alloc (.cells #[x0, x1, x2] 31)) P := ZD.later hz (bnew _ _)
  have hb := blk_new X #[x0, x1, x2] 31
  refine ⟨blk_fill hz', ?_, keepsO (keepsO (keepsO (keepsO (keepsO (keepsO ((Keeps.refl _ _).alloc _) (Or.inl rfl)) (Or.inl rfl)) (Or.inl rfl)) (Or.inl rfl)) (Or.inl rfl)) (Or.inl rfl), fun _ => hz, fun h => absurd h (by omega)⟩
  exact blkO (blkO (blkO (blkO (blkO (blkO hb (by omega)) (by omega)) (by omega)) (by omega)) (by omega)) (by omega)
theorem endS7 {X : World} {P : Nat} {y0 y1 y2 v0 v1 v2 v3 v4 v5 x0 x1 x2 : Value} (hz : ZD X P) : EndB X ((((((((((X.alloc (.cells #[y0, y1, y2] 31)).setCell ⟨P, 0, none⟩ v0).setCell ⟨P, 1, none⟩ v1).setCell ⟨P, 2, none⟩ v2).setCell ⟨P, 3, none⟩ v3).setCell ⟨P, 4, none⟩ v4).setCell ⟨P, 5, none⟩ v5).setCell ⟨X.heap.size, 0, none⟩ x0).setCell ⟨X.heap.size, 1, none⟩ x1).setCell ⟨X.heap.size, 2, none⟩ x2) P X.heap.size #[v0, v1, v2, v3, v4, v5] #[x0, x1, x2] := by
  have hlt : P < X.heap.size := lt_of_block hz
  have hz' : ZD (X.alloc (.cells #[y0, y1, y2] 31)) P := ZD.later hz (bnew _ _)
  have hb := blk_new X #[y0, y1, y2] 31
  refine ⟨blkO (blkO (blkO (blk_fill hz') (by omega)) (by omega)) (by omega), ?_, keepsO (keepsO (keepsO (keepsO (keepsO (keepsO (keepsO (keepsO (keepsO ((Keeps.refl _ _).alloc _) (Or.inl rfl)) (Or.inl rfl)) (Or.inl rfl)) (Or.inl rfl)) (Or.inl rfl)) (Or.inl rfl)) (Or.inr rfl)) (Or.inr rfl)) (Or.inr rfl), fun _ => hz, fun h => absurd h (by omega)⟩
  have h1 := blkO (g := P) (j := 5) (x := v5) (blkO (g := P) (j := 4) (x := v4) (blkO (g := P) (j := 3) (x := v3) (blkO (g := P) (j := 2) (x := v2) (blkO (g := P) (j := 1) (x := v1) (blkO (g := P) (j := 0) (x := v0) hb (by omega)) (by omega)) (by omega)) (by omega)) (by omega)) (by omega)
  exact fill3 h1
theorem endS8 {X : World} {Q : Nat} {v0 v1 v2 v3 v4 v5 x0 x1 x2 : Value} (hq : ZL X Q) : EndB X ((((X.alloc (.cells #[v0, v1, v2, v3, v4, v5] 30)).setCell ⟨Q, 0, none⟩ x0).setCell ⟨Q, 1, none⟩ x1).setCell ⟨Q, 2, none⟩ x2) X.heap.size Q #[v0, v1, v2, v3, v4, v5] #[x0, x1, x2] := by
  have hlt : Q < X.heap.size := lt_of_block hq
  have hq' : ZL (X.alloc (.cells #[v0, v1, v2, v3, v4, v5] 30)) Q := ZL.later hq (bnew _ _)
  have hb := blk_new X #[v0, v1, v2, v3, v4, v5] 30
  exact ⟨blkO (blkO (blkO hb (by omega)) (by omega)) (by omega), fill3 hq', keepsO (keepsO (keepsO ((Keeps.refl _ _).alloc _) (Or.inr rfl)) (Or.inr rfl)) (Or.inr rfl), fun h => absurd h (by omega), fun _ => hq⟩
theorem endA {w1 X wx : World} {P Q n : Nat} {dv lv : Array Value} {a : Option Addr} {fs : List FileD} (h : EndB X wx P Q dv lv) (hf : FilesIn X a fs) (hb : Below n w1 X) (hn : n ≤ X.heap.size) (hP : n ≤ P) (hQ : n ≤ Q) : Blk wx P dv 30 ∧ Blk wx Q lv 31 ∧ FilesIn wx a fs ∧ Below n w1 wx := ⟨h.bP, h.bQ, h.files hf, h.below hb hn hP hQ⟩
theorem endO {w1 X wx : World} {P Q n B : Nat} {dv lv : Array Value} {a : Option Addr} {fs : List FileD} (h : EndB X wx P Q dv lv) (ho : Owned X B a fs) (hb : Below n w1 X) (hB : n ≤ B) (hn : n ≤ X.heap.size) (hP : n ≤ P) (hQ : n ≤ Q) : n ≤ P ∧ n ≤ Q ∧ Blk wx P dv 30 ∧ Blk wx Q lv 31 ∧ Owned wx n a fs ∧ Apart a fs P ∧ Below n w1 wx := ⟨hP, hQ, h.bP, h.bQ, (h.owned ho).mono hB, h.apart ho.files, h.below hb hn hP hQ⟩
def KB (b c : Nat) (v u : Array Value) (t s : TypeId) (W : World) : Prop := Blk W b v t ∧ Blk W c u s
theorem KB.later {b c : Nat} {v u : Array Value} {t s : TypeId} {W W' : World} (h : KB b c v u t s W) (hb : Below W.heap.size W W') : KB b c v u t s W' := ⟨h.1.later hb, h.2.later hb⟩
theorem KB.drew {b c : Nat} {v u : Array Value} {t s : TypeId} {W : World} (h : KB b c v u t s W) : KB b c v u t s W.drew := h.later (Below.refl _ _).drew
theorem KB.alloc {b c : Nat} {v u : Array Value} {t s : TypeId} {W : World} {o : Obj} (h : KB b c v u t s W) : KB b c v u t s (W.alloc o) := h.later (bnew _ _)
theorem KB.set {b c g j : Nat} {v u : Array Value} {t s : TypeId} {W : World} {x : Value} (h : KB b c v u t s W) (h1 : b ≠ g) (h2 : c ≠ g) : KB b c v u t s (W.setCell ⟨g, j, none⟩ x) := ⟨blkO h.1 h1, blkO h.2 h2⟩
theorem KB.cells {b c : Nat} {v0 v1 v2 v3 v4 v5 u0 u1 u2 : Value} {t s : TypeId} {W : World} (h : KB b c #[v0, v1, v2, v3, v4, v5] #[u0, u1, u2] t s W) : W.cell? ⟨b, 0, none⟩ = some v0 ∧ W.cell? ⟨b, 1, none⟩ = some v1 ∧ W.cell? ⟨b, 2, none⟩ = some v2 ∧ W.cell? ⟨b, 3, none⟩ = some v3 ∧ W.cell? ⟨b, 4, none⟩ = some v4 ∧ W.cell? ⟨b, 5, none⟩ = some v5 ∧ W.cell? ⟨c, 0, none⟩ = some u0 ∧ W.cell? ⟨c, 1, none⟩ = some u1 ∧ W.cell? ⟨c, 2, none⟩ = some u2 := by
  obtain ⟨a0, a1, a2, a3, a4, a5⟩ := h.1.six
  obtain ⟨b0, b1, b2⟩ := h.2.three
  exact ⟨a0, a1, a2, a3, a4, a5, b0, b1, b2⟩
end Go.Proofs.YtboofidegpnkaaaGreatDoor
namespace Go.Proofs.YtboofidegpnkaaaGreatDoor
open Go.RowKit
set_option maxRecDepth 100000 in
set_option maxHeartbeats 1000000 in
theorem toLog_any (lf ll ls : Int) (w : World) :
    Calls Tryz.prog 7 #[.agg #[.int .i64 lf, .int .i64 ll, .int .i64 ls]] w fun e w' => e = .returned (.agg #[.int .i64 lf, .int .i64 ll, .int .i64 ls]) ∧ Below w.heap.size w w' := by
  go_enter Tryz.func7, Tryz.ntmps7
  go_wp2
  refine bodyPost_ret (v := .agg #[.int .i64 lf, .int .i64 ll, .int .i64 ls]) (by simp [results, Tryz.results7, go_sem]) rfl ⟨rfl, ?_⟩
  first
    | exact bto (bto (bnew _ _) (bnew _ _)) (bnew _ _)
    | (repeat (first | with_reducible refine Below.setCell ?_ (by first | (simp; done) | (simp; omega)) _)
       exact bto (bto (bnew _ _) (bnew _ _)) (bnew _ _))
end Go.Proofs.YtboofidegpnkaaaGreatDoor
namespace Go.Proofs.YtboofidegpnkaaaGreatDoor
open Go.RowKit
def KA (n : Nat) (K : DiskD) (L : LogD) (a : Option Addr) (cap : Nat) (W : World) : Prop := Blk W n #[.slice a K.fs.length cap, .int .i64 K.c, .int .i64 K.k, .int .i64 K.cr, .int .i64 K.fl, .bool K.dn] 24 ∧ Blk W (n + 1) #[.int .i64 L.first, .int .i64 L.last, .int .i64 L.size] 26
theorem KA.later {n : Nat} {K : DiskD} {L : LogD} {a : Option Addr} {cap : Nat} {W W' : World} (h : KA n K L a cap W) (hb : Below W.heap.size W W') : KA n K L a cap W' := ⟨h.1.later hb, h.2.later hb⟩
theorem KA.drew {n : Nat} {K : DiskD} {L : LogD} {a : Option Addr} {cap : Nat} {W : World} (h : KA n K L a cap W) : KA n K L a cap W.drew := h.later (Below.refl _ _).drew
theorem KA.alloc {n : Nat} {K : DiskD} {L : LogD} {a : Option Addr} {cap : Nat} {W : World} {o : Obj} (h : KA n K L a cap W) : KA n K L a cap (W.alloc o) := h.later (bnew _ _)
theorem KA.set {n g j : Nat} {K : DiskD} {L : LogD} {a : Option Addr} {cap : Nat} {W : World} {x : Value} (h : KA n K L a cap W) (h1 : n + 2 ≤ g) : KA n K L a cap (W.setCell ⟨g, j, none⟩ x) := ⟨blkO h.1 (by omega), blkO h.2 (by omega)⟩
theorem KA.cells {n : Nat} {K : DiskD} {L : LogD} {a : Option Addr} {cap : Nat} {W : World} (h : KA n K L a cap W) : W.cell? ⟨n, 0, none⟩ = some (.slice a K.fs.length cap) ∧ W.cell? ⟨n, 1, none⟩ = some (.int .i64 K.c) ∧ W.cell? ⟨n, 2, none⟩ = some (.int .i64 K.k) ∧ W.cell? ⟨n, 3, none⟩ = some (.int .i64 K.cr) ∧ W.cell? ⟨n, 4, none⟩ = some (.int .i64 K.fl) ∧ W.cell? ⟨n, 5, none⟩ = some (.bool K.dn) ∧ W.cell? ⟨n + 1, 0, none⟩ = some (.int .i64 L.first) ∧ W.cell? ⟨n + 1, 1, none⟩ = some (.int .i64 L.last) ∧ W.cell? ⟨n + 1, 2, none⟩ = some (.int .i64 L.size) := by
  obtain ⟨a0, a1, a2, a3, a4, a5⟩ := h.1.six
  obtain ⟨b0, b1, b2⟩ := h.2.three
  exact ⟨a0, a1, a2, a3, a4, a5, b0, b1, b2⟩
end Go.Proofs.YtboofidegpnkaaaGreatDoor
