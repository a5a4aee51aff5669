import Derived.Test.YtflfopienjjlbaaGreatDoorProg
import Derived.Test.YtflfopienjjlbaaGreatDoorJ27SLgOA
import Derived.Test.YtflfopienjjlbaaGreatDoorJ28SLgOB
import Derived.Test.YtflfopienjjlbaaGreatDoorJ01SegOfL
import Derived.Test.YtflfopienjjlbaaGreatDoorJ23AppE
import Derived.Test.YtflfopienjjlbaaGreatDoorJ14WLog
import Derived.Test.YtflfopienjjlbaaGreatDoorJ07Strs
import Derived.Test.YtflfopienjjlbaaGreatDoorJ03Nm
namespace Go.Proofs.YtflfopienjjlbaaGreatDoor
open Go.RowKit

theorem specOpen_any (a : Option Addr) (cap : Nat) (K : DiskD) (w : World) (hf : FilesIn w a K.fs) (hfit : Fit K.fs) :
    Calls Tryz.prog 6 #[.agg #[.slice a K.fs.length cap, .int .i64 K.c, .int .i64 K.k, .int .i64 K.cr, .int .i64 K.fl, .bool K.dn]] w fun e w' => OpenSpec w (openD K) e w' := by
  by_cases h : diskB K.fs K.c K.k K.cr K.fl = true ∧ K.dn = false ∧ numsL K.fs ≠ []
  · exact specOpen_some a cap K w hf hfit (hid h)
  · refine specOpen_none a cap K w hf hfit (hid fun h1 h2 => ?_)
    by_cases h3 : numsL K.fs = []
    · exact h3
    · exact absurd ⟨h1, h2, h3⟩ h
end Go.Proofs.YtflfopienjjlbaaGreatDoor

namespace Go.Proofs.YtflfopienjjlbaaGreatDoor
open Go.RowKit

set_option maxRecDepth 100000 in
set_option maxHeartbeats 1000000 in
theorem eqLog_same (lf ll ls : Int) (w : World) :
    Calls Tryz.prog 10 #[.agg #[.int .i64 lf, .int .i64 ll, .int .i64 ls], .agg #[.int .i64 lf, .int .i64 ll, .int .i64 ls]] w fun e w' => e = .returned (.bool true) ∧ Below w.heap.size w w' := by
  go_enter Tryz.func10, Tryz.ntmps10
  go_wp2
  go_ret
  exact ⟨rfl, bto (bnew _ _) (bnew _ _)⟩
end Go.Proofs.YtflfopienjjlbaaGreatDoor

namespace Go.Proofs.YtflfopienjjlbaaGreatDoor
open Go.RowKit

def zeD : Array Value := #[.slice none 0 0, .int .i64 0, .int .i64 0, .int .i64 0, .int .i64 0, .bool false]
def zeL : Array Value := #[.int .i64 0, .int .i64 0, .int .i64 0]
def dkV (a : Option Addr) (n cp : Nat) (c k cr fl : Int) (dn : Bool) : Array Value := #[.slice a n cp, .int .i64 c, .int .i64 k, .int .i64 cr, .int .i64 fl, .bool dn]
def lgV (x y z : Int) : Array Value := #[.int .i64 x, .int .i64 y, .int .i64 z]
def ZD (w : World) (P : Nat) : Prop := Blk w P #[.slice none 0 0, .int .i64 0, .int .i64 0, .int .i64 0, .int .i64 0, .bool false] 28
def ZL (w : World) (Q : Nat) : Prop := Blk w Q #[.int .i64 0, .int .i64 0, .int .i64 0] 30
theorem ZD.later {w w' : World} {P : Nat} (h : ZD w P) (hb : Below w.heap.size w w') : ZD w' P := Blk.later h hb
theorem ZL.later {w w' : World} {P : Nat} (h : ZL w P) (hb : Below w.heap.size w w') : ZL w' P := Blk.later h hb
theorem b_undrew {w w' : World} (h : Below w.drew.heap.size w.drew w') : Below w.heap.size w w' := ⟨h.os, h.tape, h.output, h.size, h.block⟩

theorem zD1 {w w' : World} (h : Below (w.alloc (.cells #[.slice none 0 0, .int .i64 0, .int .i64 0, .int .i64 0, .int .i64 0, .bool false] 28)).heap.size (w.alloc (.cells #[.slice none 0 0, .int .i64 0, .int .i64 0, .int .i64 0, .int .i64 0, .bool false] 28)) w') : ZD w' w.heap.size := blk_of_alloc h
theorem zL1 {w w' : World} (h : Below (w.alloc (.cells #[.int .i64 0, .int .i64 0, .int .i64 0] 30)).heap.size (w.alloc (.cells #[.int .i64 0, .int .i64 0, .int .i64 0] 30)) w') : ZL w' w.heap.size := blk_of_alloc h
theorem zD2 {w w' : World} (h : Below ((w.alloc (.cells #[.slice none 0 0, .int .i64 0, .int .i64 0, .int .i64 0, .int .i64 0, .bool false] 28)).alloc (.cells #[.int .i64 0, .int .i64 0, .int .i64 0] 30)).heap.size ((w.alloc (.cells #[.slice none 0 0, .int .i64 0, .int .i64 0, .int .i64 0, .int .i64 0, .bool false] 28)).alloc (.cells #[.int .i64 0, .int .i64 0, .int .i64 0] 30)) w') : ZD w' w.heap.size := (twoBoxes h).1
theorem zL2 {w w' : World} (h : Below ((w.alloc (.cells #[.slice none 0 0, .int .i64 0, .int .i64 0, .int .i64 0, .int .i64 0, .bool false] 28)).alloc (.cells #[.int .i64 0, .int .i64 0, .int .i64 0] 30)).heap.size ((w.alloc (.cells #[.slice none 0 0, .int .i64 0, .int .i64 0, .int .i64 0, .int .i64 0, .bool false] 28)).alloc (.cells #[.int .i64 0, .int .i64 0, .int .i64 0] 30)) w') : ZL w' (w.heap.size + 1) := (twoBoxes h).2.1
theorem zL3 {w w' : World} (h : Below ((w.alloc (.cells #[.int .i64 0, .int .i64 0, .int .i64 0] 30)).alloc (.cells #[.slice none 0 0, .int .i64 0, .int .i64 0, .int .i64 0, .int .i64 0, .bool false] 28)).heap.size ((w.alloc (.cells #[.int .i64 0, .int .i64 0, .int .i64 0] 30)).alloc (.cells #[.slice none 0 0, .int .i64 0, .int .i64 0, .int .i64 0, .int .i64 0, .bool false] 28)) w') : ZL w' w.heap.size := (twoBoxes h).1
theorem zD3 {w w' : World} (h : Below ((w.alloc (.cells #[.int .i64 0, .int .i64 0, .int .i64 0] 30)).alloc (.cells #[.slice none 0 0, .int .i64 0, .int .i64 0, .int .i64 0, .int .i64 0, .bool false] 28)).heap.size ((w.alloc (.cells #[.int .i64 0, .int .i64 0, .int .i64 0] 30)).alloc (.cells #[.slice none 0 0, .int .i64 0, .int .i64 0, .int .i64 0, .int .i64 0, .bool false] 28)) w') : ZD w' (w.heap.size + 1) := (twoBoxes h).2.1

theorem ZD.sixA {w : World} {P : Nat} (h : ZD w P) : (∀ o, (w.alloc o).cell? ⟨P, 0, none⟩ = some (.slice none 0 0)) ∧ (∀ o, (w.alloc o).cell? ⟨P, 1, none⟩ = some (.int .i64 0)) ∧ (∀ o, (w.alloc o).cell? ⟨P, 2, none⟩ = some (.int .i64 0)) ∧ (∀ o, (w.alloc o).cell? ⟨P, 3, none⟩ = some (.int .i64 0)) ∧ (∀ o, (w.alloc o).cell? ⟨P, 4, none⟩ = some (.int .i64 0)) ∧ (∀ o, (w.alloc o).cell? ⟨P, 5, none⟩ = some (.bool false)) := by
  refine ⟨fun o => ?_, fun o => ?_, fun o => ?_, fun o => ?_, fun o => ?_, fun o => ?_⟩ <;> rw [Blk.cell (ZD.later h (bnew _ o))] <;> rfl
theorem ZD.freeA {w : World} {P : Nat} (h : ZD w P) : (∀ o, (w.alloc o).frozen? ⟨P, 0, none⟩ = false) ∧ (∀ o, (w.alloc o).frozen? ⟨P, 1, none⟩ = false) ∧ (∀ o, (w.alloc o).frozen? ⟨P, 2, none⟩ = false) ∧ (∀ o, (w.alloc o).frozen? ⟨P, 3, none⟩ = false) ∧ (∀ o, (w.alloc o).frozen? ⟨P, 4, none⟩ = false) ∧ (∀ o, (w.alloc o).frozen? ⟨P, 5, none⟩ = false) :=
  ⟨fun o => Blk.free (ZD.later h (bnew _ o)) 0, fun o => Blk.free (ZD.later h (bnew _ o)) 1, fun o => Blk.free (ZD.later h (bnew _ o)) 2, fun o => Blk.free (ZD.later h (bnew _ o)) 3, fun o => Blk.free (ZD.later h (bnew _ o)) 4, fun o => Blk.free (ZD.later h (bnew _ o)) 5⟩
theorem ZL.threeA {w : World} {P : Nat} (h : ZL w P) : (∀ o, (w.alloc o).cell? ⟨P, 0, none⟩ = some (.int .i64 0)) ∧ (∀ o, (w.alloc o).cell? ⟨P, 1, none⟩ = some (.int .i64 0)) ∧ (∀ o, (w.alloc o).cell? ⟨P, 2, none⟩ = some (.int .i64 0)) := by
  refine ⟨fun o => ?_, fun o => ?_, fun o => ?_⟩ <;> rw [Blk.cell (ZL.later h (bnew _ o))] <;> rfl
theorem ZL.freeA {w : World} {P : Nat} (h : ZL w P) : (∀ o, (w.alloc o).frozen? ⟨P, 0, none⟩ = false) ∧ (∀ o, (w.alloc o).frozen? ⟨P, 1, none⟩ = false) ∧ (∀ o, (w.alloc o).frozen? ⟨P, 2, none⟩ = false) :=
  ⟨fun o => Blk.free (ZL.later h (bnew _ o)) 0, fun o => Blk.free (ZL.later h (bnew _ o)) 1, fun o => Blk.free (ZL.later h (bnew _ o)) 2⟩

theorem zzz1 {X : World} {n : Nat} (_ : ZD X n) (_ : ZL X (n + 1)) : True := trivial
theorem zzz2 {X : World} {n : Nat} (_ : ZD X (n + 1)) (_ : ZL X n) : True := trivial

/-- Two boxes filled: where they lay already, they were zero. -/
structure EndB (X wx : World) (P Q : Nat) (dv lv : Array Value) : Prop where
  bP : Blk wx P dv 28
  bQ : Blk wx Q lv 30
  keeps : Keeps (fun k => k = P ∨ k = Q) X wx
  zP : P < X.heap.size → ZD X P
  zQ : Q < X.heap.size → ZL X Q
theorem ze_ne {X : World} {P Q : Nat} (h : ZD X P) (k : ZL X Q) : P ≠ Q := by
  intro e
  subst e
  have := (show X.heap[P]? = _ from h).symm.trans k
  simp at this
theorem fill3 {w : World} {P : Nat} {z0 z1 z2 v0 v1 v2 : Value} {t : TypeId} (h : Blk w P #[z0, z1, z2] t) : Blk (((w.setCell ⟨P, 0, none⟩ v0).setCell ⟨P, 1, none⟩ v1).setCell ⟨P, 2, none⟩ v2) P #[v0, v1, v2] t := by
  have h6 := ((h.set 0 v0).set 1 v1).set 2 v2
  simpa using h6
theorem blkO {w : World} {b g j : Nat} {cur : Array Value} {t : TypeId} {x : Value} (h : Blk w b cur t) (hne : b ≠ g) : Blk (w.setCell ⟨g, j, none⟩ x) b cur t := (Below.heap_setCell _ _ _ b (fun e => hne e)).trans h
theorem keepsO {S : Nat → Prop} {a w : World} {g j : Nat} {x : Value} (h : Keeps S a w) (hg : S g) : Keeps S a (w.setCell ⟨g, j, none⟩ x) := h.setCell hg j x

theorem endS1 {X : World} {v0 v1 v2 v3 v4 v5 x0 x1 x2 : Value} : EndB X ((X.alloc (.cells #[v0, v1, v2, v3, v4, v5] 28)).alloc (.cells #[x0, x1, x2] 30)) X.heap.size (X.heap.size + 1) #[v0, v1, v2, v3, v4, v5] #[x0, x1, x2] := by
  obtain ⟨h1, h2, _⟩ := twoBoxes (w := X) (x := #[v0, v1, v2, v3, v4, v5]) (tx := 28) (y := #[x0, x1, x2]) (ty := 30) (Below.refl _ _)
  exact ⟨h1, h2, ((Keeps.refl _ _).alloc _).alloc _, fun h => absurd h (by omega), fun h => absurd h (by omega)⟩
theorem endS2 {X : World} {v0 v1 v2 v3 v4 v5 x0 x1 x2 : Value} : EndB X ((X.alloc (.cells #[x0, x1, x2] 30)).alloc (.cells #[v0, v1, v2, v3, v4, v5] 28)) (X.heap.size + 1) X.heap.size #[v0, v1, v2, v3, v4, v5] #[x0, x1, x2] := by
  obtain ⟨h1, h2, _⟩ := twoBoxes (w := X) (x := #[x0, x1, x2]) (tx := 30) (y := #[v0, v1, v2, v3, v4, v5]) (ty := 28) (Below.refl _ _)
  exact ⟨h2, h1, ((Keeps.refl _ _).alloc _).alloc _, fun h => absurd h (by omega), fun h => absurd h (by omega)⟩
theorem endS3 {X : World} {Q : Nat} {v0 v1 v2 v3 v4 v5 x0 x1 x2 : Value} (hq : ZL X Q) : EndB X ((((X.setCell ⟨Q, 0, none⟩ x0).setCell ⟨Q, 1, none⟩ x1).setCell ⟨Q, 2, none⟩ x2).alloc (.cells #[v0, v1, v2, v3, v4, v5] 28)) X.heap.size Q #[v0, v1, v2, v3, v4, v5] #[x0, x1, x2] := by
  have hb := blk_new (((X.setCell ⟨Q, 0, none⟩ x0).setCell ⟨Q, 1, none⟩ x1).setCell ⟨Q, 2, none⟩ x2) #[v0, v1, v2, v3, v4, v5] 28
  refine ⟨?_, Blk.later (fill3 hq) (bnew _ _), (keepsO (keepsO (keepsO (Keeps.refl _ _) (Or.inr rfl)) (Or.inr rfl)) (Or.inr rfl)).alloc _, fun h => absurd h (by omega), fun _ => hq⟩
  have e : (((X.setCell ⟨Q, 0, none⟩ x0).setCell ⟨Q, 1, none⟩ x1).setCell ⟨Q, 2, none⟩ x2).heap.size = X.heap.size := by simp [World.setCell]
  rw [e] at hb
  exact hb
theorem endS4 {X : World} {P : Nat} {v0 v1 v2 v3 v4 v5 x0 x1 x2 : Value} (hz : ZD X P) : EndB X (((((((X.setCell ⟨P, 0, none⟩ v0).setCell ⟨P, 1, none⟩ v1).setCell ⟨P, 2, none⟩ v2).setCell ⟨P, 3, none⟩ v3).setCell ⟨P, 4, none⟩ v4).setCell ⟨P, 5, none⟩ v5).alloc (.cells #[x0, x1, x2] 30)) P X.heap.size #[v0, v1, v2, v3, v4, v5] #[x0, x1, x2] := by
  have hb := blk_new ((((((X.setCell ⟨P, 0, none⟩ v0).setCell ⟨P, 1, none⟩ v1).setCell ⟨P, 2, none⟩ v2).setCell ⟨P, 3, none⟩ v3).setCell ⟨P, 4, none⟩ v4).setCell ⟨P, 5, none⟩ v5) #[x0, x1, x2] 30
  refine ⟨Blk.later (blk_fill hz) (bnew _ _), ?_, (keepsO (keepsO (keepsO (keepsO (keepsO (keepsO (Keeps.refl _ _) (Or.inl rfl)) (Or.inl rfl)) (Or.inl rfl)) (Or.inl rfl)) (Or.inl rfl)) (Or.inl rfl)).alloc _, fun _ => hz, fun h => absurd h (by omega)⟩
  have e : ((((((X.setCell ⟨P, 0, none⟩ v0).setCell ⟨P, 1, none⟩ v1).setCell ⟨P, 2, none⟩ v2).setCell ⟨P, 3, none⟩ v3).setCell ⟨P, 4, none⟩ v4).setCell ⟨P, 5, none⟩ v5).heap.size = X.heap.size := by simp [World.setCell]
  rw [e] at hb
  exact hb
theorem endS5 {X : World} {P Q : Nat} {v0 v1 v2 v3 v4 v5 x0 x1 x2 : Value} (hz : ZD X P) (hq : ZL X Q) : EndB X (((((((((X.setCell ⟨P, 0, none⟩ v0).setCell ⟨P, 1, none⟩ v1).setCell ⟨P, 2, none⟩ v2).setCell ⟨P, 3, none⟩ v3).setCell ⟨P, 4, none⟩ v4).setCell ⟨P, 5, none⟩ v5).setCell ⟨Q, 0, none⟩ x0).setCell ⟨Q, 1, none⟩ x1).setCell ⟨Q, 2, none⟩ x2) P Q #[v0, v1, v2, v3, v4, v5] #[x0, x1, x2] := by
  have hne := ze_ne hz hq
  refine ⟨blkO (blkO (blkO (blk_fill hz) hne) hne) hne, ?_, ?_, fun _ => hz, fun _ => hq⟩
  · have h := blkO (g := P) (j := 5) (x := v5) (blkO (g := P) (j := 4) (x := v4) (blkO (g := P) (j := 3) (x := v3) (blkO (g := P) (j := 2) (x := v2) (blkO (g := P) (j := 1) (x := v1) (blkO (g := P) (j := 0) (x := v0) hq (Ne.symm hne)) (Ne.symm hne)) (Ne.symm hne)) (Ne.symm hne)) (Ne.symm hne)) (Ne.symm hne)
    exact fill3 h
  · exact keepsO (keepsO (keepsO (keepsO (keepsO (keepsO (keepsO (keepsO (keepsO (Keeps.refl _ _) (Or.inl rfl)) (Or.inl rfl)) (Or.inl rfl)) (Or.inl rfl)) (Or.inl rfl)) (Or.inl rfl)) (Or.inr rfl)) (Or.inr rfl)) (Or.inr rfl)

theorem files_keeps {S : Nat → Prop} {w w' : World} {a : Option Addr} {fs : List FileD} (h : FilesIn w a fs) (hk : Keeps S w w') (ha : fs = [] ∨ ∃ b o, a = some ⟨b, o, none⟩ ∧ ¬ S b) : FilesIn w' a fs := by
  rcases h with h | ⟨b, o, rfl, hlt, h⟩
  · exact Or.inl h
  · rcases ha with hn | ⟨b', o', e, hS⟩
    · exact Or.inl hn
    · simp only [Option.some.injEq, Addr.mk.injEq, and_true] at e
      rw [← e.1] at hS
      have he := hk.block b hlt hS
      have hc : ∀ j, w'.cell? ⟨b, j, none⟩ = w.cell? ⟨b, j, none⟩ := fun j => World.cell?_of_block he
      exact Or.inr ⟨b, o, rfl, Nat.lt_of_lt_of_le hlt hk.size, fun i hi => by simp only [hc]; exact h i hi⟩
theorem EndB.away {X wx : World} {P Q : Nat} {dv lv : Array Value} (h : EndB X wx P Q dv lv) {a : Option Addr} {fs : List FileD} (hf : FilesIn X a fs) : fs = [] ∨ ∃ b o, a = some ⟨b, o, none⟩ ∧ ¬ (b = P ∨ b = Q) := by
  by_cases hn : fs = []
  · exact Or.inl hn
  · obtain ⟨b, o, e, hlt⟩ := hf.lt hn
    refine Or.inr ⟨b, o, e, fun hb => ?_⟩
    rcases hb with rfl | rfl
    · rcases apart_zero hf (h.zP hlt) with h1 | ⟨b', o', e', hne⟩
      · exact hn h1
      · rw [e] at e'
        simp only [Option.some.injEq, Addr.mk.injEq, and_true] at e'
        exact hne e'.1.symm
    · rcases apart_log hf (h.zQ hlt) with h1 | ⟨b', o', e', hne⟩
      · exact hn h1
      · rw [e] at e'
        simp only [Option.some.injEq, Addr.mk.injEq, and_true] at e'
        exact hne e'.1.symm
theorem EndB.files {X wx : World} {P Q : Nat} {dv lv : Array Value} (h : EndB X wx P Q dv lv) {a : Option Addr} {fs : List FileD} (hf : FilesIn X a fs) : FilesIn wx a fs := files_keeps hf h.keeps (h.away hf)
theorem EndB.owned {X wx : World} {P Q : Nat} {dv lv : Array Value} (h : EndB X wx P Q dv lv) {B : Nat} {a : Option Addr} {fs : List FileD} (ho : Owned X B a fs) : Owned wx B a fs := by
  have hf := ho.files
  rcases ho with hn | ⟨g, o, cur, t, rfl, hB, hg, hc⟩
  · exact Or.inl hn
  · rcases h.away hf with hn | ⟨b, o', e, hS⟩
    · exact Or.inl hn
    · simp only [Option.some.injEq, Addr.mk.injEq, and_true] at e
      rw [← e.1] at hS
      have he := h.keeps.block g (lt_of_block hg) hS
      have hk : ∀ j, wx.cell? ⟨g, j, none⟩ = X.cell? ⟨g, j, none⟩ := fun j => World.cell?_of_block he
      exact Or.inr ⟨g, o, cur, t, rfl, hB, he.trans hg, fun i hi => by simp only [hk]; exact hc i hi⟩
theorem EndB.apart {X wx : World} {P Q : Nat} {dv lv : Array Value} (h : EndB X wx P Q dv lv) {a : Option Addr} {fs : List FileD} (hf : FilesIn X a fs) : Apart a fs P := by
  rcases h.away hf with hn | ⟨b, o, e, hS⟩
  · exact Or.inl hn
  · exact Or.inr ⟨b, o, e, fun hb => hS (Or.inl hb)⟩
theorem EndB.below {X wx w1 : World} {P Q n : Nat} {dv lv : Array Value} (h : EndB X wx P Q dv lv) (hb : Below n w1 X) (hn : n ≤ X.heap.size) (hP : n ≤ P) (hQ : n ≤ Q) : Below n w1 wx :=
  hb.trans (h.keeps.below (fun k hk => by rcases hk with rfl | rfl <;> assumption) hn)
/-- D laid ahead, L behind the call: the store into D stands outside. -/
theorem endS6 {X : World} {P : Nat} {v0 v1 v2 v3 v4 v5 x0 x1 x2 : Value} (hz : ZD X P) : EndB X (((((((X.alloc (.cells #[x0, x1, x2] 30)).setCell ⟨P, 0, none⟩ v0).setCell ⟨P, 1, none⟩ v1).setCell ⟨P, 2, none⟩ v2).setCell ⟨P, 3, none⟩ v3).setCell ⟨P, 4, none⟩ v4).setCell ⟨P, 5, none⟩ v5) P X.heap.size #[v0, v1, v2, v3, v4, v5] #[x0, x1, x2] := by
  have hlt : P < X.heap.size := lt_of_block hz
  have hz' : ZD (X.alloc (.cells #[x0, x1, x2] 30)) P := ZD.later hz (bnew _ _)
  have hb := blk_new X #[x0, x1, x2] 30
  refine ⟨blk_fill hz', ?_, keepsO (keepsO (keepsO (keepsO (keepsO (keepsO ((Keeps.refl _ _).alloc _) (Or.inl rfl)) (Or.inl rfl)) (Or.inl rfl)) (Or.inl rfl)) (Or.inl rfl)) (Or.inl rfl), fun _ => hz, fun h => absurd h (by omega)⟩
  exact blkO (blkO (blkO (blkO (blkO (blkO hb (by omega)) (by omega)) (by omega)) (by omega)) (by omega)) (by omega)
theorem endS7 {X : World} {P : Nat} {y0 y1 y2 v0 v1 v2 v3 v4 v5 x0 x1 x2 : Value} (hz : ZD X P) : EndB X ((((((((((X.alloc (.cells #[y0, y1, y2] 30)).setCell ⟨P, 0, none⟩ v0).setCell ⟨P, 1, none⟩ v1).setCell ⟨P, 2, none⟩ v2).setCell ⟨P, 3, none⟩ v3).setCell ⟨P, 4, none⟩ v4).setCell ⟨P, 5, none⟩ v5).setCell ⟨X.heap.size, 0, none⟩ x0).setCell ⟨X.heap.size, 1, none⟩ x1).setCell ⟨X.heap.size, 2, none⟩ x2) P X.heap.size #[v0, v1, v2, v3, v4, v5] #[x0, x1, x2] := by
  have hlt : P < X.heap.size := lt_of_block hz
  have hz' : ZD (X.alloc (.cells #[y0, y1, y2] 30)) P := ZD.later hz (bnew _ _)
  have hb := blk_new X #[y0, y1, y2] 30
  refine ⟨blkO (blkO (blkO (blk_fill hz') (by omega)) (by omega)) (by omega), ?_, keepsO (keepsO (keepsO (keepsO (keepsO (keepsO (keepsO (keepsO (keepsO ((Keeps.refl _ _).alloc _) (Or.inl rfl)) (Or.inl rfl)) (Or.inl rfl)) (Or.inl rfl)) (Or.inl rfl)) (Or.inl rfl)) (Or.inr rfl)) (Or.inr rfl)) (Or.inr rfl), fun _ => hz, fun h => absurd h (by omega)⟩
  have h1 := blkO (g := P) (j := 5) (x := v5) (blkO (g := P) (j := 4) (x := v4) (blkO (g := P) (j := 3) (x := v3) (blkO (g := P) (j := 2) (x := v2) (blkO (g := P) (j := 1) (x := v1) (blkO (g := P) (j := 0) (x := v0) hb (by omega)) (by omega)) (by omega)) (by omega)) (by omega)) (by omega)
  exact fill3 h1
/-- L laid ahead, D behind the call: the store into L stands outside. -/
theorem endS8 {X : World} {Q : Nat} {v0 v1 v2 v3 v4 v5 x0 x1 x2 : Value} (hq : ZL X Q) : EndB X ((((X.alloc (.cells #[v0, v1, v2, v3, v4, v5] 28)).setCell ⟨Q, 0, none⟩ x0).setCell ⟨Q, 1, none⟩ x1).setCell ⟨Q, 2, none⟩ x2) X.heap.size Q #[v0, v1, v2, v3, v4, v5] #[x0, x1, x2] := by
  have hlt : Q < X.heap.size := lt_of_block hq
  have hq' : ZL (X.alloc (.cells #[v0, v1, v2, v3, v4, v5] 28)) Q := ZL.later hq (bnew _ _)
  have hb := blk_new X #[v0, v1, v2, v3, v4, v5] 28
  exact ⟨blkO (blkO (blkO hb (by omega)) (by omega)) (by omega), fill3 hq', keepsO (keepsO (keepsO ((Keeps.refl _ _).alloc _) (Or.inr rfl)) (Or.inr rfl)) (Or.inr rfl), fun h => absurd h (by omega), fun _ => hq⟩

theorem endA {w1 X wx : World} {P Q n : Nat} {dv lv : Array Value} {a : Option Addr} {fs : List FileD} (h : EndB X wx P Q dv lv) (hf : FilesIn X a fs) (hb : Below n w1 X) (hn : n ≤ X.heap.size) (hP : n ≤ P) (hQ : n ≤ Q) : Blk wx P dv 28 ∧ Blk wx Q lv 30 ∧ FilesIn wx a fs ∧ Below n w1 wx := ⟨h.bP, h.bQ, h.files hf, h.below hb hn hP hQ⟩
theorem endO {w1 X wx : World} {P Q n B : Nat} {dv lv : Array Value} {a : Option Addr} {fs : List FileD} (h : EndB X wx P Q dv lv) (ho : Owned X B a fs) (hb : Below n w1 X) (hB : n ≤ B) (hn : n ≤ X.heap.size) (hP : n ≤ P) (hQ : n ≤ Q) : n ≤ P ∧ n ≤ Q ∧ Blk wx P dv 28 ∧ Blk wx Q lv 30 ∧ Owned wx n a fs ∧ Apart a fs P ∧ Below n w1 wx := ⟨hP, hQ, h.bP, h.bQ, (h.owned ho).mono hB, h.apart ho.files, h.below hb hn hP hQ⟩

/-- Two boxes stand. -/
def KB (b c : Nat) (v u : Array Value) (t s : TypeId) (W : World) : Prop := Blk W b v t ∧ Blk W c u s
theorem KB.later {b c : Nat} {v u : Array Value} {t s : TypeId} {W W' : World} (h : KB b c v u t s W) (hb : Below W.heap.size W W') : KB b c v u t s W' := ⟨h.1.later hb, h.2.later hb⟩
theorem KB.drew {b c : Nat} {v u : Array Value} {t s : TypeId} {W : World} (h : KB b c v u t s W) : KB b c v u t s W.drew := h.later (Below.refl _ _).drew
theorem KB.alloc {b c : Nat} {v u : Array Value} {t s : TypeId} {W : World} {o : Obj} (h : KB b c v u t s W) : KB b c v u t s (W.alloc o) := h.later (bnew _ _)
theorem KB.set {b c g j : Nat} {v u : Array Value} {t s : TypeId} {W : World} {x : Value} (h : KB b c v u t s W) (h1 : b ≠ g) (h2 : c ≠ g) : KB b c v u t s (W.setCell ⟨g, j, none⟩ x) := ⟨blkO h.1 h1, blkO h.2 h2⟩
theorem KB.cells {b c : Nat} {v0 v1 v2 v3 v4 v5 u0 u1 u2 : Value} {t s : TypeId} {W : World} (h : KB b c #[v0, v1, v2, v3, v4, v5] #[u0, u1, u2] t s W) : W.cell? ⟨b, 0, none⟩ = some v0 ∧ W.cell? ⟨b, 1, none⟩ = some v1 ∧ W.cell? ⟨b, 2, none⟩ = some v2 ∧ W.cell? ⟨b, 3, none⟩ = some v3 ∧ W.cell? ⟨b, 4, none⟩ = some v4 ∧ W.cell? ⟨b, 5, none⟩ = some v5 ∧ W.cell? ⟨c, 0, none⟩ = some u0 ∧ W.cell? ⟨c, 1, none⟩ = some u1 ∧ W.cell? ⟨c, 2, none⟩ = some u2 := by
  obtain ⟨a0, a1, a2, a3, a4, a5⟩ := h.1.six
  obtain ⟨b0, b1, b2⟩ := h.2.three
  exact ⟨a0, a1, a2, a3, a4, a5, b0, b1, b2⟩
end Go.Proofs.YtflfopienjjlbaaGreatDoor

namespace Go.Proofs.YtflfopienjjlbaaGreatDoor
open Go.RowKit

set_option maxHeartbeats 1000000 in
theorem eqStringS_same (a a' : Option Addr) (cap cap' : Nat) (l : List ByteArray) (w : World) (hf : StrsIn w a l) (hf' : StrsIn w a' l) (hlen : l.length ≤ maxLen) :
    Calls Tryz.prog 11 #[.slice a l.length cap, .slice a' l.length cap'] w fun e w' => e = .returned (.bool true) ∧ Below w.heap.size w w' := by
  unfold maxLen at hlen
  have HF : Hid (StrsIn w a l) := hf
  have HF' : Hid (StrsIn w a' l) := hf'
  clear hf hf'
  go_enter Tryz.func11, Tryz.ntmps11
  go_wp2
  go_loopw [5] (fun i wr => ∃ k : Nat, k ≤ l.length ∧ i = .int .i64 k ∧ Below w.heap.size w wr) (fun i _ => l.length - (intOf i).toNat)
  case atStart => exact ⟨0, Nat.zero_le _, rfl, Below.refl _ _⟩
  case round =>
    obtain ⟨k, hk, rfl, hbel⟩ := hrel
    by_cases hlt : k < l.length
    · obtain ⟨b, o, rfl, hb, c0⟩ := (HF.out.later hbel).at hlt
      obtain ⟨b', o', rfl, hb', c0'⟩ := (HF'.out.later hbel).at hlt
      have d0 := Later.cells c0
      have d0' := Later.cells c0'
      clear c0 c0'
      have hne := Later.there wr
      go_wp2_with fail
      refine wp_region_later (by kernel_rfl) (by kernel_rfl) ?_
      repeat (go_big_quiet_step (fail))
      refine wpQuiet_nil ?_
      rintro _ ⟨x, rfl⟩
      go_wp2
      exact ⟨⟨k + 1, by omega, by go_num, hbel.trans (x.h.mono hbel.size)⟩, by simp [intOf]; omega⟩
    · go_wp2
      go_ret
      exact ⟨rfl, hbel⟩

def markT (k n : Nat) : List ByteArray := (List.range n).map (fun i => mt (k + i))
theorem markT_length (k n : Nat) : (markT k n).length = n := by simp [markT]
theorem markT_get (k n i : Nat) (h : i < (markT k n).length) : (markT k n)[i] = mt (k + i) := by simp [markT]

set_option maxRecDepth 100000 in
set_option maxHeartbeats 2000000 in
theorem markStringS_any (a : Option Addr) (cap : Nat) (l : List ByteArray) (k B : Nat) (w : World) (hk : 0 < k) (hk2 : k + l.length ≤ 100000000) (hf : StrsOwn w B a l) :
    Calls Tryz.prog 13 #[.slice a l.length cap, .int .i64 (k : Int)] w fun e w' => e = .returned (.int .i64 ((k + l.length : Nat) : Int)) ∧ Marked w w' B a l.length ∧ StrsOwn w' B a (markT k l.length) := by
  have hf3 : l = [] ∨ (0 < l.length ∧ ∃ g o cur t, a = some ⟨g, o, none⟩ ∧ B ≤ g ∧ w.heap[g]? = some (.cells cur t (0, 0)) ∧ ∀ i (h : i < l.length), w.cell? ⟨g, o + i, none⟩ = some (.string l[i])) := by
    rcases hf with h | h
    · exact Or.inl h
    · by_cases h0 : l = []
      · exact Or.inl h0
      · exact Or.inr ⟨List.length_pos_iff.2 h0, h⟩
  clear hf
  rcases hf3 with rfl | ⟨hpos, g, o, cur, t, rfl, hB, hg, hfs⟩
  · go_enter Tryz.func13, Tryz.ntmps13
    go_wp2
    go_loopw [1, 5] (fun l i wr => l = .int .i64 (k : Int) ∧ i = .int .i64 0 ∧ wr = w) (fun _ i _ => 0)
    case atStart => exact ⟨rfl, rfl, rfl⟩
    case round =>
      obtain ⟨rfl, rfl, rfl⟩ := hrel
      go_wp2
      go_ret
      exact ⟨rfl, Or.inl ⟨rfl, Below.refl _ _⟩, Or.inl rfl⟩
  have hsz : l.length = 0 ∨ o + l.length ≤ cur.size := by
    by_cases h0 : l.length = 0
    · exact Or.inl h0
    · right
      have hc := hfs (l.length - 1) (by omega)
      rw [cell_of_row w g _ cur t _ hg] at hc
      have := (Array.getElem?_eq_some_iff.1 hc).1
      omega
  have HG : Hid (Blk w g cur t) := hg
  clear hg hfs
  generalize l.length = n at *
  go_enter Tryz.func13, Tryz.ntmps13
  go_wp2
  go_loopw [1, 5] (fun l i wr => ∃ (j : Nat) (c : Array Value), j ≤ n ∧ i = .int .i64 j ∧ l = .int .i64 ((k + j : Nat) : Int) ∧ Blk wr g c t ∧ c.size = cur.size ∧ (∀ m, m < j → c[o + m]? = some (.string (mt (k + m)))) ∧ But g w wr) (fun _ i _ => n - (intOf i).toNat)
  case atStart => exact ⟨0, cur, Nat.zero_le _, rfl, rfl, HG.out, rfl, fun m h => absurd h (by omega), But.refl _ _⟩
  case round =>
    obtain ⟨j, c, hj, rfl, rfl, hblk, hcs, hrows, hbut⟩ := hrel
    have HBLK : Hid (Blk wr g c t) := hblk
    have HROWS : Hid (∀ m, m < j → c[o + m]? = some (.string (mt (k + m)))) := hrows
    have HCS : Hid (c.size = cur.size) := hcs
    clear hblk hrows
    by_cases hlt : j < n
    · have hbd : o + j < c.size := by rcases hsz with h | h <;> omega
      clear hcs
      go_wp2_with fail
      refine (markText_int _ (k + j) (by omega) _ (by omega) (by omega)).mono ?_
      rintro e w1 ⟨rfl, hb1⟩
      have hB1 := HBLK.out.later hb1
      obtain ⟨v0, d0⟩ := hB1.there (j := o + j) hbd
      have f0 := hB1.free (o + j)
      have HB1 : Hid (Blk w1 g c t) := hB1
      have HBUT : Hid (But g w w1) := hbut.trans (But.of hb1)
      clear hB1 hb1 hbut
      go_wp2
      refine ⟨⟨j + 1, _, by omega, by go_num, by go_num, HB1.out.set (o + j) (.string (mt (k + j))), by simp [HCS.out], ?_, HBUT.out.setCell _ _⟩, by simp [intOf]; omega⟩
      intro m hm
      by_cases e : m = j
      · subst e
        simp [hbd]
      · rw [Array.getElem?_setIfInBounds_ne (by omega)]
        exact HROWS.out m (by omega)
    · go_wp2
      go_ret
      have e : j = n := by omega
      subst e
      refine ⟨rfl, ?_, ?_⟩
      · exact Or.inr ⟨hpos, g, o, rfl, hB, hbut⟩
      · refine Or.inr ⟨g, o, c, t, rfl, hB, HBLK.out, fun i hi => ?_⟩
        rw [markT_get, HBLK.out.cell]
        exact HROWS.out i (by rw [markT_length] at hi; exact hi)

set_option maxRecDepth 100000 in
set_option maxHeartbeats 2000000 in
theorem heldStringS_any (a : Option Addr) (cap : Nat) (k n : Nat) (w : World) (hk : 0 < k) (hk2 : k + n ≤ 100000000) (hf : StrsIn w a (markT k n)) :
    Calls Tryz.prog 15 #[.slice a n cap, .int .i64 (k : Int)] w fun e w' => e = .returned (.int .i64 ((k + n : Nat) : Int)) ∧ Below w.heap.size w w' := by
  have HF : Hid (StrsIn w a (markT k n)) := hf
  clear hf
  go_enter Tryz.func15, Tryz.ntmps15
  go_wp2
  go_loopw [1, 5] (fun l i wr => ∃ j : Nat, j ≤ n ∧ i = .int .i64 j ∧ l = .int .i64 ((k + j : Nat) : Int) ∧ Below w.heap.size w wr) (fun _ i _ => n - (intOf i).toNat)
  case atStart => exact ⟨0, Nat.zero_le _, rfl, rfl, Below.refl _ _⟩
  case round =>
    obtain ⟨j, hj, rfl, rfl, hbel⟩ := hrel
    by_cases hlt : j < n
    · obtain ⟨b, o, rfl, hb, c0⟩ := (HF.out.later hbel).at (i := j) (by rw [markT_length]; exact hlt)
      rw [markT_get] at c0
      have d0 := Later.cells c0
      have hne := Later.there wr
      clear c0
      go_wp2_with fail
      refine wp_region_later (by kernel_rfl) (by kernel_rfl) ?_
      repeat (go_big_quiet_step (first | (go_at_call 40; exact calls_later (markText_int _ (k + j) (by omega) _ (by omega) (by omega)))))
      refine wpQuiet_nil ?_
      rintro _ ⟨x, rfl⟩
      have HX : Hid (Below w.heap.size w x.w') := bto hbel x.h
      clear d0 hne hbel
      generalize x.w' = W at *
      clear x
      go_wp2
      exact ⟨⟨j + 1, by omega, by go_num, by go_num, HX.out⟩, by simp [intOf]; omega⟩
    · go_wp2
      go_ret
      have e : j = n := by omega
      subst e
      exact ⟨ret_int (by omega), hbel⟩
end Go.Proofs.YtflfopienjjlbaaGreatDoor

namespace Go.Proofs.YtflfopienjjlbaaGreatDoor
open Go.RowKit

theorem StrsIn.but {g : Nat} {w w' : World} {a : Option Addr} {l : List ByteArray} (h : StrsIn w a l) (hb : But g w w') (hg : l = [] ∨ ∃ b o, a = some ⟨b, o, none⟩ ∧ b ≠ g) : StrsIn w' a l := by
  rcases hg with hg | ⟨b, o, rfl, hne⟩
  · exact Or.inl hg
  · rcases h with h | ⟨b', o', e, hlt, h⟩
    · exact Or.inl h
    · simp only [Option.some.injEq, Addr.mk.injEq, and_true] at e
      obtain ⟨rfl, rfl⟩ := e
      have hk : ∀ j, w'.cell? ⟨b, j, none⟩ = w.cell? ⟨b, j, none⟩ := fun j => World.cell?_of_block (hb.block b hlt hne)
      exact Or.inr ⟨b, o, rfl, Nat.lt_of_lt_of_le hlt hb.size, fun i hi => by rw [hk]; exact h i hi⟩

end Go.Proofs.YtflfopienjjlbaaGreatDoor

