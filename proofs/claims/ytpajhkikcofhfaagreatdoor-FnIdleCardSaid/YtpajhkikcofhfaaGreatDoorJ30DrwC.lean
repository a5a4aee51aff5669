import Derived.Test.YtpajhkikcofhfaaGreatDoorJ27U8L
import Derived.Test.YtpajhkikcofhfaaGreatDoorJ29SmpV
import Derived.Test.YtpajhkikcofhfaaGreatDoorJ04StaL
import Derived.Test.YtpajhkikcofhfaaGreatDoorProg
namespace Go.Proofs.YtpajhkikcofhfaaGreatDoor
open Go.RowKit

/-- Labels that were drawn. -/
def GoodL (ls : List LabD) (c : Nat) : Prop := ls.length ≤ 20 ∧ ls.length ≤ c ∧ SizL ls
/-- The labels lie at a slice's address, in the blocks lo .. hi - 1. -/
def LabsR (w : World) (lo hi : Nat) (a : Option Addr) (ls : List LabD) : Prop := ls = [] ∨ ∃ g o, a = some ⟨g, o, none⟩ ∧ lo ≤ g ∧ g < hi ∧ g < w.heap.size ∧ LabsAt w g o ls
theorem LabsR.keep {w w' : World} {lo hi : Nat} {a : Option Addr} {ls : List LabD} (h : LabsR w lo hi a ls) (hs : w.heap.size ≤ w'.heap.size) (hk : ∀ g, lo ≤ g → g < hi → g < w.heap.size → w'.heap[g]? = w.heap[g]?) : LabsR w' lo hi a ls := by
  rcases h with h | ⟨g, o, rfl, h1, h2, h3, h⟩
  · exact Or.inl h
  · have hc : ∀ j, w'.cell? ⟨g, j, none⟩ = w.cell? ⟨g, j, none⟩ := fun j => World.cell?_of_block (hk g h1 h2 h3)
    exact Or.inr ⟨g, o, rfl, h1, h2, by omega, fun i hi => by simp only [hc]; exact h i hi⟩
theorem LabsR.wide {w : World} {lo hi lo' hi' : Nat} {a : Option Addr} {ls : List LabD} (h : LabsR w lo hi a ls) (h1 : lo' ≤ lo) (h2 : hi ≤ hi') : LabsR w lo' hi' a ls := by
  rcases h with h | ⟨g, o, rfl, q1, q2, q3, h⟩
  · exact Or.inl h
  · exact Or.inr ⟨g, o, rfl, by omega, by omega, q3, h⟩
theorem LabsR.labs {w : World} {lo hi : Nat} {a : Option Addr} {ls : List LabD} (h : LabsR w lo hi a ls) : LabsIn w a ls := by
  rcases h with h | ⟨g, o, rfl, _, _, q3, h⟩
  · exact Or.inl h
  · exact Or.inr ⟨g, o, rfl, q3, h⟩
theorem LabsOwn.inR {w : World} {lo : Nat} {a : Option Addr} {ls : List LabD} (h : LabsOwn w lo a ls) : LabsR w lo w.heap.size a ls := by
  rcases h with h | ⟨g, o, cur, t, rfl, hB, hg, h⟩
  · exact Or.inl h
  · exact Or.inr ⟨g, o, rfl, hB, lt_of_block hg, lt_of_block hg, h⟩
/-- A number of 64 bits. -/
def I64d (v : Int) : Prop := -9223372036854775808 ≤ v ∧ v ≤ 9223372036854775807
def smpK : KindZ XV where
  m := 2
  cells := fun y => [.slice y.a y.x.labs.length y.c, .int .i64 y.x.bits]
  len := fun _ => rfl
  part := fun w lo hi y => LabsR w lo hi y.a y.x.labs ∧ GoodL y.x.labs y.c ∧ I64d y.x.bits
  keep := fun h hs hk => ⟨h.1.keep hs hk, h.2⟩
  wide := fun h h1 h2 => ⟨h.1.wide h1 h2, h.2⟩
/-- A request and where its samples lie. -/
structure QV where
  kind : Int
  tenant : ByteArray
  metric : ByteArray
  num : Int
  ys : List XV
  a : Option Addr
  c : Nat
def QV.good (q : QV) : Prop := (1 ≤ q.kind ∧ q.kind ≤ 6) ∧ q.tenant.size ≤ 16 ∧ q.metric.size ≤ 16 ∧ (-100 ≤ q.num ∧ q.num ≤ 100) ∧ q.ys.length ≤ 5
def QV.val (q : QV) : Value := .agg #[.int .i64 q.kind, .string q.tenant, .string q.metric, .int .i64 q.num, .slice q.a q.ys.length q.c]
def reqK : KindZ QV where
  m := 5
  cells := fun q => [.int .i64 q.kind, .string q.tenant, .string q.metric, .int .i64 q.num, .slice q.a q.ys.length q.c]
  len := fun _ => rfl
  part := fun w lo hi q => InZ smpK w lo hi q.a q.ys ∧ q.good
  keep := fun h hs hk => ⟨h.1.keep hs hk, h.2⟩
  wide := fun h h1 h2 => ⟨h.1.wide h1 h2, h.2⟩
/-- A config that was drawn. -/
def DrawnC (c : CfgD) : Prop := (1 ≤ c.w ∧ c.w ≤ 8) ∧ (1 ≤ c.tl ∧ c.tl ≤ 7) ∧ (1 ≤ c.ml ∧ c.ml ≤ 5) ∧ (1 ≤ c.sh ∧ c.sh ≤ 5) ∧ (0 ≤ c.ha ∧ c.ha ≤ 2) ∧ (100 ≤ c.sg ∧ c.sg ≤ 299)
/-- Block g holds m numbers. -/
def RowI (w : World) (g m : Nat) : Prop := ∃ (cur : Array Value) (t : TypeId), Blk w g cur t ∧ ∀ j, j < m → ∃ z : Int, cur[j]? = some (.int .i64 z) ∧ I64d z
theorem RowI.but {w w' : World} {g m B : Nat} (h : RowI w g m) (hb : But B w w') (hne : g ≠ B) : RowI w' g m := by
  obtain ⟨cur, t, h1, h2⟩ := h
  exact ⟨cur, t, (hb.block g (lt_of_block h1) hne).trans h1, h2⟩
theorem RowI.at {w : World} {g m : Nat} (h : RowI w g m) {j : Nat} (hj : j < m) : ∃ z : Int, w.cell? ⟨g, j, none⟩ = some (.int .i64 z) ∧ I64d z := by
  obtain ⟨cur, t, h1, h2⟩ := h
  obtain ⟨s, e, hs⟩ := h2 j hj
  exact ⟨s, by rw [h1.cell]; exact e, hs⟩
theorem rowI_new (w : World) (L : List Int) (t : TypeId) (m : Nat) (hm : m = L.length) (h : (L.all fun z => decide (-9223372036854775808 ≤ z ∧ z ≤ 9223372036854775807)) = true) : RowI (w.alloc (.cells (L.map (Value.int .i64)).toArray t)) w.heap.size m := by
  subst hm
  refine ⟨_, t, heap_alloc_new _ _, fun j hj => ⟨L[j], by simp [hj], ?_⟩⟩
  have := List.all_eq_true.1 h L[j] (List.getElem_mem hj)
  simpa [I64d] using this
end Go.Proofs.YtpajhkikcofhfaaGreatDoor

namespace Go.Proofs.YtpajhkikcofhfaaGreatDoor
open Go.RowKit

/-- Another block is written. -/
theorem Blk.keepS {w : World} {g h j : Nat} {cur : Array Value} {t : TypeId} (hb : Blk w g cur t) (hne : g ≠ h) (v : Value) : Blk (w.setCell ⟨h, j, none⟩ v) g cur t :=
  (((But.refl h w).setCell j v).block g (lt_of_block hb) hne).trans hb
set_option maxRecDepth 100000 in
set_option maxHeartbeats 2000000 in
theorem drawConfig_any (B P N : Nat) (w : World) (h : CurB w B P N) (hN : N ≤ 1000000) :
    Calls Tryz.prog 12 #[.pointer (some ⟨B, 0, none⟩)] w fun e w' => ∃ c : CfgD, DrawnC c ∧ e = .returned (cfgV c) ∧ CurB w' B P (N + 6) ∧ But B w w' := by
  have HC : Hid (CurB w B P N) := h
  have hlt := h.lt
  have hPw := h.up.2
  clear h
  go_enter Tryz.func12, Tryz.ntmps12
  go_wp2_with fail
  refine (curPick_any B P N 8 _ (HC.out.later (bnew _ _)) (by omega) (by omega) (by omega)).mono ?_
  rintro e w1 ⟨v1, hv1, rfl, hc1, hb1⟩
  have H1 : Hid (CurB w1 B P (N + 1) ∧ But B w w1) := ⟨hc1, (But.of (bnew _ _)).trans hb1⟩
  have hby : Blk (w.alloc (.cells #[.int .i64 0, .int .i64 0, .int .i64 0, .int .i64 0, .int .i64 0, .int .i64 0] 24)) w.heap.size #[.int .i64 0, .int .i64 0, .int .i64 0, .int .i64 0, .int .i64 0, .int .i64 0] 24 := heap_alloc_new _ _
  have Y1 : Hid (Blk w1 w.heap.size #[.int .i64 0, .int .i64 0, .int .i64 0, .int .i64 0, .int .i64 0, .int .i64 0] 24) := (hb1.block _ (lt_of_block hby) (by omega)).trans hby
  have hz0 : w.heap.size < w1.heap.size := lt_of_block Y1.out
  have hz1 : w.heap.size ≤ w1.heap.size := by omega
  clear hc1 hb1 HC hby
  have p1 : (v1 : Int) < 8 := by omega
  go_wp2_with fail
  refine (curPick_any B P (N + 1) 7 _ (H1.out.1.later (bnew _ _)) (by omega) (by omega) (by omega)).mono ?_
  rintro e w2 ⟨v2, hv2, rfl, hc2, hb2⟩
  have hbx : Blk (w1.alloc (.cells #[.int .i64 (1 + v1), .int .i64 6, .int .i64 4, .int .i64 0, .int .i64 0, .int .i64 0] 24)) w1.heap.size #[.int .i64 (1 + v1), .int .i64 6, .int .i64 4, .int .i64 0, .int .i64 0, .int .i64 0] 24 := heap_alloc_new _ _
  have X2 : Hid (Blk w2 w1.heap.size #[.int .i64 (1 + v1), .int .i64 6, .int .i64 4, .int .i64 0, .int .i64 0, .int .i64 0] 24) := (hb2.block _ (lt_of_block hbx) (by omega)).trans hbx
  have H2 : Hid (CurB w2 B P (N + 2) ∧ But B w w2) := ⟨hc2, (H1.out.2.later (bnew _ _)).trans hb2⟩
  have Y2 : Hid (Blk w2 w.heap.size #[.int .i64 0, .int .i64 0, .int .i64 0, .int .i64 0, .int .i64 0, .int .i64 0] 24) := (hb2.block _ (by simp; omega) (by omega)).trans (Y1.out.alloc _)
  clear hc2 hb2 hbx H1 Y1
  have p2 : (v2 : Int) < 7 := by omega
  have c1 := X2.out.cell 1
  have f1 := X2.out.free 1
  go_wp2_with fail
  refine (curPick_any B P (N + 2) 5 _ (H2.out.1.below ((Below.refl _ _).setCell (by show P ≤ w1.heap.size; omega) _)) (by omega) (by omega) (by omega)).mono ?_
  rintro e w3 ⟨v3, hv3, rfl, hc3, hb3⟩
  have hx3 := Blk.set X2.out 1 (.int .i64 (1 + (v2 : Int)))
  have X3 : Hid (Blk w3 w1.heap.size #[.int .i64 (1 + v1), .int .i64 (1 + v2), .int .i64 4, .int .i64 0, .int .i64 0, .int .i64 0] 24) := (hb3.block _ (lt_of_block hx3) (by omega)).trans hx3
  have H3 : Hid (CurB w3 B P (N + 3) ∧ But B w w3) := ⟨hc3, (H2.out.2.below_to ((Below.refl _ _).setCell hz1 _)).trans hb3⟩
  have Y3 : Hid (Blk w3 w.heap.size #[.int .i64 0, .int .i64 0, .int .i64 0, .int .i64 0, .int .i64 0, .int .i64 0] 24) := (hb3.block _ (by have := lt_of_block Y2.out; simpa using this) (by omega)).trans (Y2.out.keepS (by omega) _)
  clear hc3 hb3 hx3 Y2 H2 X2 c1 f1
  have p3 : (v3 : Int) < 5 := by omega
  have c2 := X3.out.cell 2
  have f2 := X3.out.free 2
  go_wp2_with fail
  refine (curPick_any B P (N + 3) 5 _ (H3.out.1.below ((Below.refl _ _).setCell (by show P ≤ w1.heap.size; omega) _)) (by omega) (by omega) (by omega)).mono ?_
  rintro e w4 ⟨v4, hv4, rfl, hc4, hb4⟩
  have hx4 := Blk.set X3.out 2 (.int .i64 (1 + (v3 : Int)))
  have X4 : Hid (Blk w4 w1.heap.size #[.int .i64 (1 + v1), .int .i64 (1 + v2), .int .i64 (1 + v3), .int .i64 0, .int .i64 0, .int .i64 0] 24) := (hb4.block _ (lt_of_block hx4) (by omega)).trans hx4
  have H4 : Hid (CurB w4 B P (N + 4) ∧ But B w w4) := ⟨hc4, (H3.out.2.below_to ((Below.refl _ _).setCell hz1 _)).trans hb4⟩
  have Y4 : Hid (Blk w4 w.heap.size #[.int .i64 0, .int .i64 0, .int .i64 0, .int .i64 0, .int .i64 0, .int .i64 0] 24) := (hb4.block _ (by have := lt_of_block Y3.out; simpa using this) (by omega)).trans (Y3.out.keepS (by omega) _)
  clear hc4 hb4 hx4 Y3 H3 X3 c2 f2
  have p4 : (v4 : Int) < 5 := by omega
  have c3 := X4.out.cell 3
  have f3 := X4.out.free 3
  go_wp2_with fail
  refine (curPick_any B P (N + 4) 3 _ (H4.out.1.below ((Below.refl _ _).setCell (by show P ≤ w1.heap.size; omega) _)) (by omega) (by omega) (by omega)).mono ?_
  rintro e w5 ⟨v5, hv5, rfl, hc5, hb5⟩
  have hx5 := Blk.set X4.out 3 (.int .i64 (1 + (v4 : Int)))
  have X5 : Hid (Blk w5 w1.heap.size #[.int .i64 (1 + v1), .int .i64 (1 + v2), .int .i64 (1 + v3), .int .i64 (1 + v4), .int .i64 0, .int .i64 0] 24) := (hb5.block _ (lt_of_block hx5) (by omega)).trans hx5
  have H5 : Hid (CurB w5 B P (N + 5) ∧ But B w w5) := ⟨hc5, (H4.out.2.below_to ((Below.refl _ _).setCell hz1 _)).trans hb5⟩
  have Y5 : Hid (Blk w5 w.heap.size #[.int .i64 0, .int .i64 0, .int .i64 0, .int .i64 0, .int .i64 0, .int .i64 0] 24) := (hb5.block _ (by have := lt_of_block Y4.out; simpa using this) (by omega)).trans (Y4.out.keepS (by omega) _)
  clear hc5 hb5 hx5 Y4 H4 X4 c3 f3
  have p5 : (v5 : Int) < 3 := by omega
  have c4 := X5.out.cell 4
  have f4 := X5.out.free 4
  go_wp2_with fail
  refine (curPick_any B P (N + 5) 200 _ (H5.out.1.below ((Below.refl _ _).setCell (by show P ≤ w1.heap.size; omega) _)) (by omega) (by omega) (by omega)).mono ?_
  rintro e w6 ⟨v6, hv6, rfl, hc6, hb6⟩
  have hx6 := Blk.set X5.out 4 (.int .i64 (v5 : Int))
  have X6 : Hid (Blk w6 w1.heap.size #[.int .i64 (1 + v1), .int .i64 (1 + v2), .int .i64 (1 + v3), .int .i64 (1 + v4), .int .i64 v5, .int .i64 0] 24) := (hb6.block _ (lt_of_block hx6) (by omega)).trans hx6
  have H6 : Hid (CurB w6 B P (N + 6) ∧ But B w w6) := ⟨hc6, (H5.out.2.below_to ((Below.refl _ _).setCell hz1 _)).trans hb6⟩
  have Y6 : Hid (Blk w6 w.heap.size #[.int .i64 0, .int .i64 0, .int .i64 0, .int .i64 0, .int .i64 0, .int .i64 0] 24) := (hb6.block _ (by have := lt_of_block Y5.out; simpa using this) (by omega)).trans (Y5.out.keepS (by omega) _)
  clear hc6 hb6 hx6 Y5 H5 X5 c4 f4
  have p6 : (v6 : Int) < 200 := by omega
  have c0 := X6.out.cell 0
  have c1 := X6.out.cell 1
  have c2 := X6.out.cell 2
  have c3 := X6.out.cell 3
  have c4 := X6.out.cell 4
  have c5 := X6.out.cell 5
  have f5 := X6.out.free 5
  have r0 := Y6.out.cell 0
  have s0 := Y6.out.free 0
  have r1 := Y6.out.cell 1
  have s1 := Y6.out.free 1
  have r2 := Y6.out.cell 2
  have s2 := Y6.out.free 2
  have r3 := Y6.out.cell 3
  have s3 := Y6.out.free 3
  have r4 := Y6.out.cell 4
  have s4 := Y6.out.free 4
  have r5 := Y6.out.cell 5
  have s5 := Y6.out.free 5
  have n1 : ¬ (w.heap.size = w1.heap.size) := by omega
  have n2 : ¬ (w1.heap.size = w.heap.size) := by omega
  go_wp2
  refine bodyPost_ret (v := .agg #[.int .i64 (1 + v1), .int .i64 (1 + v2), .int .i64 (1 + v3), .int .i64 (1 + v4), .int .i64 v5, .int .i64 (100 + v6)]) (by simp [results, Tryz.results12, go_sem, r0, r1, r2, r3, r4, r5]) rfl ?_
  have hP0 : P ≤ w.heap.size := hPw
  have hP1 : P ≤ w1.heap.size := by omega
  have hZ : w.heap.size ≤ w.heap.size := Nat.le_refl _
  refine ⟨⟨1 + v1, 1 + v2, 1 + v3, 1 + v4, v5, 100 + v6⟩, ⟨⟨by simp only; omega, by simp only; omega⟩, ⟨by simp only; omega, by simp only; omega⟩, ⟨by simp only; omega, by simp only; omega⟩, ⟨by simp only; omega, by simp only; omega⟩, ⟨by simp only; omega, by simp only; omega⟩, ⟨by simp only; omega, by simp only; omega⟩⟩, rfl, H6.out.1.below ?_, H6.out.2.below_to ?_⟩
  · exact ((((((((Below.refl _ _).setCell hP1 _).setCell hP0 _).setCell hP0 _).setCell hP0 _).setCell hP0 _).setCell hP0 _).setCell hP0 _)
  · exact ((((((((Below.refl _ _).setCell hz1 _).setCell hZ _).setCell hZ _).setCell hZ _).setCell hZ _).setCell hZ _).setCell hZ _)

set_option maxRecDepth 100000 in
set_option maxHeartbeats 1000000 in
theorem drawTenant_any (B P N : Nat) (w : World) (h : CurB w B P N) (hN : N ≤ 1000000) :
    Calls Tryz.prog 31 #[.pointer (some ⟨B, 0, none⟩)] w fun e w' => ∃ s : ByteArray, s.size ≤ 16 ∧ e = .returned (.string s) ∧ CurB w' B P (N + 1) ∧ But B w w' := by
  have HC : Hid (CurB w B P N) := h
  have hlt := h.lt
  clear h
  go_enter Tryz.func31, Tryz.ntmps31
  go_wp2_with fail
  have HR : Hid (RowT (w.alloc (.cells ([⟨#[97, 99, 109, 101]⟩, ⟨#[98, 45, 50]⟩, ⟨#[122, 122]⟩, ⟨#[97, 99, 109, 101]⟩].map Value.string).toArray 9)) w.heap.size 4 16) := rowT_new w _ 16 _ 4 rfl (by decide)
  simp only [List.map_cons, List.map_nil] at HR
  refine (curPick_any B P N 4 _ (HC.out.later (bnew _ _)) (by omega) (by omega) (by omega)).mono ?_
  rintro e w1 ⟨v, hv, rfl, hc1, hb1⟩
  obtain ⟨s, hcell, hs⟩ := (HR.out.but hb1 (by omega)).at hv
  have H1 : Hid (CurB w1 B P (N + 1) ∧ But B w w1) := ⟨hc1, (But.of (bnew _ _)).trans hb1⟩
  clear hc1 hb1 HC HR
  have hv' : (v : Int) < 4 := by omega
  go_wp2
  go_ret
  exact ⟨s, hs, rfl, H1.out⟩

set_option maxRecDepth 100000 in
set_option maxHeartbeats 1000000 in
theorem drawMetric_any (B P N : Nat) (w : World) (h : CurB w B P N) (hN : N ≤ 1000000) :
    Calls Tryz.prog 32 #[.pointer (some ⟨B, 0, none⟩)] w fun e w' => ∃ s : ByteArray, s.size ≤ 16 ∧ e = .returned (.string s) ∧ CurB w' B P (N + 1) ∧ But B w w' := by
  have HC : Hid (CurB w B P N) := h
  have hlt := h.lt
  clear h
  go_enter Tryz.func32, Tryz.ntmps32
  go_wp2_with fail
  have HR : Hid (RowT (w.alloc (.cells ([⟨#[117, 112]⟩, ⟨#[99, 112, 117]⟩, ⟨#[109, 101, 109]⟩, ⟨#[]⟩].map Value.string).toArray 9)) w.heap.size 4 16) := rowT_new w _ 16 _ 4 rfl (by decide)
  simp only [List.map_cons, List.map_nil] at HR
  refine (curPick_any B P N 4 _ (HC.out.later (bnew _ _)) (by omega) (by omega) (by omega)).mono ?_
  rintro e w1 ⟨v, hv, rfl, hc1, hb1⟩
  obtain ⟨s, hcell, hs⟩ := (HR.out.but hb1 (by omega)).at hv
  have H1 : Hid (CurB w1 B P (N + 1) ∧ But B w w1) := ⟨hc1, (But.of (bnew _ _)).trans hb1⟩
  clear hc1 hb1 HC HR
  have hv' : (v : Int) < 4 := by omega
  go_wp2
  go_ret
  exact ⟨s, hs, rfl, H1.out⟩

set_option maxRecDepth 100000 in
set_option maxHeartbeats 1000000 in
theorem drawBits_any (B P N : Nat) (w : World) (h : CurB w B P N) (hN : N ≤ 1000000) :
    Calls Tryz.prog 35 #[.pointer (some ⟨B, 0, none⟩)] w fun e w' => ∃ z : Int, I64d z ∧ e = .returned (.int .i64 z) ∧ CurB w' B P (N + 1) ∧ But B w w' := by
  have HC : Hid (CurB w B P N) := h
  have hlt := h.lt
  clear h
  go_enter Tryz.func35, Tryz.ntmps35
  go_wp2_with fail
  have HR : Hid (RowI (w.alloc (.cells ([0, 4607182418800017408, 9218868437227405312, 9218868437227405313, -4503599627370496, -4503599627370495, -1, 9221120237041090560, -9223372036854775808, 1, 4614253070214989087].map (Value.int .i64)).toArray 3)) w.heap.size 11) := rowI_new w _ _ 11 rfl (by decide)
  simp only [List.map_cons, List.map_nil] at HR
  refine (curPick_any B P N 11 _ (HC.out.later (bnew _ _)) (by omega) (by omega) (by omega)).mono ?_
  rintro e w1 ⟨v, hv, rfl, hc1, hb1⟩
  obtain ⟨s, hcell, hs⟩ := (HR.out.but hb1 (by omega)).at hv
  have H1 : Hid (CurB w1 B P (N + 1) ∧ But B w w1) := ⟨hc1, (But.of (bnew _ _)).trans hb1⟩
  clear hc1 hb1 HC HR
  have hv' : (v : Int) < 11 := by omega
  go_wp2
  go_ret
  exact ⟨s, hs, rfl, H1.out⟩
end Go.Proofs.YtpajhkikcofhfaaGreatDoor

