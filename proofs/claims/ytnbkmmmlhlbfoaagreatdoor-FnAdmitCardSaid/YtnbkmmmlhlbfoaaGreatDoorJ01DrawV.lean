import Derived.WalkKit
import Derived.Below
import Derived.BigQuiet
import Derived.WalkLawsBesides
import Derived.WalkSpells
import Derived.Test.YtnbkmmmlhlbfoaaGreatDoorProg
import Derived.Maps.OwnSet
namespace Go.Proofs.YtnbkmmmlhlbfoaaGreatDoor
open Go.RowKit
structure FileD where
  name : ByteArray
  data : ByteArray
  synced : Int
theorem ret_int {k : IntKind} {a b : Int} (h : a = b) : Ending.returned (.int k a) = .returned (.int k b) := by rw [h]
theorem ret_bool {a b : Bool} (h : a = b) : Ending.returned (.bool a) = .returned (.bool b) := by rw [h]
structure Later (w : World) where
  w' : World
  h : Below w.heap.size w w'
theorem Later.there (w : World) : Nonempty (Later w) := ⟨⟨w, Below.refl _ _⟩⟩
theorem Later.cell {w : World} (x : Later w) {b o : Nat} {v : Value} (h : w.cell? ⟨b, o, none⟩ = some v) : x.w'.cell? ⟨b, o, none⟩ = some v := by
  have hb : b < w.heap.size := by
    rcases Nat.lt_or_ge b w.heap.size with hlt | hge
    · exact hlt
    · simp [World.cell?, Array.getElem?_eq_none hge] at h
  rw [← h]; exact x.h.cell hb
theorem Later.cells {w : World} {b o : Nat} {v : Value} (h : w.cell? ⟨b, o, none⟩ = some v) : ∀ x : Later w, x.w'.cell? ⟨b, o, none⟩ = some v := fun x => x.cell h
theorem wp_region_later {P : Program} {id : Nat} {Q : Exit → Act → World → Prop} {a : Act} {w : World} {l : List Oper} (hm : P.follows .mixedOrders = true) (hB : Region.lexB .any l.toArray = true)
    (h : wpQuiet P l.toArray (fun w' => ∃ x : Later w, w' = x.w') (fun a' => ∀ w', (∃ x : Later w, w' = x.w') → Q .normal a' w') l a) : (Code.region id l.toArray true).wp P Q a w :=
  wp_region_quiet (C := fun w' => ∃ x : Later w, w' = x.w') hm hB ⟨⟨w.drew, (Below.refl _ _).drew⟩, rfl⟩ (by simpa using h)
theorem calls_later {P : Program} {f : FuncId} {args : Array Value} {w : World} {x : Later w} {v : Value}
    (h : Calls P f args x.w' fun e w'' => e = .returned v ∧ Below x.w'.heap.size x.w' w'') : Calls P f args x.w' fun e w'' => e = .returned v ∧ ∃ y : Later w, w'' = y.w' :=
  h.mono fun _ w'' ⟨he, hb⟩ => ⟨he, ⟨w'', x.h.trans (hb.mono x.h.size)⟩, rfl⟩
theorem calls_later_same {P : Program} {f : FuncId} {args : Array Value} {w : World} {x : Later w} {v : Value}
    (h : Calls P f args x.w' fun e w'' => e = .returned v ∧ w'' = x.w') : Calls P f args x.w' fun e w'' => e = .returned v ∧ ∃ y : Later w, w'' = y.w' :=
  h.mono fun _ _ ⟨he, hb⟩ => ⟨he, x, hb⟩
theorem bto {a b c : World} (h : Below a.heap.size a b) (k : Below b.heap.size b c) : Below a.heap.size a c := h.trans (k.mono h.size)
theorem bnew (w : World) (o : Obj) : Below w.heap.size w (w.alloc o) := (Below.refl _ _).alloc (Nat.le_refl _) _
end Go.Proofs.YtnbkmmmlhlbfoaaGreatDoor
namespace Go.Proofs.YtnbkmmmlhlbfoaaGreatDoor
open Go.RowKit
structure But (g : Nat) (w w' : World) : Prop where
  os : w'.os = w.os
  tape : w'.tape = w.tape
  output : w'.output = w.output
  size : w.heap.size ≤ w'.heap.size
  block : ∀ k, k < w.heap.size → k ≠ g → w'.heap[k]? = w.heap[k]?
theorem But.refl (g : Nat) (w : World) : But g w w := ⟨rfl, rfl, rfl, Nat.le_refl _, fun _ _ _ => rfl⟩
theorem But.trans {g : Nat} {a b c : World} (h : But g a b) (k : But g b c) : But g a c :=
  ⟨k.os.trans h.os, k.tape.trans h.tape, k.output.trans h.output, Nat.le_trans h.size k.size, fun i hi hg => (k.block i (Nat.lt_of_lt_of_le hi h.size) hg).trans (h.block i hi hg)⟩
theorem But.of {g : Nat} {w w' : World} (h : Below w.heap.size w w') : But g w w' := ⟨h.os, h.tape, h.output, h.size, fun k hk _ => h.block k hk⟩
theorem But.setCell {g : Nat} {a w : World} (h : But g a w) (o : Nat) (v : Value) : But g a (w.setCell ⟨g, o, none⟩ v) :=
  h.trans ⟨rfl, rfl, rfl, by simp [World.setCell], fun k _ hk => Below.heap_setCell _ _ _ _ hk⟩
theorem But.below {g B : Nat} {w w' : World} (h : But g w w') (hB : B ≤ g) (hs : B ≤ w.heap.size) : Below B w w' :=
  ⟨h.os, h.tape, h.output, h.size, fun k hk => h.block k (by omega) (by omega)⟩
theorem lt_of_block {w : World} {g : Nat} {x : Obj} (h : w.heap[g]? = some x) : g < w.heap.size := by
  rcases Nat.lt_or_ge g w.heap.size with hlt | hge
  · exact hlt
  · rw [Array.getElem?_eq_none hge] at h; exact absurd h (by simp)
def Blk (w : World) (g : Nat) (cur : Array Value) (t : TypeId) : Prop := w.heap[g]? = some (.cells cur t (0, 0))
theorem Blk.set {w : World} {g : Nat} {cur : Array Value} {t : TypeId} (h : Blk w g cur t) (j : Nat) (v : Value) : Blk (w.setCell ⟨g, j, none⟩ v) g (cur.setIfInBounds j v) t := heap_setCell_same w g j cur t v h
theorem Blk.later {w w' : World} {g : Nat} {cur : Array Value} {t : TypeId} (h : Blk w g cur t) (hb : Below w.heap.size w w') : Blk w' g cur t := (hb.block g (lt_of_block h)).trans h
theorem Blk.cell {w : World} {g : Nat} {cur : Array Value} {t : TypeId} (h : Blk w g cur t) (j : Nat) : w.cell? ⟨g, j, none⟩ = cur[j]? := cell_of_row w g j cur t _ h
theorem Blk.free {w : World} {g : Nat} {cur : Array Value} {t : TypeId} (h : Blk w g cur t) (j : Nat) : w.frozen? ⟨g, j, none⟩ = false := frozen_of_row w g j cur t h
theorem Blk.there {w : World} {g : Nat} {cur : Array Value} {t : TypeId} (h : Blk w g cur t) {j : Nat} (hj : j < cur.size) : ∃ v, w.cell? ⟨g, j, none⟩ = some v := ⟨cur[j], by rw [h.cell]; exact Array.getElem?_eq_getElem hj⟩
end Go.Proofs.YtnbkmmmlhlbfoaaGreatDoor
namespace Go.Proofs.YtnbkmmmlhlbfoaaGreatDoor
open Go.RowKit
def btwB (x lo hi : Int) : Bool := decide (lo ≤ x) && decide (x ≤ hi)
theorem between_any (x lo hi : Int) (w : World) : Calls Tryz.prog 44 #[.int .i64 x, .int .i64 lo, .int .i64 hi] w fun e w' => e = .returned (.bool (btwB x lo hi)) ∧ w' = w := by
  by_cases h1 : lo ≤ x
  · by_cases h2 : x ≤ hi
    · have e : btwB x lo hi = true := by simp [btwB, h1, h2]
      rw [e]
      go_enter Tryz.func44, Tryz.ntmps44
      go_wp2
      go_ret
      exact ⟨rfl, rfl⟩
    · have e : btwB x lo hi = false := by simp [btwB, h2]
      rw [e]
      go_enter Tryz.func44, Tryz.ntmps44
      go_wp2
      go_ret
      exact ⟨rfl, rfl⟩
  · have e : btwB x lo hi = false := by simp [btwB, h1]
    rw [e]
    go_enter Tryz.func44, Tryz.ntmps44
    go_wp2
    go_ret
    exact ⟨rfl, rfl⟩
theorem take_snoc (s : ByteArray) (k : Nat) (h : k < s.size) : s.data.toList.take (k + 1) = s.data.toList.take k ++ [s[k]] := by
  rw [List.take_succ_eq_append_getElem (by simpa using h)]; rfl
end Go.Proofs.YtnbkmmmlhlbfoaaGreatDoor
namespace Go.Proofs.YtnbkmmmlhlbfoaaGreatDoor
open Go.RowKit
def U8In (w : World) (B P : Nat) (a : Option Addr) (n : Nat) : Prop := n = 0 ∨ ∃ b o, a = some ⟨b, o, none⟩ ∧ b ≠ B ∧ b < P ∧ ∀ i, i < n → ∃ v : Nat, v < 256 ∧ w.cell? ⟨b, o + i, none⟩ = some (.int .u8 (v : Nat))
end Go.Proofs.YtnbkmmmlhlbfoaaGreatDoor
namespace Go.Proofs.YtnbkmmmlhlbfoaaGreatDoor
open Go.RowKit
theorem But.drewC {B : Nat} {w w' : World} (h : But B w w') : But B w w'.drew := ⟨h.os, h.tape, h.output, h.size, h.block⟩
end Go.Proofs.YtnbkmmmlhlbfoaaGreatDoor
namespace Go.Proofs.YtnbkmmmlhlbfoaaGreatDoor
open Go.RowKit
structure CSt where
  k : Nat
  sd : Int
def U8X (w : World) (B P : Nat) (a : Option Addr) (bs : List Nat) : Prop := bs = [] ∨ ∃ b o, a = some ⟨b, o, none⟩ ∧ b ≠ B ∧ b < P ∧ ∀ i (h : i < bs.length), bs[i] < 256 ∧ w.cell? ⟨b, o + i, none⟩ = some (.int .u8 (bs[i] : Nat))
theorem U8X.below {w w' : World} {B P : Nat} {a : Option Addr} {bs : List Nat} (h : U8X w B P a bs) (hb : Below P w w') : U8X w' B P a bs := by
  rcases h with h | ⟨b, o, e, hne, hlt, h⟩
  · exact Or.inl h
  · exact Or.inr ⟨b, o, e, hne, hlt, fun i hi => ⟨(h i hi).1, by rw [World.cell?_of_block (hb.block b hlt)]; exact (h i hi).2⟩⟩
theorem U8X.but {w w' : World} {B P : Nat} {a : Option Addr} {bs : List Nat} (h : U8X w B P a bs) (hP : P ≤ w.heap.size) (hb : But B w w') : U8X w' B P a bs := by
  rcases h with h | ⟨b, o, e, hne, hlt, h⟩
  · exact Or.inl h
  · exact Or.inr ⟨b, o, e, hne, hlt, fun i hi => ⟨(h i hi).1, by rw [World.cell?_of_block (hb.block b (by omega) hne)]; exact (h i hi).2⟩⟩
def CurX (w : World) (B P : Nat) (bs : List Nat) (σ : CSt) : Prop := ∃ (a : Option Addr) (cap : Nat), Blk w B #[.slice a bs.length cap, .int .i64 (σ.k : Nat), .int .i64 σ.sd] 39 ∧ (0 ≤ σ.sd ∧ σ.sd < 2147483648) ∧ bs.length ≤ 1048576 ∧ U8X w B P a bs ∧ B < P ∧ P ≤ w.heap.size
theorem CurX.up {w : World} {B P : Nat} {bs : List Nat} {σ : CSt} (h : CurX w B P bs σ) : B < P ∧ P ≤ w.heap.size := by
  obtain ⟨a, cap, _, _, _, _, h6, h7⟩ := h
  exact ⟨h6, h7⟩
theorem CurX.lt {w : World} {B P : Nat} {bs : List Nat} {σ : CSt} (h : CurX w B P bs σ) : B < w.heap.size := Nat.lt_of_lt_of_le h.up.1 h.up.2
theorem CurX.below {w w' : World} {B P : Nat} {bs : List Nat} {σ : CSt} (h : CurX w B P bs σ) (hb : Below P w w') : CurX w' B P bs σ := by
  obtain ⟨a, cap, h1, h2, h3, h4, h6, h7⟩ := h
  exact ⟨a, cap, (hb.block B h6).trans h1, h2, h3, h4.below hb, h6, Nat.le_trans h7 hb.size⟩
theorem CurX.later {w w' : World} {B P : Nat} {bs : List Nat} {σ : CSt} (h : CurX w B P bs σ) (hb : Below w.heap.size w w') : CurX w' B P bs σ := h.below (hb.mono h.up.2)
theorem CurX.drew {w : World} {B P : Nat} {bs : List Nat} {σ : CSt} (h : CurX w B P bs σ) : CurX w.drew B P bs σ := h
def byteX (bs : List Nat) (σ : CSt) : Nat × CSt :=
  if 200 + 40 * bs.length < σ.k + 1 then (0, ⟨σ.k + 1, σ.sd⟩)
  else if bs.length < σ.k + 1 then (((σ.sd * 1103515245 + 12345) % 2147483648 / 65536 % 256).toNat, ⟨σ.k + 1, (σ.sd * 1103515245 + 12345) % 2147483648⟩)
  else (bs.getD σ.k 0, ⟨σ.k + 1, (σ.sd * 31 + (bs.getD σ.k 0 : Nat) + 7) % 2147483648⟩)
theorem byteX_k (bs : List Nat) (σ : CSt) : (byteX bs σ).2.k = σ.k + 1 := by
  unfold byteX
  split
  · rfl
  · split <;> rfl
set_option maxRecDepth 100000 in
set_option maxHeartbeats 1000000 in
theorem byteX1 (B : Nat) (w : World) (a : Option Addr) (n cap k : Nat) (sd : Int) (hB : Blk w B #[.slice a n cap, .int .i64 (k : Nat), .int .i64 sd] 39) (hn : n ≤ 1048576) (hk : k ≤ 100000000) (c1 : 200 + 40 * n < k + 1) :
    Calls Tryz.prog 42 #[.pointer (some ⟨B, 0, none⟩)] w fun e w' => e = .returned (.int .i64 0) ∧ Blk w' B #[.slice a n cap, .int .i64 ((k + 1 : Nat) : Int), .int .i64 sd] 39 ∧ But B w w' := by
  have HB : Hid (Blk w B #[.slice a n cap, .int .i64 (k : Nat), .int .i64 sd] 39) := hB
  have x0 := Blk.cell hB 0
  have x1 := Blk.cell hB 1
  have x2 := Blk.cell hB 2
  simp only [List.getElem?_toArray, List.getElem?_cons_zero, List.getElem?_cons_succ] at x0 x1 x2
  have f0 := Blk.free hB 0
  have f1 := Blk.free hB 1
  have f2 := Blk.free hB 2
  clear hB
  have hk2 : (k : Int) ≤ 100000000 := by omega
  have hk3 : (0 : Int) ≤ (k : Int) := by omega
  have c1' : (200 + 40 * (n : Int)) < (k : Int) + 1 := by omega
  clear c1
  go_enter Tryz.func42, Tryz.ntmps42
  go_wp2
  go_region
  go_wp2
  have hE : ((k : Int) + 1) = ((k + 1 : Nat) : Int) := by omega
  go_ret
  refine ⟨rfl, ?_, But.drewC ((But.refl _ _).setCell _ _)⟩
  have := Blk.set HB.out 1 (.int .i64 ((k : Int) + 1))
  rw [hE] at this ⊢
  exact this
set_option maxRecDepth 100000 in
set_option maxHeartbeats 1000000 in
theorem byteX2 (B : Nat) (w : World) (a : Option Addr) (n cap k : Nat) (sd : Int) (hB : Blk w B #[.slice a n cap, .int .i64 (k : Nat), .int .i64 sd] 39) (hsd0 : 0 ≤ sd) (hsd : sd < 2147483648) (hn : n ≤ 1048576) (hk : k ≤ 100000000) (c1 : ¬ 200 + 40 * n < k + 1) (c2 : n < k + 1) :
    Calls Tryz.prog 42 #[.pointer (some ⟨B, 0, none⟩)] w fun e w' => e = .returned (.int .i64 ((((sd * 1103515245 + 12345) % 2147483648 / 65536 % 256).toNat : Nat) : Int)) ∧ Blk w' B #[.slice a n cap, .int .i64 ((k + 1 : Nat) : Int), .int .i64 ((sd * 1103515245 + 12345) % 2147483648)] 39 ∧ But B w w' := by
  have HB : Hid (Blk w B #[.slice a n cap, .int .i64 (k : Nat), .int .i64 sd] 39) := hB
  have x0 := Blk.cell hB 0
  have x1 := Blk.cell hB 1
  have x2 := Blk.cell hB 2
  simp only [List.getElem?_toArray, List.getElem?_cons_zero, List.getElem?_cons_succ] at x0 x1 x2
  have f0 := Blk.free hB 0
  have f1 := Blk.free hB 1
  have f2 := Blk.free hB 2
  clear hB
  have hk2 : (k : Int) ≤ 100000000 := by omega
  have hk3 : (0 : Int) ≤ (k : Int) := by omega
  have c1' : ¬ ((200 + 40 * (n : Int)) < (k : Int) + 1) := by omega
  have c2' : ((n : Int)) < (k : Int) + 1 := by omega
  clear c1 c2
  go_enter Tryz.func42, Tryz.ntmps42
  go_wp2
  go_region
  go_wp2
  go_region
  go_wp2
  have hE : ((k : Int) + 1) = ((k + 1 : Nat) : Int) := by omega
  refine bodyPost_ret (v := .int .i64 ((sd * 1103515245 + 12345) % 2147483648 / 65536 % 256)) (by simp [results, Tryz.results42, go_sem]) rfl ?_
  generalize sd * 1103515245 + 12345 = X
  refine ⟨by rw [Int.toNat_of_nonneg (by omega)], ?_, But.drewC (But.drewC (((But.refl _ _).setCell _ _).setCell _ _))⟩
  have := Blk.set (Blk.set HB.out 1 (.int .i64 ((k : Int) + 1))) 2 (.int .i64 (X % 2147483648))
  rw [hE] at this ⊢
  exact this
set_option maxRecDepth 100000 in
set_option maxHeartbeats 1000000 in
theorem byteX3 (B : Nat) (w : World) (b o : Nat) (n cap k v : Nat) (sd : Int) (hB : Blk w B #[.slice (some ⟨b, o, none⟩) n cap, .int .i64 (k : Nat), .int .i64 sd] 39) (hsd0 : 0 ≤ sd) (hsd : sd < 2147483648) (hn : n ≤ 1048576) (hk : k ≤ 100000000) (c2 : ¬ n < k + 1) (hne : b ≠ B) (hv : v < 256) (hcv : w.cell? ⟨b, o + k, none⟩ = some (.int .u8 (v : Nat))) :
    Calls Tryz.prog 42 #[.pointer (some ⟨B, 0, none⟩)] w fun e w' => e = .returned (.int .i64 (v : Nat)) ∧ Blk w' B #[.slice (some ⟨b, o, none⟩) n cap, .int .i64 ((k + 1 : Nat) : Int), .int .i64 ((sd * 31 + (v : Nat) + 7) % 2147483648)] 39 ∧ But B w w' := by
  have HB : Hid (Blk w B #[.slice (some ⟨b, o, none⟩) n cap, .int .i64 (k : Nat), .int .i64 sd] 39) := hB
  have x0 := Blk.cell hB 0
  have x1 := Blk.cell hB 1
  have x2 := Blk.cell hB 2
  simp only [List.getElem?_toArray, List.getElem?_cons_zero, List.getElem?_cons_succ] at x0 x1 x2
  have f0 := Blk.free hB 0
  have f1 := Blk.free hB 1
  have f2 := Blk.free hB 2
  clear hB
  have hk2 : (k : Int) ≤ 100000000 := by omega
  have hk3 : (0 : Int) ≤ (k : Int) := by omega
  have c1' : ¬ ((200 + 40 * (n : Int)) < (k : Int) + 1) := by omega
  have c2' : ¬ ((n : Int) < (k : Int) + 1) := by omega
  clear c2
  go_enter Tryz.func42, Tryz.ntmps42
  go_wp2
  go_region
  go_wp2
  go_region
  go_wp2
  go_region
  go_wp2
  go_region
  go_wp2
  have hE : ((k : Int) + 1) = ((k + 1 : Nat) : Int) := by omega
  refine bodyPost_ret (v := .int .i64 (v : Nat)) (by simp [results, Tryz.results42, go_sem]) rfl ?_
  generalize sd * 31 + v + 7 = X
  refine ⟨rfl, ?_, But.drewC (But.drewC (But.drewC (But.drewC (((But.refl _ _).setCell _ _).setCell _ _))))⟩
  have := Blk.set (Blk.set HB.out 1 (.int .i64 ((k : Int) + 1))) 2 (.int .i64 (X % 2147483648))
  rw [hE] at this ⊢
  exact this
theorem curByteX_any (B P : Nat) (bs : List Nat) (σ : CSt) (w : World) (h : CurX w B P bs σ) (hN : σ.k ≤ 100000000) :
    Calls Tryz.prog 42 #[.pointer (some ⟨B, 0, none⟩)] w fun e w' => e = .returned (.int .i64 ((byteX bs σ).1 : Nat)) ∧ (byteX bs σ).1 < 256 ∧ CurX w' B P bs (byteX bs σ).2 ∧ But B w w' := by
  obtain ⟨a, cap, hB, ⟨hs0, hs1⟩, hn, hU, hP1, hP2⟩ := h
  by_cases c1 : 200 + 40 * bs.length < σ.k + 1
  · refine (byteX1 B w a _ cap σ.k σ.sd hB hn hN c1).mono ?_
    have e : byteX bs σ = (0, ⟨σ.k + 1, σ.sd⟩) := by unfold byteX; rw [if_pos c1]
    rw [e]
    rintro e w' ⟨rfl, h1, h2⟩
    exact ⟨rfl, by simp only; omega, ⟨a, cap, h1, ⟨hs0, hs1⟩, hn, hU.but hP2 h2, hP1, Nat.le_trans hP2 h2.size⟩, h2⟩
  · by_cases c2 : bs.length < σ.k + 1
    · refine (byteX2 B w a _ cap σ.k σ.sd hB hs0 hs1 hn hN c1 c2).mono ?_
      have e : byteX bs σ = (((σ.sd * 1103515245 + 12345) % 2147483648 / 65536 % 256).toNat, ⟨σ.k + 1, (σ.sd * 1103515245 + 12345) % 2147483648⟩) := by unfold byteX; rw [if_neg c1, if_pos c2]
      rw [e]
      generalize σ.sd * 1103515245 + 12345 = X
      rintro e w' ⟨rfl, h1, h2⟩
      exact ⟨rfl, by simp only; omega, ⟨a, cap, h1, ⟨by simp only; omega, by simp only; omega⟩, hn, hU.but hP2 h2, hP1, Nat.le_trans hP2 h2.size⟩, h2⟩
    · rcases hU with h0 | ⟨b, o, rfl, hne, hlt, hc⟩
      · rw [h0] at c2; exact absurd (by simp) c2
      have hk : σ.k < bs.length := by omega
      have hd : bs.getD σ.k 0 = bs[σ.k] := by simp [List.getD, hk]
      refine (byteX3 B w b o _ cap σ.k bs[σ.k] σ.sd hB hs0 hs1 hn hN c2 hne (hc _ hk).1 (hc _ hk).2).mono ?_
      have e : byteX bs σ = (bs[σ.k], ⟨σ.k + 1, (σ.sd * 31 + (bs[σ.k] : Nat) + 7) % 2147483648⟩) := by unfold byteX; rw [if_neg c1, if_neg c2, hd]
      rw [e]
      rintro e w' ⟨rfl, h1, h2⟩
      have hv := (hc _ hk).1
      exact ⟨rfl, hv, ⟨_, cap, h1, ⟨by simp only; omega, by simp only; omega⟩, hn, (show U8X w B P (some ⟨b, o, none⟩) bs from Or.inr ⟨b, o, rfl, hne, hlt, hc⟩).but hP2 h2, hP1, Nat.le_trans hP2 h2.size⟩, h2⟩
def pickX (bs : List Nat) (σ : CSt) (n : Nat) : Nat × CSt := if n ≤ 1 then (0, σ) else ((byteX bs σ).1 % n, (byteX bs σ).2)
theorem pickX_lt (bs : List Nat) (σ : CSt) {n : Nat} (h : 1 ≤ n) : (pickX bs σ n).1 < n := by
  unfold pickX
  split
  · exact h
  · exact Nat.mod_lt _ h
theorem pickX_k (bs : List Nat) (σ : CSt) (n : Nat) : (pickX bs σ n).2.k ≤ σ.k + 1 := by
  unfold pickX
  split
  · exact Nat.le_succ _
  · exact Nat.le_of_eq (byteX_k bs σ)
set_option maxRecDepth 100000 in
set_option maxHeartbeats 1000000 in
theorem curPickX_any (B P : Nat) (bs : List Nat) (σ : CSt) (n : Nat) (w : World) (h : CurX w B P bs σ) (hN : σ.k ≤ 10000000) (hn : n ≤ 256) :
    Calls Tryz.prog 14 #[.pointer (some ⟨B, 0, none⟩), .int .i64 (n : Nat)] w fun e w' => e = .returned (.int .i64 ((pickX bs σ n).1 : Nat)) ∧ CurX w' B P bs (pickX bs σ n).2 ∧ But B w w' := by
  by_cases h2 : n ≤ 1
  · have e : pickX bs σ n = (0, σ) := by unfold pickX; rw [if_pos h2]
    rw [e]
    have HC : Hid (CurX w B P bs σ) := h
    clear h e
    have h1 : (n : Int) ≤ 1 := by omega
    go_enter Tryz.func14, Tryz.ntmps14
    go_wp2
    go_ret
    exact ⟨rfl, HC.out, But.refl _ _⟩
  · have e : pickX bs σ n = ((byteX bs σ).1 % n, (byteX bs σ).2) := by unfold pickX; rw [if_neg h2]
    rw [e]
    have HC : Hid (Calls Tryz.prog 42 #[.pointer (some ⟨B, 0, none⟩)] w fun e w' => e = .returned (.int .i64 ((byteX bs σ).1 : Nat)) ∧ (byteX bs σ).1 < 256 ∧ CurX w' B P bs (byteX bs σ).2 ∧ But B w w') := curByteX_any B P bs σ w h (by omega)
    clear h e
    generalize byteX bs σ = R at *
    obtain ⟨v, τ⟩ := R
    simp only at HC ⊢
    have h1 : ¬ ((n : Int) ≤ 1) := by omega
    have h3 : (n : Int) ≤ 256 := by omega
    have h4 : (n : Int) ≠ 0 := by omega
    go_enter Tryz.func14, Tryz.ntmps14
    go_wp2_with fail
    refine HC.out.mono ?_
    rintro e w1 ⟨rfl, hv, hc1, hb1⟩
    have H1 : Hid (CurX w1 B P bs τ ∧ But B w w1) := ⟨hc1, hb1⟩
    clear hc1 hb1
    go_wp2
    go_ret
    exact ⟨rfl, H1.out⟩
end Go.Proofs.YtnbkmmmlhlbfoaaGreatDoor
namespace Go.Proofs.YtnbkmmmlhlbfoaaGreatDoor
open Go.RowKit
structure Turn (S : Nat → Prop) (w w' : World) : Prop where
  os : w'.os = w.os
  tape : w'.tape = w.tape
  output : w'.output = w.output
  size : w.heap.size ≤ w'.heap.size
  block : ∀ k, k < w.heap.size → ¬ S k → w'.heap[k]? = w.heap[k]?
theorem Turn.refl (S : Nat → Prop) (w : World) : Turn S w w := ⟨rfl, rfl, rfl, Nat.le_refl _, fun _ _ _ => rfl⟩
theorem Turn.trans {S : Nat → Prop} {a b c : World} (h : Turn S a b) (k : Turn (fun i => S i ∨ a.heap.size ≤ i) b c) : Turn S a c :=
  ⟨k.os.trans h.os, k.tape.trans h.tape, k.output.trans h.output, Nat.le_trans h.size k.size, fun i hi hn => (k.block i (Nat.lt_of_lt_of_le hi h.size) (fun h' => by rcases h' with h' | h'; exact hn h'; omega)).trans (h.block i hi hn)⟩
theorem Turn.trans' {S : Nat → Prop} {a b c : World} (h : Turn S a b) (k : Turn S b c) : Turn S a c :=
  ⟨k.os.trans h.os, k.tape.trans h.tape, k.output.trans h.output, Nat.le_trans h.size k.size, fun i hi hn => (k.block i (Nat.lt_of_lt_of_le hi h.size) hn).trans (h.block i hi hn)⟩
theorem Turn.mono {S S' : Nat → Prop} {a b : World} (h : Turn S a b) (hs : ∀ i, i < a.heap.size → S i → S' i) : Turn S' a b :=
  ⟨h.os, h.tape, h.output, h.size, fun i hi hn => h.block i hi (fun h' => hn (hs i hi h'))⟩
theorem Turn.of {S : Nat → Prop} {a b : World} (h : Below a.heap.size a b) : Turn S a b := ⟨h.os, h.tape, h.output, h.size, fun k hk _ => h.block k hk⟩
theorem Turn.but {g : Nat} {a b : World} (h : But g a b) : Turn (· = g) a b := ⟨h.os, h.tape, h.output, h.size, fun k hk hn => h.block k hk hn⟩
theorem Turn.grown {r : Option Nat} {a b : World} (h : a.grownBy b r) : Turn (fun k => r = some k) a b := ⟨h.os, h.tape, h.output, h.size, fun k hk hn => h.block k hk (fun e => hn e.symm)⟩
theorem Turn.below {S : Nat → Prop} {B : Nat} {a b : World} (h : Turn S a b) (hB : B ≤ a.heap.size) (hs : ∀ k, k < B → ¬ S k) : Below B a b :=
  ⟨h.os, h.tape, h.output, h.size, fun k hk => h.block k (by omega) (hs k hk)⟩
theorem Turn.drew {S : Nat → Prop} {a b : World} (h : Turn S a b) : Turn S a b.drew := ⟨h.os, h.tape, h.output, h.size, h.block⟩
theorem Turn.alloc {S : Nat → Prop} {a b : World} (h : Turn S a b) (o : Obj) : Turn S a (b.alloc o) := h.trans' (Turn.of (bnew _ _))
theorem Turn.setCell {S : Nat → Prop} {a b : World} (h : Turn S a b) {g : Nat} (hg : S g ∨ a.heap.size ≤ g) (o : Nat) (v : Value) : Turn S a (b.setCell ⟨g, o, none⟩ v) :=
  h.trans ((Turn.but ((But.refl g b).setCell o v)).mono fun i _ e => by subst e; exact hg)
theorem Turn.blk {S : Nat → Prop} {a b : World} (h : Turn S a b) {g : Nat} {cur : Array Value} {t : TypeId} (hb : Blk a g cur t) (hg : ¬ S g) : Blk b g cur t := (h.block g (lt_of_block hb) hg).trans hb
theorem Turn.row {S : Nat → Prop} {a b : World} (h : Turn S a b) {B : Nat} {e : TypeId} {size : Nat} {v : Value} {n : Nat} {xs : List Value} (hr : a.ownsRow B e size v n xs) (hg : ∀ g, v.ownBlock = some g → ¬ S g) : b.ownsRow B e size v n xs := by
  refine ⟨hr.1, ?_⟩
  rcases hr.2 with h0 | ⟨g, cap, cur, rfl, hB, hb, r⟩
  · exact Or.inl h0
  · exact Or.inr ⟨g, cap, cur, rfl, hB, (h.block g (lt_of_block hb) (hg g rfl)).trans hb, r⟩
theorem Turn.map {H : Type} {S : Nat → Prop} {a b : World} (h : Turn S a b) {P : Program} {k : TypeId} {R : Value → Option (DataW H × List MemPlace)} {m n : Nat} {D : DataW H} (hm : a.ownsMap P k R m n D) (hg : ¬ S m) : b.ownsMap P k R m n D := by
  have hlt := hm.lt
  obtain ⟨es, clock, hb, r⟩ := hm
  exact ⟨es, clock, (h.block m hlt hg).trans hb, r⟩
end Go.Proofs.YtnbkmmmlhlbfoaaGreatDoor
namespace Go.Proofs.YtnbkmmmlhlbfoaaGreatDoor
open Go.RowKit
structure KindZ (α : Type) where
  m : Nat
  cells : α → List Value
  len : ∀ a, (cells a).length = m
  part : World → Nat → Nat → α → Prop
  keep : ∀ {w w' : World} {lo hi : Nat} {a : α}, part w lo hi a → w.heap.size ≤ w'.heap.size → (∀ g, lo ≤ g → g < hi → g < w.heap.size → w'.heap[g]? = w.heap[g]?) → part w' lo hi a
  wide : ∀ {w : World} {lo hi lo' hi' : Nat} {a : α}, part w lo hi a → lo' ≤ lo → hi ≤ hi' → part w lo' hi' a
end Go.Proofs.YtnbkmmmlhlbfoaaGreatDoor
namespace Go.Proofs.YtnbkmmmlhlbfoaaGreatDoor
open Go.RowKit
theorem But.later {B : Nat} {w w' w'' : World} (h : But B w w') (hb : Below w'.heap.size w' w'') : But B w w'' := h.trans (But.of hb)
end Go.Proofs.YtnbkmmmlhlbfoaaGreatDoor
