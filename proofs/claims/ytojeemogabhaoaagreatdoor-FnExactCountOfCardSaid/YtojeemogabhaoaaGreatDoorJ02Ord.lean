import Derived.Test.YtojeemogabhaoaaGreatDoorJ01BlkN
import Derived.Test.YtojeemogabhaoaaGreatDoorProg
import Derived.BigRegion
import Derived.Maps.OwnSet
import Derived.Deep.AppendLies
import Derived.Deep.RegionLaw
import Derived.Deep.DeepCutAuto
import Derived.WalkKit
namespace Go.Proofs.YtojeemogabhaoaaGreatDoor
open Go.RowKit
theorem PairsOwn.but {g b o B : Nat} {w w' : World} {fs : List PairD} (h : PairsOwn w B (some ⟨b, o, none⟩) fs) (hb : But g w w') (hg : b ≠ g) : PairsOwn w' B (some ⟨b, o, none⟩) fs := by
  rcases h with h | ⟨b', o', cur, t, e, hB, hblk, h⟩
  · exact Or.inl h
  · simp only [Option.some.injEq, Addr.mk.injEq, and_true] at e
    obtain ⟨rfl, rfl⟩ := e
    have hk := hb.block b (lt_of_block hblk) hg
    have hc : ∀ j, w'.cell? ⟨b, j, none⟩ = w.cell? ⟨b, j, none⟩ := fun j => World.cell?_of_block hk
    exact Or.inr ⟨b, o, cur, t, rfl, hB, hk.trans hblk, fun i hi => by simp only [hc]; exact h i hi⟩
structure TenD where
  name : ByteArray
  limit : Int
  mets : List PairD
  sers : List PairD
def TenAt (w : World) (b o : Nat) (t : TenD) : Prop :=
  ∃ a1 c1 a2 c2, w.cell? ⟨b, o, none⟩ = some (.string t.name) ∧ w.cell? ⟨b, o + 1, none⟩ = some (.int .i64 t.limit) ∧ w.cell? ⟨b, o + 2, none⟩ = some (.slice a1 t.mets.length c1) ∧ w.cell? ⟨b, o + 3, none⟩ = some (.slice a2 t.sers.length c2) ∧
    PairsIn w a1 t.mets ∧ PairsIn w a2 t.sers
def TensAt (w : World) (b o : Nat) (ts : List TenD) : Prop := ∀ i (h : i < ts.length), TenAt w b (o + i * 4) ts[i]
def TensIn (w : World) (a : Option Addr) (ts : List TenD) : Prop := ts = [] ∨ ∃ b o, a = some ⟨b, o, none⟩ ∧ b < w.heap.size ∧ TensAt w b o ts
theorem TenAt.later {w w' : World} {b o : Nat} {t : TenD} (h : TenAt w b o t) (hlt : b < w.heap.size) (hb : Below w.heap.size w w') : TenAt w' b o t := by
  obtain ⟨a1, c1, a2, c2, h0, h1, h2, h3, h4, h5⟩ := h
  exact ⟨a1, c1, a2, c2, (hb.cell hlt).trans h0, (hb.cell hlt).trans h1, (hb.cell hlt).trans h2, (hb.cell hlt).trans h3, h4.later hb, h5.later hb⟩
theorem TensIn.later {w w' : World} {a : Option Addr} {ts : List TenD} (h : TensIn w a ts) (hb : Below w.heap.size w w') : TensIn w' a ts := by
  rcases h with h | ⟨b, o, rfl, hlt, h⟩
  · exact Or.inl h
  · exact Or.inr ⟨b, o, rfl, Nat.lt_of_lt_of_le hlt hb.size, fun i hi => (h i hi).later hlt hb⟩
theorem TensIn.at {w : World} {a : Option Addr} {ts : List TenD} (h : TensIn w a ts) {i : Nat} (hi : i < ts.length) :
    ∃ b o a1 c1 a2 c2, a = some ⟨b, o, none⟩ ∧ b < w.heap.size ∧ w.cell? ⟨b, o + i * 4, none⟩ = some (.string ts[i].name) ∧ w.cell? ⟨b, o + i * 4 + 1, none⟩ = some (.int .i64 ts[i].limit) ∧
      w.cell? ⟨b, o + i * 4 + 2, none⟩ = some (.slice a1 ts[i].mets.length c1) ∧ w.cell? ⟨b, o + i * 4 + 3, none⟩ = some (.slice a2 ts[i].sers.length c2) ∧ PairsIn w a1 ts[i].mets ∧ PairsIn w a2 ts[i].sers := by
  rcases h with rfl | ⟨b, o, rfl, hlt, h⟩
  · exact absurd hi (by simp)
  · obtain ⟨a1, c1, a2, c2, h⟩ := h i hi
    exact ⟨b, o, a1, c1, a2, c2, rfl, hlt, h⟩
def PairsTag (w : World) (B : Nat) (T : Nat → Nat) (n : Nat) (a : Option Addr) (ps : List PairD) : Prop :=
  ps = [] ∨ ∃ g o cur t, a = some ⟨g, o, none⟩ ∧ B ≤ g ∧ T g = n ∧ w.heap[g]? = some (.cells cur t (0, 0)) ∧ PairsAt w g o ps
theorem PairsTag.pairs {w : World} {B n : Nat} {T : Nat → Nat} {a : Option Addr} {ps : List PairD} (h : PairsTag w B T n a ps) : PairsIn w a ps := by
  rcases h with h | ⟨g, o, cur, t, rfl, _, _, hb, h⟩
  · exact Or.inl h
  · exact Or.inr ⟨g, o, rfl, lt_of_block hb, h⟩
theorem PairsTag.own {w : World} {B n : Nat} {T : Nat → Nat} {a : Option Addr} {ps : List PairD} (h : PairsTag w B T n a ps) : PairsOwn w B a ps := by
  rcases h with h | ⟨g, o, cur, t, e, hB, _, hb, h⟩
  · exact Or.inl h
  · exact Or.inr ⟨g, o, cur, t, e, hB, hb, h⟩
theorem PairsTag.keep {w w' : World} {B n : Nat} {T T' : Nat → Nat} {a : Option Addr} {ps : List PairD} (h : PairsTag w B T n a ps)
    (hk : ∀ g, g < w.heap.size → B ≤ g → T g = n → w'.heap[g]? = w.heap[g]? ∧ T' g = n) : PairsTag w' B T' n a ps := by
  rcases h with h | ⟨g, o, cur, t, e, hB, hT, hb, h⟩
  · exact Or.inl h
  · obtain ⟨h1, h2⟩ := hk g (lt_of_block hb) hB hT
    have hc : ∀ j, w'.cell? ⟨g, j, none⟩ = w.cell? ⟨g, j, none⟩ := fun j => World.cell?_of_block h1
    exact Or.inr ⟨g, o, cur, t, e, hB, h2, h1.trans hb, fun i hi => by simp only [hc]; exact h i hi⟩
theorem PairsOwn.tag {w : World} {B n : Nat} {T : Nat → Nat} {a : Option Addr} {ps : List PairD} (h : PairsOwn w B a ps) (hT : ∀ g o, a = some ⟨g, o, none⟩ → T g = n) : PairsTag w B T n a ps := by
  rcases h with h | ⟨g, o, cur, t, e, hB, hb, h⟩
  · exact Or.inl h
  · exact Or.inr ⟨g, o, cur, t, e, hB, hT g o e, hb, h⟩
def TenOwn (w : World) (B : Nat) (T : Nat → Nat) (i b o : Nat) (t : TenD) : Prop :=
  ∃ a1 c1 a2 c2, w.cell? ⟨b, o, none⟩ = some (.string t.name) ∧ w.cell? ⟨b, o + 1, none⟩ = some (.int .i64 t.limit) ∧ w.cell? ⟨b, o + 2, none⟩ = some (.slice a1 t.mets.length c1) ∧ w.cell? ⟨b, o + 3, none⟩ = some (.slice a2 t.sers.length c2) ∧
    PairsTag w B T (2 * i + 1) a1 t.mets ∧ PairsTag w B T (2 * i + 2) a2 t.sers
def TensOwn (w : World) (B : Nat) (a : Option Addr) (ts : List TenD) : Prop :=
  ts = [] ∨ ∃ g o cur t T, a = some ⟨g, o, none⟩ ∧ B ≤ g ∧ w.heap[g]? = some (.cells cur t (0, 0)) ∧ T g = 0 ∧ ∀ i (h : i < ts.length), TenOwn w B T i g (o + i * 4) ts[i]
theorem TenOwn.at {w : World} {B i b o : Nat} {T : Nat → Nat} {t : TenD} (h : TenOwn w B T i b o t) : TenAt w b o t := by
  obtain ⟨a1, c1, a2, c2, h0, h1, h2, h3, h4, h5⟩ := h
  exact ⟨a1, c1, a2, c2, h0, h1, h2, h3, h4.pairs, h5.pairs⟩
theorem TensOwn.tens {w : World} {B : Nat} {a : Option Addr} {ts : List TenD} (h : TensOwn w B a ts) : TensIn w a ts := by
  rcases h with h | ⟨g, o, cur, t, T, rfl, _, hb, _, h⟩
  · exact Or.inl h
  · exact Or.inr ⟨g, o, rfl, lt_of_block hb, fun i hi => (h i hi).at⟩
theorem TenOwn.keep {w w' : World} {B i b o : Nat} {T T' : Nat → Nat} {t : TenD} (h : TenOwn w B T i b o t) (hc : ∀ j, j < 4 → w'.cell? ⟨b, o + j, none⟩ = w.cell? ⟨b, o + j, none⟩)
    (hk : ∀ g, g < w.heap.size → B ≤ g → (T g = 2 * i + 1 ∨ T g = 2 * i + 2) → w'.heap[g]? = w.heap[g]? ∧ T' g = T g) : TenOwn w' B T' i b o t := by
  obtain ⟨a1, c1, a2, c2, h0, h1, h2, h3, h4, h5⟩ := h
  refine ⟨a1, c1, a2, c2, (hc 0 (by omega)).trans h0, (hc 1 (by omega)).trans h1, (hc 2 (by omega)).trans h2, (hc 3 (by omega)).trans h3, h4.keep fun g hg hB hT => ?_, h5.keep fun g hg hB hT => ?_⟩
  · obtain ⟨q1, q2⟩ := hk g hg hB (Or.inl hT); exact ⟨q1, q2.trans hT⟩
  · obtain ⟨q1, q2⟩ := hk g hg hB (Or.inr hT); exact ⟨q1, q2.trans hT⟩
theorem TensOwn.later {w w' : World} {B : Nat} {a : Option Addr} {ts : List TenD} (h : TensOwn w B a ts) (hb : Below w.heap.size w w') : TensOwn w' B a ts := by
  rcases h with h | ⟨g, o, cur, t, T, rfl, hB, hg, hT, h⟩
  · exact Or.inl h
  · have hlt := lt_of_block hg
    exact Or.inr ⟨g, o, cur, t, T, rfl, hB, (hb.block g hlt).trans hg, hT, fun i hi => (h i hi).keep (fun j _ => World.cell?_of_block (hb.block g hlt)) fun g' hg' _ _ => ⟨hb.block g' hg', rfl⟩⟩
def tenBulk (t : TenD) : Nat := t.name.size + (t.mets.length + pairBulk t.mets) + (t.sers.length + pairBulk t.sers)
def tensBulk : List TenD → Nat
  | [] => 0
  | f :: r => tenBulk f + tensBulk r
theorem tensBulk_append (a b : List TenD) : tensBulk (a ++ b) = tensBulk a + tensBulk b := by
  induction a with
  | nil => simp [tensBulk]
  | cons f r ih => simp [tensBulk, ih]; omega
theorem tensBulk_take_succ (fs : List TenD) (k : Nat) (h : k < fs.length) : tensBulk (fs.take (k + 1)) = tensBulk (fs.take k) + tenBulk fs[k] := by
  rw [List.take_succ_eq_append_getElem h, tensBulk_append]; simp [tensBulk]
theorem tensBulk_take_le (fs : List TenD) (k : Nat) : tensBulk (fs.take k) ≤ tensBulk fs := by
  have := tensBulk_append (fs.take k) (fs.drop k)
  rw [List.take_append_drop] at this; omega
def szTen (left : Int) (f : TenD) : Int := if (tenBulk f : Int) ≤ left then left - tenBulk f else -1
def szTens (left : Int) (fs : List TenD) : Int := if (fs.length + tensBulk fs : Int) ≤ left then left - fs.length - tensBulk fs else -1
def ShortTen (t : TenD) : Prop := t.name.size ≤ maxLen ∧ ShortP t.mets ∧ t.mets.length ≤ maxLen ∧ ShortP t.sers ∧ t.sers.length ≤ maxLen
def ShortT (fs : List TenD) : Prop := ∀ i (h : i < fs.length), ShortTen fs[i]
theorem tenBulk_at (fs : List TenD) (k : Nat) (h : k < fs.length) : tenBulk fs[k] ≤ tensBulk fs := by
  have h1 := tensBulk_take_succ fs k h
  have h2 := tensBulk_take_le fs (k + 1)
  omega
end Go.Proofs.YtojeemogabhaoaaGreatDoor
namespace Go.Proofs.YtojeemogabhaoaaGreatDoor
open Go.RowKit
def SgAt (cur : Array Value) (hs : List SgD) : Prop := ∀ k, k < hs.length → cur[k * 2]? = some (.pointer (some ⟨(hget hs k).b, 0, none⟩)) ∧ cur[k * 2 + 1]? = some (.int .i64 (hget hs k).t)
def HeapM (w : World) (g cap : Nat) (hs : List SgD) : Prop := ∃ cur, Blk w g cur 170 ∧ cur.size = cap * 2 ∧ hs.length ≤ cap ∧ cap ≤ maxLen ∧ SgAt cur hs
theorem HeapM.cells {w : World} {g cap k : Nat} {hs : List SgD} (h : HeapM w g cap hs) (hk : k < hs.length) :
    w.cell? ⟨g, k * 2, none⟩ = some (.pointer (some ⟨(hget hs k).b, 0, none⟩)) ∧ w.cell? ⟨g, k * 2 + 1, none⟩ = some (.int .i64 (hget hs k).t) ∧ w.frozen? ⟨g, k * 2, none⟩ = false ∧ w.frozen? ⟨g, k * 2 + 1, none⟩ = false := by
  obtain ⟨cur, hb, _, _, _, hc⟩ := h
  rw [hb.cell, hb.cell]
  exact ⟨(hc k hk).1, (hc k hk).2, hb.free _, hb.free _⟩
theorem HeapM.later {w w' : World} {g cap : Nat} {hs : List SgD} (h : HeapM w g cap hs) (hb : Below w.heap.size w w') : HeapM w' g cap hs := by
  obtain ⟨cur, h1, h2⟩ := h
  exact ⟨cur, h1.later hb, h2⟩
theorem HeapM.lt {w : World} {g cap : Nat} {hs : List SgD} (h : HeapM w g cap hs) : g < w.heap.size := by
  obtain ⟨cur, h1, h2⟩ := h
  exact lt_of_block h1
theorem But.drew {g : Nat} {a w : World} (h : But g a w) : But g a w.drew := ⟨h.os, h.tape, h.output, h.size, h.block⟩
theorem HeapM.swap {w : World} {g cap i j : Nat} {hs : List SgD} (h : HeapM w g cap hs) (hi : i < hs.length) (hj : j < hs.length) :
    HeapM ((((w.setCell ⟨g, i * 2, none⟩ (.pointer (some ⟨(hget hs j).b, 0, none⟩))).setCell ⟨g, i * 2 + 1, none⟩ (.int .i64 (hget hs j).t)).setCell ⟨g, j * 2, none⟩ (.pointer (some ⟨(hget hs i).b, 0, none⟩))).setCell ⟨g, j * 2 + 1, none⟩ (.int .i64 (hget hs i).t)) g cap (swapL hs i j) := by
  obtain ⟨cur, h1, h2, h3, h4, h5⟩ := h
  refine ⟨_, (((h1.set _ _).set _ _).set _ _).set _ _, by simp [h2], by rw [swapL_length]; exact h3, h4, fun k hk => ?_⟩
  rw [swapL_length] at hk
  rw [hget_swap hi hj]
  by_cases e1 : k = j
  · subst e1
    rw [if_pos rfl]
    constructor <;> simp [Array.getElem?_setIfInBounds, h2] <;> omega
  · rw [if_neg e1]
    by_cases e2 : k = i
    · subst e2
      rw [if_pos rfl]
      constructor
      · rw [Array.getElem?_setIfInBounds_ne (by omega), Array.getElem?_setIfInBounds_ne (by omega), Array.getElem?_setIfInBounds_ne (by omega)]; simp [Array.getElem?_setIfInBounds, h2]; omega
      · rw [Array.getElem?_setIfInBounds_ne (by omega), Array.getElem?_setIfInBounds_ne (by omega)]; simp [Array.getElem?_setIfInBounds, h2]; omega
    · rw [if_neg e2]
      obtain ⟨c1, c2⟩ := h5 k hk
      constructor
      · rw [Array.getElem?_setIfInBounds_ne (by omega), Array.getElem?_setIfInBounds_ne (by omega), Array.getElem?_setIfInBounds_ne (by omega), Array.getElem?_setIfInBounds_ne (by omega)]; exact c1
      · rw [Array.getElem?_setIfInBounds_ne (by omega), Array.getElem?_setIfInBounds_ne (by omega), Array.getElem?_setIfInBounds_ne (by omega), Array.getElem?_setIfInBounds_ne (by omega)]; exact c2
set_option maxRecDepth 100000 in
set_option maxHeartbeats 4000000 in
theorem swap_any (x o g n cap i j : Nat) (hs : List SgD) (w : World) (hp : w.cell? ⟨x, o, none⟩ = some (.slice (some ⟨g, 0, none⟩) n cap)) (hn : n = hs.length) (hH : HeapM w g cap hs) (hi : i < n) (hj : j < n) :
    Calls Tryz.prog 143 #[.pointer (some ⟨x, o, none⟩), .int .i64 i, .int .i64 j] w fun e w' => e = .returned (.tuple #[]) ∧ HeapM w' g cap (swapL hs i j) ∧ But g w w' := by
  have HSW : Hid (HeapM ((((w.setCell ⟨g, i * 2, none⟩ (.pointer (some ⟨(hget hs j).b, 0, none⟩))).setCell ⟨g, i * 2 + 1, none⟩ (.int .i64 (hget hs j).t)).setCell ⟨g, j * 2, none⟩ (.pointer (some ⟨(hget hs i).b, 0, none⟩))).setCell ⟨g, j * 2 + 1, none⟩ (.int .i64 (hget hs i).t)) g cap (swapL hs i j)) := hH.swap (by omega) (by omega)
  obtain ⟨c0, c1, f0, f1⟩ := hH.cells (k := i) (by omega)
  obtain ⟨d0, d1, u0, u1⟩ := hH.cells (k := j) (by omega)
  have HE : ∀ (a b : Value), (∃ v, ((w.setCell ⟨g, i * 2, none⟩ a).setCell ⟨g, i * 2 + 1, none⟩ b).cell? ⟨g, j * 2, none⟩ = some v) ∧ (∃ v, ((w.setCell ⟨g, i * 2, none⟩ a).setCell ⟨g, i * 2 + 1, none⟩ b).cell? ⟨g, j * 2 + 1, none⟩ = some v) ∧
      ((w.setCell ⟨g, i * 2, none⟩ a).setCell ⟨g, i * 2 + 1, none⟩ b).frozen? ⟨g, j * 2, none⟩ = false ∧ ((w.setCell ⟨g, i * 2, none⟩ a).setCell ⟨g, i * 2 + 1, none⟩ b).frozen? ⟨g, j * 2 + 1, none⟩ = false := fun a b => by
    obtain ⟨cur, h1, h2, h3, _⟩ := hH
    have hB := (h1.set (i * 2) a).set (i * 2 + 1) b
    exact ⟨hB.there (by simp; omega), hB.there (by simp; omega), hB.free _, hB.free _⟩
  obtain ⟨⟨v0, e0⟩, ⟨v1, e1⟩, e2, e3⟩ := HE (.pointer (some ⟨(hget hs j).b, 0, none⟩)) (.int .i64 (hget hs j).t)
  clear hn hH HE
  generalize hget hs i = A at *
  generalize hget hs j = C at *
  generalize swapL hs i j = R at *
  clear hs
  go_enter Tryz.func143, Tryz.ntmps143
  go_wp2_with fail
  go_region
  go_wp2
  go_end0
  exact ⟨rfl, HSW.out, (((((But.refl g w).setCell _ _).setCell _ _).setCell _ _).setCell _ _).drew⟩
end Go.Proofs.YtojeemogabhaoaaGreatDoor
namespace Go.Proofs.YtojeemogabhaoaaGreatDoor
open Go.RowKit
structure Turn (S : Nat → Prop) (w w' : World) : Prop where
  os : w'.os = w.os
  tape : w'.tape = w.tape
  output : w'.output = w.output
  size : w.heap.size ≤ w'.heap.size
  block : ∀ k, k < w.heap.size → ¬ S k → w'.heap[k]? = w.heap[k]?
theorem Turn.refl (S : Nat → Prop) (w : World) : Turn S w w := ⟨rfl, rfl, rfl, Nat.le_refl _, fun _ _ _ => rfl⟩
theorem Turn.trans {S : Nat → Prop} {a b c : World} (h : Turn S a b) (k : Turn (fun i => S i ∨ a.heap.size ≤ i) b c) : Turn S a c :=
  ⟨k.os.trans h.os, k.tape.trans h.tape, k.output.trans h.output, Nat.le_trans h.size k.size, fun i hi hn => (k.block i (Nat.lt_of_lt_of_le hi h.size) (fun h' => by rcases h' with h' | h'; exact hn h'; omega)).trans (h.block i hi hn)⟩
theorem Turn.trans' {S : Nat → Prop} {a b c : World} (h : Turn S a b) (k : Turn S b c) : Turn S a c :=
  ⟨k.os.trans h.os, k.tape.trans h.tape, k.output.trans h.output, Nat.le_trans h.size k.size, fun i hi hn => (k.block i (Nat.lt_of_lt_of_le hi h.size) hn).trans (h.block i hi hn)⟩
theorem Turn.mono {S S' : Nat → Prop} {a b : World} (h : Turn S a b) (hs : ∀ i, i < a.heap.size → S i → S' i) : Turn S' a b :=
  ⟨h.os, h.tape, h.output, h.size, fun i hi hn => h.block i hi (fun h' => hn (hs i hi h'))⟩
theorem Turn.of {S : Nat → Prop} {a b : World} (h : Below a.heap.size a b) : Turn S a b := ⟨h.os, h.tape, h.output, h.size, fun k hk _ => h.block k hk⟩
theorem Turn.but {g : Nat} {a b : World} (h : But g a b) : Turn (· = g) a b := ⟨h.os, h.tape, h.output, h.size, fun k hk hn => h.block k hk hn⟩
theorem Turn.grown {r : Option Nat} {a b : World} (h : a.grownBy b r) : Turn (fun k => r = some k) a b := ⟨h.os, h.tape, h.output, h.size, fun k hk hn => h.block k hk (fun e => hn e.symm)⟩
theorem Turn.below {S : Nat → Prop} {B : Nat} {a b : World} (h : Turn S a b) (hB : B ≤ a.heap.size) (hs : ∀ k, k < B → ¬ S k) : Below B a b :=
  ⟨h.os, h.tape, h.output, h.size, fun k hk => h.block k (by omega) (hs k hk)⟩
theorem Turn.drew {S : Nat → Prop} {a b : World} (h : Turn S a b) : Turn S a b.drew := ⟨h.os, h.tape, h.output, h.size, h.block⟩
theorem Turn.alloc {S : Nat → Prop} {a b : World} (h : Turn S a b) (o : Obj) : Turn S a (b.alloc o) := h.trans' (Turn.of (bnew _ _))
theorem Turn.setCell {S : Nat → Prop} {a b : World} (h : Turn S a b) {g : Nat} (hg : S g ∨ a.heap.size ≤ g) (o : Nat) (v : Value) : Turn S a (b.setCell ⟨g, o, none⟩ v) :=
  h.trans ((Turn.but ((But.refl g b).setCell o v)).mono fun i _ e => by subst e; exact hg)
theorem Turn.blk {S : Nat → Prop} {a b : World} (h : Turn S a b) {g : Nat} {cur : Array Value} {t : TypeId} (hb : Blk a g cur t) (hg : ¬ S g) : Blk b g cur t := (h.block g (lt_of_block hb) hg).trans hb
theorem Turn.row {S : Nat → Prop} {a b : World} (h : Turn S a b) {B : Nat} {e : TypeId} {size : Nat} {v : Value} {n : Nat} {xs : List Value} (hr : a.ownsRow B e size v n xs) (hg : ∀ g, v.ownBlock = some g → ¬ S g) : b.ownsRow B e size v n xs := by
  refine ⟨hr.1, ?_⟩
  rcases hr.2 with h0 | ⟨g, cap, cur, rfl, hB, hb, r⟩
  · exact Or.inl h0
  · exact Or.inr ⟨g, cap, cur, rfl, hB, (h.block g (lt_of_block hb) (hg g rfl)).trans hb, r⟩
theorem Turn.map {H : Type} {S : Nat → Prop} {a b : World} (h : Turn S a b) {P : Program} {k : TypeId} {R : Value → Option (DataW H × List MemPlace)} {m n : Nat} {D : DataW H} (hm : a.ownsMap P k R m n D) (hg : ¬ S m) : b.ownsMap P k R m n D := by
  have hlt := hm.lt
  obtain ⟨es, clock, hb, r⟩ := hm
  exact ⟨es, clock, (h.block m hlt hg).trans hb, r⟩
end Go.Proofs.YtojeemogabhaoaaGreatDoor
namespace Go.Proofs.YtojeemogabhaoaaGreatDoor
open Go.RowKit
def flatS (hs : List SgD) : List Value := hs.flatMap fun x => [.pointer (some ⟨x.b, 0, none⟩), .int .i64 x.t]
theorem flatS_append (a b : List SgD) : flatS (a ++ b) = flatS a ++ flatS b := by simp [flatS]
theorem flatS_length (hs : List SgD) : (flatS hs).length = hs.length * 2 := by
  induction hs with
  | nil => rfl
  | cons x r ih => simp [flatS] at ih ⊢; omega
theorem flatS_get : ∀ (hs : List SgD) (k : Nat), k < hs.length → (flatS hs)[k * 2]? = some (.pointer (some ⟨(hget hs k).b, 0, none⟩)) ∧ (flatS hs)[k * 2 + 1]? = some (.int .i64 (hget hs k).t)
  | [], k, h => absurd h (by simp)
  | x :: r, 0, _ => ⟨rfl, rfl⟩
  | x :: r, k + 1, h => by
    have ih := flatS_get r k (by simpa using h)
    have e : flatS (x :: r) = .pointer (some ⟨x.b, 0, none⟩) :: .int .i64 x.t :: flatS r := rfl
    rw [e, show (k + 1) * 2 = k * 2 + 1 + 1 by omega, List.getElem?_cons_succ, List.getElem?_cons_succ, List.getElem?_cons_succ, List.getElem?_cons_succ]
    exact ih
theorem heapM_of_row {w : World} {B g n cap : Nat} {hs : List SgD} (h : w.ownsRow B 170 2 (.slice (some ⟨g, 0, none⟩) n cap) n (flatS hs)) (hn : n = hs.length) : HeapM w g cap hs ∧ B ≤ g := by
  rcases h.2 with ⟨e, _⟩ | ⟨g', cap', cur, e, hB, hb, h1, h2, h3, h4⟩
  · simp at e
  · simp only [Value.slice.injEq, Option.some.injEq, Addr.mk.injEq, and_true, true_and] at e
    obtain ⟨rfl, rfl⟩ := e
    refine ⟨⟨cur, hb, h3, by omega, h2, fun k hk => ?_⟩, hB⟩
    have h5 : ∀ j, j < n * 2 → cur[j]? = (flatS hs)[j]? := fun j hj => by rw [← h4, List.getElem?_take_of_lt hj, Array.getElem?_toList]
    rw [h5 _ (by omega), h5 _ (by omega)]
    exact flatS_get hs k hk
theorem row_of_heapM {w : World} {B g cap : Nat} {hs : List SgD} (h : HeapM w g cap hs) (hB : B ≤ g) : w.ownsRow B 170 2 (.slice (some ⟨g, 0, none⟩) hs.length cap) hs.length (flatS hs) := by
  obtain ⟨cur, h1, h2, h3, h4, h5⟩ := h
  refine ⟨flatS_length hs, Or.inr ⟨g, cap, cur, rfl, hB, h1, h3, h4, h2, ?_⟩⟩
  apply List.ext_getElem?
  intro j
  by_cases hj : j < hs.length * 2
  · rw [List.getElem?_take_of_lt hj, Array.getElem?_toList]
    obtain ⟨q1, q2⟩ := h5 (j / 2) (by omega)
    obtain ⟨r1, r2⟩ := flatS_get hs (j / 2) (by omega)
    rcases Nat.mod_two_eq_zero_or_one j with e | e
    · have : j = j / 2 * 2 := by omega
      rw [this, q1, r1]
    · have : j = j / 2 * 2 + 1 := by omega
      rw [this, q2, r2]
  · rw [List.getElem?_eq_none (by simp; omega), List.getElem?_eq_none (by rw [flatS_length]; omega)]
theorem info_sight : (Tryz.prog.info? 170).map (fun i => (i.zero, i.size, i.bytes)) = some (some (.agg #[.pointer none, .int .i64 0]), 2, 16) := by kernel_rfl
set_option maxHeartbeats 1000000 in
theorem before_any (p q : Value) (s t : Int) (w : World) : Calls Tryz.prog 197 #[.agg #[p, .int .i64 s], .agg #[q, .int .i64 t]] w fun e w' => e = .returned (.bool (decide (s < t))) ∧ Below w.heap.size w w' := by
  go_enter Tryz.func197, Tryz.ntmps197
  go_wp2
  go_ret
  exact ⟨rfl, bto (bnew _ _) (bnew _ _)⟩
theorem invokeBefore (x y : Value) (w : World) : (invoke (.fn (.method "loop.example/s02176/impl.before") #[]) #[.iface 170 x, y]).run Tryz.prog w = .ok (.enter 197 #[x, y]) w := by kernel_rfl
theorem wpQuiet_enter {P : Program} {ops : Array Oper} {C : World → Prop} {Q : Act → Prop} {a : Act} {o : Oper} {rest : List Oper} {f : FuncId} {args : Array Value} {v : Value} (hw : Region.wanted o (yielded ops a.tmps) = true)
    (hx : ∀ w, (execOp a.eval o).run P w = .ok (.enter f args) w) (hc : ∀ w, C w → Calls P f args w (fun e w'' => e = .returned v ∧ C w'')) (h : wpQuiet P ops C Q rest (a.put o.dst v)) : wpQuiet P ops C Q (o :: rest) a :=
  BigFrame.wpQuiet_want hw fun K hK => ⟨v, fun w hw => by unfold Oper.quietAt; rw [hx]; exact ⟨rfl, hc w hw⟩, hK _ h⟩
theorem exec_invoke {P : Program} (ρ : Operand → Value) (o : Oper) (r y : Operand) (name : String) (ts : Array TypeId) (ho : o.op = .call { callee := .invoke r name, args := #[y], argTypes := ts }) {u z : Value} (hr : ρ r = u) (hy : ρ y = z) {n : Next} {w : World}
    (h : (invoke (.fn (.method name) #[]) #[u, z]).run P w = .ok n w) : (execOp ρ o).run P w = .ok n w := by
  unfold execOp
  simp only [ho, resolve]
  simp [hr, hy, h]
set_option maxRecDepth 100000 in
set_option maxHeartbeats 4000000 in
theorem push_any (x o B : Nat) (v : Value) (hs : List SgD) (s : SgD) (w : World) (cx : Array Value) (tx : TypeId) (hX : Blk w x cx tx) (ho : cx[o]? = some v) (hown : w.ownsRow B 170 2 v hs.length (flatS hs)) (hsep : v.ownBlock ≠ some x) (hB : B ≤ w.heap.size) (hn : hs.length ≤ 1000000000) :
    Calls Tryz.prog 126 #[.pointer (some ⟨x, o, none⟩), .agg #[.pointer (some ⟨s.b, 0, none⟩), .int .i64 s.t]] w fun e w' => e = .returned (.tuple #[]) ∧ ∃ g cap, Blk w' x (cx.setIfInBounds o (.slice (some ⟨g, 0, none⟩) (hs.length + 1) cap)) tx ∧
      w'.ownsRow B 170 2 (.slice (some ⟨g, 0, none⟩) (hs.length + 1) cap) (hs.length + 1) (flatS (pushL hs s)) ∧ (v.ownBlock = some g ∨ w.heap.size ≤ g) ∧ Turn (fun k => k = x ∨ v.ownBlock = some k) w w' := by
  obtain ⟨i0, hi, hz0, hz1, hz2⟩ := info_parts info_sight
  have c0 : w.cell? ⟨x, o, none⟩ = some v := by rw [hX.cell]; exact ho
  have f0 := hX.free o
  have hxl := lt_of_block hX
  have HX : Hid (Blk w x cx tx) := hX
  clear hX
  have OWN : Hid (((w.alloc (.cells #[.pointer (some ⟨s.b, 0, none⟩), .int .i64 s.t] 170)).alloc (.cells #[.pointer (some ⟨s.b, 0, none⟩), .int .i64 s.t] 170)).ownsRow B 170 2 v hs.length (flatS hs)) := hid ((hown.alloc _).alloc _)
  have NEW : Hid (((w.alloc (.cells #[.pointer (some ⟨s.b, 0, none⟩), .int .i64 s.t] 170)).alloc (.cells #[.pointer (some ⟨s.b, 0, none⟩), .int .i64 s.t] 170)).heap[w.heap.size + 1]? = some (.cells #[.pointer (some ⟨s.b, 0, none⟩), .int .i64 s.t] 170 (0, 0))) := hid (by have := heap_alloc_new (w.alloc (.cells #[.pointer (some ⟨s.b, 0, none⟩), .int .i64 s.t] 170)) (.cells #[.pointer (some ⟨s.b, 0, none⟩), .int .i64 s.t] 170); simpa using this)
  have KEEP : Hid (∀ w1 : World, ((w.alloc (.cells #[.pointer (some ⟨s.b, 0, none⟩), .int .i64 s.t] 170)).alloc (.cells #[.pointer (some ⟨s.b, 0, none⟩), .int .i64 s.t] 170)).grownBy w1 v.ownBlock → Blk w1 x cx tx ∧ Turn (fun k => v.ownBlock = some k) w w1) := fun w1 h => by
    have ht := (Turn.of (S := fun k => v.ownBlock = some k) (bto (bnew w _) (bnew _ _))).trans' (Turn.grown h)
    exact ⟨ht.blk HX.out hsep, ht⟩
  clear f0 hown
  go_enter Tryz.func126, Tryz.ntmps126
  go_upto_region 1 with fail
  go_cut [13] (fun _ wx => ∃ g cap, Blk wx x (cx.setIfInBounds o (.slice (some ⟨g, 0, none⟩) (hs.length + 1) cap)) tx ∧ HeapM wx g cap (hs ++ [s]) ∧ B ≤ g ∧ (v.ownBlock = some g ∨ w.heap.size ≤ g) ∧ g ≠ x ∧ Turn (fun k => k = x ∨ v.ownBlock = some k) w wx)
  case first =>
    go_region_law (refine step_append_lies _ rfl (.tmp 10) (.tmp 12) 104 rfl B 170 i0 (.agg #[.pointer none, .int .i64 0]) 2 16 Tryz.underlying104 hi hz0 hz1 hz2 rfl (by decide) v hs.length (flatS hs) (by simp [Act.eval]) (by exact OWN.out) ⟨w.heap.size + 1, 0, none⟩ 1 1 [.pointer (some ⟨s.b, 0, none⟩), .int .i64 s.t] (by simp [Act.eval]) rfl (World.news_of_block (cs := #[.pointer (some ⟨s.b, 0, none⟩), .int .i64 s.t]) (by exact NEW.out)) (by intro u hu; simp at hu; rcases hu with rfl | rfl <;> rfl) (by omega) (by unfold maxLen; omega) (by omega) (by simp; omega) (w.heap.size + 1 + 1) (by simp) ?_; intro g cap w1 hrow hgr hloc hlt; obtain ⟨hx1, ht1⟩ := KEEP.out w1 ⟨hgr.os, hgr.tape, hgr.output, hgr.size, hgr.block⟩; have c1 : w1.cell? ⟨x, o, none⟩ = some v := (by rw [hx1.cell]; exact ho); have f1 := hx1.free o)
    all_goals (go_wp2_with fail; go_meet)
    all_goals
      have hr2 : w1.ownsRow B 170 2 (.slice (some ⟨g, 0, none⟩) (hs.length + 1) cap) (hs.length + 1) (flatS (hs ++ [s])) := by rw [flatS_append]; exact hrow
      obtain ⟨hM, hBg⟩ := heapM_of_row hr2 (by simp)
      have hne : g ≠ x := by
        rcases hloc with h | h
        · exact fun e => hsep (by rw [← e]; exact h)
        · omega
      obtain ⟨cur, m1, m2⟩ := hM
      exact ⟨g, cap, hx1.set o _, ⟨cur, m1.but ((But.refl _ _).setCell _ _) hne, m2⟩, hBg, by rcases hloc with h | h; exact Or.inl h; exact Or.inr (by omega), hne, Turn.setCell (S := fun k => k = x ∨ v.ownBlock = some k) (ht1.mono fun k _ hk => Or.inr hk) (Or.inl (Or.inl rfl)) _ _⟩
  obtain ⟨g, cap, hx1, hM1, hBg, hloc, hne, ht1⟩ := hcut
  rename World => w1
  have HX1 : Hid (Blk w1 x (cx.setIfInBounds o (.slice (some ⟨g, 0, none⟩) (hs.length + 1) cap)) tx) := hx1
  have HM1 : Hid (HeapM w1 g cap (hs ++ [s])) := hM1
  have HT1 : Hid (Turn (fun k => k = x ∨ v.ownBlock = some k) w w1) := ht1
  have HLOC : Hid (v.ownBlock = some g ∨ w.heap.size ≤ g) := hloc
  have hoc : o < cx.size := (Array.getElem?_eq_some_iff.1 ho).1
  have hcx : (cx.setIfInBounds o (.slice (some ⟨g, 0, none⟩) (hs.length + 1) cap))[o]? = some (.slice (some ⟨g, 0, none⟩) (hs.length + 1) cap) := by simp [hoc]
  obtain ⟨cx1, hcd⟩ : ∃ c, c = cx.setIfInBounds o (.slice (some ⟨g, 0, none⟩) (hs.length + 1) cap) := ⟨_, rfl⟩
  rw [← hcd] at hcx HX1
  have HCD : Hid (cx1 = cx.setIfInBounds o (.slice (some ⟨g, 0, none⟩) (hs.length + 1) cap)) := hcd
  clear hcd
  have k0 : w1.cell? ⟨x, o, none⟩ = some (.slice (some ⟨g, 0, none⟩) (hs.length + 1) cap) := by rw [HX1.out.cell]; exact hcx
  clear hx1 hM1 ht1 hloc OWN NEW KEEP HX c0 ho hi hz0 hz1 hz2 hsep
  go_wp2
  go_loopw [4] (fun a wr => ∃ (k : Nat) (l : List SgD), a = .int .i64 k ∧ k < l.length ∧ l.length = hs.length + 1 ∧ Blk wr x cx1 tx ∧ HeapM wr g cap l ∧ Hid (pushL hs s = siftUp l k) ∧ Turn (fun k => k = x ∨ v.ownBlock = some k) w wr) (fun a _ => (intOf a).toNat)
  case atStart => exact ⟨hs.length, hs ++ [s], by go_num, by simp, by simp, HX1.out, HM1.out, rfl, HT1.out⟩
  case round =>
    obtain ⟨k, l, rfl, hk, hl, hx2, hM2, HS, ht2⟩ := hrel
    have HX2 : Hid (Blk wr x cx1 tx) := hx2
    have HM2 : Hid (HeapM wr g cap l) := hM2
    have HT2 : Hid (Turn (fun k => k = x ∨ v.ownBlock = some k) w wr) := ht2
    have k1 : wr.cell? ⟨x, o, none⟩ = some (.slice (some ⟨g, 0, none⟩) (hs.length + 1) cap) := by rw [hx2.cell]; exact hcx
    clear hx2 hM2 ht2 k0
    by_cases h0 : 0 < k
    · have hst := siftUp_step (l := l) h0
      obtain ⟨q, hqd⟩ : ∃ q, q = (k - 1) / 2 := ⟨_, rfl⟩
      rw [← hqd] at hst
      have hq : ((k : Int) - 1) / 2 = (q : Nat) := by omega
      have hp : q < l.length := by omega
      have hqk : q < k := by omega
      have h1 : (1 : Int) ≤ k := by omega
      obtain ⟨a0, a1, _, _⟩ := HM2.out.cells hk
      obtain ⟨b0, b1, _, _⟩ := HM2.out.cells hp
      have HST : Hid (siftUp l k = if (hget l k).t < (hget l q).t then siftUp (swapL l k q) q else l) := hst
      have HSW : Hid (∀ W, Below wr.heap.size wr W → Calls Tryz.prog 143 #[.pointer (some ⟨x, o, none⟩), .int .i64 k, .int .i64 (((k : Int) - 1) / 2)] W fun e w' => e = .returned (.tuple #[]) ∧ HeapM w' g cap (swapL l k q) ∧ But g W w') :=
        fun W hW => by rw [hq]; exact swap_any x o g (hs.length + 1) cap k q l W (by rw [(HX2.out.later hW).cell]; exact hcx) hl.symm (HM2.out.later hW) (by omega) (by omega)
      have HL : Hid (l.length = hs.length + 1) := hl
      have hkn : k < hs.length + 1 := by omega
      have hqn : q < hs.length + 1 := by omega
      clear hst hqd hl
      have d0 := Later.cells k1
      have d1 := Later.cells a0
      have d2 := Later.cells a1
      have d3 := Later.cells b0
      have d4 := Later.cells b1
      have hnel := Later.there wr
      clear a0 a1 b0 b1 k1
      generalize hget l k = A at *
      generalize hget l q = C at *
      go_wp2_with fail
      refine wp_region_later (by kernel_rfl) (by kernel_rfl) ?_
      repeat (go_big_quiet_step (fail))
      refine wpQuiet_enter (by rfl) (fun W => exec_invoke _ _ _ _ _ _ rfl rfl rfl (invokeBefore _ _ W)) (by rintro _ ⟨x, rfl⟩; exact calls_later (before_any _ _ _ _ _)) ?_
      simp only [Act.put, List.setIfInBounds_toArray, List.set_cons_succ, List.set_cons_zero]
      repeat (go_big_quiet_step (fail))
      refine wpQuiet_nil ?_
      rintro _ ⟨y, rfl⟩
      have HY : Hid (Below wr.heap.size wr y.w') := y.h
      have HE : Hid ((((k : Int) - 1) / 2) = (q : Nat)) := hq
      clear d0 d1 d2 d3 d4 hnel hq
      generalize y.w' = W2 at *
      clear y
      by_cases hAC : A.t < C.t
      · have hd : decide (A.t < C.t) = true := by simpa using hAC
        rw [hd]
        have HS2 : Hid (pushL hs s = siftUp (swapL l k q) q) := by show _ = _; rw [HS.out, HST.out, if_pos hAC]
        go_wp2_with fail
        refine (HSW.out _ HY.out).mono ?_
        rintro e w3 ⟨rfl, hM3, hb3⟩
        have HM3 : Hid (HeapM w3 g cap (swapL l k q)) := hM3
        have HX3 : Hid (Blk w3 x cx1 tx) := (HX2.out.later HY.out).but hb3 hne.symm
        have HT3 : Hid (Turn (fun k => k = x ∨ v.ownBlock = some k) w w3) := by
          refine (HT2.out.trans' (Turn.of HY.out)).trans ((Turn.but hb3).mono fun i _ e => ?_)
          subst e
          rcases HLOC.out with h | h
          · exact Or.inl (Or.inr h)
          · exact Or.inr h
        clear hM3 hb3 HSW
        go_wp2
        exact ⟨⟨q, swapL l k q, by rw [HE.out], by rw [swapL_length]; exact hp, by rw [swapL_length]; exact HL.out, HX3.out, HM3.out, HS2.out, HT3.out⟩, by simp [intOf]; omega⟩
      · have hd : decide (A.t < C.t) = false := by simpa using hAC
        rw [hd]
        have HS2 : Hid (pushL hs s = l) := by show _ = _; rw [HS.out, HST.out, if_neg hAC]
        go_wp2
        refine bodyPost_ret (v := .tuple #[]) (by simp [results, Tryz.results126, go_sem]) rfl ⟨rfl, g, cap, HCD.out ▸ HX2.out.later HY.out, ?_, HLOC.out, HT2.out.trans' (Turn.of HY.out)⟩
        rw [HS2.out, ← HL.out]
        exact row_of_heapM (HM2.out.later HY.out) hBg
    · go_wp2
      go_end0
      obtain rfl : k = 0 := by omega
      rw [HS.out, siftUp_zero]
      refine ⟨rfl, g, cap, HCD.out ▸ HX2.out, ?_, HLOC.out, HT2.out⟩
      rw [← hl]
      exact row_of_heapM HM2.out hBg
end Go.Proofs.YtojeemogabhaoaaGreatDoor
namespace Go.Proofs.YtojeemogabhaoaaGreatDoor
theorem less_irrefl : ∀ x : List UInt8, Op.bytesLess x x = false
  | [] => rfl
  | a :: x => by simp [Op.bytesLess, less_irrefl x]
theorem less_trans : ∀ x y z : List UInt8, Op.bytesLess x y = true → Op.bytesLess y z = true → Op.bytesLess x z = true
  | _, _, [], _, h => by simp [Op.bytesLess] at h
  | _, [], _ :: _, h, _ => by simp [Op.bytesLess] at h
  | [], _ :: _, _ :: _, _, _ => by simp [Op.bytesLess]
  | a :: x, b :: y, c :: z, h1, h2 => by
    simp only [Op.bytesLess, Bool.or_eq_true, Bool.and_eq_true, decide_eq_true_eq, beq_iff_eq] at h1 h2 ⊢
    rcases h1 with h1 | ⟨rfl, h1⟩
    · rcases h2 with h2 | ⟨rfl, _⟩
      · exact Or.inl (UInt8.lt_trans h1 h2)
      · exact Or.inl h1
    · rcases h2 with h2 | ⟨rfl, h2⟩
      · exact Or.inl h2
      · exact Or.inr ⟨rfl, less_trans x y z h1 h2⟩
theorem less_total : ∀ x y : List UInt8, Op.bytesLess x y = false → x ≠ y → Op.bytesLess y x = true
  | [], [], _, h => absurd rfl h
  | [], _ :: _, h, _ => by simp [Op.bytesLess] at h
  | _ :: _, [], _, _ => by simp [Op.bytesLess]
  | a :: x, b :: y, h, hne => by
    simp only [Op.bytesLess, Bool.or_eq_false_iff, Bool.and_eq_false_iff, decide_eq_false_iff_not, Bool.or_eq_true, Bool.and_eq_true, decide_eq_true_eq, beq_iff_eq] at h ⊢
    obtain ⟨h1, h2⟩ := h
    by_cases e : a = b
    · subst e
      rcases h2 with h2 | h2
      · simp at h2
      · exact Or.inr ⟨rfl, less_total x y h2 (fun e => hne (by rw [e]))⟩
    · left
      rcases UInt8.lt_or_lt_of_ne e with h | h
      · exact absurd h h1
      · exact h
theorem less_asymm {x y : List UInt8} (h : Op.bytesLess x y = true) : Op.bytesLess y x = false := by
  rw [Bool.eq_false_iff]
  intro h'
  have := less_trans x y x h h'
  rw [less_irrefl] at this
  exact absurd this (by simp)
theorem toList_inj {x y : ByteArray} (h : x.toList = y.toList) : x = y := by
  have h' : x.data.toList = y.data.toList := by rw [← ByteArray.toList_eq x, ← ByteArray.toList_eq y]; exact h
  cases x; cases y
  simp only [ByteArray.mk.injEq]
  exact Array.toList_inj.1 h'
end Go.Proofs.YtojeemogabhaoaaGreatDoor
