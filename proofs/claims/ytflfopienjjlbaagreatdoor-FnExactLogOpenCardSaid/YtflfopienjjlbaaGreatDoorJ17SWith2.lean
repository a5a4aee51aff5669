import Derived.Test.YtflfopienjjlbaaGreatDoorProg
import Derived.Test.YtflfopienjjlbaaGreatDoorJ16Eq
import Derived.Test.YtflfopienjjlbaaGreatDoorJ05CrcL
import Derived.Deep.AppendLies
namespace Go.Proofs.YtflfopienjjlbaaGreatDoor
open Go.RowKit

theorem szFs_bound {left : Int} {fs : List FileD} (h : 0 ≤ szFs left fs) : (fs.length + bulk fs : Int) ≤ left := by
  unfold szFs at h
  split at h
  · assumption
  · omega

theorem owned_of {w : World} {B g : Nat} {fs : List FileD} (h : FilesIn w (some ⟨g, 0, none⟩) fs) (hx : ∃ cur t, w.heap[g]? = some (.cells cur t (0, 0))) (hB : B ≤ g) : Owned w B (some ⟨g, 0, none⟩) fs := by
  obtain ⟨cur, t, hx⟩ := hx
  rcases h with h | ⟨b, o, e, _, h⟩
  · exact Or.inl h
  · simp only [Option.some.injEq, Addr.mk.injEq, and_true] at e
    obtain ⟨rfl, rfl⟩ := e
    exact Or.inr ⟨g, 0, cur, t, rfl, hB, hx, h⟩

theorem FilesIn.lt {w : World} {a : Option Addr} {fs : List FileD} (h : FilesIn w a fs) (hn : fs ≠ []) : ∃ b o, a = some ⟨b, o, none⟩ ∧ b < w.heap.size := by
  rcases h with h | ⟨b, o, e, hlt, _⟩
  · exact absurd h hn
  · exact ⟨b, o, e, hlt⟩

theorem blk_new (w : World) (cs : Array Value) (t : TypeId) : Blk (w.alloc (.cells cs t)) w.heap.size cs t := heap_alloc_new _ _

theorem Blk.six {w : World} {b : Nat} {v0 v1 v2 v3 v4 v5 : Value} {t : TypeId} (h : Blk w b #[v0, v1, v2, v3, v4, v5] t) :
    w.cell? ⟨b, 0, none⟩ = some v0 ∧ w.cell? ⟨b, 1, none⟩ = some v1 ∧ w.cell? ⟨b, 2, none⟩ = some v2 ∧ w.cell? ⟨b, 3, none⟩ = some v3 ∧ w.cell? ⟨b, 4, none⟩ = some v4 ∧ w.cell? ⟨b, 5, none⟩ = some v5 := by
  simp [h.cell]

theorem Owned.but {w w' : World} {B g : Nat} {a : Option Addr} {fs : List FileD} (h : Owned w B a fs) (hb : But g w w') (hg : g < B) : Owned w' B a fs := by
  rcases h with h | ⟨g', o, cur, t, rfl, hB, hx, hf⟩
  · exact Or.inl h
  · have he : w'.heap[g']? = w.heap[g']? := hb.block g' (lt_of_block hx) (by omega)
    have hk : ∀ j, w'.cell? ⟨g', j, none⟩ = w.cell? ⟨g', j, none⟩ := fun j => World.cell?_of_block he
    exact Or.inr ⟨g', o, cur, t, rfl, hB, he.trans hx, fun i hi => by simp only [hk]; exact hf i hi⟩

/-- A row's block lies in front of P. -/
def Front (a : Option Addr) (fs : List FileD) (P : Nat) : Prop := fs = [] ∨ ∃ b o, a = some ⟨b, o, none⟩ ∧ b < P
theorem front_of {w : World} {a : Option Addr} {fs : List FileD} (h : FilesIn w a fs) : Front a fs w.heap.size := by
  rcases h with h | ⟨b, o, e, hlt, _⟩
  · exact Or.inl h
  · exact Or.inr ⟨b, o, e, hlt⟩
theorem FilesIn.but' {w w' : World} {g P : Nat} {a : Option Addr} {fs : List FileD} (h : FilesIn w a fs) (hb : But g w w') (hf : Front a fs P) (hg : P ≤ g) : FilesIn w' a fs := by
  rcases hf with hn | ⟨b, o, rfl, hlt⟩
  · exact Or.inl hn
  · exact h.but hb (by omega)

/-- Marking the files of a leaves those of a2, which lay there before a's block was made. -/
theorem Marked.keeps {w w' : World} {B n : Nat} {a a2 : Option Addr} {fs : List FileD} (h : Marked w w' B a n) (hf : FilesIn w a2 fs) (hlt : fs = [] ∨ ∃ b o, a2 = some ⟨b, o, none⟩ ∧ b < B) : FilesIn w' a2 fs := by
  rcases hlt with hn | ⟨b, o, rfl, hb⟩
  · exact Or.inl hn
  · rcases h with ⟨_, h⟩ | ⟨_, g, o', _, hB, h⟩
    · exact hf.later h
    · exact hf.but h (by omega)

theorem Blk.but {w w' : World} {g D : Nat} {cur : Array Value} {t : TypeId} (h : Blk w D cur t) (hb : But g w w') (hne : D ≠ g) : Blk w' D cur t := (hb.block D (lt_of_block h) hne).trans h

theorem Blk.five {w : World} {b : Nat} {v0 v1 v2 v3 v4 : Value} {t : TypeId} (h : Blk w b #[v0, v1, v2, v3, v4] t) :
    w.cell? ⟨b, 0, none⟩ = some v0 ∧ w.cell? ⟨b, 1, none⟩ = some v1 ∧ w.cell? ⟨b, 2, none⟩ = some v2 ∧ w.cell? ⟨b, 3, none⟩ = some v3 ∧ w.cell? ⟨b, 4, none⟩ = some v4 := by
  simp [h.cell]

/-- A row's block is another than P. -/
def Apart (a : Option Addr) (fs : List FileD) (P : Nat) : Prop := fs = [] ∨ ∃ b o, a = some ⟨b, o, none⟩ ∧ b ≠ P
theorem Front.apart {a : Option Addr} {fs : List FileD} {P : Nat} (h : Front a fs P) : Apart a fs P := by
  rcases h with h | ⟨b, o, e, hlt⟩
  · exact Or.inl h
  · exact Or.inr ⟨b, o, e, by omega⟩
theorem Owned.apart {w : World} {B P : Nat} {a : Option Addr} {fs : List FileD} (h : Owned w B a fs) (hP : P < B) : Apart a fs P := by
  rcases h with h | ⟨g, o, cur, t, e, hB, _⟩
  · exact Or.inl h
  · exact Or.inr ⟨g, o, e, by omega⟩
theorem blk_of_alloc {w w' : World} {cs : Array Value} {t : TypeId} (h : Below (w.alloc (.cells cs t)).heap.size (w.alloc (.cells cs t)) w') : Blk w' w.heap.size cs t := (blk_new w cs t).later h
theorem blk_fill {w : World} {P : Nat} {z0 z1 z2 z3 z4 z5 v0 v1 v2 v3 v4 v5 : Value} {t : TypeId} (h : Blk w P #[z0, z1, z2, z3, z4, z5] t) :
    Blk ((((((w.setCell ⟨P, 0, none⟩ v0).setCell ⟨P, 1, none⟩ v1).setCell ⟨P, 2, none⟩ v2).setCell ⟨P, 3, none⟩ v3).setCell ⟨P, 4, none⟩ v4).setCell ⟨P, 5, none⟩ v5) P #[v0, v1, v2, v3, v4, v5] t := by
  have h6 := (((((h.set 0 v0).set 1 v1).set 2 v2).set 3 v3).set 4 v4).set 5 v5
  simpa using h6
theorem twoBoxes {w w1 : World} {x y : Array Value} {tx ty : TypeId} (hb : Below ((w.alloc (.cells x tx)).alloc (.cells y ty)).heap.size ((w.alloc (.cells x tx)).alloc (.cells y ty)) w1) :
    Blk w1 w.heap.size x tx ∧ Blk w1 (w.heap.size + 1) y ty ∧ Below w.heap.size w w1 := by
  refine ⟨?_, ?_, bto (bto (bnew _ _) (bnew _ _)) hb⟩
  · exact ((blk_new w x tx).later (bnew _ _)).later hb
  · have h := (blk_new (w.alloc (.cells x tx)) y ty).later hb
    simpa using h
theorem blk_of_drew {w w' : World} {cs : Array Value} {t : TypeId} (h : Below (w.alloc (.cells cs t)).drew.heap.size (w.alloc (.cells cs t)).drew w') : Blk w' w.heap.size cs t := (blk_new w cs t).later ⟨h.os, h.tape, h.output, h.size, h.block⟩
theorem low {a b : World} (h : Below a.heap.size a b) : a.heap.size ≤ b.heap.size := h.size

/-- A new disk's cells hold no file. -/
theorem apart_zero {w : World} {a : Option Addr} {fs : List FileD} {P : Nat} {t : TypeId} (h : FilesIn w a fs) (hz : Blk w P #[.slice none 0 0, .int .i64 0, .int .i64 0, .int .i64 0, .int .i64 0, .bool false] t) : Apart a fs P := by
  rcases h with h | ⟨b, o, e, _, h⟩
  · exact Or.inl h
  · by_cases hn : fs = []
    · exact Or.inl hn
    · refine Or.inr ⟨b, o, e, fun hb => ?_⟩
      subst hb
      have hl : 0 < fs.length := by
        cases fs with
        | nil => exact absurd rfl hn
        | cons _ _ => simp
      have h0 := (h 0 hl).1
      rw [hz.cell] at h0
      simp only [Nat.zero_mul, Nat.add_zero] at h0
      match o, h0 with
      | 0, h0 => simp at h0
      | 1, h0 => simp at h0
      | 2, h0 => simp at h0
      | 3, h0 => simp at h0
      | 4, h0 => simp at h0
      | 5, h0 => simp at h0
      | n + 6, h0 => simp at h0

theorem but_fill {w : World} {P : Nat} (v0 v1 v2 v3 v4 v5 : Value) :
    But P w ((((((w.setCell ⟨P, 0, none⟩ v0).setCell ⟨P, 1, none⟩ v1).setCell ⟨P, 2, none⟩ v2).setCell ⟨P, 3, none⟩ v3).setCell ⟨P, 4, none⟩ v4).setCell ⟨P, 5, none⟩ v5) :=
  ((((((But.refl P w).setCell 0 v0).setCell 1 v1).setCell 2 v2).setCell 3 v3).setCell 4 v4).setCell 5 v5

theorem FilesIn.apart {w w' : World} {P : Nat} {a : Option Addr} {fs : List FileD} (h : FilesIn w a fs) (ha : Apart a fs P) (hb : But P w w') : FilesIn w' a fs := by
  rcases ha with hn | ⟨b, o, rfl, hne⟩
  · exact Or.inl hn
  · exact h.but hb hne

theorem Owned.beside {w w' : World} {B P : Nat} {a : Option Addr} {fs : List FileD} (h : Owned w B a fs) (ha : Apart a fs P) (hb : But P w w') : Owned w' B a fs := by
  rcases h with h | ⟨g', o, cur, t, rfl, hB, hx, hf⟩
  · exact Or.inl h
  · rcases ha with hn | ⟨b, o', e, hne⟩
    · exact Or.inl hn
    · simp only [Option.some.injEq, Addr.mk.injEq, and_true] at e
      obtain ⟨rfl, rfl⟩ := e
      have he : w'.heap[g']? = w.heap[g']? := hb.block g' (lt_of_block hx) hne
      have hk : ∀ j, w'.cell? ⟨g', j, none⟩ = w.cell? ⟨g', j, none⟩ := fun j => World.cell?_of_block he
      exact Or.inr ⟨g', o, cur, t, rfl, hB, he.trans hx, fun i hi => by simp only [hk]; exact hf i hi⟩
end Go.Proofs.YtflfopienjjlbaaGreatDoor

namespace Go.Proofs.YtflfopienjjlbaaGreatDoor
open Go.RowKit

theorem row_ne {w : World} {B : Nat} {e : TypeId} {size : Nat} {v : Value} {n : Nat} {xs : List Value} (h : w.ownsRow B e size v n xs) {g : Nat} (hg : g < B) : some g ≠ v.ownBlock := fun e1 => by
  rcases h.2 with ⟨rfl, _⟩ | ⟨g', cap, cur, rfl, hB, _⟩
  · simp [Value.ownBlock] at e1
  · simp [Value.ownBlock] at e1; omega

theorem grown_below {W w w' : World} {B : Nat} {e : TypeId} {size : Nat} {v : Value} {n : Nat} {xs : List Value} (h : w.ownsRow B e size v n xs) (hb : Below B W w) (hBw : B ≤ w.heap.size) (hg : w.grownBy w' v.ownBlock) : Below B W w' :=
  hb.trans ((Keeps.grown (S := fun k => v.ownBlock = some k) hg (fun _ h => h)).below (fun g hg => by
    rcases h.2 with ⟨rfl, _⟩ | ⟨g', cap, cur, rfl, hB, _⟩
    · simp [Value.ownBlock] at hg
    · simp [Value.ownBlock] at hg; omega) hBw)

theorem news_two (W : World) (x : Obj) (cs : Array Value) (t : TypeId) : ∀ j u, cs.toList[j]? = some u → ((W.alloc x).alloc (.cells cs t)).cell? ((⟨W.heap.size + 1, 0, none⟩ : Addr).add j) = some u :=
  World.news_of_block (fr := (0, 0)) (by have h := heap_alloc_new (W.alloc x) (.cells cs t); simpa using h)

theorem without_snoc (l : List FileD) (f : FileD) (t : ByteArray) : withoutL (l ++ [f]) t = withoutL l t ++ (if (f.name.toList == t.toList) = true then [] else [f]) := by
  unfold withoutL
  rw [List.filter_append]
  by_cases h : (f.name.toList == t.toList) = true
  · rw [if_pos h]; simp only [List.filter_cons, h]; rfl
  · rw [if_neg h]
    have h' : (f.name.toList == t.toList) = false := by simpa using h
    simp only [List.filter_cons, h']; rfl

theorem without_length (l : List FileD) (t : ByteArray) : (withoutL l t).length ≤ l.length := List.length_filter_le _ _

set_option maxRecDepth 100000 in
set_option maxHeartbeats 2000000 in
theorem l1Without_any (a : Option Addr) (cap : Nat) (fs : List FileD) (t : ByteArray) (w : World) (hf : FilesIn w a fs) (hlen : fs.length ≤ 1048576) :
    Calls Tryz.prog 87 #[.slice a fs.length cap, .string t] w fun e w' => ∃ v, e = .returned v ∧ w'.ownsRow w.heap.size 59 3 v (withoutL fs t).length (flat (withoutL fs t)) ∧ Below w.heap.size w w' := by
  have HF : Hid (FilesIn w a fs) := hf
  clear hf
  obtain ⟨ti, hti, hz0, hz1, hz2⟩ := info_filex
  have HI : Hid (Tryz.prog.info? 59 = some ti) := hti
  clear hti
  go_enter Tryz.func87, Tryz.ntmps87
  go_wp2
  go_loopw [5, 7, 11] (fun o _ i wr => ∃ (j : Nat) (av : Option Addr) (n cv : Nat), j ≤ fs.length ∧ i = .int .i64 j ∧ o = .slice av n cv ∧ n = (withoutL (fs.take j) t).length ∧ wr.ownsRow w.heap.size 59 3 (.slice av n cv) n (flat (withoutL (fs.take j) t)) ∧ Below w.heap.size w wr) (fun _ _ i _ => fs.length - (intOf i).toNat)
  case atStart => exact ⟨0, _, 0, 0, Nat.zero_le _, rfl, rfl, rfl, ⟨rfl, Or.inr ⟨w.heap.size, 0, #[], rfl, Nat.le_refl _, heap_alloc_new _ _, Nat.le_refl _, Nat.zero_le _, rfl, rfl⟩⟩, bnew _ _⟩
  case round =>
    obtain ⟨j, av, n, cv, hj, rfl, rfl, hn, hrow, hbel⟩ := hrel
    have H1 : Hid (wr.ownsRow w.heap.size 59 3 (.slice av n cv) n (flat (withoutL (fs.take j) t))) := hrow
    have HN : Hid (n = (withoutL (fs.take j) t).length) := hn
    have hn2 : n ≤ 1048576 := by have := without_length (fs.take j) t; rw [List.length_take] at this; omega
    clear hrow hn
    by_cases hlt : j < fs.length
    · obtain ⟨b, o, rfl, hb, c0, c1, c2⟩ := (HF.out.later hbel).at hlt
      have hnb : ¬ b = wr.heap.size := by omega
      have HT : Hid (withoutL (fs.take (j + 1)) t = withoutL (fs.take j) t ++ (if (fs[j].name.toList == t.toList) = true then [] else [fs[j]])) := by
        show _ = _
        rw [List.take_succ_eq_append_getElem hlt, without_snoc]
      by_cases he : (fs[j].name.toList == t.toList) = true
      · have HT2 : Hid (withoutL (fs.take (j + 1)) t = withoutL (fs.take j) t) := by show _ = _; rw [HT.out, if_pos he]; simp
        go_wp2
        exact ⟨⟨j + 1, av, n, cv, by omega, by go_num, rfl, by rw [HT2.out]; exact HN.out, by rw [HT2.out]; exact row_later H1.out (bnew _ _), bto hbel (bnew _ _)⟩, by simp [intOf]; omega⟩
      · have he' : (fs[j].name.toList == t.toList) = false := by simpa using he
        have HT2 : Hid (withoutL (fs.take (j + 1)) t = withoutL (fs.take j) t ++ [fs[j]]) := by show _ = _; rw [HT.out, if_neg he]
        have HW : Hid (Below wr.heap.size wr ((wr.alloc (.cells #[.string fs[j].name, .string fs[j].data, .int .i64 fs[j].synced] 59)).alloc (.cells #[.string fs[j].name, .string fs[j].data, .int .i64 fs[j].synced] 59))) := bto (bnew _ _) (bnew _ _)
        clear he HT
        go_wp2_with (at_builtin; refine wpList_append_lies _ rfl _ _ _ rfl w.heap.size 59 ti _ 3 40 Tryz.underlying26 HI.out hz0 hz1 hz2 rfl (by omega) (.slice av n cv) n (flat (withoutL (fs.take j) t)) rfl (by exact row_later H1.out HW.out) ⟨wr.heap.size + 1, 0, none⟩ 1 1 [.string fs[j].name, .string fs[j].data, .int .i64 fs[j].synced] rfl rfl (by exact news_two _ _ #[.string fs[j].name, .string fs[j].data, .int .i64 fs[j].synced] _) (by simp [Value.oneCell']) (by omega) (by simp [maxLen]; omega) (by omega) (by have := hbel.size; simp; omega) (wr.heap.size + 1 + 1) (by simp) ?_; intro g5 cap5 w5 hown5 hgrow5 hat5 hlt5)
        refine ⟨⟨j + 1, _, n + 1, _, by omega, by go_num, rfl, by rw [HT2.out, List.length_append, ← HN.out]; rfl, ?_, ?_⟩, by simp [intOf]; omega⟩
        · rw [HT2.out, flat_append, flat_one]
          exact hown5
        · exact grown_below (row_later H1.out HW.out) (bto hbel HW.out) (by have := hbel.size; simp; omega) hgrow5
    · go_wp2
      go_ret
      have ej : j = fs.length := by omega
      have h := H1.out
      have hn := HN.out
      rw [ej, List.take_length] at h hn
      subst hn
      exact ⟨_, rfl, h, hbel⟩

theorem place_snoc_placed : ∀ {l : List FileD} {f : FileD} (r : List FileD), (l.any fun g => Op.bytesLess f.name.toList g.name.toList) = true → placeL (l ++ r) f = placeL l f ++ r
  | [], _, _, h => by simp at h
  | g :: l, f, r, h => by
    show placeL (g :: (l ++ r)) f = _
    unfold placeL
    by_cases hl : Op.bytesLess f.name.toList g.name.toList = true
    · rw [if_pos hl, if_pos hl]; rfl
    · rw [if_neg hl, if_neg hl, place_snoc_placed r (by simpa [hl] using h)]; rfl

theorem place_snoc_none : ∀ {l : List FileD} {f : FileD} (r : List FileD), (l.any fun g => Op.bytesLess f.name.toList g.name.toList) = false → placeL (l ++ r) f = l ++ placeL r f
  | [], _, _, _ => rfl
  | g :: l, f, r, h => by
    simp only [List.any_cons, Bool.or_eq_false_iff] at h
    show placeL (g :: (l ++ r)) f = _
    rw [placeL, if_neg (by rw [h.1]; simp), place_snoc_none r h.2]; rfl

/-- How far l1With has come: whether f is placed, and the files so far. -/
def placedB (es : List FileD) (f : FileD) (j : Nat) : Bool := (es.take j).any fun g => Op.bytesLess f.name.toList g.name.toList
def partL (es : List FileD) (f : FileD) (j : Nat) : List FileD := if placedB es f j = true then placeL (es.take j) f else es.take j

theorem placedB_succ {es : List FileD} {f : FileD} {j : Nat} (h : j < es.length) : placedB es f (j + 1) = (placedB es f j || Op.bytesLess f.name.toList es[j].name.toList) := by
  unfold placedB
  rw [List.take_succ_eq_append_getElem h, List.any_append]
  simp only [List.any_cons, List.any_nil, Bool.or_false]

theorem part_placed {es : List FileD} {f : FileD} {j : Nat} (h : j < es.length) (hp : placedB es f j = true) : partL es f (j + 1) = partL es f j ++ [es[j]] := by
  unfold partL
  rw [if_pos hp, if_pos (by rw [placedB_succ h, hp]; rfl), List.take_succ_eq_append_getElem h]
  exact place_snoc_placed _ hp

theorem part_now {es : List FileD} {f : FileD} {j : Nat} (h : j < es.length) (hp : placedB es f j = false) (hl : Op.bytesLess f.name.toList es[j].name.toList = true) : partL es f (j + 1) = partL es f j ++ [f] ++ [es[j]] := by
  have e1 : placedB es f (j + 1) = true := by rw [placedB_succ h, hl]; simp
  have e2 : partL es f (j + 1) = placeL (es.take (j + 1)) f := if_pos e1
  have e3 : partL es f j = es.take j := if_neg (by rw [hp]; simp)
  rw [e2, e3, List.take_succ_eq_append_getElem h, place_snoc_none _ hp]
  simp [placeL, hl]

theorem part_not {es : List FileD} {f : FileD} {j : Nat} (h : j < es.length) (hp : placedB es f j = false) (hl : Op.bytesLess f.name.toList es[j].name.toList = false) : partL es f (j + 1) = partL es f j ++ [es[j]] := by
  have e1 : placedB es f (j + 1) = false := by rw [placedB_succ h, hp, hl]; rfl
  have e2 : partL es f (j + 1) = es.take (j + 1) := if_neg (by rw [e1]; simp)
  have e3 : partL es f j = es.take j := if_neg (by rw [hp]; simp)
  rw [e2, e3, List.take_succ_eq_append_getElem h]

theorem part_end {es : List FileD} {f : FileD} (hp : placedB es f es.length = false) : placeL es f = partL es f es.length ++ [f] := by
  unfold partL
  rw [if_neg (by rw [hp]; simp)]
  unfold placedB at hp
  rw [List.take_length] at hp ⊢
  have := place_snoc_none (f := f) [] hp
  rw [List.append_nil] at this
  rw [this]; rfl

theorem part_all {es : List FileD} {f : FileD} (hp : placedB es f es.length = true) : placeL es f = partL es f es.length := by
  unfold partL
  rw [if_pos hp, List.take_length]

theorem part_length (es : List FileD) (f : FileD) (j : Nat) : (partL es f j).length ≤ j + 1 := by
  have hpl : ∀ (l : List FileD), (placeL l f).length = l.length + 1 := fun l => by
    induction l with
    | nil => rfl
    | cons g r ih => unfold placeL; split <;> simp [ih]
  unfold partL
  split
  · rw [hpl, List.length_take]; omega
  · rw [List.length_take]; omega
end Go.Proofs.YtflfopienjjlbaaGreatDoor

namespace Go.Proofs.YtflfopienjjlbaaGreatDoor
open Go.RowKit

theorem blk_grown {w w' w2 : World} {D : Nat} {cur : Array Value} {t : TypeId} {row : Option Nat} (h : Blk w D cur t) (hb : Below w.heap.size w w') (hg : w'.grownBy w2 row) (hne : some D ≠ row) : Blk w2 D cur t :=
  (hg.block D (lt_of_block (h.later hb)) hne).trans (h.later hb)

theorem row_from2 {w : World} {B : Nat} {e : TypeId} {size : Nat} {v : Value} {n : Nat} {xs : List Value} (h : w.ownsRow B e size v n xs) : ∀ g, v.ownBlock = some g → B ≤ g := by
  intro g hg
  rcases h.2 with ⟨rfl, _⟩ | ⟨g', cap, cur, rfl, hB, _⟩
  · simp [Value.ownBlock] at hg
  · simp [Value.ownBlock] at hg
    subst hg
    exact hB

theorem files_grown {w w' : World} {v : Value} {a : Option Addr} {es : List FileD} (hg : w.grownBy w' v.ownBlock) (hf : FilesIn w a es) (ha : ∀ b o, a = some ⟨b, o, none⟩ → some b ≠ v.ownBlock) : FilesIn w' a es := by
  rcases hf with hf | ⟨b, o, rfl, hlt, hf⟩
  · exact Or.inl hf
  · have hb := hg.block b hlt (ha b o rfl)
    have hk : ∀ j, w'.cell? ⟨b, j, none⟩ = w.cell? ⟨b, j, none⟩ := fun j => World.cell?_of_block hb
    exact Or.inr ⟨b, o, rfl, Nat.lt_of_lt_of_le hlt hg.size, fun i hi => by simp only [hk]; exact hf i hi⟩

set_option maxRecDepth 100000 in
set_option maxHeartbeats 4000000 in
theorem l1With_any (a : Option Addr) (cap : Nat) (fs : List FileD) (f : FileD) (w : World) (hf : FilesIn w a fs) (hlen : fs.length ≤ 1048576) :
    Calls Tryz.prog 86 #[.slice a fs.length cap, .agg #[.string f.name, .string f.data, .int .i64 f.synced]] w fun e w' => ∃ v, e = .returned v ∧ w'.ownsRow w.heap.size 59 3 v (withL fs f).length (flat (withL fs f)) ∧ Below w.heap.size w w' := by
  have HF : Hid (FilesIn w a fs) := hf
  clear hf
  obtain ⟨ti, hti, hz0, hz1, hz2⟩ := info_filex
  have HI : Hid (Tryz.prog.info? 59 = some ti) := hti
  clear hti
  go_enter Tryz.func86, Tryz.ntmps86
  go_wp2_with fail
  refine (l1Without_any a cap fs f.name _ ((HF.out.later (bnew _ _)).later (bnew _ _)) hlen).mono ?_
  rintro e w1 ⟨v1, rfl, hrow1, hb1⟩
  obtain ⟨a1, cap1, rfl, hown1⟩ := owned_of_row hrow1
  have hes : (withoutL fs f.name).length ≤ fs.length := without_length fs f.name
  have HWE : Hid (withL fs f = placeL (withoutL fs f.name) f) := rfl
  generalize withoutL fs f.name = es at *
  have HB1 : Hid (Below w.heap.size w w1) := bto (bto (bnew _ _) (bnew _ _)) hb1
  have HFB : Hid (Blk w1 w.heap.size #[.string f.name, .string f.data, .int .i64 f.synced] 59) := (Blk.later (Blk.later (g := w.heap.size) (heap_alloc_new w (.cells #[.string f.name, .string f.data, .int .i64 f.synced] 59)) (Below.refl _ _)) (bnew _ _)).later hb1
  have HO1 : Hid (w1.ownsRow (w.heap.size + 1) 59 3 (.slice (some ⟨w.heap.size + 1, 0, none⟩) 0 0) 0 []) := by
    have h := Blk.later (w := (w.alloc (.cells #[.string f.name, .string f.data, .int .i64 f.synced] 59)).alloc (.cells #[] 59)) (g := (w.alloc (.cells #[.string f.name, .string f.data, .int .i64 f.synced] 59)).heap.size) (heap_alloc_new _ _) hb1
    refine ⟨rfl, Or.inr ⟨w.heap.size + 1, 0, #[], rfl, Nat.le_refl _, ?_, Nat.le_refl _, Nat.zero_le _, rfl, rfl⟩⟩
    show Blk w1 (w.heap.size + 1) #[] 59
    simpa using h
  have HAP : Hid (∀ b o, a1 = some ⟨b, o, none⟩ → w.heap.size + 1 + 1 ≤ b ∧ b < w1.heap.size) := fun b o e => by
    have h1 := (row_from2 hrow1) b (by rw [e]; rfl)
    have h2 := (row_block_lt hrow1) b (by rw [e]; rfl)
    simp at h1
    exact ⟨h1, h2⟩
  have HFI : Hid (FilesIn w1 a1 es) := hown1.files
  clear hrow1 hown1 hb1
  go_wp2
  go_loopw [5, 6, 8, 15] (fun o p _ i wr => ∃ (j : Nat) (av : Option Addr) (n cv : Nat), j ≤ es.length ∧ i = .int .i64 j ∧ o = .slice av n cv ∧ p = .bool (placedB es f j) ∧ n = (partL es f j).length ∧ wr.ownsRow (w.heap.size + 1) 59 3 (.slice av n cv) n (flat (partL es f j)) ∧
      (∀ b o, a1 = some ⟨b, o, none⟩ → some b ≠ (Value.slice av n cv).ownBlock) ∧ w1.heap.size ≤ wr.heap.size ∧ FilesIn wr a1 es ∧ Blk wr w.heap.size #[.string f.name, .string f.data, .int .i64 f.synced] 59 ∧ Below w.heap.size w wr) (fun _ _ _ i _ => es.length - (intOf i).toNat)
  case atStart => exact ⟨0, _, 0, 0, Nat.zero_le _, rfl, rfl, rfl, rfl, HO1.out, fun b o e h => by have := HAP.out b o e; simp [Value.ownBlock] at h; omega, Nat.le_refl _, HFI.out, HFB.out, HB1.out⟩
  case round =>
    obtain ⟨j, av, n, cv, hj, rfl, rfl, rfl, hn, hrow, hap, hsz, hfi, hfb, hbel⟩ := hrel
    have H1 : Hid (wr.ownsRow (w.heap.size + 1) 59 3 (.slice av n cv) n (flat (partL es f j))) := hrow
    have HN : Hid (n = (partL es f j).length) := hn
    have hn2 : n ≤ 1048577 := by have := part_length es f j; omega
    have HA2 : Hid (∀ b o, a1 = some ⟨b, o, none⟩ → some b ≠ (Value.slice av n cv).ownBlock) := hap
    have HF2 : Hid (FilesIn wr a1 es) := hfi
    have HB2 : Hid (Blk wr w.heap.size #[.string f.name, .string f.data, .int .i64 f.synced] 59) := hfb
    have hwl : w.heap.size < wr.heap.size := lt_of_block hfb
    have x0 := hfb.cell 0
    have x1 := hfb.cell 1
    have x2 := hfb.cell 2
    simp only [List.getElem?_toArray, List.getElem?_cons_zero, List.getElem?_cons_succ] at x0 x1 x2
    have hnw : ¬ w.heap.size = wr.heap.size := by omega
    have hBw : w.heap.size + 1 ≤ wr.heap.size := by omega
    clear hrow hn hap hfi hfb HO1 HFI HFB HB1
    by_cases hlt : j < es.length
    · obtain ⟨b, o, e1, hb, c0, c1, c2⟩ := HF2.out.at hlt
      have hnb : ¬ b = wr.heap.size := by omega
      have HAb : Hid (some b ≠ (Value.slice av n cv).ownBlock ∧ b < w1.heap.size) := ⟨HA2.out b o e1, (HAP.out b o e1).2⟩
      subst e1
      have HW : Hid (∀ x, Below wr.heap.size wr ((wr.alloc (.cells #[.string es[j].name, .string es[j].data, .int .i64 es[j].synced] 59)).alloc x)) := fun x => bto (bnew _ _) (bnew _ _)
      by_cases hp : placedB es f j = true
      · have HT : Hid (partL es f (j + 1) = partL es f j ++ [es[j]]) := part_placed hlt hp
        have HP : Hid (placedB es f (j + 1) = true) := by show _ = _; rw [placedB_succ hlt, hp]; rfl
        go_wp2_with (at_builtin; refine wpList_append_lies _ rfl _ _ _ rfl (w.heap.size + 1) 59 ti _ 3 40 Tryz.underlying26 HI.out hz0 hz1 hz2 rfl (by omega) (.slice av n cv) n (flat (partL es f j)) rfl (by exact row_later H1.out (HW.out _)) ⟨wr.heap.size + 1, 0, none⟩ 1 1 [.string es[j].name, .string es[j].data, .int .i64 es[j].synced] rfl rfl (by exact news_two _ _ #[.string es[j].name, .string es[j].data, .int .i64 es[j].synced] _) (by simp [Value.oneCell']) (by omega) (by simp [maxLen]; omega) (by omega) (by simp; omega) (wr.heap.size + 1 + 1) (by simp) ?_; intro g5 cap5 w5 hown5 hgrow5 hat5 hlt5)
        refine ⟨⟨j + 1, _, n + 1, _, by omega, by go_num, rfl, by rw [HP.out], by rw [HT.out, List.length_append, ← HN.out]; rfl, ?_, ?_, ?_, ?_, ?_, ?_⟩, by simp [intOf]; omega⟩
        · rw [HT.out, flat_append, flat_one]
          exact hown5
        · intro b' o' e h
          simp only [Option.some.injEq, Addr.mk.injEq, and_true] at e
          obtain ⟨rfl, rfl⟩ := e
          simp only [Value.ownBlock, Option.some.injEq] at h
          rcases hat5 with h5 | h5
          · exact HAb.out.1 (by rw [h5, h])
          · omega
        · have := hgrow5.size; simp at this; omega
        · exact files_grown hgrow5 (HF2.out.later (HW.out _)) HA2.out
        · exact blk_grown HB2.out (HW.out _) hgrow5 (row_ne H1.out (by omega))
        · exact (grown_below (row_later H1.out (HW.out _)) ((Below.refl _ _).mono (Nat.le_refl _)) (by simp; omega) hgrow5 |>.mono (by omega)) |> (bto hbel (HW.out _)).trans
      · have hp' : placedB es f j = false := by simpa using hp
        by_cases hl : Op.bytesLess f.name.toList es[j].name.toList = true
        · have hg1 : Op.bytesLess es[j].name.toList f.name.toList = false := less_asymm hl
          have hg2 : (es[j].name.toList == f.name.toList) = false := by
            rw [beq_eq_false_iff_ne]; intro e; rw [e, less_irrefl] at hl; exact absurd hl (by simp)
          have HT : Hid (partL es f (j + 1) = partL es f j ++ [f] ++ [es[j]]) := part_now hlt hp' hl
          have HP : Hid (placedB es f (j + 1) = true) := by show _ = _; rw [placedB_succ hlt, hl]; simp
          have HGB : Hid (Blk (wr.alloc (.cells #[.string es[j].name, .string es[j].data, .int .i64 es[j].synced] 59)) wr.heap.size #[.string es[j].name, .string es[j].data, .int .i64 es[j].synced] 59) := heap_alloc_new _ _
          have HK0 : Hid (∀ x w', ((wr.alloc (.cells #[.string es[j].name, .string es[j].data, .int .i64 es[j].synced] 59)).alloc x).grownBy w' (Value.slice av n cv).ownBlock → w'.cell? ⟨wr.heap.size, 0, none⟩ = some (.string es[j].name) ∧ w'.cell? ⟨wr.heap.size, 1, none⟩ = some (.string es[j].data) ∧ w'.cell? ⟨wr.heap.size, 2, none⟩ = some (.int .i64 es[j].synced)) := fun x w' hg => by
            have h1 : Blk w' wr.heap.size #[.string es[j].name, .string es[j].data, .int .i64 es[j].synced] 59 := blk_grown HGB.out (bnew _ _) hg (fun e => absurd (row_block_lt H1.out _ e.symm) (by omega))
            exact ⟨by rw [h1.cell]; rfl, by rw [h1.cell]; rfl, by rw [h1.cell]; rfl⟩
          clear hp
          go_wp2_with (first
            | (at_builtin; refine wpList_append_lies _ rfl _ _ _ rfl (w.heap.size + 1) 59 ti _ 3 40 Tryz.underlying26 HI.out hz0 hz1 hz2 rfl (by omega) (.slice av n cv) n (flat (partL es f j)) rfl (by exact row_later H1.out (HW.out _)) ⟨wr.heap.size + 1, 0, none⟩ 1 1 [.string f.name, .string f.data, .int .i64 f.synced] rfl rfl (by exact news_two _ _ #[.string f.name, .string f.data, .int .i64 f.synced] _) (by simp [Value.oneCell']) (by omega) (by simp [maxLen]; omega) (by omega) (by simp; omega) (wr.heap.size + 1 + 1) (by simp) ?_; intro g5 cap5 w5 hown5 hgrow5 hat5 hlt5; obtain ⟨y0, y1, y2⟩ := HK0.out _ _ hgrow5; have hg5 := hgrow5.size)
            | (at_builtin; refine wpList_append_lies _ rfl _ _ _ rfl (w.heap.size + 1) 59 ti _ 3 40 Tryz.underlying26 HI.out hz0 hz1 hz2 rfl (by omega) (.slice (some ⟨g5, 0, none⟩) (n + 1) cap5) (n + 1) (flat (partL es f j) ++ [.string f.name, .string f.data, .int .i64 f.synced]) rfl (by exact row_later hown5 (bnew _ _)) ⟨w5.heap.size, 0, none⟩ 1 1 [.string es[j].name, .string es[j].data, .int .i64 es[j].synced] rfl rfl (by exact World.news_of_block (fr := (0, 0)) (heap_alloc_new _ _)) (by simp [Value.oneCell']) (by omega) (by simp [maxLen]; omega) (by omega) (by simp at hg5 ⊢; omega) (w5.heap.size + 1) (by simp) ?_; intro g6 cap6 w6 hown6 hgrow6 hat6 hlt6))
          have hg5' : wr.heap.size + 1 + 1 ≤ w5.heap.size := by have := hgrow5.size; simp at this; omega
          have hap5 : ∀ b' o', some (⟨b, o, none⟩ : Addr) = some ⟨b', o', none⟩ → some b' ≠ (Value.slice (some ⟨g5, 0, none⟩) (n + 1) cap5).ownBlock := by
            intro b' o' e h
            simp only [Option.some.injEq, Addr.mk.injEq, and_true] at e
            obtain ⟨rfl, rfl⟩ := e
            simp only [Value.ownBlock, Option.some.injEq] at h
            rcases hat5 with h5 | h5
            · exact HAb.out.1 (by rw [h5, h])
            · omega
          have hf5 : FilesIn w5 (some ⟨b, o, none⟩) es := files_grown hgrow5 (HF2.out.later (HW.out _)) HA2.out
          have hb5 : Blk w5 w.heap.size #[.string f.name, .string f.data, .int .i64 f.synced] 59 := blk_grown HB2.out (HW.out _) hgrow5 (row_ne H1.out (by omega))
          have hl5 : Below w.heap.size w w5 := (bto hbel (HW.out _)).trans ((grown_below (row_later H1.out (HW.out _)) (Below.refl _ _) (by simp; omega) hgrow5).mono (by omega))
          refine ⟨⟨j + 1, _, n + 1 + 1, _, by omega, by go_num, rfl, by rw [HP.out], by rw [HT.out, List.length_append, List.length_append, ← HN.out]; rfl, ?_, ?_, ?_, ?_, ?_, ?_⟩, by simp [intOf]; omega⟩
          · rw [HT.out, flat_append, flat_append, flat_one, flat_one]
            exact hown6
          · intro b' o' e h
            have hx := hap5 b' o' e
            simp only [Option.some.injEq, Addr.mk.injEq, and_true] at e
            obtain ⟨rfl, rfl⟩ := e
            simp only [Value.ownBlock, Option.some.injEq] at h
            rcases hat6 with h6 | h6
            · exact hx (by rw [h6, h])
            · omega
          · have := hgrow6.size; simp at this; omega
          · exact files_grown hgrow6 (hf5.later (bnew _ _)) hap5
          · exact blk_grown hb5 (bnew _ _) hgrow6 (row_ne hown5 (by omega))
          · exact (bto hl5 (bnew _ _)).trans ((grown_below (row_later hown5 (bnew _ _)) (Below.refl _ _) (by simp; omega) hgrow6).mono (by omega))
        · have hl' : Op.bytesLess f.name.toList es[j].name.toList = false := by simpa using hl
          have HT : Hid (partL es f (j + 1) = partL es f j ++ [es[j]]) := part_not hlt hp' hl'
          have HP : Hid (placedB es f (j + 1) = false) := by show _ = _; rw [placedB_succ hlt, hp', hl']; rfl
          clear hp hl
          have hgt : Op.bytesLess es[j].name.toList f.name.toList = true ∨ (es[j].name.toList == f.name.toList) = true := by
            by_cases e : es[j].name.toList = f.name.toList
            · right; simpa using e
            · left; exact less_total _ _ hl' (Ne.symm e)
          rcases hgt with hg | hg
          · go_wp2_with (at_builtin; refine wpList_append_lies _ rfl _ _ _ rfl (w.heap.size + 1) 59 ti _ 3 40 Tryz.underlying26 HI.out hz0 hz1 hz2 rfl (by omega) (.slice av n cv) n (flat (partL es f j)) rfl (by exact row_later H1.out (HW.out _)) ⟨wr.heap.size + 1, 0, none⟩ 1 1 [.string es[j].name, .string es[j].data, .int .i64 es[j].synced] rfl rfl (by exact news_two _ _ #[.string es[j].name, .string es[j].data, .int .i64 es[j].synced] _) (by simp [Value.oneCell']) (by omega) (by simp [maxLen]; omega) (by omega) (by simp; omega) (wr.heap.size + 1 + 1) (by simp) ?_; intro g5 cap5 w5 hown5 hgrow5 hat5 hlt5)
            refine ⟨⟨j + 1, _, n + 1, _, by omega, by go_num, rfl, by rw [HP.out], by rw [HT.out, List.length_append, ← HN.out]; rfl, ?_, ?_, ?_, ?_, ?_, ?_⟩, by simp [intOf]; omega⟩
            · rw [HT.out, flat_append, flat_one]
              exact hown5
            · intro b' o' e h
              simp only [Option.some.injEq, Addr.mk.injEq, and_true] at e
              obtain ⟨rfl, rfl⟩ := e
              simp only [Value.ownBlock, Option.some.injEq] at h
              rcases hat5 with h5 | h5
              · exact HAb.out.1 (by rw [h5, h])
              · omega
            · have := hgrow5.size; simp at this; omega
            · exact files_grown hgrow5 (HF2.out.later (HW.out _)) HA2.out
            · exact blk_grown HB2.out (HW.out _) hgrow5 (row_ne H1.out (by omega))
            · exact (grown_below (row_later H1.out (HW.out _)) ((Below.refl _ _).mono (Nat.le_refl _)) (by simp; omega) hgrow5 |>.mono (by omega)) |> (bto hbel (HW.out _)).trans
          · go_wp2_with (at_builtin; refine wpList_append_lies _ rfl _ _ _ rfl (w.heap.size + 1) 59 ti _ 3 40 Tryz.underlying26 HI.out hz0 hz1 hz2 rfl (by omega) (.slice av n cv) n (flat (partL es f j)) rfl (by exact row_later H1.out (HW.out _)) ⟨wr.heap.size + 1, 0, none⟩ 1 1 [.string es[j].name, .string es[j].data, .int .i64 es[j].synced] rfl rfl (by exact news_two _ _ #[.string es[j].name, .string es[j].data, .int .i64 es[j].synced] _) (by simp [Value.oneCell']) (by omega) (by simp [maxLen]; omega) (by omega) (by simp; omega) (wr.heap.size + 1 + 1) (by simp) ?_; intro g5 cap5 w5 hown5 hgrow5 hat5 hlt5)
            refine ⟨⟨j + 1, _, n + 1, _, by omega, by go_num, rfl, by rw [HP.out], by rw [HT.out, List.length_append, ← HN.out]; rfl, ?_, ?_, ?_, ?_, ?_, ?_⟩, by simp [intOf]; omega⟩
            · rw [HT.out, flat_append, flat_one]
              exact hown5
            · intro b' o' e h
              simp only [Option.some.injEq, Addr.mk.injEq, and_true] at e
              obtain ⟨rfl, rfl⟩ := e
              simp only [Value.ownBlock, Option.some.injEq] at h
              rcases hat5 with h5 | h5
              · exact HAb.out.1 (by rw [h5, h])
              · omega
            · have := hgrow5.size; simp at this; omega
            · exact files_grown hgrow5 (HF2.out.later (HW.out _)) HA2.out
            · exact blk_grown HB2.out (HW.out _) hgrow5 (row_ne H1.out (by omega))
            · exact (grown_below (row_later H1.out (HW.out _)) ((Below.refl _ _).mono (Nat.le_refl _)) (by simp; omega) hgrow5 |>.mono (by omega)) |> (bto hbel (HW.out _)).trans
    · have HEJ : Hid (j = es.length) := by show _ = _; omega
      by_cases hp : placedB es f j = true
      · have HE : Hid (withL fs f = partL es f j) := by show _ = _; rw [HWE.out, HEJ.out]; exact part_all (by rw [← HEJ.out]; exact hp)
        go_wp2
        go_ret
        rw [HE.out]
        have h := H1.out
        have hn := HN.out
        subst hn
        exact ⟨_, rfl, row_mono (B' := w.heap.size) h (by omega), hbel⟩
      · have hp' : placedB es f j = false := by simpa using hp
        have HE : Hid (withL fs f = partL es f j ++ [f]) := by show _ = _; rw [HWE.out, HEJ.out]; exact part_end (by rw [← HEJ.out]; exact hp')
        clear hp
        go_wp2_with (at_builtin; refine wpList_append_lies _ rfl _ _ _ rfl (w.heap.size + 1) 59 ti _ 3 40 Tryz.underlying26 HI.out hz0 hz1 hz2 rfl (by omega) (.slice av n cv) n (flat (partL es f j)) rfl (by exact row_later H1.out (bnew _ _)) ⟨wr.heap.size, 0, none⟩ 1 1 [.string f.name, .string f.data, .int .i64 f.synced] rfl rfl (by exact World.news_of_block (fr := (0, 0)) (heap_alloc_new _ _)) (by simp [Value.oneCell']) (by omega) (by simp [maxLen]; omega) (by omega) (by simp; omega) (wr.heap.size + 1) (by simp) ?_; intro g5 cap5 w5 hown5 hgrow5 hat5 hlt5)
        go_ret
        rw [HE.out]
        have hn : (partL es f j ++ [f]).length = n + 1 := by rw [List.length_append, ← HN.out]; rfl
        rw [hn, flat_append, flat_one]
        exact ⟨_, rfl, row_mono (B' := w.heap.size) hown5 (by omega), (bto hbel (bnew _ _)).trans ((grown_below (row_later H1.out (bnew _ _)) (Below.refl _ _) (by simp; omega) hgrow5).mono (by omega))⟩
end Go.Proofs.YtflfopienjjlbaaGreatDoor

