import Derived.Test.YtboofidegpnkaaaProg
import Derived.Test.YtboofidegpnkaaaJ07Errs
import Derived.Test.YtboofidegpnkaaaJ06Cells
import Derived.Deep.AppendLies
namespace Go.Proofs.Ytboofidegpnkaaa
open Go.RowKit

theorem row_ne {w : World} {B : Nat} {e : TypeId} {size : Nat} {v : Value} {n : Nat} {xs : List Value} (h : w.ownsRow B e size v n xs) {g : Nat} (hg : g < B) : some g ≠ v.ownBlock := fun e1 => by
  rcases h.2 with ⟨rfl, _⟩ | ⟨g', cap, cur, rfl, hB, _⟩
  · simp [Value.ownBlock] at e1
  · simp [Value.ownBlock] at e1; omega

theorem grown_below {W w w' : World} {B : Nat} {e : TypeId} {size : Nat} {v : Value} {n : Nat} {xs : List Value} (h : w.ownsRow B e size v n xs) (hb : Below B W w) (hBw : B ≤ w.heap.size) (hg : w.grownBy w' v.ownBlock) : Below B W w' :=
  hb.trans ((Keeps.grown (S := fun k => v.ownBlock = some k) hg (fun _ h => h)).below (fun g hg => by
    rcases h.2 with ⟨rfl, _⟩ | ⟨g', cap, cur, rfl, hB, _⟩
    · simp [Value.ownBlock] at hg
    · simp [Value.ownBlock] at hg; omega) hBw)

theorem news_two (W : World) (x : Obj) (cs : Array Value) (t : TypeId) : ∀ j u, cs.toList[j]? = some u → ((W.alloc x).alloc (.cells cs t)).cell? ((⟨W.heap.size + 1, 0, none⟩ : Addr).add j) = some u :=
  World.news_of_block (fr := (0, 0)) (by have h := heap_alloc_new (W.alloc x) (.cells cs t); simpa using h)

theorem without_snoc (l : List FileD) (f : FileD) (t : ByteArray) : withoutL (l ++ [f]) t = withoutL l t ++ (if (f.name.toList == t.toList) = true then [] else [f]) := by
  unfold withoutL
  rw [List.filter_append]
  by_cases h : (f.name.toList == t.toList) = true
  · rw [if_pos h]; simp only [List.filter_cons, h]; rfl
  · rw [if_neg h]
    have h' : (f.name.toList == t.toList) = false := by simpa using h
    simp only [List.filter_cons, h']; rfl

theorem without_length (l : List FileD) (t : ByteArray) : (withoutL l t).length ≤ l.length := List.length_filter_le _ _

set_option maxRecDepth 100000 in
set_option maxHeartbeats 2000000 in
theorem l1Without_any (a : Option Addr) (cap : Nat) (fs : List FileD) (t : ByteArray) (w : World) (hf : FilesIn w a fs) (hlen : fs.length ≤ 1048576) :
    Calls Try.prog 32 #[.slice a fs.length cap, .string t] w fun e w' => ∃ v, e = .returned v ∧ w'.ownsRow w.heap.size 61 3 v (withoutL fs t).length (flat (withoutL fs t)) ∧ Below w.heap.size w w' := by
  have HF : Hid (FilesIn w a fs) := hf
  clear hf
  obtain ⟨ti, hti, hz0, hz1, hz2⟩ := info_filex
  have HI : Hid (Try.prog.info? 61 = some ti) := hti
  clear hti
  go_enter Try.func32, Try.ntmps32
  go_wp2
  go_loopw [5, 7, 11] (fun o _ i wr => ∃ (j : Nat) (av : Option Addr) (n cv : Nat), j ≤ fs.length ∧ i = .int .i64 j ∧ o = .slice av n cv ∧ n = (withoutL (fs.take j) t).length ∧ wr.ownsRow w.heap.size 61 3 (.slice av n cv) n (flat (withoutL (fs.take j) t)) ∧ Below w.heap.size w wr) (fun _ _ i _ => fs.length - (intOf i).toNat)
  case atStart => exact ⟨0, _, 0, 0, Nat.zero_le _, rfl, rfl, rfl, ⟨rfl, Or.inr ⟨w.heap.size, 0, #[], rfl, Nat.le_refl _, heap_alloc_new _ _, Nat.le_refl _, Nat.zero_le _, rfl, rfl⟩⟩, bnew _ _⟩
  case round =>
    obtain ⟨j, av, n, cv, hj, rfl, rfl, hn, hrow, hbel⟩ := hrel
    have H1 : Hid (wr.ownsRow w.heap.size 61 3 (.slice av n cv) n (flat (withoutL (fs.take j) t))) := hrow
    have HN : Hid (n = (withoutL (fs.take j) t).length) := hn
    have hn2 : n ≤ 1048576 := by have := without_length (fs.take j) t; rw [List.length_take] at this; omega
    clear hrow hn
    by_cases hlt : j < fs.length
    · obtain ⟨b, o, rfl, hb, c0, c1, c2⟩ := (HF.out.later hbel).at hlt
      have hnb : ¬ b = wr.heap.size := by omega
      have HT : Hid (withoutL (fs.take (j + 1)) t = withoutL (fs.take j) t ++ (if (fs[j].name.toList == t.toList) = true then [] else [fs[j]])) := by
        show _ = _
        rw [List.take_succ_eq_append_getElem hlt, without_snoc]
      by_cases he : (fs[j].name.toList == t.toList) = true
      · have HT2 : Hid (withoutL (fs.take (j + 1)) t = withoutL (fs.take j) t) := by show _ = _; rw [HT.out, if_pos he]; simp
        go_wp2
        exact ⟨⟨j + 1, av, n, cv, by omega, by go_num, rfl, by rw [HT2.out]; exact HN.out, by rw [HT2.out]; exact row_later H1.out (bnew _ _), bto hbel (bnew _ _)⟩, by simp [intOf]; omega⟩
      · have he' : (fs[j].name.toList == t.toList) = false := by simpa using he
        have HT2 : Hid (withoutL (fs.take (j + 1)) t = withoutL (fs.take j) t ++ [fs[j]]) := by show _ = _; rw [HT.out, if_neg he]
        have HW : Hid (Below wr.heap.size wr ((wr.alloc (.cells #[.string fs[j].name, .string fs[j].data, .int .i64 fs[j].synced] 61)).alloc (.cells #[.string fs[j].name, .string fs[j].data, .int .i64 fs[j].synced] 61))) := bto (bnew _ _) (bnew _ _)
        clear he HT
        go_wp2_with (at_builtin; refine wpList_append_lies _ rfl _ _ _ rfl w.heap.size 61 ti _ 3 40 Try.underlying29 HI.out hz0 hz1 hz2 rfl (by omega) (.slice av n cv) n (flat (withoutL (fs.take j) t)) rfl (by exact row_later H1.out HW.out) ⟨wr.heap.size + 1, 0, none⟩ 1 1 [.string fs[j].name, .string fs[j].data, .int .i64 fs[j].synced] rfl rfl (by exact news_two _ _ #[.string fs[j].name, .string fs[j].data, .int .i64 fs[j].synced] _) (by simp [Value.oneCell']) (by omega) (by simp [maxLen]; omega) (by omega) (by have := hbel.size; simp; omega) (wr.heap.size + 1 + 1) (by simp) ?_; intro g5 cap5 w5 hown5 hgrow5 hat5 hlt5)
        refine ⟨⟨j + 1, _, n + 1, _, by omega, by go_num, rfl, by rw [HT2.out, List.length_append, ← HN.out]; rfl, ?_, ?_⟩, by simp [intOf]; omega⟩
        · rw [HT2.out, flat_append, flat_one]
          exact hown5
        · exact grown_below (row_later H1.out HW.out) (bto hbel HW.out) (by have := hbel.size; simp; omega) hgrow5
    · go_wp2
      go_ret
      have ej : j = fs.length := by omega
      have h := H1.out
      have hn := HN.out
      rw [ej, List.take_length] at h hn
      subst hn
      exact ⟨_, rfl, h, hbel⟩

theorem place_snoc_placed : ∀ {l : List FileD} {f : FileD} (r : List FileD), (l.any fun g => Op.bytesLess f.name.toList g.name.toList) = true → placeL (l ++ r) f = placeL l f ++ r
  | [], _, _, h => by simp at h
  | g :: l, f, r, h => by
    show placeL (g :: (l ++ r)) f = _
    unfold placeL
    by_cases hl : Op.bytesLess f.name.toList g.name.toList = true
    · rw [if_pos hl, if_pos hl]; rfl
    · rw [if_neg hl, if_neg hl, place_snoc_placed r (by simpa [hl] using h)]; rfl

theorem place_snoc_none : ∀ {l : List FileD} {f : FileD} (r : List FileD), (l.any fun g => Op.bytesLess f.name.toList g.name.toList) = false → placeL (l ++ r) f = l ++ placeL r f
  | [], _, _, _ => rfl
  | g :: l, f, r, h => by
    simp only [List.any_cons, Bool.or_eq_false_iff] at h
    show placeL (g :: (l ++ r)) f = _
    rw [placeL, if_neg (by rw [h.1]; simp), place_snoc_none r h.2]; rfl

/-- How far l1With has come: whether f is placed, and the files so far. -/
def placedB (es : List FileD) (f : FileD) (j : Nat) : Bool := (es.take j).any fun g => Op.bytesLess f.name.toList g.name.toList
def partL (es : List FileD) (f : FileD) (j : Nat) : List FileD := if placedB es f j = true then placeL (es.take j) f else es.take j

theorem placedB_succ {es : List FileD} {f : FileD} {j : Nat} (h : j < es.length) : placedB es f (j + 1) = (placedB es f j || Op.bytesLess f.name.toList es[j].name.toList) := by
  unfold placedB
  rw [List.take_succ_eq_append_getElem h, List.any_append]
  simp only [List.any_cons, List.any_nil, Bool.or_false]

theorem part_placed {es : List FileD} {f : FileD} {j : Nat} (h : j < es.length) (hp : placedB es f j = true) : partL es f (j + 1) = partL es f j ++ [es[j]] := by
  unfold partL
  rw [if_pos hp, if_pos (by rw [placedB_succ h, hp]; rfl), List.take_succ_eq_append_getElem h]
  exact place_snoc_placed _ hp

theorem part_now {es : List FileD} {f : FileD} {j : Nat} (h : j < es.length) (hp : placedB es f j = false) (hl : Op.bytesLess f.name.toList es[j].name.toList = true) : partL es f (j + 1) = partL es f j ++ [f] ++ [es[j]] := by
  have e1 : placedB es f (j + 1) = true := by rw [placedB_succ h, hl]; simp
  have e2 : partL es f (j + 1) = placeL (es.take (j + 1)) f := if_pos e1
  have e3 : partL es f j = es.take j := if_neg (by rw [hp]; simp)
  rw [e2, e3, List.take_succ_eq_append_getElem h, place_snoc_none _ hp]
  simp [placeL, hl]

theorem part_not {es : List FileD} {f : FileD} {j : Nat} (h : j < es.length) (hp : placedB es f j = false) (hl : Op.bytesLess f.name.toList es[j].name.toList = false) : partL es f (j + 1) = partL es f j ++ [es[j]] := by
  have e1 : placedB es f (j + 1) = false := by rw [placedB_succ h, hp, hl]; rfl
  have e2 : partL es f (j + 1) = es.take (j + 1) := if_neg (by rw [e1]; simp)
  have e3 : partL es f j = es.take j := if_neg (by rw [hp]; simp)
  rw [e2, e3, List.take_succ_eq_append_getElem h]

theorem part_end {es : List FileD} {f : FileD} (hp : placedB es f es.length = false) : placeL es f = partL es f es.length ++ [f] := by
  unfold partL
  rw [if_neg (by rw [hp]; simp)]
  unfold placedB at hp
  rw [List.take_length] at hp ⊢
  have := place_snoc_none (f := f) [] hp
  rw [List.append_nil] at this
  rw [this]; rfl

theorem part_all {es : List FileD} {f : FileD} (hp : placedB es f es.length = true) : placeL es f = partL es f es.length := by
  unfold partL
  rw [if_pos hp, List.take_length]

theorem part_length (es : List FileD) (f : FileD) (j : Nat) : (partL es f j).length ≤ j + 1 := by
  have hpl : ∀ (l : List FileD), (placeL l f).length = l.length + 1 := fun l => by
    induction l with
    | nil => rfl
    | cons g r ih => unfold placeL; split <;> simp [ih]
  unfold partL
  split
  · rw [hpl, List.length_take]; omega
  · rw [List.length_take]; omega
end Go.Proofs.Ytboofidegpnkaaa

