import Derived.Test.YtboofidegpnkaaaGreatDoorProg
import Derived.Test.YtboofidegpnkaaaGreatDoorJ06Pos
import Derived.Test.YtboofidegpnkaaaGreatDoorJ05Cells
import Derived.Deep.AppendLies
namespace Go.Proofs.YtboofidegpnkaaaGreatDoor
open Go.RowKit
theorem row_ne {w : World} {B : Nat} {e : TypeId} {size : Nat} {v : Value} {n : Nat} {xs : List Value} (h : w.ownsRow B e size v n xs) {g : Nat} (hg : g < B) : some g ≠ v.ownBlock := fun e1 => by
  rcases h.2 with ⟨rfl, _⟩ | ⟨g', cap, cur, rfl, hB, _⟩
  · simp [Value.ownBlock] at e1
  · simp [Value.ownBlock] at e1; omega
theorem grown_below {W w w' : World} {B : Nat} {e : TypeId} {size : Nat} {v : Value} {n : Nat} {xs : List Value} (h : w.ownsRow B e size v n xs) (hb : Below B W w) (hBw : B ≤ w.heap.size) (hg : w.grownBy w' v.ownBlock) : Below B W w' :=
  hb.trans ((Keeps.grown (S := fun k => v.ownBlock = some k) hg (fun _ h => h)).below (fun g hg => by
    rcases h.2 with ⟨rfl, _⟩ | ⟨g', cap, cur, rfl, hB, _⟩
    · simp [Value.ownBlock] at hg
    · simp [Value.ownBlock] at hg; omega) hBw)
theorem news_two (W : World) (x : Obj) (cs : Array Value) (t : TypeId) : ∀ j u, cs.toList[j]? = some u → ((W.alloc x).alloc (.cells cs t)).cell? ((⟨W.heap.size + 1, 0, none⟩ : Addr).add j) = some u :=
  World.news_of_block (fr := (0, 0)) (by have h := heap_alloc_new (W.alloc x) (.cells cs t); simpa using h)
theorem without_snoc (l : List FileD) (f : FileD) (t : ByteArray) : withoutL (l ++ [f]) t = withoutL l t ++ (if (f.name.toList == t.toList) = true then [] else [f]) := by
  unfold withoutL
  rw [List.filter_append]
  by_cases h : (f.name.toList == t.toList) = true
  · rw [if_pos h]; simp only [List.filter_cons, h]; rfl
  · rw [if_neg h]
    have h' : (f.name.toList == t.toList) = false := by simpa using h
    simp only [List.filter_cons, h']; rfl
theorem without_length (l : List FileD) (t : ByteArray) : (withoutL l t).length ≤ l.length := List.length_filter_le _ _
set_option maxRecDepth 100000 in
set_option maxHeartbeats 2000000 in
theorem l1Without_any (a : Option Addr) (cap : Nat) (fs : List FileD) (t : ByteArray) (w : World) (hf : FilesIn w a fs) (hlen : fs.length ≤ 1048576) :
    Calls Tryz.prog 55 #[.slice a fs.length cap, .string t] w fun e w' => ∃ v, e = .returned v ∧ w'.ownsRow w.heap.size 71 3 v (withoutL fs t).length (flat (withoutL fs t)) ∧ Below w.heap.size w w' := by
  have HF : Hid (FilesIn w a fs) := hf
  clear hf
  obtain ⟨ti, hti, hz0, hz1, hz2⟩ := info_filex
  have HI : Hid (Tryz.prog.info? 71 = some ti) := hti
  clear hti
  go_enter Tryz.func55, Tryz.ntmps55
  go_wp2
  go_loopw [5, 7, 11] (fun o _ i wr => ∃ (j : Nat) (av : Option Addr) (n cv : Nat), j ≤ fs.length ∧ i = .int .i64 j ∧ o = .slice av n cv ∧ n = (withoutL (fs.take j) t).length ∧ wr.ownsRow w.heap.size 71 3 (.slice av n cv) n (flat (withoutL (fs.take j) t)) ∧ Below w.heap.size w wr) (fun _ _ i _ => fs.length - (intOf i).toNat)
  case atStart => exact ⟨0, _, 0, 0, Nat.zero_le _, rfl, rfl, rfl, ⟨rfl, Or.inr ⟨w.heap.size, 0, #[], rfl, Nat.le_refl _, heap_alloc_new _ _, Nat.le_refl _, Nat.zero_le _, rfl, rfl⟩⟩, bnew _ _⟩
  case round =>
    obtain ⟨j, av, n, cv, hj, rfl, rfl, hn, hrow, hbel⟩ := hrel
    have H1 : Hid (wr.ownsRow w.heap.size 71 3 (.slice av n cv) n (flat (withoutL (fs.take j) t))) := hrow
    have HN : Hid (n = (withoutL (fs.take j) t).length) := hn
    have hn2 : n ≤ 1048576 := by have := without_length (fs.take j) t; rw [List.length_take] at this; omega
    clear hrow hn
    by_cases hlt : j < fs.length
    · obtain ⟨b, o, rfl, hb, c0, c1, c2⟩ := (HF.out.later hbel).at hlt
      have hnb : ¬ b = wr.heap.size := by omega
      have HT : Hid (withoutL (fs.take (j + 1)) t = withoutL (fs.take j) t ++ (if (fs[j].name.toList == t.toList) = true then [] else [fs[j]])) := by
        show _ = _
        rw [List.take_succ_eq_append_getElem hlt, without_snoc]
      by_cases he : (fs[j].name.toList == t.toList) = true
      · have HT2 : Hid (withoutL (fs.take (j + 1)) t = withoutL (fs.take j) t) := by show _ = _; rw [HT.out, if_pos he]; simp
        go_wp2
        exact ⟨⟨j + 1, av, n, cv, by omega, by go_num, rfl, by rw [HT2.out]; exact HN.out, by rw [HT2.out]; exact row_later H1.out (bnew _ _), bto hbel (bnew _ _)⟩, by simp [intOf]; omega⟩
      · have he' : (fs[j].name.toList == t.toList) = false := by simpa using he
        have HT2 : Hid (withoutL (fs.take (j + 1)) t = withoutL (fs.take j) t ++ [fs[j]]) := by show _ = _; rw [HT.out, if_neg he]
        have HW : Hid (Below wr.heap.size wr ((wr.alloc (.cells #[.string fs[j].name, .string fs[j].data, .int .i64 fs[j].synced] 71)).alloc (.cells #[.string fs[j].name, .string fs[j].data, .int .i64 fs[j].synced] 71))) := bto (bnew _ _) (bnew _ _)
        clear he HT
        go_wp2_with (at_builtin; refine wpList_append_lies _ rfl _ _ _ rfl w.heap.size 71 ti _ 3 40 Tryz.underlying28 HI.out hz0 hz1 hz2 rfl (by omega) (.slice av n cv) n (flat (withoutL (fs.take j) t)) rfl (by exact row_later H1.out HW.out) ⟨wr.heap.size + 1, 0, none⟩ 1 1 [.string fs[j].name, .string fs[j].data, .int .i64 fs[j].synced] rfl rfl (by exact news_two _ _ #[.string fs[j].name, .string fs[j].data, .int .i64 fs[j].synced] _) (by simp [Value.oneCell']) (by omega) (by simp [maxLen]; omega) (by omega) (by have := hbel.size; simp; omega) (wr.heap.size + 1 + 1) (by simp) ?_; intro g5 cap5 w5 hown5 hgrow5 hat5 hlt5)
        refine ⟨⟨j + 1, _, n + 1, _, by omega, by go_num, rfl, by rw [HT2.out, List.length_append, ← HN.out]; rfl, ?_, ?_⟩, by simp [intOf]; omega⟩
        · rw [HT2.out, flat_append, flat_one]
          exact hown5
        · exact grown_below (row_later H1.out HW.out) (bto hbel HW.out) (by have := hbel.size; simp; omega) hgrow5
    · go_wp2
      go_ret
      have ej : j = fs.length := by omega
      have h := H1.out
      have hn := HN.out
      rw [ej, List.take_length] at h hn
      subst hn
      exact ⟨_, rfl, h, hbel⟩
theorem place_snoc_placed : ∀ {l : List FileD} {f : FileD} (r : List FileD), (l.any fun g => Op.bytesLess f.name.toList g.name.toList) = true → placeL (l ++ r) f = placeL l f ++ r
  | [], _, _, h => by simp at h
  | g :: l, f, r, h => by
    show placeL (g :: (l ++ r)) f = _
    unfold placeL
    by_cases hl : Op.bytesLess f.name.toList g.name.toList = true
    · rw [if_pos hl, if_pos hl]; rfl
    · rw [if_neg hl, if_neg hl, place_snoc_placed r (by simpa [hl] using h)]; rfl
theorem place_snoc_none : ∀ {l : List FileD} {f : FileD} (r : List FileD), (l.any fun g => Op.bytesLess f.name.toList g.name.toList) = false → placeL (l ++ r) f = l ++ placeL r f
  | [], _, _, _ => rfl
  | g :: l, f, r, h => by
    simp only [List.any_cons, Bool.or_eq_false_iff] at h
    show placeL (g :: (l ++ r)) f = _
    rw [placeL, if_neg (by rw [h.1]; simp), place_snoc_none r h.2]; rfl
def placedB (es : List FileD) (f : FileD) (j : Nat) : Bool := (es.take j).any fun g => Op.bytesLess f.name.toList g.name.toList
def partL (es : List FileD) (f : FileD) (j : Nat) : List FileD := if placedB es f j = true then placeL (es.take j) f else es.take j
theorem placedB_succ {es : List FileD} {f : FileD} {j : Nat} (h : j < es.length) : placedB es f (j + 1) = (placedB es f j || Op.bytesLess f.name.toList es[j].name.toList) := by
  unfold placedB
  rw [List.take_succ_eq_append_getElem h, List.any_append]
  simp only [List.any_cons, List.any_nil, Bool.or_false]
theorem part_placed {es : List FileD} {f : FileD} {j : Nat} (h : j < es.length) (hp : placedB es f j = true) : partL es f (j + 1) = partL es f j ++ [es[j]] := by
  unfold partL
  rw [if_pos hp, if_pos (by rw [placedB_succ h, hp]; rfl), List.take_succ_eq_append_getElem h]
  exact place_snoc_placed _ hp
theorem part_now {es : List FileD} {f : FileD} {j : Nat} (h : j < es.length) (hp : placedB es f j = false) (hl : Op.bytesLess f.name.toList es[j].name.toList = true) : partL es f (j + 1) = partL es f j ++ [f] ++ [es[j]] := by
  have e1 : placedB es f (j + 1) = true := by rw [placedB_succ h, hl]; simp
  have e2 : partL es f (j + 1) = placeL (es.take (j + 1)) f := if_pos e1
  have e3 : partL es f j = es.take j := if_neg (by rw [hp]; simp)
  rw [e2, e3, List.take_succ_eq_append_getElem h, place_snoc_none _ hp]
  simp [placeL, hl]
theorem part_not {es : List FileD} {f : FileD} {j : Nat} (h : j < es.length) (hp : placedB es f j = false) (hl : Op.bytesLess f.name.toList es[j].name.toList = false) : partL es f (j + 1) = partL es f j ++ [es[j]] := by
  have e1 : placedB es f (j + 1) = false := by rw [placedB_succ h, hp, hl]; rfl
  have e2 : partL es f (j + 1) = es.take (j + 1) := if_neg (by rw [e1]; simp)
  have e3 : partL es f j = es.take j := if_neg (by rw [hp]; simp)
  rw [e2, e3, List.take_succ_eq_append_getElem h]
theorem part_end {es : List FileD} {f : FileD} (hp : placedB es f es.length = false) : placeL es f = partL es f es.length ++ [f] := by
  unfold partL
  rw [if_neg (by rw [hp]; simp)]
  unfold placedB at hp
  rw [List.take_length] at hp ⊢
  have := place_snoc_none (f := f) [] hp
  rw [List.append_nil] at this
  rw [this]; rfl
theorem part_all {es : List FileD} {f : FileD} (hp : placedB es f es.length = true) : placeL es f = partL es f es.length := by
  unfold partL
  rw [if_pos hp, List.take_length]
theorem part_length (es : List FileD) (f : FileD) (j : Nat) : (partL es f j).length ≤ j + 1 := by
  have hpl : ∀ (l : List FileD), (placeL l f).length = l.length + 1 := fun l => by
    induction l with
    | nil => rfl
    | cons g r ih => unfold placeL; split <;> simp [ih]
  unfold partL
  split
  · rw [hpl, List.length_take]; omega
  · rw [List.length_take]; omega
end Go.Proofs.YtboofidegpnkaaaGreatDoor
namespace Go.Proofs.YtboofidegpnkaaaGreatDoor
open Go.RowKit
theorem blk_grown {w w' w2 : World} {D : Nat} {cur : Array Value} {t : TypeId} {row : Option Nat} (h : Blk w D cur t) (hb : Below w.heap.size w w') (hg : w'.grownBy w2 row) (hne : some D ≠ row) : Blk w2 D cur t :=
  (hg.block D (lt_of_block (h.later hb)) hne).trans (h.later hb)
theorem row_from2 {w : World} {B : Nat} {e : TypeId} {size : Nat} {v : Value} {n : Nat} {xs : List Value} (h : w.ownsRow B e size v n xs) : ∀ g, v.ownBlock = some g → B ≤ g := by
  intro g hg
  rcases h.2 with ⟨rfl, _⟩ | ⟨g', cap, cur, rfl, hB, _⟩
  · simp [Value.ownBlock] at hg
  · simp [Value.ownBlock] at hg
    subst hg
    exact hB
theorem files_grown {w w' : World} {v : Value} {a : Option Addr} {es : List FileD} (hg : w.grownBy w' v.ownBlock) (hf : FilesIn w a es) (ha : ∀ b o, a = some ⟨b, o, none⟩ → some b ≠ v.ownBlock) : FilesIn w' a es := by
  rcases hf with hf | ⟨b, o, rfl, hlt, hf⟩
  · exact Or.inl hf
  · have hb := hg.block b hlt (ha b o rfl)
    have hk : ∀ j, w'.cell? ⟨b, j, none⟩ = w.cell? ⟨b, j, none⟩ := fun j => World.cell?_of_block hb
    exact Or.inr ⟨b, o, rfl, Nat.lt_of_lt_of_le hlt hg.size, fun i hi => by simp only [hk]; exact hf i hi⟩
set_option maxRecDepth 100000 in
set_option maxHeartbeats 4000000 in
theorem l1With_any (a : Option Addr) (cap : Nat) (fs : List FileD) (f : FileD) (w : World) (hf : FilesIn w a fs) (hlen : fs.length ≤ 1048576) :
    Calls Tryz.prog 54 #[.slice a fs.length cap, .agg #[.string f.name, .string f.data, .int .i64 f.synced]] w fun e w' => ∃ v, e = .returned v ∧ w'.ownsRow w.heap.size 71 3 v (withL fs f).length (flat (withL fs f)) ∧ Below w.heap.size w w' := by
  have HF : Hid (FilesIn w a fs) := hf
  clear hf
  obtain ⟨ti, hti, hz0, hz1, hz2⟩ := info_filex
  have HI : Hid (Tryz.prog.info? 71 = some ti) := hti
  clear hti
  go_enter Tryz.func54, Tryz.ntmps54
  go_wp2_with fail
  refine (l1Without_any a cap fs f.name _ ((HF.out.later (bnew _ _)).later (bnew _ _)) hlen).mono ?_
  rintro e w1 ⟨v1, rfl, hrow1, hb1⟩
  obtain ⟨a1, cap1, rfl, hown1⟩ := owned_of_row hrow1
  have hes : (withoutL fs f.name).length ≤ fs.length := without_length fs f.name
  have HWE : Hid (withL fs f = placeL (withoutL fs f.name) f) := rfl
  generalize withoutL fs f.name = es at *
  have HB1 : Hid (Below w.heap.size w w1) := bto (bto (bnew _ _) (bnew _ _)) hb1
  have HFB : Hid (Blk w1 w.heap.size #[.string f.name, .string f.data, .int .i64 f.synced] 71) := (Blk.later (Blk.later (g := w.heap.size) (heap_alloc_new w (.cells #[.string f.name, .string f.data, .int .i64 f.synced] 71)) (Below.refl _ _)) (bnew _ _)).later hb1
  have HO1 : Hid (w1.ownsRow (w.heap.size + 1) 71 3 (.slice (some ⟨w.heap.size + 1, 0, none⟩) 0 0) 0 []) := by
    have h := Blk.later (w := (w.alloc (.cells #[.string f.name, .string f.data, .int .i64 f.synced] 71)).alloc (.cells #[] 71)) (g := (w.alloc (.cells #[.string f.name, .string f.data, .int .i64 f.synced] 71)).heap.size) (heap_alloc_new _ _) hb1
    refine ⟨rfl, Or.inr ⟨w.heap.size + 1, 0, #[], rfl, Nat.le_refl _, ?_, Nat.le_refl _, Nat.zero_le _, rfl, rfl⟩⟩
    show Blk w1 (w.heap.size + 1) #[] 71
    simpa using h
  have HAP : Hid (∀ b o, a1 = some ⟨b, o, none⟩ → w.heap.size + 1 + 1 ≤ b ∧ b < w1.heap.size) := fun b o e => by
    have h1 := (row_from2 hrow1) b (by rw [e]; rfl)
    have h2 := (row_block_lt hrow1) b (by rw [e]; rfl)
    simp at h1
    exact ⟨h1, h2⟩
  have HFI : Hid (FilesIn w1 a1 es) := hown1.files
  clear hrow1 hown1 hb1
  go_wp2
  go_loopw [5, 6, 8, 15] (fun o p _ i wr => ∃ (j : Nat) (av : Option Addr) (n cv : Nat), j ≤ es.length ∧ i = .int .i64 j ∧ o = .slice av n cv ∧ p = .bool (placedB es f j) ∧ n = (partL es f j).length ∧ wr.ownsRow (w.heap.size + 1) 71 3 (.slice av n cv) n (flat (partL es f j)) ∧
      (∀ b o, a1 = some ⟨b, o, none⟩ → some b ≠ (Value.slice av n cv).ownBlock) ∧ w1.heap.size ≤ wr.heap.size ∧ FilesIn wr a1 es ∧ Blk wr w.heap.size #[.string f.name, .string f.data, .int .i64 f.synced] 71 ∧ Below w.heap.size w wr) (fun _ _ _ i _ => es.length - (intOf i).toNat)
  case atStart => exact ⟨0, _, 0, 0, Nat.zero_le _, rfl, rfl, rfl, rfl, HO1.out, fun b o e h => by have := HAP.out b o e; simp [Value.ownBlock] at h; omega, Nat.le_refl _, HFI.out, HFB.out, HB1.out⟩
  case round =>
    obtain ⟨j, av, n, cv, hj, rfl, rfl, rfl, hn, hrow, hap, hsz, hfi, hfb, hbel⟩ := hrel
    have H1 : Hid (wr.ownsRow (w.heap.size + 1) 71 3 (.slice av n cv) n (flat (partL es f j))) := hrow
    have HN : Hid (n = (partL es f j).length) := hn
    have hn2 : n ≤ 1048577 := by have := part_length es f j; omega
    have HA2 : Hid (∀ b o, a1 = some ⟨b, o, none⟩ → some b ≠ (Value.slice av n cv).ownBlock) := hap
    have HF2 : Hid (FilesIn wr a1 es) := hfi
    have HB2 : Hid (Blk wr w.heap.size #[.string f.name, .string f.data, .int .i64 f.synced] 71) := hfb
    have hwl : w.heap.size < wr.heap.size := lt_of_block hfb
    have x0 := hfb.cell 0
    have x1 := hfb.cell 1
    have x2 := hfb.cell 2
    simp only [List.getElem?_toArray, List.getElem?_cons_zero, List.getElem?_cons_succ] at x0 x1 x2
    have hnw : ¬ w.heap.size = wr.heap.size := by omega
    have hBw : w.heap.size + 1 ≤ wr.heap.size := by omega
    clear hrow hn hap hfi hfb HO1 HFI HFB HB1
    by_cases hlt : j < es.length
    · obtain ⟨b, o, e1, hb, c0, c1, c2⟩ := HF2.out.at hlt
      have hnb : ¬ b = wr.heap.size := by omega
      have HAb : Hid (some b ≠ (Value.slice av n cv).ownBlock ∧ b < w1.heap.size) := ⟨HA2.out b o e1, (HAP.out b o e1).2⟩
      subst e1
      have HW : Hid (∀ x, Below wr.heap.size wr ((wr.alloc (.cells #[.string es[j].name, .string es[j].data, .int .i64 es[j].synced] 71)).alloc x)) := fun x => bto (bnew _ _) (bnew _ _)
      by_cases hp : placedB es f j = true
      · have HT : Hid (partL es f (j + 1) = partL es f j ++ [es[j]]) := part_placed hlt hp
        have HP : Hid (placedB es f (j + 1) = true) := by show _ = _; rw [placedB_succ hlt, hp]; rfl
        go_wp2_with (at_builtin; refine wpList_append_lies _ rfl _ _ _ rfl (w.heap.size + 1) 71 ti _ 3 40 Tryz.underlying28 HI.out hz0 hz1 hz2 rfl (by omega) (.slice av n cv) n (flat (partL es f j)) rfl (by exact row_later H1.out (HW.out _)) ⟨wr.heap.size + 1, 0, none⟩ 1 1 [.string es[j].name, .string es[j].data, .int .i64 es[j].synced] rfl rfl (by exact news_two _ _ #[.string es[j].name, .string es[j].data, .int .i64 es[j].synced] _) (by simp [Value.oneCell']) (by omega) (by simp [maxLen]; omega) (by omega) (by simp; omega) (wr.heap.size + 1 + 1) (by simp) ?_; intro g5 cap5 w5 hown5 hgrow5 hat5 hlt5)
        refine ⟨⟨j + 1, _, n + 1, _, by omega, by go_num, rfl, by rw [HP.out], by rw [HT.out, List.length_append, ← HN.out]; rfl, ?_, ?_, ?_, ?_, ?_, ?_⟩, by simp [intOf]; omega⟩
        · rw [HT.out, flat_append, flat_one]
          exact hown5
        · intro b' o' e h
          simp only [Option.some.injEq, Addr.mk.injEq, and_true] at e
          obtain ⟨rfl, rfl⟩ := e
          simp only [Value.ownBlock, Option.some.injEq] at h
          rcases hat5 with h5 | h5
          · exact HAb.out.1 (by rw [h5, h])
          · omega
        · have := hgrow5.size; simp at this; omega
        · exact files_grown hgrow5 (HF2.out.later (HW.out _)) HA2.out
        · exact blk_grown HB2.out (HW.out _) hgrow5 (row_ne H1.out (by omega))
        · exact (grown_below (row_later H1.out (HW.out _)) ((Below.refl _ _).mono (Nat.le_refl _)) (by simp; omega) hgrow5 |>.mono (by omega)) |> (bto hbel (HW.out _)).trans
      · have hp' : placedB es f j = false := by simpa using hp
        by_cases hl : Op.bytesLess f.name.toList es[j].name.toList = true
        · have hg1 : Op.bytesLess es[j].name.toList f.name.toList = false := less_asymm hl
          have hg2 : (es[j].name.toList == f.name.toList) = false := by
            rw [beq_eq_false_iff_ne]; intro e; rw [e, less_irrefl] at hl; exact absurd hl (by simp)
          have HT : Hid (partL es f (j + 1) = partL es f j ++ [f] ++ [es[j]]) := part_now hlt hp' hl
          have HP : Hid (placedB es f (j + 1) = true) := by show _ = _; rw [placedB_succ hlt, hl]; simp
          have HGB : Hid (Blk (wr.alloc (.cells #[.string es[j].name, .string es[j].data, .int .i64 es[j].synced] 71)) wr.heap.size #[.string es[j].name, .string es[j].data, .int .i64 es[j].synced] 71) := heap_alloc_new _ _
          have HK0 : Hid (∀ x w', ((wr.alloc (.cells #[.string es[j].name, .string es[j].data, .int .i64 es[j].synced] 71)).alloc x).grownBy w' (Value.slice av n cv).ownBlock → w'.cell? ⟨wr.heap.size, 0, none⟩ = some (.string es[j].name) ∧ w'.cell? ⟨wr.heap.size, 1, none⟩ = some (.string es[j].data) ∧ w'.cell? ⟨wr.heap.size, 2, none⟩ = some (.int .i64 es[j].synced)) := fun x w' hg => by
            have h1 : Blk w' wr.heap.size #[.string es[j].name, .string es[j].data, .int .i64 es[j].synced] 71 := blk_grown HGB.out (bnew _ _) hg (fun e => absurd (row_block_lt H1.out _ e.symm) (by omega))
            exact ⟨by rw [h1.cell]; rfl, by rw [h1.cell]; rfl, by rw [h1.cell]; rfl⟩
          clear hp
          go_wp2_with (first
            | (at_builtin; refine wpList_append_lies _ rfl _ _ _ rfl (w.heap.size + 1) 71 ti _ 3 40 Tryz.underlying28 HI.out hz0 hz1 hz2 rfl (by omega) (.slice av n cv) n (flat (partL es f j)) rfl (by exact row_later H1.out (HW.out _)) ⟨wr.heap.size + 1, 0, none⟩ 1 1 [.string f.name, .string f.data, .int .i64 f.synced] rfl rfl (by exact news_two _ _ #[.string f.name, .string f.data, .int .i64 f.synced] _) (by simp [Value.oneCell']) (by omega) (by simp [maxLen]; omega) (by omega) (by simp; omega) (wr.heap.size + 1 + 1) (by simp) ?_; intro g5 cap5 w5 hown5 hgrow5 hat5 hlt5; obtain ⟨y0, y1, y2⟩ := HK0.out _ _ hgrow5; have hg5 := hgrow5.size)
            | (at_builtin; refine wpList_append_lies _ rfl _ _ _ rfl (w.heap.size + 1) 71 ti _ 3 40 Tryz.underlying28 HI.out hz0 hz1 hz2 rfl (by omega) (.slice (some ⟨g5, 0, none⟩) (n + 1) cap5) (n + 1) (flat (partL es f j) ++ [.string f.name, .string f.data, .int .i64 f.synced]) rfl (by exact row_later hown5 (bnew _ _)) ⟨w5.heap.size, 0, none⟩ 1 1 [.string es[j].name, .string es[j].data, .int .i64 es[j].synced] rfl rfl (by exact World.news_of_block (fr := (0, 0)) (heap_alloc_new _ _)) (by simp [Value.oneCell']) (by omega) (by simp [maxLen]; omega) (by omega) (by simp at hg5 ⊢; omega) (w5.heap.size + 1) (by simp) ?_; intro g6 cap6 w6 hown6 hgrow6 hat6 hlt6))
          have hg5' : wr.heap.size + 1 + 1 ≤ w5.heap.size := by have := hgrow5.size; simp at this; omega
          have hap5 : ∀ b' o', some (⟨b, o, none⟩ : Addr) = some ⟨b', o', none⟩ → some b' ≠ (Value.slice (some ⟨g5, 0, none⟩) (n + 1) cap5).ownBlock := by
            intro b' o' e h
            simp only [Option.some.injEq, Addr.mk.injEq, and_true] at e
            obtain ⟨rfl, rfl⟩ := e
            simp only [Value.ownBlock, Option.some.injEq] at h
            rcases hat5 with h5 | h5
            · exact HAb.out.1 (by rw [h5, h])
            · omega
          have hf5 : FilesIn w5 (some ⟨b, o, none⟩) es := files_grown hgrow5 (HF2.out.later (HW.out _)) HA2.out
          have hb5 : Blk w5 w.heap.size #[.string f.name, .string f.data, .int .i64 f.synced] 71 := blk_grown HB2.out (HW.out _) hgrow5 (row_ne H1.out (by omega))
          have hl5 : Below w.heap.size w w5 := (bto hbel (HW.out _)).trans ((grown_below (row_later H1.out (HW.out _)) (Below.refl _ _) (by simp; omega) hgrow5).mono (by omega))
          refine ⟨⟨j + 1, _, n + 1 + 1, _, by omega, by go_num, rfl, by rw [HP.out], by rw [HT.out, List.length_append, List.length_append, ← HN.out]; rfl, ?_, ?_, ?_, ?_, ?_, ?_⟩, by simp [intOf]; omega⟩
          · rw [HT.out, flat_append, flat_append, flat_one, flat_one]
            exact hown6
          · intro b' o' e h
            have hx := hap5 b' o' e
            simp only [Option.some.injEq, Addr.mk.injEq, and_true] at e
            obtain ⟨rfl, rfl⟩ := e
            simp only [Value.ownBlock, Option.some.injEq] at h
            rcases hat6 with h6 | h6
            · exact hx (by rw [h6, h])
            · omega
          · have := hgrow6.size; simp at this; omega
          · exact files_grown hgrow6 (hf5.later (bnew _ _)) hap5
          · exact blk_grown hb5 (bnew _ _) hgrow6 (row_ne hown5 (by omega))
          · exact (bto hl5 (bnew _ _)).trans ((grown_below (row_later hown5 (bnew _ _)) (Below.refl _ _) (by simp; omega) hgrow6).mono (by omega))
        · have hl' : Op.bytesLess f.name.toList es[j].name.toList = false := by simpa using hl
          have HT : Hid (partL es f (j + 1) = partL es f j ++ [es[j]]) := part_not hlt hp' hl'
          have HP : Hid (placedB es f (j + 1) = false) := by show _ = _; rw [placedB_succ hlt, hp', hl']; rfl
          clear hp hl
          have hgt : Op.bytesLess es[j].name.toList f.name.toList = true ∨ (es[j].name.toList == f.name.toList) = true := by
            by_cases e : es[j].name.toList = f.name.toList
            · right; simpa using e
            · left; exact less_total _ _ hl' (Ne.symm e)
          rcases hgt with hg | hg
          · go_wp2_with (at_builtin; refine wpList_append_lies _ rfl _ _ _ rfl (w.heap.size + 1) 71 ti _ 3 40 Tryz.underlying28 HI.out hz0 hz1 hz2 rfl (by omega) (.slice av n cv) n (flat (partL es f j)) rfl (by exact row_later H1.out (HW.out _)) ⟨wr.heap.size + 1, 0, none⟩ 1 1 [.string es[j].name, .string es[j].data, .int .i64 es[j].synced] rfl rfl (by exact news_two _ _ #[.string es[j].name, .string es[j].data, .int .i64 es[j].synced] _) (by simp [Value.oneCell']) (by omega) (by simp [maxLen]; omega) (by omega) (by simp; omega) (wr.heap.size + 1 + 1) (by simp) ?_; intro g5 cap5 w5 hown5 hgrow5 hat5 hlt5)
            refine ⟨⟨j + 1, _, n + 1, _, by omega, by go_num, rfl, by rw [HP.out], by rw [HT.out, List.length_append, ← HN.out]; rfl, ?_, ?_, ?_, ?_, ?_, ?_⟩, by simp [intOf]; omega⟩
            · rw [HT.out, flat_append, flat_one]
              exact hown5
            · intro b' o' e h
              simp only [Option.some.injEq, Addr.mk.injEq, and_true] at e
              obtain ⟨rfl, rfl⟩ := e
              simp only [Value.ownBlock, Option.some.injEq] at h
              rcases hat5 with h5 | h5
              · exact HAb.out.1 (by rw [h5, h])
              · omega
            · have := hgrow5.size; simp at this; omega
            · exact files_grown hgrow5 (HF2.out.later (HW.out _)) HA2.out
            · exact blk_grown HB2.out (HW.out _) hgrow5 (row_ne H1.out (by omega))
            · exact (grown_below (row_later H1.out (HW.out _)) ((Below.refl _ _).mono (Nat.le_refl _)) (by simp; omega) hgrow5 |>.mono (by omega)) |> (bto hbel (HW.out _)).trans
          · go_wp2_with (at_builtin; refine wpList_append_lies _ rfl _ _ _ rfl (w.heap.size + 1) 71 ti _ 3 40 Tryz.underlying28 HI.out hz0 hz1 hz2 rfl (by omega) (.slice av n cv) n (flat (partL es f j)) rfl (by exact row_later H1.out (HW.out _)) ⟨wr.heap.size + 1, 0, none⟩ 1 1 [.string es[j].name, .string es[j].data, .int .i64 es[j].synced] rfl rfl (by exact news_two _ _ #[.string es[j].name, .string es[j].data, .int .i64 es[j].synced] _) (by simp [Value.oneCell']) (by omega) (by simp [maxLen]; omega) (by omega) (by simp; omega) (wr.heap.size + 1 + 1) (by simp) ?_; intro g5 cap5 w5 hown5 hgrow5 hat5 hlt5)
            refine ⟨⟨j + 1, _, n + 1, _, by omega, by go_num, rfl, by rw [HP.out], by rw [HT.out, List.length_append, ← HN.out]; rfl, ?_, ?_, ?_, ?_, ?_, ?_⟩, by simp [intOf]; omega⟩
            · rw [HT.out, flat_append, flat_one]
              exact hown5
            · intro b' o' e h
              simp only [Option.some.injEq, Addr.mk.injEq, and_true] at e
              obtain ⟨rfl, rfl⟩ := e
              simp only [Value.ownBlock, Option.some.injEq] at h
              rcases hat5 with h5 | h5
              · exact HAb.out.1 (by rw [h5, h])
              · omega
            · have := hgrow5.size; simp at this; omega
            · exact files_grown hgrow5 (HF2.out.later (HW.out _)) HA2.out
            · exact blk_grown HB2.out (HW.out _) hgrow5 (row_ne H1.out (by omega))
            · exact (grown_below (row_later H1.out (HW.out _)) ((Below.refl _ _).mono (Nat.le_refl _)) (by simp; omega) hgrow5 |>.mono (by omega)) |> (bto hbel (HW.out _)).trans
    · have HEJ : Hid (j = es.length) := by show _ = _; omega
      by_cases hp : placedB es f j = true
      · have HE : Hid (withL fs f = partL es f j) := by show _ = _; rw [HWE.out, HEJ.out]; exact part_all (by rw [← HEJ.out]; exact hp)
        go_wp2
        go_ret
        rw [HE.out]
        have h := H1.out
        have hn := HN.out
        subst hn
        exact ⟨_, rfl, row_mono (B' := w.heap.size) h (by omega), hbel⟩
      · have hp' : placedB es f j = false := by simpa using hp
        have HE : Hid (withL fs f = partL es f j ++ [f]) := by show _ = _; rw [HWE.out, HEJ.out]; exact part_end (by rw [← HEJ.out]; exact hp')
        clear hp
        go_wp2_with (at_builtin; refine wpList_append_lies _ rfl _ _ _ rfl (w.heap.size + 1) 71 ti _ 3 40 Tryz.underlying28 HI.out hz0 hz1 hz2 rfl (by omega) (.slice av n cv) n (flat (partL es f j)) rfl (by exact row_later H1.out (bnew _ _)) ⟨wr.heap.size, 0, none⟩ 1 1 [.string f.name, .string f.data, .int .i64 f.synced] rfl rfl (by exact World.news_of_block (fr := (0, 0)) (heap_alloc_new _ _)) (by simp [Value.oneCell']) (by omega) (by simp [maxLen]; omega) (by omega) (by simp; omega) (wr.heap.size + 1) (by simp) ?_; intro g5 cap5 w5 hown5 hgrow5 hat5 hlt5)
        go_ret
        rw [HE.out]
        have hn : (partL es f j ++ [f]).length = n + 1 := by rw [List.length_append, ← HN.out]; rfl
        rw [hn, flat_append, flat_one]
        exact ⟨_, rfl, row_mono (B' := w.heap.size) hown5 (by omega), (bto hbel (bnew _ _)).trans ((grown_below (row_later H1.out (bnew _ _)) (Below.refl _ _) (by simp; omega) hgrow5).mono (by omega))⟩
end Go.Proofs.YtboofidegpnkaaaGreatDoor
