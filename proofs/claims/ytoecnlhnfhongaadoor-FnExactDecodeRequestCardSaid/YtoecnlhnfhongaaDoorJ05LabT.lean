import Derived.Test.YtoecnlhnfhongaaDoorProg
import Derived.Test.YtoecnlhnfhongaaDoorJ04AppA
import Derived.Test.YtoecnlhnfhongaaDoorJ02SNum
import Derived.Deep.AppendLies
import Derived.Test.YtoecnlhnfhongaaDoorJ03RqD
import Derived.Test.YtoecnlhnfhongaaDoorJ01SmpB
import Derived.Deep.OwnRows
namespace Go.Proofs.YtoecnlhnfhongaaDoor
open Go.RowKit

def flatL (ls : List LabD) : List Value := ls.flatMap fun x => [.string x.name, .string x.value]
theorem flatL_append (a b : List LabD) : flatL (a ++ b) = flatL a ++ flatL b := by simp [flatL]
theorem flatL_one (f : LabD) : flatL [f] = [.string f.name, .string f.value] := rfl
theorem flatL_length (ls : List LabD) : (flatL ls).length = ls.length * 2 := by
  induction ls with
  | nil => rfl
  | cons f r ih => simp [flatL] at *; omega
theorem info_lab : ∃ i, Tryd.prog.info? 56 = some i ∧ i.zero = some (.agg #[.string ByteArray.empty, .string ByteArray.empty]) ∧ i.size = 2 ∧ i.bytes = 32 := by
  obtain ⟨i, hi, hz⟩ := Option.map_eq_some_iff.1 info_label
  simp only [Prod.mk.injEq] at hz
  exact ⟨i, hi, hz.1, hz.2.1, hz.2.2⟩
theorem news_twoL (W : World) (x : Obj) (cs : Array Value) (t : TypeId) : ∀ j u, cs.toList[j]? = some u → ((W.alloc x).alloc (.cells cs t)).cell? ((⟨W.heap.size + 1, 0, none⟩ : Addr).add j) = some u :=
  World.news_of_block (fr := (0, 0)) (by have h := heap_alloc_new (W.alloc x) (.cells cs t); simpa using h)
theorem isEmp_eq (l : LabD) : isEmp l = l.value.toList.isEmpty := by
  have e : ByteArray.empty.toList = [] := by rw [ByteArray.toList_eq]; rfl
  unfold isEmp
  rw [e]
  cases l.value.toList <;> rfl

/-- What is to be appended: nothing, or these cells at that address. -/
theorem flatL_cell (ls : List LabD) : ∀ u ∈ flatL ls, u.oneCell' = true := by
  intro u hu
  simp only [flatL, List.mem_flatMap, List.mem_cons, List.not_mem_nil, or_false] at hu
  obtain ⟨f, _, rfl | rfl⟩ := hu <;> rfl
/-- The cells of a row of labels, from label p on. -/
theorem flatL_at {w : World} {g : Nat} {ys : List LabD} (h : ∀ j u, (flatL ys)[j]? = some u → w.cell? ⟨g, j, none⟩ = some u) (p : Nat) : ∀ j u, (flatL (ys.drop p))[j]? = some u → w.cell? ⟨g, p * 2 + j, none⟩ = some u := by
  intro j u hu
  refine h _ _ ?_
  by_cases hp : p ≤ ys.length
  · have e : flatL ys = flatL (ys.take p) ++ flatL (ys.drop p) := by rw [← flatL_append, List.take_append_drop]
    have hl : (flatL (ys.take p)).length = p * 2 := by rw [flatL_length, List.length_take]; omega
    rw [e, List.getElem?_append_right (by omega), hl, Nat.add_sub_cancel_left]
    exact hu
  · rw [List.drop_of_length_le (by omega)] at hu
    simp [flatL] at hu
theorem flatL_take {ys : List LabD} {p : Nat} : ∀ (j : Nat) (u : Value), (flatL (ys.take p))[j]? = some u → (flatL ys)[j]? = some u := by
  intro j u hu
  have e : flatL ys = flatL (ys.take p) ++ flatL (ys.drop p) := by rw [← flatL_append, List.take_append_drop]
  have hj : j < (flatL (ys.take p)).length := (List.getElem?_eq_some_iff.1 hu).1
  rw [e, List.getElem?_append_left hj]
  exact hu
theorem row_cells {w : World} {B : Nat} {e : TypeId} {g cv : Nat} {ys : List LabD} (h : w.ownsRow B e 2 (.slice (some ⟨g, 0, none⟩) ys.length cv) ys.length (flatL ys)) : ys.length ≤ cv ∧ g < w.heap.size ∧ B ≤ g ∧ ∀ j u, (flatL ys)[j]? = some u → w.cell? ⟨g, j, none⟩ = some u := by
  rcases h.2 with ⟨he, _⟩ | ⟨g', cap', cur, he, hB, hb, hc, _, _, ht⟩
  · simp at he
  · simp only [Value.slice.injEq, Option.some.injEq, Addr.mk.injEq, and_true] at he
    obtain ⟨rfl, _, rfl⟩ := he
    refine ⟨hc, lt_of_block hb, hB, fun j u hu => ?_⟩
    rw [cell_of_row w g j cur _ _ hb, ← Array.getElem?_toList]
    rw [← ht] at hu
    have hj := (List.getElem?_eq_some_iff.1 hu).1
    rw [List.length_take] at hj
    rw [List.getElem?_take_of_lt (by omega)] at hu
    exact hu
theorem src_head {w : World} {g : Nat} {ys : List LabD} (h : ∀ j u, (flatL ys)[j]? = some u → w.cell? ⟨g, j, none⟩ = some u) (p : Nat) : SrcAt w (some ⟨g, 0, none⟩) p (flatL (ys.take p)) :=
  Or.inr ⟨_, rfl, fun j u hu => by rw [addr_add, Nat.zero_add]; exact h _ _ (flatL_take j u hu)⟩
theorem src_tail {w : World} {g cv : Nat} {ys : List LabD} (h : ∀ j u, (flatL ys)[j]? = some u → w.cell? ⟨g, j, none⟩ = some u) (p : Nat) (hc : ys.length ≤ cv) : SrcAt w (if cv = p then some ⟨g, 0, none⟩ else some ⟨g, p * 2, none⟩) (ys.length - p) (flatL (ys.drop p)) := by
  by_cases e : cv = p
  · exact Or.inl (by omega)
  · rw [if_neg e]
    exact Or.inr ⟨_, rfl, fun j u hu => by rw [addr_add]; exact flatL_at h p j u hu⟩
theorem src_tail' {w : World} {g : Nat} {ys : List LabD} (h : ∀ j u, (flatL ys)[j]? = some u → w.cell? ⟨g, j, none⟩ = some u) (p : Nat) : SrcAt w (some ⟨g, p * 2, none⟩) (ys.length - p) (flatL (ys.drop p)) :=
  Or.inr ⟨_, rfl, fun j u hu => by rw [addr_add]; exact flatL_at h p j u hu⟩
theorem src_one {w : World} {g : Nat} {x y : Value} {t : TypeId} (h : w.heap[g]? = some (.cells #[x, y] t (0, 0))) : SrcAt w (some ⟨g, 0, none⟩) 1 [x, y] :=
  Or.inr ⟨_, rfl, World.news_of_block (cs := #[x, y]) h⟩
theorem cells_later {W w : World} {g : Nat} {ys : List LabD} (h : ∀ j u, (flatL ys)[j]? = some u → W.cell? ⟨g, j, none⟩ = some u) (hg : g < W.heap.size) (hb : Below W.heap.size W w) : ∀ j u, (flatL ys)[j]? = some u → w.cell? ⟨g, j, none⟩ = some u :=
  fun j u hu => (hb.cell hg).trans (h j u hu)
theorem two_new (W : World) (x y : Obj) : ((W.alloc x).alloc y).drew.heap[W.heap.size + 1]? = some y := by
  have h := heap_alloc_new (W.alloc x) y
  have e : (W.alloc x).heap.size = W.heap.size + 1 := by simp
  rw [e] at h
  exact h
theorem two_old (W : World) (x y : Obj) : ((W.alloc x).alloc y).drew.heap[W.heap.size]? = some x := by
  have h := heap_alloc_new W x
  have h2 := (bnew (W.alloc x) y).block W.heap.size (by simp)
  exact h2.trans h
theorem rowE_a (W : World) (t : TypeId) : (W.alloc (.cells #[] t)).drew.ownsRow W.heap.size t 2 (.slice (some ⟨W.heap.size, 0, none⟩) 0 0) 0 [] :=
  ⟨rfl, Or.inr ⟨W.heap.size, 0, #[], rfl, Nat.le_refl _, heap_alloc_new _ _, Nat.le_refl _, Nat.zero_le _, rfl, rfl⟩⟩
theorem rowE_b (W : World) (t : TypeId) (x : Obj) : ((W.alloc (.cells #[] t)).alloc x).drew.ownsRow W.heap.size t 2 (.slice (some ⟨W.heap.size, 0, none⟩) 0 0) 0 [] :=
  ⟨rfl, Or.inr ⟨W.heap.size, 0, #[], rfl, Nat.le_refl _, two_old _ _ _, Nat.le_refl _, Nat.zero_le _, rfl, rfl⟩⟩
theorem rowE_c (W : World) (t : TypeId) (x : Obj) : ((W.alloc x).alloc (.cells #[] t)).drew.ownsRow W.heap.size t 2 (.slice (some ⟨W.heap.size + 1, 0, none⟩) 0 0) 0 [] :=
  ⟨rfl, Or.inr ⟨W.heap.size + 1, 0, #[], rfl, by omega, two_new _ _ _, Nat.le_refl _, Nat.zero_le _, rfl, rfl⟩⟩
end Go.Proofs.YtoecnlhnfhongaaDoor

namespace Go.Proofs.YtoecnlhnfhongaaDoor
open Go.RowKit

theorem RT.laterL {w w' : World} {B : Nat} {r : Rd} (h : RT w B r) (hb : Below w.heap.size w w') : RT w' B r := by
  obtain ⟨t, h⟩ := h
  exact ⟨t, h.later hb⟩
set_option maxRecDepth 100000 in
set_option maxHeartbeats 2000000 in
theorem labelsT_any (B : Nat) (r : Rd) (w : World) (hB : RT w B r) (hs : r.rest.size ≤ 1000000000) :
    Calls Tryd.prog 60 #[.pointer (some ⟨B, 0, none⟩)] w fun e w' => ∃ g cap, e = .returned (.slice (some ⟨g, 0, none⟩) (smL r).1.length cap) ∧ w'.ownsRow w.heap.size 56 2 (.slice (some ⟨g, 0, none⟩) (smL r).1.length cap) (smL r).1.length (flatL (smL r).1) ∧ RT w' B (smL r).2 ∧ But B w w' := by
  have HC : Hid (Calls Tryd.prog 58 #[.pointer (some ⟨B, 0, none⟩), .int .i64 1] w fun e w' => e = .returned (.int .i64 ((smN r).1 : Nat)) ∧ RT w' B (smN r).2 ∧ But B w w') := by
    have h := numberT_any B r 1 w hB (by omega) hs
    have e : numR 1 r = smN r := by rw [smN]
    have hl : (smN r).1 < 256 := by have := num_lt 1 r; rw [← e]; omega
    rw [e, wrapN_small (by omega)] at h
    exact h
  have hBlt : B < w.heap.size := by obtain ⟨t, h⟩ := hB; exact lt_of_block h
  have hz : (smN r).2.rest.size ≤ 1000000000 := by rw [smN]; exact Nat.le_trans (take_le 1 r).2.2 hs
  have hcl : (smN r).1 ≤ 255 := by have := num_lt 1 r; rw [smN]; omega
  have HRA : Hid (smL r = rdK (smN r).2 ((smN r).1)) := by show _ = _; rw [smL]
  rw [HRA.out]
  clear HRA hB
  generalize (smN r).2 = r0 at *
  generalize (smN r).1 = n at *
  obtain ⟨ti, hti, ht0, ht1, ht2⟩ := info_lab
  have HI : Hid (Tryd.prog.info? 56 = some ti) := hti
  have hmk : ∀ W : World, (Instr.makeSlice 52 (.int .i64 0) (.int .i64 (n : Nat))).run Tryd.prog W = .ok (.slice (some ⟨W.heap.size, 0, none⟩) 0 n) (W.alloc (.cells (madeCells #[.string ByteArray.empty, .string ByteArray.empty] (n * 2)) 56)) := fun W => by
    have hr := run_make (P := Tryd.prog) W 52 56 ti _ Tryd.underlying52 hti ht0 .i64 .i64 0 (n : Nat) (by omega) (by omega) (by rw [ht2]; omega) (by omega)
    simp only [Int.toNat_natCast, ht1] at hr
    exact hr
  clear hti
  go_enter Tryd.func60, Tryd.ntmps60
  go_wp2_with fail
  refine HC.out.mono ?_
  rintro e w1 ⟨rfl, hr1, hb1⟩
  have H1 : Hid (RT w1 B r0 ∧ But B w w1) := ⟨hr1, hb1⟩
  have hz1 := hb1.size
  clear hr1 hb1 HC
  go_wp2
  clear hmk
  go_loopw [4, 5, 11] (fun out _ i wr => ∃ (k : Nat) (ys : List LabD) (g cv : Nat), k ≤ n ∧ i = .int .i64 k ∧ ys.length ≤ k ∧ k ≤ ys.length ∧ out = .slice (some ⟨g, 0, none⟩) ys.length cv ∧ Hid (ys = (rdK r0 k).1) ∧ Hid (RT wr B (rdK r0 k).2) ∧ Hid (wr.ownsRow w.heap.size 56 2 (.slice (some ⟨g, 0, none⟩) ys.length cv) ys.length (flatL ys)) ∧ Hid (But B w wr)) (fun _ _ i _ => n - (intOf i).toNat)
  case atStart =>
    refine ⟨0, [], _, _, Nat.zero_le _, rfl, Nat.zero_le _, Nat.zero_le _, rfl, rfl, RT.laterL H1.out.1 (bnew _ _), ⟨rfl, Or.inr ⟨w1.heap.size, n, _, rfl, hz1, heap_alloc_new _ _, Nat.zero_le _, by simp [maxLen]; omega, size_madeCells _ _, rfl⟩⟩, H1.out.2.alloc _⟩
  case round =>
    obtain ⟨k, ys, g, cv, hk, rfl, hyl, hyl2, rfl, HY, HRB, HROW, HBU⟩ := hrel
    by_cases hlt : k < n
    · have hrest : (rdK r0 k).2.rest.size ≤ 1000000000 := by have := (rd_big r0 k).1; omega
      have hrest2 : (textR 1 (rdK r0 k).2).2.rest.size ≤ 1000000000 := by have := (text_le 1 (rdK r0 k).2).2; omega
      have HT1 : Hid (∀ W, RT W B (rdK r0 k).2 → Calls Tryd.prog 59 #[.pointer (some ⟨B, 0, none⟩), .int .i64 1] W fun e w' => e = .returned (.string (textR 1 (rdK r0 k).2).1) ∧ RT w' B (textR 1 (rdK r0 k).2).2 ∧ But B W w') := fun W h => textT_any B _ 1 W h (by omega) hrest
      have HT2 : Hid (∀ W, RT W B (textR 1 (rdK r0 k).2).2 → Calls Tryd.prog 59 #[.pointer (some ⟨B, 0, none⟩), .int .i64 2] W fun e w' => e = .returned (.string (textR 2 (textR 1 (rdK r0 k).2).2).1) ∧ RT w' B (textR 2 (textR 1 (rdK r0 k).2).2).2 ∧ But B W w') := fun W h => textT_any B _ 2 W h (by omega) hrest2
      have HST : Hid (rdK r0 (k + 1) = (ys ++ [⟨(textR 1 (rdK r0 k).2).1, (textR 2 (textR 1 (rdK r0 k).2).2).1⟩], (textR 2 (textR 1 (rdK r0 k).2).2).2)) := by show _ = _; rw [rdK_succ, labR_eq, HY.out]
      clear hrest hrest2
      generalize textR 2 (textR 1 (rdK r0 k).2).2 = t2 at *
      generalize textR 1 (rdK r0 k).2 = t1 at *
      generalize t1.1 = nm at *
      generalize t2.1 = va at *
      go_wp2_with fail
      refine (HT1.out _ HRB.out).mono ?_
      rintro e w2 ⟨rfl, hr2, hb2⟩
      have H2 : Hid (RT w2 B t1.2 ∧ But B w w2 ∧ w2.ownsRow w.heap.size 56 2 (.slice (some ⟨g, 0, none⟩) ys.length cv) ys.length (flatL ys)) := ⟨hr2, HBU.out.trans hb2, row_but0 HROW.out hb2 hBlt⟩
      clear hr2 hb2 HT1 HRB HROW HBU
      go_wp2_with fail
      refine (HT2.out _ H2.out.1).mono ?_
      rintro e w3 ⟨rfl, hr3, hb3⟩
      have H3 : Hid (RT w3 B t2.2 ∧ But B w w3 ∧ w3.ownsRow w.heap.size 56 2 (.slice (some ⟨g, 0, none⟩) ys.length cv) ys.length (flatL ys)) := ⟨hr3, H2.out.2.1.trans hb3, row_but0 H2.out.2.2 hb3 hBlt⟩
      have hz3 : w.heap.size ≤ w3.heap.size := H3.out.2.1.size
      clear hr3 hb3 HT2 H2
      go_wp2_with (at_builtin; refine wpList_append_lies _ rfl _ _ _ rfl w.heap.size 56 ti _ 2 32 Tryd.underlying52 HI.out ht0 ht1 ht2 rfl (by omega) (.slice (some ⟨g, 0, none⟩) ys.length cv) ys.length (flatL ys) rfl (by exact row_later H3.out.2.2 (bnew _ _)) ⟨w3.heap.size, 0, none⟩ 1 1 [.string nm, .string va] rfl rfl (by exact World.news_of_block (cs := #[.string nm, .string va]) (heap_alloc_new _ _)) (by simp [Value.oneCell']) (by omega) (by simp [maxLen]; omega) (by omega) (by simp; omega) (w3.heap.size + 1) (by simp) ?_; intro g5 cap5 w5 hown5 hgrow5 hat5 hlt5)
      have hkeep : w5.heap[B]? = w3.heap[B]? := (hgrow5.block B (by simp; omega) (fun e => by have := row_from H3.out.2.2 B e.symm; omega)).trans ((bnew w3 _).block B (by omega))
      have hbut : But B w w5 := by
        have hB3 := H3.out.2.1
        refine ⟨hgrow5.os.trans hB3.os, hgrow5.tape.trans hB3.tape, hgrow5.output.trans hB3.output, ?_, fun q hq hne => ?_⟩
        · have := hgrow5.size; simp at this; omega
        · exact (hgrow5.block q (by simp; omega) (fun e => by have := row_from H3.out.2.2 q e.symm; omega)).trans (((bnew w3 _).block q (by omega)).trans (hB3.block q hq hne))
      have hle : (ys ++ [(⟨nm, va⟩ : LabD)]).length = ys.length + 1 := by simp
      have hxs : flatL ys ++ [.string nm, .string va] = flatL (ys ++ [⟨nm, va⟩]) := by rw [flatL_append]; rfl
      rw [hxs, ← hle] at hown5
      refine ⟨⟨k + 1, ys ++ [(⟨nm, va⟩ : LabD)], g5, cap5, by omega, by go_num, by omega, by omega, by rw [hle], by show _ = _; rw [HST.out], ?_, hown5, hbut⟩, by simp [intOf]; omega⟩
      show RT w5 B (rdK r0 (k + 1)).2
      rw [HST.out]
      obtain ⟨tt, hh⟩ := H3.out.1
      exact ⟨tt, hkeep.trans hh⟩
    · have e : k = n := by omega
      subst e
      have hY := HY.out
      clear HY
      subst hY
      go_wp2
      go_ret
      exact ⟨g, cv, rfl, HROW.out, HRB.out, HBU.out⟩

end Go.Proofs.YtoecnlhnfhongaaDoor

namespace Go.Proofs.YtoecnlhnfhongaaDoor
open Go.RowKit

/-- A sample and where its labels lie. -/
structure XV where
  x : SmpD
  a : Option Addr
  c : Nat
def flatX (ys : List XV) : List Value := ys.flatMap fun y => [.slice y.a y.x.labs.length y.c, .int .i64 y.x.bits]
theorem flatX_append (a b : List XV) : flatX (a ++ b) = flatX a ++ flatX b := by simp [flatX]
def PartsX (w : World) (b : Nat) (T : Nat → Nat) (ys : List XV) : Prop := ∀ i (h : i < ys.length), LabsTag w b T (i + 1) ys[i].a ys[i].x.labs
def RowX (w : World) (b : Nat) (e : TypeId) (v : Value) (n : Nat) (xs : List SmpD) : Prop :=
  ∃ T ys, w.ownsRow b e 2 v n (flatX ys) ∧ ys.map (·.x) = xs ∧ (∀ g, v.ownBlock = some g → T g = 0) ∧ PartsX w b T ys
theorem RowX.nil (w : World) (b : Nat) (e : TypeId) : RowX w b e (.slice none 0 0) 0 [] :=
  ⟨fun _ => 0, [], World.ownsRow_nil _ _ _ _, rfl, fun _ _ => rfl, fun i h => absurd h (by simp)⟩
theorem RowX.row {w : World} {b : Nat} {e : TypeId} {v : Value} {n : Nat} {xs : List SmpD} (h : RowX w b e v n xs) : ∃ a c, v = .slice a n c := by
  obtain ⟨_, _, h, _⟩ := h
  rcases h.2 with ⟨rfl, rfl⟩ | ⟨g, cap, cur, rfl, _⟩
  · exact ⟨none, 0, rfl⟩
  · exact ⟨_, _, rfl⟩
theorem RowX.lt {w : World} {b : Nat} {e : TypeId} {v : Value} {n : Nat} {xs : List SmpD} (h : RowX w b e v n xs) : ∀ g, v.ownBlock = some g → b ≤ g ∧ g < w.heap.size := by
  obtain ⟨_, _, h, _⟩ := h
  exact fun g hg => h.lt g hg
theorem RowX.turn {w w' : World} {S : Nat → Prop} {b : Nat} {e : TypeId} {v : Value} {n : Nat} {xs : List SmpD} (h : RowX w b e v n xs) (ht : Turn S w w') (hS : ∀ g, S g → g < b) : RowX w' b e v n xs := by
  obtain ⟨T, ys, h1, h2, h3, h4⟩ := h
  refine ⟨T, ys, ht.row h1 (fun g hg e => by have := (h1.lt g hg).1; have := hS g e; omega), h2, h3, fun i hi => ?_⟩
  exact (h4 i hi).keep fun g hg hb hT => ⟨ht.block g hg (fun e => by have := hS g e; omega), hT⟩
/-- One sample more: its labels lie in a block that was made since. -/
theorem RowX.snoc {wr w4 w6 : World} {b gg cap k : Nat} {e : TypeId} {v : Value} {T : Nat → Nat} {ys : List XV} {xs : List SmpD} {x : SmpD} {a1 : Option Addr} {c1 : Nat}
    (hrow : w6.ownsRow b e 2 (.slice (some ⟨gg, 0, none⟩) (k + 1) cap) (k + 1) (flatX ys ++ [.slice a1 x.labs.length c1, .int .i64 x.bits]))
    (hys : ys.map (·.x) = xs) (hyk : ys.length = k) (hv : ∀ g, v.ownBlock = some g → T g = 0) (hp : PartsX wr b T ys) (hb : b ≤ wr.heap.size)
    (hk0 : ∀ g, g < wr.heap.size → b ≤ g → v.ownBlock ≠ some g → w6.heap[g]? = wr.heap[g]?) (hk4 : ∀ g, wr.heap.size ≤ g → g < w4.heap.size → w6.heap[g]? = w4.heap[g]?)
    (h1 : LabsOwn w4 wr.heap.size a1 x.labs)
    (hgg : (v.ownBlock = some gg ∧ gg < wr.heap.size) ∨ w4.heap.size ≤ gg) (h4r : wr.heap.size ≤ w4.heap.size) : RowX w6 b e (.slice (some ⟨gg, 0, none⟩) (k + 1) cap) (k + 1) (xs ++ [x]) := by
  refine ⟨fun g => if g < wr.heap.size then T g else if g < w4.heap.size then k + 1 else 0, ys ++ [⟨x, a1, c1⟩], ?_, ?_, ?_, ?_⟩
  · rw [flatX_append]; exact hrow
  · rw [List.map_append, hys]; rfl
  · intro g hg
    simp only [Value.ownBlock, Option.some.injEq] at hg
    subst hg
    rcases hgg with ⟨h, hl⟩ | h
    · simp only [if_pos hl]; exact hv _ h
    · simp only [if_neg (show ¬ gg < wr.heap.size by omega), if_neg (show ¬ gg < w4.heap.size by omega)]
  · intro i hi
    by_cases hik : i < ys.length
    · rw [List.getElem_append_left hik]
      exact (hp i hik).keep fun g hg hbg hT => ⟨hk0 g hg hbg (fun e => by have := hv g e; omega), by simp only [if_pos hg]; exact hT⟩
    · have e : i = k := by simp at hi; omega
      subst e
      rw [List.getElem_append_right (by omega)]
      simp only [hyk, Nat.sub_self, List.getElem_cons_zero]
      rcases h1 with h | ⟨g, o, cur, ty, rfl, hBg, hblk, hat⟩
      · exact Or.inl h
      · have hlt := lt_of_block hblk
        have hke := hk4 g (by omega) hlt
        have hc : ∀ j, w6.cell? ⟨g, j, none⟩ = w4.cell? ⟨g, j, none⟩ := fun j => World.cell?_of_block hke
        exact Or.inr ⟨g, o, cur, ty, rfl, by omega, by simp only [if_neg (show ¬ g < wr.heap.size by omega), if_pos hlt], hke.trans hblk, fun i hi => by simp only [hc]; exact hat i hi⟩
/-- A row of samples is samples in blocks of their own. -/
theorem RowX.own {w : World} {b : Nat} {e : TypeId} {a : Option Addr} {n cap : Nat} {xs : List SmpD} (h : RowX w b e (.slice a n cap) n xs) (hn : xs.length = n) : SmpsOwn w b a xs := by
  obtain ⟨T, ys, h1, h2, h3, h4⟩ := h
  have hyl : ys.length = n := by rw [← hn, ← h2, List.length_map]
  rcases h1.2 with ⟨_, hl⟩ | ⟨g, cap', cur, he, hB, hg, _, _, hsz, htk⟩
  · exact Or.inl (List.length_eq_zero_iff.1 (by omega))
  · simp only [Value.slice.injEq] at he
    have hT : T g = 0 := h3 g (by rw [he.1]; rfl)
    have hf : ∀ (l : List XV) i (hi : i < l.length), (flatX l)[i * 2]? = some (.slice l[i].a l[i].x.labs.length l[i].c) ∧ (flatX l)[i * 2 + 1]? = some (.int .i64 l[i].x.bits) := by
      intro l
      unfold flatX
      induction l with
      | nil => intro i hi; exact absurd hi (by simp)
      | cons x r ih =>
        intro i hi
        cases i with
        | zero => simp
        | succ i =>
          have := ih i (by simpa using hi)
          simp only [List.flatMap_cons, List.cons_append, List.nil_append, List.getElem_cons_succ]
          refine ⟨?_, ?_⟩
          · rw [show (i + 1) * 2 = i * 2 + 1 + 1 by omega, List.getElem?_cons_succ, List.getElem?_cons_succ]; exact this.1
          · rw [show (i + 1) * 2 + 1 = i * 2 + 1 + 1 + 1 by omega, List.getElem?_cons_succ, List.getElem?_cons_succ]; exact this.2
    have hc : ∀ j, j < n * 2 → w.cell? ⟨g, j, none⟩ = (flatX ys)[j]? := fun j hj => by
      rw [Blk.cell (show Blk w g cur e from hg) j, ← Array.getElem?_toList, ← htk, List.getElem?_take_of_lt hj]
    refine Or.inr ⟨g, 0, cur, e, T, he.1, hB, hg, hT, fun i hi => ?_⟩
    have hiy : i < ys.length := by omega
    have et : xs[i] = ys[i].x := by simp only [← h2, List.getElem_map]
    obtain ⟨f0, f1⟩ := hf ys i hiy
    rw [et]
    refine ⟨ys[i].a, ys[i].c, ?_, ?_, h4 i hiy⟩
    · rw [Nat.zero_add, hc _ (by omega)]; exact f0
    · rw [Nat.zero_add, hc _ (by omega)]; exact f1
end Go.Proofs.YtoecnlhnfhongaaDoor

namespace Go.Proofs.YtoecnlhnfhongaaDoor
open Go.RowKit

set_option maxHeartbeats 400000 in
theorem szLabel_any (f : LabD) (left : Int) (w : World) (h0 : 0 ≤ left) (h1 : left ≤ 1048576) (hn : f.name.size ≤ maxLen) (hd : f.value.size ≤ maxLen) :
    Calls Tryd.prog 62 #[.agg #[.string f.name, .string f.value], .int .i64 left] w fun e w' => e = .returned (.int .i64 (szLab left f)) ∧ Below w.heap.size w w' := by
  unfold maxLen at hn hd
  obtain ⟨nm, da⟩ := f
  simp only at hn hd ⊢
  by_cases c1 : left - nm.size < 0
  · have e : szLab left ⟨nm, da⟩ = -1 := by unfold szLab; rw [if_neg]; simp only; omega
    rw [e]
    go_enter Tryd.func62, Tryd.ntmps62
    go_wp2
    go_ret
    exact ⟨rfl, (Below.refl _ _).alloc (Nat.le_refl _) _⟩
  · by_cases c2 : left - nm.size - da.size < 0
    · have e : szLab left ⟨nm, da⟩ = -1 := by unfold szLab; rw [if_neg]; simp only; omega
      rw [e]
      go_enter Tryd.func62, Tryd.ntmps62
      go_wp2
      go_ret
      exact ⟨rfl, (Below.refl _ _).alloc (Nat.le_refl _) _⟩
    · have e : szLab left ⟨nm, da⟩ = left - nm.size - da.size := by unfold szLab; rw [if_pos]; simp only; omega
      rw [e]
      go_enter Tryd.func62, Tryd.ntmps62
      go_wp2
      go_ret
      exact ⟨rfl, (Below.refl _ _).alloc (Nat.le_refl _) _⟩

set_option maxHeartbeats 1000000 in
theorem szLabelS_any (a : Option Addr) (cap : Nat) (fs : List LabD) (left : Int) (w : World) (h0 : 0 ≤ left) (h1 : left ≤ 1048576) (hf : LabsIn w a fs) (hs : ShortL fs) (hlen : fs.length ≤ maxLen) :
    Calls Tryd.prog 52 #[.slice a fs.length cap, .int .i64 left] w fun e w' => e = .returned (.int .i64 (szLabs left fs)) ∧ Below w.heap.size w w' := by
  unfold maxLen at hlen
  by_cases c1 : left - fs.length < 0
  · have e : szLabs left fs = -1 := by unfold szLabs; rw [if_neg]; omega
    rw [e]
    clear hf hs
    go_enter Tryd.func52, Tryd.ntmps52
    go_wp2
    go_ret
    exact ⟨rfl, Below.refl _ _⟩
  · have hne : ¬ (left - fs.length < 0) := c1
    have HF : Hid (LabsIn w a fs) := hf
    have HS : Hid (ShortL fs) := hs
    clear hf hs
    go_enter Tryd.func52, Tryd.ntmps52
    go_wp2
    go_loopw [1, 5] (fun l i wr => ∃ k : Nat, k ≤ fs.length ∧ i = .int .i64 k ∧ (labBulk (fs.take k) : Int) ≤ left - fs.length ∧ l = .int .i64 (left - fs.length - labBulk (fs.take k)) ∧ Below w.heap.size w wr) (fun _ i _ => fs.length - (intOf i).toNat)
    case atStart => exact ⟨0, Nat.zero_le _, rfl, by simp [labBulk]; omega, by simp [labBulk], Below.refl _ _⟩
    case round =>
      obtain ⟨k, hk, rfl, hle, rfl, hbel⟩ := hrel
      by_cases hlt : k < fs.length
      · obtain ⟨b, o, rfl, hb, c0, c1⟩ := (HF.out.later hbel).at hlt
        have hss := HS.out k hlt
        have hts := labBulk_take_succ fs k hlt
        have htl := labBulk_take_le fs (k + 1)
        by_cases c3 : ((fs[k].name.size + fs[k].value.size : Nat) : Int) ≤ left - fs.length - labBulk (fs.take k)
        · have e : szLab (left - fs.length - labBulk (fs.take k)) fs[k] = left - fs.length - labBulk (fs.take (k + 1)) := by
            unfold szLab; rw [if_pos (by omega), hts]; omega
          have E : Hid (szLab (left - fs.length - labBulk (fs.take k)) fs[k] = left - fs.length - labBulk (fs.take (k + 1))) := e
          have hle2 : (labBulk (fs.take (k + 1)) : Int) ≤ left - fs.length := by omega
          clear e hts
          go_wp2_with fail
          refine (szLabel_any fs[k] _ _ (by omega) (by omega) hss.1 hss.2).mono ?_
          rintro e w' ⟨rfl, hb2⟩
          rw [E.out]
          go_wp2
          exact ⟨⟨k + 1, by omega, by go_num, hle2, rfl, hbel.trans (hb2.mono hbel.size)⟩, by simp [intOf]; omega⟩
        · have e : szLab (left - fs.length - labBulk (fs.take k)) fs[k] = -1 := by
            unfold szLab; rw [if_neg (by omega)]
          have E : Hid (szLab (left - fs.length - labBulk (fs.take k)) fs[k] = -1) := e
          have E2 : Hid (szLabs left fs = -1) := by show szLabs left fs = -1; unfold szLabs; rw [if_neg (by omega)]
          clear e hts
          go_wp2_with fail
          refine (szLabel_any fs[k] _ _ (by omega) (by omega) hss.1 hss.2).mono ?_
          rintro e w' ⟨rfl, hb2⟩
          rw [E.out]
          go_wp2
          go_ret
          exact ⟨ret_int E2.out.symm, hbel.trans (hb2.mono hbel.size)⟩
      · go_wp2
        go_ret
        have e : fs.take k = fs := List.take_of_length_le (by omega)
        rw [e] at hle ⊢
        exact ⟨ret_int (by unfold szLabs; rw [if_pos (by omega)]), hbel⟩

set_option maxHeartbeats 400000 in
theorem toLabel_any (nm da : ByteArray) (w : World) :
    Calls Tryd.prog 63 #[.agg #[.string nm, .string da]] w fun e w' => e = .returned (.agg #[.string nm, .string da]) ∧ Below w.heap.size w w' := by
  go_enter Tryd.func63, Tryd.ntmps63
  go_wp2
  exact bodyPost_ret (v := .agg #[.string nm, .string da]) (by simp [results, Tryd.results63, go_sem]) rfl ⟨rfl, (((Below.refl _ _).alloc (Nat.le_refl _) _).alloc (by simp) _).alloc (by simp; omega) _⟩

set_option maxHeartbeats 1000000 in
theorem toLabelS_any (a : Option Addr) (cap : Nat) (fs : List LabD) (w : World) (hf : LabsIn w a fs) (hlen : fs.length ≤ 1048576) :
    Calls Tryd.prog 53 #[.slice a fs.length cap] w fun e w' => e = .returned (.slice (some ⟨w.heap.size, 0, none⟩) fs.length fs.length) ∧ LabsOwn w' w.heap.size (some ⟨w.heap.size, 0, none⟩) fs ∧ Below w.heap.size w w' := by
  have HF : Hid (LabsIn w a fs) := hf
  clear hf
  have hmk := make_labels fs.length hlen
  go_enter Tryd.func53, Tryd.ntmps53
  go_wp2
  go_loopw [4] (fun i wr => ∃ k : Nat, k ≤ fs.length ∧ i = .int .i64 k ∧ FillL wr w.heap.size fs.length fs k ∧ Below w.heap.size w wr ∧ w.heap.size < wr.heap.size) (fun i _ => fs.length - (intOf i).toNat)
  case atStart => exact ⟨0, Nat.zero_le _, rfl, ⟨_, heap_alloc_new _ _, size_madeCells _ _, fun i _ h => absurd h (by omega)⟩, (Below.refl _ _).alloc (Nat.le_refl _) _, by simp⟩
  case round =>
    obtain ⟨k, hk, rfl, hfill, hbel, hsz⟩ := hrel
    have HFill : Hid (FillL wr w.heap.size fs.length fs k) := hfill
    clear hfill hmk
    by_cases hlt : k < fs.length
    · obtain ⟨b, o, rfl, hb, c0, c1⟩ := (HF.out.later hbel).at hlt
      go_wp2_with fail
      refine (toLabel_any _ _ _).mono ?_
      rintro e w' ⟨rfl, hb2⟩
      have hF2 := HFill.out.later hb2 hsz
      obtain ⟨⟨v0, d0⟩, f0⟩ := hF2.cells (j := k * 2) (by omega)
      obtain ⟨⟨v1, d1⟩, f1⟩ := hF2.cells (j := k * 2 + 1) (by omega)
      have HF2 : Hid (FillL w' w.heap.size fs.length fs k) := hF2
      clear hF2
      go_wp2
      exact ⟨⟨k + 1, by omega, by go_num, HF2.out.step hlt (Nat.le_refl _), ((hbel.trans (hb2.mono hbel.size)).setCell (Nat.le_refl _) _).setCell (Nat.le_refl _) _, by have := hb2.size; simp; omega⟩, by simp [intOf]; omega⟩
    · go_wp2
      go_ret
      have e : k = fs.length := by omega
      exact ⟨rfl, by have := HFill.out; rw [e] at this; exact this.done (Nat.le_refl _), hbel⟩

end Go.Proofs.YtoecnlhnfhongaaDoor

