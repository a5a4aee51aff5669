import Derived.Test.YtpajhkikcofhfaaGreatDoorJ01Own
import Derived.Maps.OwnSet
import Derived.Test.YtpajhkikcofhfaaGreatDoorProg
import Derived.Test.YtpajhkikcofhfaaGreatDoorJ05HpM
import Derived.Deep.AppendLies
import Derived.Deep.RegionLaw
import Derived.Deep.DeepCutAuto
import Derived.Test.YtpajhkikcofhfaaGreatDoorJ02LabB
import Derived.Test.YtpajhkikcofhfaaGreatDoorJ04StaL
import Derived.Maps.OwnOps
import Derived.StringKeys
namespace Go.Proofs.YtpajhkikcofhfaaGreatDoor
open Go.RowKit

structure Turn (S : Nat → Prop) (w w' : World) : Prop where
  os : w'.os = w.os
  tape : w'.tape = w.tape
  output : w'.output = w.output
  size : w.heap.size ≤ w'.heap.size
  block : ∀ k, k < w.heap.size → ¬ S k → w'.heap[k]? = w.heap[k]?
theorem Turn.refl (S : Nat → Prop) (w : World) : Turn S w w := ⟨rfl, rfl, rfl, Nat.le_refl _, fun _ _ _ => rfl⟩
theorem Turn.trans {S : Nat → Prop} {a b c : World} (h : Turn S a b) (k : Turn (fun i => S i ∨ a.heap.size ≤ i) b c) : Turn S a c :=
  ⟨k.os.trans h.os, k.tape.trans h.tape, k.output.trans h.output, Nat.le_trans h.size k.size, fun i hi hn => (k.block i (Nat.lt_of_lt_of_le hi h.size) (fun h' => by rcases h' with h' | h'; exact hn h'; omega)).trans (h.block i hi hn)⟩
theorem Turn.trans' {S : Nat → Prop} {a b c : World} (h : Turn S a b) (k : Turn S b c) : Turn S a c :=
  ⟨k.os.trans h.os, k.tape.trans h.tape, k.output.trans h.output, Nat.le_trans h.size k.size, fun i hi hn => (k.block i (Nat.lt_of_lt_of_le hi h.size) hn).trans (h.block i hi hn)⟩
theorem Turn.mono {S S' : Nat → Prop} {a b : World} (h : Turn S a b) (hs : ∀ i, i < a.heap.size → S i → S' i) : Turn S' a b :=
  ⟨h.os, h.tape, h.output, h.size, fun i hi hn => h.block i hi (fun h' => hn (hs i hi h'))⟩
theorem Turn.of {S : Nat → Prop} {a b : World} (h : Below a.heap.size a b) : Turn S a b := ⟨h.os, h.tape, h.output, h.size, fun k hk _ => h.block k hk⟩
theorem Turn.but {g : Nat} {a b : World} (h : But g a b) : Turn (· = g) a b := ⟨h.os, h.tape, h.output, h.size, fun k hk hn => h.block k hk hn⟩
theorem Turn.grown {r : Option Nat} {a b : World} (h : a.grownBy b r) : Turn (fun k => r = some k) a b := ⟨h.os, h.tape, h.output, h.size, fun k hk hn => h.block k hk (fun e => hn e.symm)⟩
theorem Turn.below {S : Nat → Prop} {B : Nat} {a b : World} (h : Turn S a b) (hB : B ≤ a.heap.size) (hs : ∀ k, k < B → ¬ S k) : Below B a b :=
  ⟨h.os, h.tape, h.output, h.size, fun k hk => h.block k (by omega) (hs k hk)⟩
theorem Turn.drew {S : Nat → Prop} {a b : World} (h : Turn S a b) : Turn S a b.drew := ⟨h.os, h.tape, h.output, h.size, h.block⟩
theorem Turn.alloc {S : Nat → Prop} {a b : World} (h : Turn S a b) (o : Obj) : Turn S a (b.alloc o) := h.trans' (Turn.of (bnew _ _))
theorem Turn.setCell {S : Nat → Prop} {a b : World} (h : Turn S a b) {g : Nat} (hg : S g ∨ a.heap.size ≤ g) (o : Nat) (v : Value) : Turn S a (b.setCell ⟨g, o, none⟩ v) :=
  h.trans ((Turn.but ((But.refl g b).setCell o v)).mono fun i _ e => by subst e; exact hg)
theorem Turn.blk {S : Nat → Prop} {a b : World} (h : Turn S a b) {g : Nat} {cur : Array Value} {t : TypeId} (hb : Blk a g cur t) (hg : ¬ S g) : Blk b g cur t := (h.block g (lt_of_block hb) hg).trans hb
theorem Turn.row {S : Nat → Prop} {a b : World} (h : Turn S a b) {B : Nat} {e : TypeId} {size : Nat} {v : Value} {n : Nat} {xs : List Value} (hr : a.ownsRow B e size v n xs) (hg : ∀ g, v.ownBlock = some g → ¬ S g) : b.ownsRow B e size v n xs := by
  refine ⟨hr.1, ?_⟩
  rcases hr.2 with h0 | ⟨g, cap, cur, rfl, hB, hb, r⟩
  · exact Or.inl h0
  · exact Or.inr ⟨g, cap, cur, rfl, hB, (h.block g (lt_of_block hb) (hg g rfl)).trans hb, r⟩
theorem Turn.map {H : Type} {S : Nat → Prop} {a b : World} (h : Turn S a b) {P : Program} {k : TypeId} {R : Value → Option (DataW H × List MemPlace)} {m n : Nat} {D : DataW H} (hm : a.ownsMap P k R m n D) (hg : ¬ S m) : b.ownsMap P k R m n D := by
  have hlt := hm.lt
  obtain ⟨es, clock, hb, r⟩ := hm
  exact ⟨es, clock, (h.block m hlt hg).trans hb, r⟩
end Go.Proofs.YtpajhkikcofhfaaGreatDoor

namespace Go.Proofs.YtpajhkikcofhfaaGreatDoor
open Go.RowKit

def flatS (hs : List SgD) : List Value := hs.flatMap fun x => [.pointer (some ⟨x.b, 0, none⟩), .int .i64 x.t]
theorem flatS_append (a b : List SgD) : flatS (a ++ b) = flatS a ++ flatS b := by simp [flatS]
theorem flatS_length (hs : List SgD) : (flatS hs).length = hs.length * 2 := by
  induction hs with
  | nil => rfl
  | cons x r ih => simp [flatS] at ih ⊢; omega
theorem flatS_get : ∀ (hs : List SgD) (k : Nat), k < hs.length → (flatS hs)[k * 2]? = some (.pointer (some ⟨(hget hs k).b, 0, none⟩)) ∧ (flatS hs)[k * 2 + 1]? = some (.int .i64 (hget hs k).t)
  | [], k, h => absurd h (by simp)
  | x :: r, 0, _ => ⟨rfl, rfl⟩
  | x :: r, k + 1, h => by
    have ih := flatS_get r k (by simpa using h)
    have e : flatS (x :: r) = .pointer (some ⟨x.b, 0, none⟩) :: .int .i64 x.t :: flatS r := rfl
    rw [e, show (k + 1) * 2 = k * 2 + 1 + 1 by omega, List.getElem?_cons_succ, List.getElem?_cons_succ, List.getElem?_cons_succ, List.getElem?_cons_succ]
    exact ih
theorem heapM_of_row {w : World} {B g n cap : Nat} {hs : List SgD} (h : w.ownsRow B 126 2 (.slice (some ⟨g, 0, none⟩) n cap) n (flatS hs)) (hn : n = hs.length) : HeapM w g cap hs ∧ B ≤ g := by
  rcases h.2 with ⟨e, _⟩ | ⟨g', cap', cur, e, hB, hb, h1, h2, h3, h4⟩
  · simp at e
  · simp only [Value.slice.injEq, Option.some.injEq, Addr.mk.injEq, and_true, true_and] at e
    obtain ⟨rfl, rfl⟩ := e
    refine ⟨⟨cur, hb, h3, by omega, h2, fun k hk => ?_⟩, hB⟩
    have h5 : ∀ j, j < n * 2 → cur[j]? = (flatS hs)[j]? := fun j hj => by rw [← h4, List.getElem?_take_of_lt hj, Array.getElem?_toList]
    rw [h5 _ (by omega), h5 _ (by omega)]
    exact flatS_get hs k hk
theorem row_of_heapM {w : World} {B g cap : Nat} {hs : List SgD} (h : HeapM w g cap hs) (hB : B ≤ g) : w.ownsRow B 126 2 (.slice (some ⟨g, 0, none⟩) hs.length cap) hs.length (flatS hs) := by
  obtain ⟨cur, h1, h2, h3, h4, h5⟩ := h
  refine ⟨flatS_length hs, Or.inr ⟨g, cap, cur, rfl, hB, h1, h3, h4, h2, ?_⟩⟩
  apply List.ext_getElem?
  intro j
  by_cases hj : j < hs.length * 2
  · rw [List.getElem?_take_of_lt hj, Array.getElem?_toList]
    obtain ⟨q1, q2⟩ := h5 (j / 2) (by omega)
    obtain ⟨r1, r2⟩ := flatS_get hs (j / 2) (by omega)
    rcases Nat.mod_two_eq_zero_or_one j with e | e
    · have : j = j / 2 * 2 := by omega
      rw [this, q1, r1]
    · have : j = j / 2 * 2 + 1 := by omega
      rw [this, q2, r2]
  · rw [List.getElem?_eq_none (by simp; omega), List.getElem?_eq_none (by rw [flatS_length]; omega)]

theorem info_sight : (Tryz.prog.info? 126).map (fun i => (i.zero, i.size, i.bytes)) = some (some (.agg #[.pointer none, .int .i64 0]), 2, 16) := by kernel_rfl

set_option maxHeartbeats 1000000 in
theorem before_any (p q : Value) (s t : Int) (w : World) : Calls Tryz.prog 151 #[.agg #[p, .int .i64 s], .agg #[q, .int .i64 t]] w fun e w' => e = .returned (.bool (decide (s < t))) ∧ Below w.heap.size w w' := by
  go_enter Tryz.func151, Tryz.ntmps151
  go_wp2
  go_ret
  exact ⟨rfl, bto (bnew _ _) (bnew _ _)⟩

theorem invokeBefore (x y : Value) (w : World) : (invoke (.fn (.method "loop.example/s02176/impl.before") #[]) #[.iface 126 x, y]).run Tryz.prog w = .ok (.enter 151 #[x, y]) w := by kernel_rfl
/-- A method that is called through an interface, in a region whose callees turn nothing that lay there. -/
theorem wpQuiet_enter {P : Program} {ops : Array Oper} {C : World → Prop} {Q : Act → Prop} {a : Act} {o : Oper} {rest : List Oper} {f : FuncId} {args : Array Value} {v : Value} (hw : Region.wanted o (yielded ops a.tmps) = true)
    (hx : ∀ w, (execOp a.eval o).run P w = .ok (.enter f args) w) (hc : ∀ w, C w → Calls P f args w (fun e w'' => e = .returned v ∧ C w'')) (h : wpQuiet P ops C Q rest (a.put o.dst v)) : wpQuiet P ops C Q (o :: rest) a :=
  BigFrame.wpQuiet_want hw fun K hK => ⟨v, fun w hw => by unfold Oper.quietAt; rw [hx]; exact ⟨rfl, hc w hw⟩, hK _ h⟩
theorem exec_invoke {P : Program} (ρ : Operand → Value) (o : Oper) (r y : Operand) (name : String) (ts : Array TypeId) (ho : o.op = .call { callee := .invoke r name, args := #[y], argTypes := ts }) {u z : Value} (hr : ρ r = u) (hy : ρ y = z) {n : Next} {w : World}
    (h : (invoke (.fn (.method name) #[]) #[u, z]).run P w = .ok n w) : (execOp ρ o).run P w = .ok n w := by
  unfold execOp
  simp only [ho, resolve]
  simp [hr, hy, h]

set_option maxRecDepth 100000 in
set_option maxHeartbeats 4000000 in
theorem push_any (x o B : Nat) (v : Value) (hs : List SgD) (s : SgD) (w : World) (cx : Array Value) (tx : TypeId) (hX : Blk w x cx tx) (ho : cx[o]? = some v) (hown : w.ownsRow B 126 2 v hs.length (flatS hs)) (hsep : v.ownBlock ≠ some x) (hB : B ≤ w.heap.size) (hn : hs.length ≤ 1000000000) :
    Calls Tryz.prog 65 #[.pointer (some ⟨x, o, none⟩), .agg #[.pointer (some ⟨s.b, 0, none⟩), .int .i64 s.t]] w fun e w' => e = .returned (.tuple #[]) ∧ ∃ g cap, Blk w' x (cx.setIfInBounds o (.slice (some ⟨g, 0, none⟩) (hs.length + 1) cap)) tx ∧
      w'.ownsRow B 126 2 (.slice (some ⟨g, 0, none⟩) (hs.length + 1) cap) (hs.length + 1) (flatS (pushL hs s)) ∧ (v.ownBlock = some g ∨ w.heap.size ≤ g) ∧ Turn (fun k => k = x ∨ v.ownBlock = some k) w w' := by
  obtain ⟨i0, hi, hz0, hz1, hz2⟩ := info_parts info_sight
  have c0 : w.cell? ⟨x, o, none⟩ = some v := by rw [hX.cell]; exact ho
  have f0 := hX.free o
  have hxl := lt_of_block hX
  have HX : Hid (Blk w x cx tx) := hX
  clear hX
  have OWN : Hid (((w.alloc (.cells #[.pointer (some ⟨s.b, 0, none⟩), .int .i64 s.t] 126)).alloc (.cells #[.pointer (some ⟨s.b, 0, none⟩), .int .i64 s.t] 126)).ownsRow B 126 2 v hs.length (flatS hs)) := hid ((hown.alloc _).alloc _)
  have NEW : Hid (((w.alloc (.cells #[.pointer (some ⟨s.b, 0, none⟩), .int .i64 s.t] 126)).alloc (.cells #[.pointer (some ⟨s.b, 0, none⟩), .int .i64 s.t] 126)).heap[w.heap.size + 1]? = some (.cells #[.pointer (some ⟨s.b, 0, none⟩), .int .i64 s.t] 126 (0, 0))) := hid (by have := heap_alloc_new (w.alloc (.cells #[.pointer (some ⟨s.b, 0, none⟩), .int .i64 s.t] 126)) (.cells #[.pointer (some ⟨s.b, 0, none⟩), .int .i64 s.t] 126); simpa using this)
  have KEEP : Hid (∀ w1 : World, ((w.alloc (.cells #[.pointer (some ⟨s.b, 0, none⟩), .int .i64 s.t] 126)).alloc (.cells #[.pointer (some ⟨s.b, 0, none⟩), .int .i64 s.t] 126)).grownBy w1 v.ownBlock → Blk w1 x cx tx ∧ Turn (fun k => v.ownBlock = some k) w w1) := fun w1 h => by
    have ht := (Turn.of (S := fun k => v.ownBlock = some k) (bto (bnew w _) (bnew _ _))).trans' (Turn.grown h)
    exact ⟨ht.blk HX.out hsep, ht⟩
  clear f0 hown
  go_enter Tryz.func65, Tryz.ntmps65
  go_upto_region 1 with fail
  go_cut [13] (fun _ wx => ∃ g cap, Blk wx x (cx.setIfInBounds o (.slice (some ⟨g, 0, none⟩) (hs.length + 1) cap)) tx ∧ HeapM wx g cap (hs ++ [s]) ∧ B ≤ g ∧ (v.ownBlock = some g ∨ w.heap.size ≤ g) ∧ g ≠ x ∧ Turn (fun k => k = x ∨ v.ownBlock = some k) w wx)
  case first =>
    go_region_law (refine step_append_lies _ rfl (.tmp 10) (.tmp 12) 96 rfl B 126 i0 (.agg #[.pointer none, .int .i64 0]) 2 16 Tryz.underlying96 hi hz0 hz1 hz2 rfl (by decide) v hs.length (flatS hs) (by simp [Act.eval]) (by exact OWN.out) ⟨w.heap.size + 1, 0, none⟩ 1 1 [.pointer (some ⟨s.b, 0, none⟩), .int .i64 s.t] (by simp [Act.eval]) rfl (World.news_of_block (cs := #[.pointer (some ⟨s.b, 0, none⟩), .int .i64 s.t]) (by exact NEW.out)) (by intro u hu; simp at hu; rcases hu with rfl | rfl <;> rfl) (by omega) (by unfold maxLen; omega) (by omega) (by simp; omega) (w.heap.size + 1 + 1) (by simp) ?_; intro g cap w1 hrow hgr hloc hlt; obtain ⟨hx1, ht1⟩ := KEEP.out w1 ⟨hgr.os, hgr.tape, hgr.output, hgr.size, hgr.block⟩; have c1 : w1.cell? ⟨x, o, none⟩ = some v := (by rw [hx1.cell]; exact ho); have f1 := hx1.free o)
    all_goals (go_wp2_with fail; go_meet)
    all_goals
      have hr2 : w1.ownsRow B 126 2 (.slice (some ⟨g, 0, none⟩) (hs.length + 1) cap) (hs.length + 1) (flatS (hs ++ [s])) := by rw [flatS_append]; exact hrow
      obtain ⟨hM, hBg⟩ := heapM_of_row hr2 (by simp)
      have hne : g ≠ x := by
        rcases hloc with h | h
        · exact fun e => hsep (by rw [← e]; exact h)
        · omega
      obtain ⟨cur, m1, m2⟩ := hM
      exact ⟨g, cap, hx1.set o _, ⟨cur, m1.but ((But.refl _ _).setCell _ _) hne, m2⟩, hBg, by rcases hloc with h | h; exact Or.inl h; exact Or.inr (by omega), hne, Turn.setCell (S := fun k => k = x ∨ v.ownBlock = some k) (ht1.mono fun k _ hk => Or.inr hk) (Or.inl (Or.inl rfl)) _ _⟩
  obtain ⟨g, cap, hx1, hM1, hBg, hloc, hne, ht1⟩ := hcut
  rename World => w1
  have HX1 : Hid (Blk w1 x (cx.setIfInBounds o (.slice (some ⟨g, 0, none⟩) (hs.length + 1) cap)) tx) := hx1
  have HM1 : Hid (HeapM w1 g cap (hs ++ [s])) := hM1
  have HT1 : Hid (Turn (fun k => k = x ∨ v.ownBlock = some k) w w1) := ht1
  have HLOC : Hid (v.ownBlock = some g ∨ w.heap.size ≤ g) := hloc
  have hoc : o < cx.size := (Array.getElem?_eq_some_iff.1 ho).1
  have hcx : (cx.setIfInBounds o (.slice (some ⟨g, 0, none⟩) (hs.length + 1) cap))[o]? = some (.slice (some ⟨g, 0, none⟩) (hs.length + 1) cap) := by simp [hoc]
  obtain ⟨cx1, hcd⟩ : ∃ c, c = cx.setIfInBounds o (.slice (some ⟨g, 0, none⟩) (hs.length + 1) cap) := ⟨_, rfl⟩
  rw [← hcd] at hcx HX1
  have HCD : Hid (cx1 = cx.setIfInBounds o (.slice (some ⟨g, 0, none⟩) (hs.length + 1) cap)) := hcd
  clear hcd
  have k0 : w1.cell? ⟨x, o, none⟩ = some (.slice (some ⟨g, 0, none⟩) (hs.length + 1) cap) := by rw [HX1.out.cell]; exact hcx
  clear hx1 hM1 ht1 hloc OWN NEW KEEP HX c0 ho hi hz0 hz1 hz2 hsep
  go_wp2
  go_loopw [4] (fun a wr => ∃ (k : Nat) (l : List SgD), a = .int .i64 k ∧ k < l.length ∧ l.length = hs.length + 1 ∧ Blk wr x cx1 tx ∧ HeapM wr g cap l ∧ Hid (pushL hs s = siftUp l k) ∧ Turn (fun k => k = x ∨ v.ownBlock = some k) w wr) (fun a _ => (intOf a).toNat)
  case atStart => exact ⟨hs.length, hs ++ [s], by go_num, by simp, by simp, HX1.out, HM1.out, rfl, HT1.out⟩
  case round =>
    obtain ⟨k, l, rfl, hk, hl, hx2, hM2, HS, ht2⟩ := hrel
    have HX2 : Hid (Blk wr x cx1 tx) := hx2
    have HM2 : Hid (HeapM wr g cap l) := hM2
    have HT2 : Hid (Turn (fun k => k = x ∨ v.ownBlock = some k) w wr) := ht2
    have k1 : wr.cell? ⟨x, o, none⟩ = some (.slice (some ⟨g, 0, none⟩) (hs.length + 1) cap) := by rw [hx2.cell]; exact hcx
    clear hx2 hM2 ht2 k0
    by_cases h0 : 0 < k
    · have hst := siftUp_step (l := l) h0
      obtain ⟨q, hqd⟩ : ∃ q, q = (k - 1) / 2 := ⟨_, rfl⟩
      rw [← hqd] at hst
      have hq : ((k : Int) - 1) / 2 = (q : Nat) := by omega
      have hp : q < l.length := by omega
      have hqk : q < k := by omega
      have h1 : (1 : Int) ≤ k := by omega
      obtain ⟨a0, a1, _, _⟩ := HM2.out.cells hk
      obtain ⟨b0, b1, _, _⟩ := HM2.out.cells hp
      have HST : Hid (siftUp l k = if (hget l k).t < (hget l q).t then siftUp (swapL l k q) q else l) := hst
      have HSW : Hid (∀ W, Below wr.heap.size wr W → Calls Tryz.prog 79 #[.pointer (some ⟨x, o, none⟩), .int .i64 k, .int .i64 (((k : Int) - 1) / 2)] W fun e w' => e = .returned (.tuple #[]) ∧ HeapM w' g cap (swapL l k q) ∧ But g W w') :=
        fun W hW => by rw [hq]; exact swap_any x o g (hs.length + 1) cap k q l W (by rw [(HX2.out.later hW).cell]; exact hcx) hl.symm (HM2.out.later hW) (by omega) (by omega)
      have HL : Hid (l.length = hs.length + 1) := hl
      have hkn : k < hs.length + 1 := by omega
      have hqn : q < hs.length + 1 := by omega
      clear hst hqd hl
      have d0 := Later.cells k1
      have d1 := Later.cells a0
      have d2 := Later.cells a1
      have d3 := Later.cells b0
      have d4 := Later.cells b1
      have hnel := Later.there wr
      clear a0 a1 b0 b1 k1
      generalize hget l k = A at *
      generalize hget l q = C at *
      go_wp2_with fail
      refine wp_region_later (by kernel_rfl) (by kernel_rfl) ?_
      repeat (go_big_quiet_step (fail))
      refine wpQuiet_enter (by rfl) (fun W => exec_invoke _ _ _ _ _ _ rfl rfl rfl (invokeBefore _ _ W)) (by rintro _ ⟨x, rfl⟩; exact calls_later (before_any _ _ _ _ _)) ?_
      simp only [Act.put, List.setIfInBounds_toArray, List.set_cons_succ, List.set_cons_zero]
      repeat (go_big_quiet_step (fail))
      refine wpQuiet_nil ?_
      rintro _ ⟨y, rfl⟩
      have HY : Hid (Below wr.heap.size wr y.w') := y.h
      have HE : Hid ((((k : Int) - 1) / 2) = (q : Nat)) := hq
      clear d0 d1 d2 d3 d4 hnel hq
      generalize y.w' = W2 at *
      clear y
      by_cases hAC : A.t < C.t
      · have hd : decide (A.t < C.t) = true := by simpa using hAC
        rw [hd]
        have HS2 : Hid (pushL hs s = siftUp (swapL l k q) q) := by show _ = _; rw [HS.out, HST.out, if_pos hAC]
        go_wp2_with fail
        refine (HSW.out _ HY.out).mono ?_
        rintro e w3 ⟨rfl, hM3, hb3⟩
        have HM3 : Hid (HeapM w3 g cap (swapL l k q)) := hM3
        have HX3 : Hid (Blk w3 x cx1 tx) := (HX2.out.later HY.out).but hb3 hne.symm
        have HT3 : Hid (Turn (fun k => k = x ∨ v.ownBlock = some k) w w3) := by
          refine (HT2.out.trans' (Turn.of HY.out)).trans ((Turn.but hb3).mono fun i _ e => ?_)
          subst e
          rcases HLOC.out with h | h
          · exact Or.inl (Or.inr h)
          · exact Or.inr h
        clear hM3 hb3 HSW
        go_wp2
        exact ⟨⟨q, swapL l k q, by rw [HE.out], by rw [swapL_length]; exact hp, by rw [swapL_length]; exact HL.out, HX3.out, HM3.out, HS2.out, HT3.out⟩, by simp [intOf]; omega⟩
      · have hd : decide (A.t < C.t) = false := by simpa using hAC
        rw [hd]
        have HS2 : Hid (pushL hs s = l) := by show _ = _; rw [HS.out, HST.out, if_neg hAC]
        go_wp2
        refine bodyPost_ret (v := .tuple #[]) (by simp [results, Tryz.results65, go_sem]) rfl ⟨rfl, g, cap, HCD.out ▸ HX2.out.later HY.out, ?_, HLOC.out, HT2.out.trans' (Turn.of HY.out)⟩
        rw [HS2.out, ← HL.out]
        exact row_of_heapM (HM2.out.later HY.out) hBg
    · go_wp2
      go_end0
      obtain rfl : k = 0 := by omega
      rw [HS.out, siftUp_zero]
      refine ⟨rfl, g, cap, HCD.out ▸ HX2.out, ?_, HLOC.out, HT2.out⟩
      rw [← hl]
      exact row_of_heapM HM2.out hBg
end Go.Proofs.YtpajhkikcofhfaaGreatDoor

namespace Go.Proofs.YtpajhkikcofhfaaGreatDoor
open Go.RowKit Go.Maps Go.ChangeMaps

def iVal (n : Int) : DataW Unit := .lit (.int .i64 n)
def pVal (g : Nat) : DataW Unit := .lit (.int .i64 (g : Int))
/-- How a pointer to a block's head reads: as the block's number. -/
def ptrElem : Value → Option (DataW Unit × List MemPlace)
  | .pointer (some ⟨g, 0, none⟩) => some (pVal g, [])
  | .pointer none => some (.nil, [])
  | _ => none
theorem ptrElem_mk (g : Nat) : ptrElem (.pointer (some ⟨g, 0, none⟩)) = some (pVal g, []) := rfl
theorem keyed : Keyed Tryz.prog 9 := string_keyed Tryz.underlying9
theorem key_mk {s : ByteArray} (h : s.size ≤ maxLen) : keyOf Tryz.prog 9 (.string s) = some (kL s) := WideMaps.keyOf_string_mk Tryz.underlying9 h
theorem tight {H : Type} {P : Program} {w : World} {k : TypeId} {R : Value → Option (DataW H × List MemPlace)} {b n : Nat} {D : DataW H} (h : w.ownsMap P k R b n D) : w.ownsMap P k R b (Maps.size D) D := by
  obtain ⟨es, clock, hb, F, hs, rfl⟩ := h
  refine ⟨es, clock, hb, F, ?_, rfl⟩
  rw [size_eq, length_sorted, List.length_map, Array.length_toList]
  exact Nat.le_refl _

/-- An index lies at block x, in blocks of S, and reads as the tenant t. -/
structure IdxS (w : World) (S : Nat → Prop) (x : Nat) (t : TenD) (M lm sm cm : Nat) (iv : Value) (Q : List (PairD × Nat)) (hs : List SgD) (D : DataW Unit) : Prop where
  blk : Blk w x #[.int .i64 t.limit, .map (some lm), .map (some sm), .map (some cm), iv] 100
  lims : w.ownsMap Tryz.prog 9 (plainElem Tryz.prog 3) lm t.mets.length (mapOf (t.mets.map fun p => (p.s, iVal p.n)))
  sers : w.ownsMap Tryz.prog 9 ptrElem sm Q.length (mapOf (Q.map fun q => (q.1.s, pVal q.2)))
  cnts : w.ownsMap Tryz.prog 9 (plainElem Tryz.prog 3) cm M D
  cnt : ∀ m : ByteArray, D.atKey (kL m) (iVal 0) = iVal (cntM metK t.sers m)
  q1 : Q.map (·.1) = t.sers
  cells : ∀ q ∈ Q, Blk w q.2 #[.string q.1.s, .int .i64 q.1.n] 102
  row : w.ownsRow 0 126 2 iv hs.length (flatS hs)
  heap : HeapOK hs
  perm : (hs.map (·.b)).Perm (Q.map (·.2))
  early : ∀ h ∈ hs, ∀ q ∈ Q, q.2 = h.b → h.t ≤ q.1.n
  rm : RiseBy (·.s) t.mets
  rs : RiseBy (·.s) t.sers
  sx : S x
  sl : S lm
  ss : S sm
  sc : S cm
  sq : ∀ q ∈ Q, S q.2
  si : ∀ g, iv.ownBlock = some g → S g
  d1 : lm ≠ sm
  d2 : lm ≠ cm
  d3 : sm ≠ cm
  nd : (Q.map (·.2)).Nodup
  dx : ∀ q ∈ Q, q.2 ≠ x
  di : ∀ g, iv.ownBlock = some g → g ≠ x ∧ ∀ q ∈ Q, q.2 ≠ g
def IdxAt (w : World) (S : Nat → Prop) (x : Nat) (t : TenD) (M : Nat) : Prop := ∃ lm sm cm iv Q hs D, IdxS w S x t M lm sm cm iv Q hs D
theorem row_lt {w : World} {B : Nat} {e : TypeId} {size : Nat} {v : Value} {n : Nat} {xs : List Value} (h : w.ownsRow B e size v n xs) : ∀ g, v.ownBlock = some g → g < w.heap.size := by
  intro g hg
  rcases h.2 with ⟨rfl, _⟩ | ⟨g', cap, cur, rfl, _, hb, _⟩
  · cases hg
  · simp only [Value.ownBlock, Option.some.injEq] at hg
    subst hg; exact lt_of_block hb
/-- Whatever turns nothing of its own. -/
theorem IdxS.keep {w w' : World} {S S' : Nat → Prop} {x : Nat} {t : TenD} {M lm sm cm : Nat} {iv : Value} {Q : List (PairD × Nat)} {hs : List SgD} {D : DataW Unit} (h : IdxS w S x t M lm sm cm iv Q hs D)
    (hk : ∀ g, g < w.heap.size → S g → w'.heap[g]? = w.heap[g]? ∧ S' g) : IdxS w' S' x t M lm sm cm iv Q hs D := by
  have hm : ∀ {R : Value → Option (DataW Unit × List MemPlace)} {b n : Nat} {E : DataW Unit}, w.ownsMap Tryz.prog 9 R b n E → S b → w'.ownsMap Tryz.prog 9 R b n E := fun {R b n E} h hs => by
    have hlt := h.lt
    obtain ⟨es, clock, hb, r⟩ := h
    exact ⟨es, clock, (hk b hlt hs).1.trans hb, r⟩
  have hb : ∀ {g : Nat} {cur : Array Value} {tt : TypeId}, Blk w g cur tt → S g → Blk w' g cur tt := fun {g cur tt} h hs => (hk g (lt_of_block h) hs).1.trans h
  exact { h with
    blk := hb h.blk h.sx
    lims := hm h.lims h.sl
    sers := hm h.sers h.ss
    cnts := hm h.cnts h.sc
    cells := fun q hq => hb (h.cells q hq) (h.sq q hq)
    row := by
      refine ⟨h.row.1, ?_⟩
      rcases h.row.2 with h0 | ⟨g, cap, cur, e, hB, hblk, r⟩
      · exact Or.inl h0
      · have : iv.ownBlock = some g := by rw [e]; rfl
        exact Or.inr ⟨g, cap, cur, e, hB, hb hblk (h.si g this), r⟩
    sx := (hk x (lt_of_block h.blk) h.sx).2
    sl := (hk lm h.lims.lt h.sl).2
    ss := (hk sm h.sers.lt h.ss).2
    sc := (hk cm h.cnts.lt h.sc).2
    sq := fun q hq => (hk q.2 (lt_of_block (h.cells q hq)) (h.sq q hq)).2
    si := fun g hg => (hk g (row_lt h.row g hg) (h.si g hg)).2 }
theorem IdxAt.keep {w w' : World} {S S' : Nat → Prop} {x : Nat} {t : TenD} {M : Nat} (h : IdxAt w S x t M) (hk : ∀ g, g < w.heap.size → S g → w'.heap[g]? = w.heap[g]? ∧ S' g) : IdxAt w' S' x t M := by
  obtain ⟨lm, sm, cm, iv, Q, hs, D, h⟩ := h
  exact ⟨lm, sm, cm, iv, Q, hs, D, h.keep hk⟩
theorem IdxAt.later {w w' : World} {S : Nat → Prop} {x : Nat} {t : TenD} {M : Nat} (h : IdxAt w S x t M) (hb : Below w.heap.size w w') : IdxAt w' S x t M := h.keep fun g hg hs => ⟨hb.block g hg, hs⟩
theorem IdxAt.lt {w : World} {S : Nat → Prop} {x : Nat} {t : TenD} {M : Nat} (h : IdxAt w S x t M) : x < w.heap.size := by
  obtain ⟨lm, sm, cm, iv, Q, hs, D, h⟩ := h
  exact lt_of_block h.blk
theorem IdxAt.mono {w : World} {S : Nat → Prop} {x : Nat} {t : TenD} {M M' : Nat} (h : IdxAt w S x t M) (hM : M ≤ M') : IdxAt w S x t M' := by
  obtain ⟨lm, sm, cm, iv, Q, hs, D, h⟩ := h
  exact ⟨lm, sm, cm, iv, Q, hs, D, { h with cnts := h.cnts.mono hM }⟩

theorem map_two (w : World) (o : Obj) : ((w.alloc (.map #[] 0)).alloc o).heap[w.heap.size]? = (w.alloc (.map #[] 0)).heap[w.heap.size]? := (bnew _ _).block _ (by simp)
set_option maxRecDepth 100000 in
set_option maxHeartbeats 1000000 in
theorem newIndex_any (limit : Int) (nm : ByteArray) (w : World) :
    Calls Tryz.prog 62 #[.int .i64 limit] w fun e w' => ∃ x, e = .returned (.pointer (some ⟨x, 0, none⟩)) ∧ w.heap.size ≤ x ∧ IdxAt w' (fun g => w.heap.size ≤ g) x ⟨nm, limit, [], []⟩ 0 ∧ Below w.heap.size w w' := by
  have hmm := @run_makeMap Tryz.prog
  go_enter Tryz.func62, Tryz.ntmps62
  go_wp2
  go_ret
  refine ⟨w.heap.size + 1 + 1 + 1, rfl, by omega, ⟨w.heap.size, w.heap.size + 1, w.heap.size + 1 + 1, .slice none 0 0, [], [], .map [], ?_⟩, bto (bto (bto (bnew _ _) (bnew _ _)) (bnew _ _)) (bnew _ _)⟩
  have m1 : ∀ R : Value → Option (DataW Unit × List MemPlace), (w.alloc (.map #[] 0)).ownsMap Tryz.prog 9 R w.heap.size 0 (.map []) := fun R => World.ownsMap_made w _ _ R
  have m2 : ∀ R : Value → Option (DataW Unit × List MemPlace), ((w.alloc (.map #[] 0)).alloc (.map #[] 0)).ownsMap Tryz.prog 9 R (w.heap.size + 1) 0 (.map []) := fun R => by have := World.ownsMap_made (w.alloc (.map #[] 0)) Tryz.prog 9 R; simpa using this
  have m3 : ∀ R : Value → Option (DataW Unit × List MemPlace), (((w.alloc (.map #[] 0)).alloc (.map #[] 0)).alloc (.map #[] 0)).ownsMap Tryz.prog 9 R (w.heap.size + 1 + 1) 0 (.map []) := fun R => by have := World.ownsMap_made ((w.alloc (.map #[] 0)).alloc (.map #[] 0)) Tryz.prog 9 R; simpa using this
  exact {
    blk := by have := Blk.new (((w.alloc (.map #[] 0)).alloc (.map #[] 0)).alloc (.map #[] 0)) #[.int .i64 limit, .map (some w.heap.size), .map (some (w.heap.size + 1)), .map (some (w.heap.size + 1 + 1)), .slice none 0 0] 100; simpa using this
    lims := (((m1 _).alloc _).alloc _).alloc _
    sers := ((m2 _).alloc _).alloc _
    cnts := (m3 _).alloc _
    cnt := fun m => rfl
    q1 := rfl
    cells := fun q hq => by cases hq
    row := World.ownsRow_nil _ _ _ _
    heap := fun i _ h => by simp at h
    perm := List.Perm.refl _
    early := fun h hh => by cases hh
    rm := List.Pairwise.nil
    rs := List.Pairwise.nil
    sx := by show w.heap.size ≤ _; omega
    sl := Nat.le_refl _
    ss := by show w.heap.size ≤ _; omega
    sc := by show w.heap.size ≤ _; omega
    sq := fun q hq => by cases hq
    si := fun g hg => by cases hg
    d1 := by omega
    d2 := by omega
    d3 := by omega
    nd := List.nodup_nil
    dx := fun q hq => by cases hq
    di := fun g hg => by cases hg }

set_option maxRecDepth 100000 in
set_option maxHeartbeats 1000000 in
theorem idle_any (x : Nat) (t : TenD) (S : Nat → Prop) (M : Nat) (w : World) (h : IdxAt w S x t M) :
    Calls Tryz.prog 51 #[.pointer (some ⟨x, 0, none⟩)] w fun e w' => e = .returned (.bool (idleB t)) ∧ w' = w := by
  obtain ⟨lm, sm, cm, iv, Q, hs, D, h⟩ := h
  have c0 : w.cell? ⟨x, 0, none⟩ = some (.int .i64 t.limit) := h.blk.cell 0
  have c1 : w.cell? ⟨x, 1, none⟩ = some (.map (some lm)) := h.blk.cell 1
  have c2 : w.cell? ⟨x, 2, none⟩ = some (.map (some sm)) := h.blk.cell 2
  have l1 := h.lims.len Tryz.underlying94 3
  have l2 := h.sers.len Tryz.underlying95 3
  rw [size_by] at l1 l2
  have hq : Q.length = t.sers.length := by rw [← h.q1, List.length_map]
  rw [hq] at l2
  clear h hq
  have E : Hid (idleB t = (t.limit == -1 && t.mets.length == 0 && t.sers.length == 0)) := rfl
  generalize t.mets.length = n1 at *
  generalize t.sers.length = n2 at *
  generalize t.limit = L at *
  by_cases h1 : L = -1
  · by_cases h2 : n1 = 0
    · go_enter Tryz.func51, Tryz.ntmps51
      go_wp2
      go_ret
      exact ⟨ret_bool (by rw [E.out, h1, h2]; rw [Bool.eq_iff_iff]; simp), rfl⟩
    · go_enter Tryz.func51, Tryz.ntmps51
      go_wp2
      go_ret
      exact ⟨ret_bool (by rw [E.out, h1]; rw [Bool.eq_iff_iff]; simp [h2]), rfl⟩
  · go_enter Tryz.func51, Tryz.ntmps51
    go_wp2
    go_ret
    exact ⟨ret_bool (by rw [E.out]; rw [Bool.eq_iff_iff]; simp [h1]), rfl⟩
end Go.Proofs.YtpajhkikcofhfaaGreatDoor

