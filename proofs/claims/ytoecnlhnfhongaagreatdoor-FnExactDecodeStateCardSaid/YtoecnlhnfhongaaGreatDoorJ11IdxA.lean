import Derived.Test.YtoecnlhnfhongaaGreatDoorProg
import Derived.Test.YtoecnlhnfhongaaGreatDoorJ10HpM
import Derived.Test.YtoecnlhnfhongaaGreatDoorJ02BatL
import Derived.Deep.AppendLies
import Derived.Deep.RegionLaw
import Derived.Deep.DeepCutAuto
import Derived.Test.YtoecnlhnfhongaaGreatDoorJ08LabB
import Derived.Maps.OwnOps
import Derived.StringKeys
namespace Go.Proofs.YtoecnlhnfhongaaGreatDoor
open Go.RowKit

def flatS (hs : List SgD) : List Value := hs.flatMap fun x => [.pointer (some ⟨x.b, 0, none⟩), .int .i64 x.t]
theorem flatS_append (a b : List SgD) : flatS (a ++ b) = flatS a ++ flatS b := by simp [flatS]
theorem flatS_length (hs : List SgD) : (flatS hs).length = hs.length * 2 := by
  induction hs with
  | nil => rfl
  | cons x r ih => simp [flatS] at ih ⊢; omega
theorem flatS_get : ∀ (hs : List SgD) (k : Nat), k < hs.length → (flatS hs)[k * 2]? = some (.pointer (some ⟨(hget hs k).b, 0, none⟩)) ∧ (flatS hs)[k * 2 + 1]? = some (.int .i64 (hget hs k).t)
  | [], k, h => absurd h (by simp)
  | x :: r, 0, _ => ⟨rfl, rfl⟩
  | x :: r, k + 1, h => by
    have ih := flatS_get r k (by simpa using h)
    have e : flatS (x :: r) = .pointer (some ⟨x.b, 0, none⟩) :: .int .i64 x.t :: flatS r := rfl
    rw [e, show (k + 1) * 2 = k * 2 + 1 + 1 by omega, List.getElem?_cons_succ, List.getElem?_cons_succ, List.getElem?_cons_succ, List.getElem?_cons_succ]
    exact ih
theorem heapM_of_row {w : World} {B g n cap : Nat} {hs : List SgD} (h : w.ownsRow B 140 2 (.slice (some ⟨g, 0, none⟩) n cap) n (flatS hs)) (hn : n = hs.length) : HeapM w g cap hs ∧ B ≤ g := by
  rcases h.2 with ⟨e, _⟩ | ⟨g', cap', cur, e, hB, hb, h1, h2, h3, h4⟩
  · simp at e
  · simp only [Value.slice.injEq, Option.some.injEq, Addr.mk.injEq, and_true, true_and] at e
    obtain ⟨rfl, rfl⟩ := e
    refine ⟨⟨cur, hb, h3, by omega, h2, fun k hk => ?_⟩, hB⟩
    have h5 : ∀ j, j < n * 2 → cur[j]? = (flatS hs)[j]? := fun j hj => by rw [← h4, List.getElem?_take_of_lt hj, Array.getElem?_toList]
    rw [h5 _ (by omega), h5 _ (by omega)]
    exact flatS_get hs k hk
theorem row_of_heapM {w : World} {B g cap : Nat} {hs : List SgD} (h : HeapM w g cap hs) (hB : B ≤ g) : w.ownsRow B 140 2 (.slice (some ⟨g, 0, none⟩) hs.length cap) hs.length (flatS hs) := by
  obtain ⟨cur, h1, h2, h3, h4, h5⟩ := h
  refine ⟨flatS_length hs, Or.inr ⟨g, cap, cur, rfl, hB, h1, h3, h4, h2, ?_⟩⟩
  apply List.ext_getElem?
  intro j
  by_cases hj : j < hs.length * 2
  · rw [List.getElem?_take_of_lt hj, Array.getElem?_toList]
    obtain ⟨q1, q2⟩ := h5 (j / 2) (by omega)
    obtain ⟨r1, r2⟩ := flatS_get hs (j / 2) (by omega)
    rcases Nat.mod_two_eq_zero_or_one j with e | e
    · have : j = j / 2 * 2 := by omega
      rw [this, q1, r1]
    · have : j = j / 2 * 2 + 1 := by omega
      rw [this, q2, r2]
  · rw [List.getElem?_eq_none (by simp; omega), List.getElem?_eq_none (by rw [flatS_length]; omega)]

theorem info_sight : (Tryz.prog.info? 140).map (fun i => (i.zero, i.size, i.bytes)) = some (some (.agg #[.pointer none, .int .i64 0]), 2, 16) := by kernel_rfl

set_option maxHeartbeats 1000000 in
theorem before_any (p q : Value) (s t : Int) (w : World) : Calls Tryz.prog 157 #[.agg #[p, .int .i64 s], .agg #[q, .int .i64 t]] w fun e w' => e = .returned (.bool (decide (s < t))) ∧ Below w.heap.size w w' := by
  go_enter Tryz.func157, Tryz.ntmps157
  go_wp2
  go_ret
  exact ⟨rfl, bto (bnew _ _) (bnew _ _)⟩

theorem invokeBefore (x y : Value) (w : World) : (invoke (.fn (.method "loop.example/s02176/impl.before") #[]) #[.iface 140 x, y]).run Tryz.prog w = .ok (.enter 157 #[x, y]) w := by kernel_rfl
/-- A method that is called through an interface, in a region whose callees turn nothing that lay there. -/
theorem wpQuiet_enter {P : Program} {ops : Array Oper} {C : World → Prop} {Q : Act → Prop} {a : Act} {o : Oper} {rest : List Oper} {f : FuncId} {args : Array Value} {v : Value} (hw : Region.wanted o (yielded ops a.tmps) = true)
    (hx : ∀ w, (execOp a.eval o).run P w = .ok (.enter f args) w) (hc : ∀ w, C w → Calls P f args w (fun e w'' => e = .returned v ∧ C w'')) (h : wpQuiet P ops C Q rest (a.put o.dst v)) : wpQuiet P ops C Q (o :: rest) a :=
  BigFrame.wpQuiet_want hw fun K hK => ⟨v, fun w hw => by unfold Oper.quietAt; rw [hx]; exact ⟨rfl, hc w hw⟩, hK _ h⟩
theorem exec_invoke {P : Program} (ρ : Operand → Value) (o : Oper) (r y : Operand) (name : String) (ts : Array TypeId) (ho : o.op = .call { callee := .invoke r name, args := #[y], argTypes := ts }) {u z : Value} (hr : ρ r = u) (hy : ρ y = z) {n : Next} {w : World}
    (h : (invoke (.fn (.method name) #[]) #[u, z]).run P w = .ok n w) : (execOp ρ o).run P w = .ok n w := by
  unfold execOp
  simp only [ho, resolve]
  simp [hr, hy, h]

set_option maxRecDepth 100000 in
set_option maxHeartbeats 4000000 in
theorem push_any (x o B : Nat) (v : Value) (hs : List SgD) (s : SgD) (w : World) (cx : Array Value) (tx : TypeId) (hX : Blk w x cx tx) (ho : cx[o]? = some v) (hown : w.ownsRow B 140 2 v hs.length (flatS hs)) (hsep : v.ownBlock ≠ some x) (hB : B ≤ w.heap.size) (hn : hs.length ≤ 1000000000) :
    Calls Tryz.prog 97 #[.pointer (some ⟨x, o, none⟩), .agg #[.pointer (some ⟨s.b, 0, none⟩), .int .i64 s.t]] w fun e w' => e = .returned (.tuple #[]) ∧ ∃ g cap, Blk w' x (cx.setIfInBounds o (.slice (some ⟨g, 0, none⟩) (hs.length + 1) cap)) tx ∧
      w'.ownsRow B 140 2 (.slice (some ⟨g, 0, none⟩) (hs.length + 1) cap) (hs.length + 1) (flatS (pushL hs s)) ∧ (v.ownBlock = some g ∨ w.heap.size ≤ g) ∧ Turn (fun k => k = x ∨ v.ownBlock = some k) w w' := by
  obtain ⟨i0, hi, hz0, hz1, hz2⟩ := info_parts info_sight
  have c0 : w.cell? ⟨x, o, none⟩ = some v := by rw [hX.cell]; exact ho
  have f0 := hX.free o
  have hxl := lt_of_block hX
  have HX : Hid (Blk w x cx tx) := hX
  clear hX
  have OWN : Hid (((w.alloc (.cells #[.pointer (some ⟨s.b, 0, none⟩), .int .i64 s.t] 140)).alloc (.cells #[.pointer (some ⟨s.b, 0, none⟩), .int .i64 s.t] 140)).ownsRow B 140 2 v hs.length (flatS hs)) := hid ((hown.alloc _).alloc _)
  have NEW : Hid (((w.alloc (.cells #[.pointer (some ⟨s.b, 0, none⟩), .int .i64 s.t] 140)).alloc (.cells #[.pointer (some ⟨s.b, 0, none⟩), .int .i64 s.t] 140)).heap[w.heap.size + 1]? = some (.cells #[.pointer (some ⟨s.b, 0, none⟩), .int .i64 s.t] 140 (0, 0))) := hid (by have := heap_alloc_new (w.alloc (.cells #[.pointer (some ⟨s.b, 0, none⟩), .int .i64 s.t] 140)) (.cells #[.pointer (some ⟨s.b, 0, none⟩), .int .i64 s.t] 140); simpa using this)
  have KEEP : Hid (∀ w1 : World, ((w.alloc (.cells #[.pointer (some ⟨s.b, 0, none⟩), .int .i64 s.t] 140)).alloc (.cells #[.pointer (some ⟨s.b, 0, none⟩), .int .i64 s.t] 140)).grownBy w1 v.ownBlock → Blk w1 x cx tx ∧ Turn (fun k => v.ownBlock = some k) w w1) := fun w1 h => by
    have ht := (Turn.of (S := fun k => v.ownBlock = some k) (bto (bnew w _) (bnew _ _))).trans' (Turn.grown h)
    exact ⟨ht.blk HX.out hsep, ht⟩
  clear f0 hown
  go_enter Tryz.func97, Tryz.ntmps97
  go_upto_region 1 with fail
  go_cut [13] (fun _ wx => ∃ g cap, Blk wx x (cx.setIfInBounds o (.slice (some ⟨g, 0, none⟩) (hs.length + 1) cap)) tx ∧ HeapM wx g cap (hs ++ [s]) ∧ B ≤ g ∧ (v.ownBlock = some g ∨ w.heap.size ≤ g) ∧ g ≠ x ∧ Turn (fun k => k = x ∨ v.ownBlock = some k) w wx)
  case first =>
    go_region_law (refine step_append_lies _ rfl (.tmp 10) (.tmp 12) 126 rfl B 140 i0 (.agg #[.pointer none, .int .i64 0]) 2 16 Tryz.underlying126 hi hz0 hz1 hz2 rfl (by decide) v hs.length (flatS hs) (by simp [Act.eval]) (by exact OWN.out) ⟨w.heap.size + 1, 0, none⟩ 1 1 [.pointer (some ⟨s.b, 0, none⟩), .int .i64 s.t] (by simp [Act.eval]) rfl (World.news_of_block (cs := #[.pointer (some ⟨s.b, 0, none⟩), .int .i64 s.t]) (by exact NEW.out)) (by intro u hu; simp at hu; rcases hu with rfl | rfl <;> rfl) (by omega) (by unfold maxLen; omega) (by omega) (by simp; omega) (w.heap.size + 1 + 1) (by simp) ?_; intro g cap w1 hrow hgr hloc hlt; obtain ⟨hx1, ht1⟩ := KEEP.out w1 ⟨hgr.os, hgr.tape, hgr.output, hgr.size, hgr.block⟩; have c1 : w1.cell? ⟨x, o, none⟩ = some v := (by rw [hx1.cell]; exact ho); have f1 := hx1.free o)
    all_goals (go_wp2_with fail; go_meet)
    all_goals
      have hr2 : w1.ownsRow B 140 2 (.slice (some ⟨g, 0, none⟩) (hs.length + 1) cap) (hs.length + 1) (flatS (hs ++ [s])) := by rw [flatS_append]; exact hrow
      obtain ⟨hM, hBg⟩ := heapM_of_row hr2 (by simp)
      have hne : g ≠ x := by
        rcases hloc with h | h
        · exact fun e => hsep (by rw [← e]; exact h)
        · omega
      obtain ⟨cur, m1, m2⟩ := hM
      exact ⟨g, cap, hx1.set o _, ⟨cur, m1.but ((But.refl _ _).setCell _ _) hne, m2⟩, hBg, by rcases hloc with h | h; exact Or.inl h; exact Or.inr (by omega), hne, Turn.setCell (S := fun k => k = x ∨ v.ownBlock = some k) (ht1.mono fun k _ hk => Or.inr hk) (Or.inl (Or.inl rfl)) _ _⟩
  obtain ⟨g, cap, hx1, hM1, hBg, hloc, hne, ht1⟩ := hcut
  rename World => w1
  have HX1 : Hid (Blk w1 x (cx.setIfInBounds o (.slice (some ⟨g, 0, none⟩) (hs.length + 1) cap)) tx) := hx1
  have HM1 : Hid (HeapM w1 g cap (hs ++ [s])) := hM1
  have HT1 : Hid (Turn (fun k => k = x ∨ v.ownBlock = some k) w w1) := ht1
  have HLOC : Hid (v.ownBlock = some g ∨ w.heap.size ≤ g) := hloc
  have hoc : o < cx.size := (Array.getElem?_eq_some_iff.1 ho).1
  have hcx : (cx.setIfInBounds o (.slice (some ⟨g, 0, none⟩) (hs.length + 1) cap))[o]? = some (.slice (some ⟨g, 0, none⟩) (hs.length + 1) cap) := by simp [hoc]
  obtain ⟨cx1, hcd⟩ : ∃ c, c = cx.setIfInBounds o (.slice (some ⟨g, 0, none⟩) (hs.length + 1) cap) := ⟨_, rfl⟩
  rw [← hcd] at hcx HX1
  have HCD : Hid (cx1 = cx.setIfInBounds o (.slice (some ⟨g, 0, none⟩) (hs.length + 1) cap)) := hcd
  clear hcd
  have k0 : w1.cell? ⟨x, o, none⟩ = some (.slice (some ⟨g, 0, none⟩) (hs.length + 1) cap) := by rw [HX1.out.cell]; exact hcx
  clear hx1 hM1 ht1 hloc OWN NEW KEEP HX c0 ho hi hz0 hz1 hz2 hsep
  go_wp2
  go_loopw [4] (fun a wr => ∃ (k : Nat) (l : List SgD), a = .int .i64 k ∧ k < l.length ∧ l.length = hs.length + 1 ∧ Blk wr x cx1 tx ∧ HeapM wr g cap l ∧ Hid (pushL hs s = siftUp l k) ∧ Turn (fun k => k = x ∨ v.ownBlock = some k) w wr) (fun a _ => (intOf a).toNat)
  case atStart => exact ⟨hs.length, hs ++ [s], by go_num, by simp, by simp, HX1.out, HM1.out, rfl, HT1.out⟩
  case round =>
    obtain ⟨k, l, rfl, hk, hl, hx2, hM2, HS, ht2⟩ := hrel
    have HX2 : Hid (Blk wr x cx1 tx) := hx2
    have HM2 : Hid (HeapM wr g cap l) := hM2
    have HT2 : Hid (Turn (fun k => k = x ∨ v.ownBlock = some k) w wr) := ht2
    have k1 : wr.cell? ⟨x, o, none⟩ = some (.slice (some ⟨g, 0, none⟩) (hs.length + 1) cap) := by rw [hx2.cell]; exact hcx
    clear hx2 hM2 ht2 k0
    by_cases h0 : 0 < k
    · have hst := siftUp_step (l := l) h0
      obtain ⟨q, hqd⟩ : ∃ q, q = (k - 1) / 2 := ⟨_, rfl⟩
      rw [← hqd] at hst
      have hq : ((k : Int) - 1) / 2 = (q : Nat) := by omega
      have hp : q < l.length := by omega
      have hqk : q < k := by omega
      have h1 : (1 : Int) ≤ k := by omega
      obtain ⟨a0, a1, _, _⟩ := HM2.out.cells hk
      obtain ⟨b0, b1, _, _⟩ := HM2.out.cells hp
      have HST : Hid (siftUp l k = if (hget l k).t < (hget l q).t then siftUp (swapL l k q) q else l) := hst
      have HSW : Hid (∀ W, Below wr.heap.size wr W → Calls Tryz.prog 104 #[.pointer (some ⟨x, o, none⟩), .int .i64 k, .int .i64 (((k : Int) - 1) / 2)] W fun e w' => e = .returned (.tuple #[]) ∧ HeapM w' g cap (swapL l k q) ∧ But g W w') :=
        fun W hW => by rw [hq]; exact swap_any x o g (hs.length + 1) cap k q l W (by rw [(HX2.out.later hW).cell]; exact hcx) hl.symm (HM2.out.later hW) (by omega) (by omega)
      have HL : Hid (l.length = hs.length + 1) := hl
      have hkn : k < hs.length + 1 := by omega
      have hqn : q < hs.length + 1 := by omega
      clear hst hqd hl
      have d0 := Later.cells k1
      have d1 := Later.cells a0
      have d2 := Later.cells a1
      have d3 := Later.cells b0
      have d4 := Later.cells b1
      have hnel := Later.there wr
      clear a0 a1 b0 b1 k1
      generalize hget l k = A at *
      generalize hget l q = C at *
      go_wp2_with fail
      refine wp_region_later (by kernel_rfl) (by kernel_rfl) ?_
      repeat (go_big_quiet_step (fail))
      refine wpQuiet_enter (by rfl) (fun W => exec_invoke _ _ _ _ _ _ rfl rfl rfl (invokeBefore _ _ W)) (by rintro _ ⟨x, rfl⟩; exact calls_later (before_any _ _ _ _ _)) ?_
      simp only [Act.put, List.setIfInBounds_toArray, List.set_cons_succ, List.set_cons_zero]
      repeat (go_big_quiet_step (fail))
      refine wpQuiet_nil ?_
      rintro _ ⟨y, rfl⟩
      have HY : Hid (Below wr.heap.size wr y.w') := y.h
      have HE : Hid ((((k : Int) - 1) / 2) = (q : Nat)) := hq
      clear d0 d1 d2 d3 d4 hnel hq
      generalize y.w' = W2 at *
      clear y
      by_cases hAC : A.t < C.t
      · have hd : decide (A.t < C.t) = true := by simpa using hAC
        rw [hd]
        have HS2 : Hid (pushL hs s = siftUp (swapL l k q) q) := by show _ = _; rw [HS.out, HST.out, if_pos hAC]
        go_wp2_with fail
        refine (HSW.out _ HY.out).mono ?_
        rintro e w3 ⟨rfl, hM3, hb3⟩
        have HM3 : Hid (HeapM w3 g cap (swapL l k q)) := hM3
        have HX3 : Hid (Blk w3 x cx1 tx) := (HX2.out.later HY.out).but hb3 hne.symm
        have HT3 : Hid (Turn (fun k => k = x ∨ v.ownBlock = some k) w w3) := by
          refine (HT2.out.trans' (Turn.of HY.out)).trans ((Turn.but hb3).mono fun i _ e => ?_)
          subst e
          rcases HLOC.out with h | h
          · exact Or.inl (Or.inr h)
          · exact Or.inr h
        clear hM3 hb3 HSW
        go_wp2
        exact ⟨⟨q, swapL l k q, by rw [HE.out], by rw [swapL_length]; exact hp, by rw [swapL_length]; exact HL.out, HX3.out, HM3.out, HS2.out, HT3.out⟩, by simp [intOf]; omega⟩
      · have hd : decide (A.t < C.t) = false := by simpa using hAC
        rw [hd]
        have HS2 : Hid (pushL hs s = l) := by show _ = _; rw [HS.out, HST.out, if_neg hAC]
        go_wp2
        refine bodyPost_ret (v := .tuple #[]) (by simp [results, Tryz.results97, go_sem]) rfl ⟨rfl, g, cap, HCD.out ▸ HX2.out.later HY.out, ?_, HLOC.out, HT2.out.trans' (Turn.of HY.out)⟩
        rw [HS2.out, ← HL.out]
        exact row_of_heapM (HM2.out.later HY.out) hBg
    · go_wp2
      go_end0
      obtain rfl : k = 0 := by omega
      rw [HS.out, siftUp_zero]
      refine ⟨rfl, g, cap, HCD.out ▸ HX2.out, ?_, HLOC.out, HT2.out⟩
      rw [← hl]
      exact row_of_heapM HM2.out hBg
end Go.Proofs.YtoecnlhnfhongaaGreatDoor

namespace Go.Proofs.YtoecnlhnfhongaaGreatDoor
open Go.RowKit Go.Maps Go.ChangeMaps

def iVal (n : Int) : DataW Unit := .lit (.int .i64 n)
def pVal (g : Nat) : DataW Unit := .lit (.int .i64 (g : Int))
/-- How a pointer to a block's head reads: as the block's number. -/
def ptrElem : Value → Option (DataW Unit × List MemPlace)
  | .pointer (some ⟨g, 0, none⟩) => some (pVal g, [])
  | .pointer none => some (.nil, [])
  | _ => none
theorem ptrElem_mk (g : Nat) : ptrElem (.pointer (some ⟨g, 0, none⟩)) = some (pVal g, []) := rfl
theorem keyed : Keyed Tryz.prog 9 := string_keyed Tryz.underlying9
theorem key_mk {s : ByteArray} (h : s.size ≤ maxLen) : keyOf Tryz.prog 9 (.string s) = some (kL s) := WideMaps.keyOf_string_mk Tryz.underlying9 h
theorem tight {H : Type} {P : Program} {w : World} {k : TypeId} {R : Value → Option (DataW H × List MemPlace)} {b n : Nat} {D : DataW H} (h : w.ownsMap P k R b n D) : w.ownsMap P k R b (Maps.size D) D := by
  obtain ⟨es, clock, hb, F, hs, rfl⟩ := h
  refine ⟨es, clock, hb, F, ?_, rfl⟩
  rw [size_eq, length_sorted, List.length_map, Array.length_toList]
  exact Nat.le_refl _

/-- An index lies at block x, in blocks of S, and reads as the tenant t. -/
structure IdxS (w : World) (S : Nat → Prop) (x : Nat) (t : TenD) (M lm sm cm : Nat) (iv : Value) (Q : List (PairD × Nat)) (hs : List SgD) (D : DataW Unit) : Prop where
  blk : Blk w x #[.int .i64 t.limit, .map (some lm), .map (some sm), .map (some cm), iv] 130
  lims : w.ownsMap Tryz.prog 9 (plainElem Tryz.prog 3) lm t.mets.length (mapOf (t.mets.map fun p => (p.s, iVal p.n)))
  sers : w.ownsMap Tryz.prog 9 ptrElem sm Q.length (mapOf (Q.map fun q => (q.1.s, pVal q.2)))
  cnts : w.ownsMap Tryz.prog 9 (plainElem Tryz.prog 3) cm M D
  cnt : ∀ m : ByteArray, D.atKey (kL m) (iVal 0) = iVal (cntM metK t.sers m)
  q1 : Q.map (·.1) = t.sers
  cells : ∀ q ∈ Q, Blk w q.2 #[.string q.1.s, .int .i64 q.1.n] 45
  row : w.ownsRow 0 140 2 iv hs.length (flatS hs)
  heap : HeapOK hs
  perm : (hs.map (·.b)).Perm (Q.map (·.2))
  early : ∀ h ∈ hs, ∀ q ∈ Q, q.2 = h.b → h.t ≤ q.1.n
  rm : RiseBy (·.s) t.mets
  rs : RiseBy (·.s) t.sers
  sx : S x
  sl : S lm
  ss : S sm
  sc : S cm
  sq : ∀ q ∈ Q, S q.2
  si : ∀ g, iv.ownBlock = some g → S g
  d1 : lm ≠ sm
  d2 : lm ≠ cm
  d3 : sm ≠ cm
  nd : (Q.map (·.2)).Nodup
  dx : ∀ q ∈ Q, q.2 ≠ x
  di : ∀ g, iv.ownBlock = some g → g ≠ x ∧ ∀ q ∈ Q, q.2 ≠ g
def IdxAt (w : World) (S : Nat → Prop) (x : Nat) (t : TenD) (M : Nat) : Prop := ∃ lm sm cm iv Q hs D, IdxS w S x t M lm sm cm iv Q hs D
theorem row_lt {w : World} {B : Nat} {e : TypeId} {size : Nat} {v : Value} {n : Nat} {xs : List Value} (h : w.ownsRow B e size v n xs) : ∀ g, v.ownBlock = some g → g < w.heap.size := by
  intro g hg
  rcases h.2 with ⟨rfl, _⟩ | ⟨g', cap, cur, rfl, _, hb, _⟩
  · cases hg
  · simp only [Value.ownBlock, Option.some.injEq] at hg
    subst hg; exact lt_of_block hb
/-- Whatever turns nothing of its own. -/
theorem IdxS.keep {w w' : World} {S S' : Nat → Prop} {x : Nat} {t : TenD} {M lm sm cm : Nat} {iv : Value} {Q : List (PairD × Nat)} {hs : List SgD} {D : DataW Unit} (h : IdxS w S x t M lm sm cm iv Q hs D)
    (hk : ∀ g, g < w.heap.size → S g → w'.heap[g]? = w.heap[g]? ∧ S' g) : IdxS w' S' x t M lm sm cm iv Q hs D := by
  have hm : ∀ {R : Value → Option (DataW Unit × List MemPlace)} {b n : Nat} {E : DataW Unit}, w.ownsMap Tryz.prog 9 R b n E → S b → w'.ownsMap Tryz.prog 9 R b n E := fun {R b n E} h hs => by
    have hlt := h.lt
    obtain ⟨es, clock, hb, r⟩ := h
    exact ⟨es, clock, (hk b hlt hs).1.trans hb, r⟩
  have hb : ∀ {g : Nat} {cur : Array Value} {tt : TypeId}, Blk w g cur tt → S g → Blk w' g cur tt := fun {g cur tt} h hs => (hk g (lt_of_block h) hs).1.trans h
  exact { h with
    blk := hb h.blk h.sx
    lims := hm h.lims h.sl
    sers := hm h.sers h.ss
    cnts := hm h.cnts h.sc
    cells := fun q hq => hb (h.cells q hq) (h.sq q hq)
    row := by
      refine ⟨h.row.1, ?_⟩
      rcases h.row.2 with h0 | ⟨g, cap, cur, e, hB, hblk, r⟩
      · exact Or.inl h0
      · have : iv.ownBlock = some g := by rw [e]; rfl
        exact Or.inr ⟨g, cap, cur, e, hB, hb hblk (h.si g this), r⟩
    sx := (hk x (lt_of_block h.blk) h.sx).2
    sl := (hk lm h.lims.lt h.sl).2
    ss := (hk sm h.sers.lt h.ss).2
    sc := (hk cm h.cnts.lt h.sc).2
    sq := fun q hq => (hk q.2 (lt_of_block (h.cells q hq)) (h.sq q hq)).2
    si := fun g hg => (hk g (row_lt h.row g hg) (h.si g hg)).2 }
theorem IdxAt.keep {w w' : World} {S S' : Nat → Prop} {x : Nat} {t : TenD} {M : Nat} (h : IdxAt w S x t M) (hk : ∀ g, g < w.heap.size → S g → w'.heap[g]? = w.heap[g]? ∧ S' g) : IdxAt w' S' x t M := by
  obtain ⟨lm, sm, cm, iv, Q, hs, D, h⟩ := h
  exact ⟨lm, sm, cm, iv, Q, hs, D, h.keep hk⟩
theorem IdxAt.later {w w' : World} {S : Nat → Prop} {x : Nat} {t : TenD} {M : Nat} (h : IdxAt w S x t M) (hb : Below w.heap.size w w') : IdxAt w' S x t M := h.keep fun g hg hs => ⟨hb.block g hg, hs⟩
theorem IdxAt.lt {w : World} {S : Nat → Prop} {x : Nat} {t : TenD} {M : Nat} (h : IdxAt w S x t M) : x < w.heap.size := by
  obtain ⟨lm, sm, cm, iv, Q, hs, D, h⟩ := h
  exact lt_of_block h.blk
theorem IdxAt.mono {w : World} {S : Nat → Prop} {x : Nat} {t : TenD} {M M' : Nat} (h : IdxAt w S x t M) (hM : M ≤ M') : IdxAt w S x t M' := by
  obtain ⟨lm, sm, cm, iv, Q, hs, D, h⟩ := h
  exact ⟨lm, sm, cm, iv, Q, hs, D, { h with cnts := h.cnts.mono hM }⟩

theorem map_two (w : World) (o : Obj) : ((w.alloc (.map #[] 0)).alloc o).heap[w.heap.size]? = (w.alloc (.map #[] 0)).heap[w.heap.size]? := (bnew _ _).block _ (by simp)
set_option maxRecDepth 100000 in
set_option maxHeartbeats 1000000 in
theorem newIndex_any (limit : Int) (nm : ByteArray) (w : World) :
    Calls Tryz.prog 75 #[.int .i64 limit] w fun e w' => ∃ x, e = .returned (.pointer (some ⟨x, 0, none⟩)) ∧ w.heap.size ≤ x ∧ IdxAt w' (fun g => w.heap.size ≤ g) x ⟨nm, limit, [], []⟩ 0 ∧ Below w.heap.size w w' := by
  have hmm := @run_makeMap Tryz.prog
  go_enter Tryz.func75, Tryz.ntmps75
  go_wp2
  go_ret
  refine ⟨w.heap.size + 1 + 1 + 1, rfl, by omega, ⟨w.heap.size, w.heap.size + 1, w.heap.size + 1 + 1, .slice none 0 0, [], [], .map [], ?_⟩, bto (bto (bto (bnew _ _) (bnew _ _)) (bnew _ _)) (bnew _ _)⟩
  have m1 : ∀ R : Value → Option (DataW Unit × List MemPlace), (w.alloc (.map #[] 0)).ownsMap Tryz.prog 9 R w.heap.size 0 (.map []) := fun R => World.ownsMap_made w _ _ R
  have m2 : ∀ R : Value → Option (DataW Unit × List MemPlace), ((w.alloc (.map #[] 0)).alloc (.map #[] 0)).ownsMap Tryz.prog 9 R (w.heap.size + 1) 0 (.map []) := fun R => by have := World.ownsMap_made (w.alloc (.map #[] 0)) Tryz.prog 9 R; simpa using this
  have m3 : ∀ R : Value → Option (DataW Unit × List MemPlace), (((w.alloc (.map #[] 0)).alloc (.map #[] 0)).alloc (.map #[] 0)).ownsMap Tryz.prog 9 R (w.heap.size + 1 + 1) 0 (.map []) := fun R => by have := World.ownsMap_made ((w.alloc (.map #[] 0)).alloc (.map #[] 0)) Tryz.prog 9 R; simpa using this
  exact {
    blk := by have := Blk.new (((w.alloc (.map #[] 0)).alloc (.map #[] 0)).alloc (.map #[] 0)) #[.int .i64 limit, .map (some w.heap.size), .map (some (w.heap.size + 1)), .map (some (w.heap.size + 1 + 1)), .slice none 0 0] 130; simpa using this
    lims := (((m1 _).alloc _).alloc _).alloc _
    sers := ((m2 _).alloc _).alloc _
    cnts := (m3 _).alloc _
    cnt := fun m => rfl
    q1 := rfl
    cells := fun q hq => by cases hq
    row := World.ownsRow_nil _ _ _ _
    heap := fun i _ h => by simp at h
    perm := List.Perm.refl _
    early := fun h hh => by cases hh
    rm := List.Pairwise.nil
    rs := List.Pairwise.nil
    sx := by show w.heap.size ≤ _; omega
    sl := Nat.le_refl _
    ss := by show w.heap.size ≤ _; omega
    sc := by show w.heap.size ≤ _; omega
    sq := fun q hq => by cases hq
    si := fun g hg => by cases hg
    d1 := by omega
    d2 := by omega
    d3 := by omega
    nd := List.nodup_nil
    dx := fun q hq => by cases hq
    di := fun g hg => by cases hg }

set_option maxRecDepth 100000 in
set_option maxHeartbeats 1000000 in
theorem idle_any (x : Nat) (t : TenD) (S : Nat → Prop) (M : Nat) (w : World) (h : IdxAt w S x t M) :
    Calls Tryz.prog 78 #[.pointer (some ⟨x, 0, none⟩)] w fun e w' => e = .returned (.bool (idleB t)) ∧ w' = w := by
  obtain ⟨lm, sm, cm, iv, Q, hs, D, h⟩ := h
  have c0 : w.cell? ⟨x, 0, none⟩ = some (.int .i64 t.limit) := h.blk.cell 0
  have c1 : w.cell? ⟨x, 1, none⟩ = some (.map (some lm)) := h.blk.cell 1
  have c2 : w.cell? ⟨x, 2, none⟩ = some (.map (some sm)) := h.blk.cell 2
  have l1 := h.lims.len Tryz.underlying124 3
  have l2 := h.sers.len Tryz.underlying125 3
  rw [size_by] at l1 l2
  have hq : Q.length = t.sers.length := by rw [← h.q1, List.length_map]
  rw [hq] at l2
  clear h hq
  have E : Hid (idleB t = (t.limit == -1 && t.mets.length == 0 && t.sers.length == 0)) := rfl
  generalize t.mets.length = n1 at *
  generalize t.sers.length = n2 at *
  generalize t.limit = L at *
  by_cases h1 : L = -1
  · by_cases h2 : n1 = 0
    · go_enter Tryz.func78, Tryz.ntmps78
      go_wp2
      go_ret
      exact ⟨ret_bool (by rw [E.out, h1, h2]; rw [Bool.eq_iff_iff]; simp), rfl⟩
    · go_enter Tryz.func78, Tryz.ntmps78
      go_wp2
      go_ret
      exact ⟨ret_bool (by rw [E.out, h1]; rw [Bool.eq_iff_iff]; simp [h2]), rfl⟩
  · go_enter Tryz.func78, Tryz.ntmps78
    go_wp2
    go_ret
    exact ⟨ret_bool (by rw [E.out]; rw [Bool.eq_iff_iff]; simp [h1]), rfl⟩
end Go.Proofs.YtoecnlhnfhongaaGreatDoor

namespace Go.Proofs.YtoecnlhnfhongaaGreatDoor
open Go.RowKit Go.Maps

theorem zeroInt (w : World) : (zeroValue 3).run Tryz.prog w = .ok (.int .i64 0) w := by kernel_rfl
theorem Blk.turn {S : Nat → Prop} {a b : World} {g : Nat} {cur : Array Value} {t : TypeId} (h : Blk a g cur t) (ht : Turn S a b) (hn : ¬ S g) : Blk b g cur t := ht.blk h hn
theorem map_ne_cells {H : Type} {P : Program} {w : World} {k : TypeId} {R : Value → Option (DataW H × List MemPlace)} {b n g : Nat} {D : DataW H} {cur : Array Value} {t : TypeId} (h : w.ownsMap P k R b n D) (hb : Blk w g cur t) : b ≠ g := by
  intro e
  subst e
  obtain ⟨es, clock, hm, _⟩ := h
  rw [Blk, hm] at hb
  simp at hb
theorem map_ne_row {H : Type} {P : Program} {w : World} {k : TypeId} {R : Value → Option (DataW H × List MemPlace)} {b n : Nat} {D : DataW H} {B : Nat} {e : TypeId} {size : Nat} {v : Value} {m : Nat} {xs : List Value} (h : w.ownsMap P k R b n D) (hr : w.ownsRow B e size v m xs) : v.ownBlock ≠ some b := by
  intro hg
  rcases hr.2 with ⟨rfl, _⟩ | ⟨g', cap, cur, rfl, _, hb, _⟩
  · cases hg
  · simp only [Value.ownBlock, Option.some.injEq] at hg
    subst hg
    exact map_ne_cells h hb rfl

/-- Other limits of metrics, all else as it was. -/
theorem IdxS.newLims {w w' : World} {S : Nat → Prop} {x : Nat} {t : TenD} {M lm sm cm n : Nat} {iv : Value} {Q : List (PairD × Nat)} {hs : List SgD} {D E : DataW Unit} {ms : List PairD} (h : IdxS w S x t M lm sm cm iv Q hs D) (ht : Turn (· = lm) w w')
    (hown : w'.ownsMap Tryz.prog 9 (plainElem Tryz.prog 3) lm n E) (hE : E = mapOf (ms.map fun p => (p.s, iVal p.n))) (hr : RiseBy (·.s) ms) : IdxAt w' S x { t with mets := ms } M := by
  subst hE
  refine ⟨lm, sm, cm, iv, Q, hs, D, ?_⟩
  exact { h with
    blk := ht.blk h.blk (map_ne_cells h.lims h.blk).symm
    lims := by have := tight hown; rw [size_by] at this; exact this
    sers := ht.map h.sers h.d1.symm
    cnts := ht.map h.cnts h.d2.symm
    cells := fun q hq => ht.blk (h.cells q hq) (map_ne_cells h.lims (h.cells q hq)).symm
    row := ht.row h.row (fun g hg e => by subst e; exact map_ne_row h.lims h.row hg)
    rm := hr }
/-- The index behind all the stores of add. -/
theorem add_end {w w2 w3 w4 : World} {S : Nat → Prop} {x : Nat} {t : TenD} {M lm sm cm : Nat} {iv : Value} {Q : List (PairD × Nat)} {hs : List SgD} {D : DataW Unit} {key : ByteArray} {last c : Int} {g cap : Nat} (h : IdxS w S x t M lm sm cm iv Q hs D) (hnew : getBy (·.s) key t.sers = none)
    (t13 : Turn (fun k => k = sm ∨ k = cm) w w3) (own2 : w2.ownsMap Tryz.prog 9 ptrElem sm (Q.length + 1) (DataW.put (mapOf (Q.map fun q => (q.1.s, pVal q.2))) (kL key) (pVal w.heap.size))) (t3 : Turn (· = cm) w2 w3)
    (own4 : w3.ownsMap Tryz.prog 9 (plainElem Tryz.prog 3) cm (M + 1) (D.put (kL (metK key)) (.lit (.int .i64 (c + 1))))) (b3 : Blk w3 w.heap.size #[.string key, .int .i64 last] 45) (hc : c = (cntM metK t.sers (metK key) : Nat))
    (hb4 : Blk w4 x (#[.int .i64 t.limit, .map (some lm), .map (some sm), .map (some cm), iv].setIfInBounds 4 (.slice (some ⟨g, 0, none⟩) (hs.length + 1) cap)) 130)
    (hr4 : w4.ownsRow 0 140 2 (.slice (some ⟨g, 0, none⟩) (hs.length + 1) cap) (hs.length + 1) (flatS (pushL hs ⟨w.heap.size, last⟩))) (hloc : iv.ownBlock = some g ∨ w3.heap.size ≤ g) (t4 : Turn (fun k => k = x ∨ iv.ownBlock = some k) w3 w4) :
    IdxAt w4 (fun g => S g ∨ w.heap.size ≤ g) x { t with sers := insBy (·.s) ⟨key, last⟩ t.sers } (M + 1) ∧ Turn S w w4 := by
  have hxl := lt_of_block h.blk
  have hbl := lt_of_block b3
  have nx1 : sm ≠ x := map_ne_cells h.sers h.blk
  have nx2 : cm ≠ x := map_ne_cells h.cnts h.blk
  have nx0 : lm ≠ x := map_ne_cells h.lims h.blk
  have ni0 := map_ne_row h.lims h.row
  have ni1 := map_ne_row h.sers h.row
  have ni2 := map_ne_row h.cnts h.row
  have qlt : ∀ q ∈ Q, q.2 < w.heap.size := fun q hq => lt_of_block (h.cells q hq)
  have hgetQ : getBy (fun q : PairD × Nat => q.1.s) key Q = none := by
    have := getBy_map (key := fun q : PairD × Nat => q.1.s) (key' := fun p : PairD => p.s) (fun q => q.1) (fun _ => rfl) key Q
    rw [h.q1, hnew] at this
    cases hg : getBy (fun q : PairD × Nat => q.1.s) key Q with
    | none => rfl
    | some q => rw [hg] at this; cases this
  have hpq := insBy_new (key := fun q : PairD × Nat => q.1.s) (a := ((⟨key, last⟩ : PairD), w.heap.size)) hgetQ
  have hps := insBy_new (key := fun p : PairD => p.s) (a := (⟨key, last⟩ : PairD)) hnew
  have hlen : (insBy (fun q : PairD × Nat => q.1.s) ((⟨key, last⟩ : PairD), w.heap.size) Q).length = Q.length + 1 := by rw [hpq.length_eq]; rfl
  have hrq : RiseBy (fun q : PairD × Nat => q.1.s) Q := by
    rw [← riseBy_map (key' := fun p : PairD => p.s) (fun q : PairD × Nat => q.1) (fun _ => rfl), h.q1]
    exact h.rs
  obtain ⟨ph, pp, pl⟩ := pushL_says h.heap ⟨w.heap.size, last⟩
  have hput : DataW.put (mapOf (Q.map fun q => (q.1.s, pVal q.2))) (kL key) (pVal w.heap.size) = mapOf ((insBy (fun q : PairD × Nat => q.1.s) ((⟨key, last⟩ : PairD), w.heap.size) Q).map fun q => (q.1.s, pVal q.2)) :=
    put_by (key := fun q : PairD × Nat => q.1.s) (fun q => pVal q.2) ((⟨key, last⟩ : PairD), w.heap.size) hrq
  have hmemQ : ∀ q, q ∈ insBy (fun q : PairD × Nat => q.1.s) ((⟨key, last⟩ : PairD), w.heap.size) Q → q = ((⟨key, last⟩ : PairD), w.heap.size) ∨ q ∈ Q := fun q hq => insBy_mem hq
  have hbmem : ∀ s ∈ hs, ∃ q ∈ Q, q.2 = s.b := fun s hs' => by
    have := (h.perm.mem_iff (a := s.b)).1 (List.mem_map.2 ⟨s, hs', rfl⟩)
    obtain ⟨q, hq, e⟩ := List.mem_map.1 this
    exact ⟨q, hq, e⟩
  refine ⟨⟨lm, sm, cm, .slice (some ⟨g, 0, none⟩) (hs.length + 1) cap, insBy (fun q : PairD × Nat => q.1.s) ((⟨key, last⟩ : PairD), w.heap.size) Q, pushL hs ⟨w.heap.size, last⟩, D.put (kL (metK key)) (.lit (.int .i64 (c + 1))), ?_⟩, ?_⟩
  · exact {
      blk := hb4
      lims := t4.map (t13.map h.lims (fun e => by rcases e with e | e; exact h.d1 e; exact h.d2 e)) (fun e => by rcases e with e | e; exact nx0 e; exact ni0 e)
      sers := by
        rw [← hput, hlen]
        exact t4.map (t3.map own2 h.d3) (fun e => by rcases e with e | e; exact nx1 e; exact ni1 e)
      cnts := t4.map own4 (fun e => by rcases e with e | e; exact nx2 e; exact ni2 e)
      cnt := fun m => by
        rw [cntM_perm hps m, cntM_cons]
        by_cases e : metK key = m
        · rw [if_pos e, ← e, atKey_put_same (k := kL (metK key)) h.cnts.isMap trivial, hc]; rfl
        · rw [if_neg e, atKey_put_other (fun e' => e (kL_inj e').symm), h.cnt m]; rfl
      q1 := by
        rw [insBy_map (key' := fun p : PairD => p.s) (fun q : PairD × Nat => q.1) (fun _ => rfl), h.q1]
      cells := fun q hq => by
        rcases hmemQ q hq with rfl | hq
        · exact t4.blk b3 (fun e => by rcases e with e | e; simp only at e; omega; have := row_lt h.row _ e; simp only at this; omega)
        · exact t4.blk (t13.blk (h.cells q hq) (fun e => by rcases e with e | e; exact map_ne_cells h.sers (h.cells q hq) e.symm; exact map_ne_cells h.cnts (h.cells q hq) e.symm)) (fun e => by rcases e with e | e; exact h.dx q hq e; exact (h.di _ e).2 q hq rfl)
      row := by rw [pl]; exact hr4
      heap := ph
      perm := by
        refine (pp.map _).trans ?_
        refine List.Perm.trans ?_ (hpq.map _).symm
        exact List.Perm.cons _ h.perm
      early := fun s hs' q hq e => by
        rcases List.mem_cons.1 ((pp.mem_iff).1 hs') with rfl | hs'
        · rcases hmemQ q hq with rfl | hq
          · exact Int.le_refl _
          · have := qlt q hq; simp only at e; omega
        · rcases hmemQ q hq with rfl | hq
          · obtain ⟨q', hq', e'⟩ := hbmem s hs'
            have := qlt q' hq'; simp only at e; omega
          · exact h.early s hs' q hq e
      rm := h.rm
      rs := insBy_rise h.rs
      sx := Or.inl h.sx
      sl := Or.inl h.sl
      ss := Or.inl h.ss
      sc := Or.inl h.sc
      sq := fun q hq => by
        rcases hmemQ q hq with rfl | hq
        · exact Or.inr (Nat.le_refl _)
        · exact Or.inl (h.sq q hq)
      si := fun g' hg' => by
        simp only [Value.ownBlock, Option.some.injEq] at hg'
        subst hg'
        rcases hloc with e | e
        · exact Or.inl (h.si g e)
        · exact Or.inr (by have := t13.size; omega)
      d1 := h.d1
      d2 := h.d2
      d3 := h.d3
      nd := by
        rw [(hpq.map _).nodup_iff, List.map_cons, List.nodup_cons]
        refine ⟨fun hm => ?_, h.nd⟩
        obtain ⟨q, hq, e⟩ := List.mem_map.1 hm
        have := qlt q hq; simp only at e; omega
      dx := fun q hq => by
        rcases hmemQ q hq with rfl | hq
        · simp only; omega
        · exact h.dx q hq
      di := fun g' hg' => by
        simp only [Value.ownBlock, Option.some.injEq] at hg'
        subst hg'
        rcases hloc with e | e
        · refine ⟨(h.di g e).1, fun q hq => ?_⟩
          rcases hmemQ q hq with rfl | hq
          · have := row_lt h.row g e; simp only; omega
          · exact (h.di g e).2 q hq
        · refine ⟨by omega, fun q hq => ?_⟩
          rcases hmemQ q hq with rfl | hq
          · simp only; omega
          · have := qlt q hq; omega }
  · refine (t13.mono fun k _ e => by rcases e with rfl | rfl; exact h.ss; exact h.sc).trans (t4.mono fun k _ e => ?_)
    rcases e with rfl | e
    · exact Or.inl h.sx
    · exact Or.inl (h.si _ e)

set_option maxRecDepth 100000 in
set_option maxHeartbeats 4000000 in
theorem add_any (x : Nat) (t : TenD) (key : ByteArray) (last : Int) (S : Nat → Prop) (M : Nat) (w : World) (h : IdxAt w S x t M) (hnew : getBy (·.s) key t.sers = none) (hk : key.size ≤ maxLen) (hm : (metK key).size ≤ maxLen) (hM : M ≤ 1000000000) (hl : t.sers.length ≤ 1000000000) :
    Calls Tryz.prog 89 #[.pointer (some ⟨x, 0, none⟩), .string key, .string (metK key), .int .i64 last] w fun e w' => e = .returned (.tuple #[]) ∧ IdxAt w' (fun g => S g ∨ w.heap.size ≤ g) x { t with sers := insBy (·.s) ⟨key, last⟩ t.sers } (M + 1) ∧ Turn S w w' := by
  obtain ⟨lm, sm, cm, iv, Q, hs, D, h⟩ := h
  have HK : Hid (keyOf Tryz.prog 9 (.string key) = some (kL key)) := key_mk hk
  have HM : Hid (keyOf Tryz.prog 9 (.string (metK key)) = some (kL (metK key))) := key_mk hm
  have hQ : Q.length = t.sers.length := by rw [← h.q1, List.length_map]
  have hH : hs.length = Q.length := by have := h.perm.length_eq; simpa using this
  have HI : Hid (IdxS w S x t M lm sm cm iv Q hs D) := h
  have hxl := lt_of_block h.blk
  -- the series is stored
  obtain ⟨w1, hw1⟩ : ∃ W, W = w.alloc (.cells #[.string key, .int .i64 last] 45) := ⟨_, rfl⟩
  have t1 : Turn (fun _ => False) w w1 := by rw [hw1]; exact Turn.of (bnew _ _)
  have b1 : Blk w1 w.heap.size #[.string key, .int .i64 last] 45 := by rw [hw1]; exact Blk.new _ _ _
  obtain ⟨w2, run2, own2, gr2⟩ := (t1.map h.sers (fun e => e)).update keyed Tryz.underlying125 (by unfold maxLen; omega) HK.out (ptrElem_mk w.heap.size)
  have t2 : Turn (· = sm) w1 w2 := (Turn.grown gr2).mono fun i _ e => by simp only [Option.some.injEq] at e; exact e.symm
  have t12 : Turn (· = sm) w w2 := (t1.mono fun _ _ e => e.elim).trans' t2
  -- the counter goes up
  have own3 := t12.map h.cnts (Ne.symm h.d3)
  obtain ⟨c, runL, hat, hwc⟩ := own3.lookup_int keyed Tryz.underlying124 Tryz.underlying3 (zeroInt _) HM.out
  have hc : c = (cntM metK t.sers (metK key) : Nat) := by
    have := h.cnt (metK key)
    unfold iVal at this
    rw [hat] at this
    simpa using this
  have hc0 := cntM_le metK t.sers (metK key)
  have hcl : 0 ≤ c := by omega
  have hcu : c ≤ 1000000000 := by omega
  obtain ⟨w3, run3, own4, gr3⟩ := own3.update keyed Tryz.underlying124 (by unfold maxLen; omega) (val := .int .i64 (c + 1)) HM.out (plainElem_int Tryz.underlying3 (WalkArith.wf_i64 (by omega)))
  have t3 : Turn (· = cm) w2 w3 := (Turn.grown gr3).mono fun i _ e => by simp only [Option.some.injEq] at e; exact e.symm
  have t13 : Turn (fun k => k = sm ∨ k = cm) w w3 := (t12.mono fun _ _ e => Or.inl e).trans' (t3.mono fun _ _ e => Or.inr e)
  have nx1 : sm ≠ x := map_ne_cells h.sers h.blk
  have nx2 : cm ≠ x := map_ne_cells h.cnts h.blk
  have blk1 : Blk w1 x _ _ := t1.blk h.blk (fun e => e)
  have blk2 : Blk w2 x _ _ := t12.blk h.blk nx1.symm
  have blk3 : Blk w3 x _ _ := t13.blk h.blk (fun e => by rcases e with e | e; exact nx1 e.symm; exact nx2 e.symm)
  have row3 := t13.row h.row (fun g hg e => by rcases e with rfl | rfl; exact map_ne_row h.sers h.row hg; exact map_ne_row h.cnts h.row hg)
  have c1 : w1.cell? ⟨x, 2, none⟩ = some (.map (some sm)) := blk1.cell 2
  have c2 : w2.cell? ⟨x, 3, none⟩ = some (.map (some cm)) := blk2.cell 3
  have HP : Hid (Calls Tryz.prog 97 #[.pointer (some ⟨x, 4, none⟩), .agg #[.pointer (some ⟨w.heap.size, 0, none⟩), .int .i64 last]] w3 fun e w' => e = .returned (.tuple #[]) ∧ ∃ g cap, Blk w' x (#[.int .i64 t.limit, .map (some lm), .map (some sm), .map (some cm), iv].setIfInBounds 4 (.slice (some ⟨g, 0, none⟩) (hs.length + 1) cap)) 130 ∧
      w'.ownsRow 0 140 2 (.slice (some ⟨g, 0, none⟩) (hs.length + 1) cap) (hs.length + 1) (flatS (pushL hs ⟨w.heap.size, last⟩)) ∧ (iv.ownBlock = some g ∨ w3.heap.size ≤ g) ∧ Turn (fun k => k = x ∨ iv.ownBlock = some k) w3 w') :=
    push_any x 4 0 iv hs ⟨w.heap.size, last⟩ w3 _ _ blk3 rfl row3 (fun e => (h.di x e).1 rfl) (Nat.zero_le _) (by omega)
  have T13 : Hid (Turn (fun k => k = sm ∨ k = cm) w w3) := t13
  have OWN2 : Hid (w2.ownsMap Tryz.prog 9 ptrElem sm (Q.length + 1) (DataW.put (mapOf (Q.map fun q => (q.1.s, pVal q.2))) (kL key) (pVal w.heap.size))) := own2
  have OWN4 : Hid (w3.ownsMap Tryz.prog 9 (plainElem Tryz.prog 3) cm (M + 1) (D.put (kL (metK key)) (.lit (.int .i64 (c + 1))))) := own4
  have T3 : Hid (Turn (· = cm) w2 w3) := t3
  have B3 : Hid (Blk w3 w.heap.size #[.string key, .int .i64 last] 45) := ((t2.mono (S' := fun k => k = sm ∨ k = cm) fun _ _ e => Or.inl e).trans' (t3.mono fun _ _ e => Or.inr e)).blk b1 (fun e => by have := h.sers.lt; have := h.cnts.lt; rcases e with e | e <;> omega)
  have HCD : Hid (c = (cntM metK t.sers (metK key) : Nat)) := hc
  rw [hw1] at run2 c1
  clear h hk hm hw1 t1 b1 own2 gr2 t2 t12 own3 hat hwc hc hc0 own4 gr3 t3 t13 blk1 blk2 blk3 row3
  go_enter Tryz.func89, Tryz.ntmps89
  go_wp2_with fail
  refine HP.out.mono ?_
  rintro e w4 ⟨rfl, g, cap, hb4, hr4, hloc, ht4⟩
  have HF := add_end HI.out hnew T13.out OWN2.out T3.out OWN4.out B3.out HCD.out hb4 hr4 hloc ht4
  clear HP HI T13 OWN2 T3 OWN4 B3 hb4 hr4 hloc ht4
  have HFF : Hid _ := hid HF
  clear HF
  go_wp2
  go_end0
  exact ⟨rfl, HFF.out⟩
end Go.Proofs.YtoecnlhnfhongaaGreatDoor

