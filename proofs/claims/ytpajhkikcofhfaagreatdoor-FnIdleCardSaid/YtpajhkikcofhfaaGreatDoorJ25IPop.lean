import Derived.Test.YtpajhkikcofhfaaGreatDoorProg
import Derived.Test.YtpajhkikcofhfaaGreatDoorJ18IAdS
import Derived.Test.YtpajhkikcofhfaaGreatDoorJ24HeapD
import Derived.Test.YtpajhkikcofhfaaGreatDoorJ15ILim
import Derived.Test.YtpajhkikcofhfaaGreatDoorJ17CntI
import Derived.Deep.RegionLaw
import Derived.Test.YtpajhkikcofhfaaGreatDoorJ06IdxM
namespace Go.Proofs.YtpajhkikcofhfaaGreatDoor
open Go.RowKit Go.Maps

theorem own_size {H : Type} {P : Program} {w : World} {k : TypeId} {R : Value → Option (DataW H × List MemPlace)} {b n : Nat} {D : DataW H} (h : w.ownsMap P k R b n D) : Maps.size D ≤ n := by
  obtain ⟨es, clock, hb, F, hs, rfl⟩ := h
  rw [size_eq, length_sorted, List.length_map, Array.length_toList]
  exact hs
theorem own_one {H : Type} {P : Program} {w : World} {k : TypeId} {R : Value → Option (DataW H × List MemPlace)} {b n n' : Nat} {D D' : DataW H} (h : w.ownsMap P k R b n D) (h' : w.ownsMap P k R b n' D') : D = D' := by
  obtain ⟨es, clock, hb, F, hs, rfl⟩ := h
  obtain ⟨es', clock', hb', F', hs', rfl⟩ := h'
  rw [hb] at hb'
  simp only [Option.some.injEq, Obj.map.injEq] at hb'
  rw [hb'.1]
/-- What stands under a key that is there is written over: as many as before. -/
theorem own_over {w : World} {cm n M : Nat} {D : DataW Unit} {m : ByteArray} {c d : Int} (h : w.ownsMap Tryz.prog 9 (plainElem Tryz.prog 3) cm n (D.put (kL m) (iVal d))) (hT : Tidy D) (hD : Maps.size D ≤ M) (hat : D.atKey (kL m) (iVal 0) = iVal c) (hc : c ≠ 0) : w.ownsMap Tryz.prog 9 (plainElem Tryz.prog 3) cm M (D.put (kL m) (iVal d)) := by
  have hh : has D (kL m) = true := by
    cases e : has D (kL m) with
    | true => rfl
    | false =>
      rw [atKey_of_not_has e] at hat
      simp [iVal] at hat
      exact absurd hat.symm hc
  have := tight h
  rw [Maps.size_put hT, hh, if_pos rfl] at this
  exact this.mono hD
/-- An index behind the pop of its top sight. -/
structure Popped (w w1 : World) (x : Nat) (lim : Int) (lm sm cm : Nat) (iv iv' : Value) (hs : List SgD) : Prop where
  blk : Blk w1 x #[.int .i64 lim, .map (some lm), .map (some sm), .map (some cm), iv'] 100
  row : w1.ownsRow 0 126 2 iv' (hs.length - 1) (flatS (popL hs))
  same : iv'.ownBlock = iv.ownBlock
  turn : Turn (fun k => k = x ∨ iv.ownBlock = some k) w w1
theorem IdxS.top {w : World} {S : Nat → Prop} {x : Nat} {t : TenD} {M lm sm cm : Nat} {iv : Value} {Q : List (PairD × Nat)} {hs : List SgD} {D : DataW Unit} (h : IdxS w S x t M lm sm cm iv Q hs D) (h0 : 0 < hs.length) : ∃ q ∈ Q, q.2 = (hget hs 0).b := by
  have : (hget hs 0).b ∈ Q.map (·.2) := h.perm.mem_iff.1 (List.mem_map.2 ⟨hget hs 0, by rw [hget_eq h0]; exact List.getElem_mem h0, rfl⟩)
  obtain ⟨q, hq, e⟩ := List.mem_map.1 this
  exact ⟨q, hq, e⟩
theorem popL_perm {hs : List SgD} {Q : List (PairD × Nat)} {q : PairD × Nat} (hh : HeapOK hs) (h0 : 0 < hs.length) (hp : (hs.map (·.b)).Perm (Q.map (·.2))) (hrq : RiseBy (fun q : PairD × Nat => q.1.s) Q) (hq : q ∈ Q) (hb : q.2 = (hget hs 0).b) :
    ((popL hs).map (·.b)).Perm ((delBy (fun q : PairD × Nat => q.1.s) q.1.s Q).map (·.2)) := by
  obtain ⟨_, p2, _⟩ := popL_says hh h0
  have h1 : (q.2 :: (popL hs).map (·.b)).Perm (Q.map (·.2)) := by
    rw [hb]
    exact (p2.map (·.b)).trans hp
  have h2 : (q.2 :: (delBy (fun q : PairD × Nat => q.1.s) q.1.s Q).map (·.2)).Perm (Q.map (·.2)) := (delBy_perm hrq hq).map (fun q : PairD × Nat => q.2)
  exact (List.perm_cons _).1 (h1.trans h2.symm)
/-- The top's series was dropped. -/
theorem IdxS.dropped {w w1 w4 : World} {S : Nat → Prop} {x : Nat} {t : TenD} {M lm sm cm n : Nat} {iv iv' : Value} {Q : List (PairD × Nat)} {hs : List SgD} {D : DataW Unit} {q : PairD × Nat} {c : Nat} (h : IdxS w S x t M lm sm cm iv Q hs D) (h0 : 0 < hs.length) (hq : q ∈ Q) (hb : q.2 = (hget hs 0).b)
    (hp : Popped w w1 x t.limit lm sm cm iv iv' hs) (t4 : Turn (fun k => k = sm ∨ k = cm) w1 w4) (own2 : w4.ownsMap Tryz.prog 9 ptrElem sm n (DataW.del (mapOf (Q.map fun q => (q.1.s, pVal q.2))) (kL q.1.s)))
    (own4 : w4.ownsMap Tryz.prog 9 (plainElem Tryz.prog 3) cm M (D.put (kL (metK q.1.s)) (iVal c))) (hc : cntM metK t.sers (metK q.1.s) = c + 1) :
    IdxS w4 S x ⟨t.name, t.limit, t.mets, delBy (·.s) q.1.s t.sers⟩ M lm sm cm iv' (delBy (fun q : PairD × Nat => q.1.s) q.1.s Q) (popL hs) (D.put (kL (metK q.1.s)) (iVal c)) ∧ Turn S w w4 := by
  have nx1 : sm ≠ x := map_ne_cells h.sers h.blk
  have nx2 : cm ≠ x := map_ne_cells h.cnts h.blk
  have nx0 : lm ≠ x := map_ne_cells h.lims h.blk
  have ni0 := map_ne_row h.lims h.row
  have ni1 := map_ne_row h.sers h.row
  have ni2 := map_ne_row h.cnts h.row
  have hrq : RiseBy (fun q : PairD × Nat => q.1.s) Q := by
    rw [← riseBy_map (key' := fun p : PairD => p.s) (fun q : PairD × Nat => q.1) (fun _ => rfl), h.q1]
    exact h.rs
  obtain ⟨p1, p2, p3⟩ := popL_says h.heap h0
  have hq1 : q.1 ∈ t.sers := by rw [← h.q1]; exact List.mem_map_of_mem hq
  have hmem : ∀ p ∈ delBy (fun q : PairD × Nat => q.1.s) q.1.s Q, p ∈ Q := fun p hp => (mem_delBy.1 hp).1
  have hdel : DataW.del (mapOf (Q.map fun q => (q.1.s, pVal q.2))) (kL q.1.s) = mapOf ((delBy (fun q : PairD × Nat => q.1.s) q.1.s Q).map fun q => (q.1.s, pVal q.2)) :=
    del_by (key := fun q : PairD × Nat => q.1.s) (fun q => pVal q.2) q.1.s Q
  have hkeep : ∀ g, ¬ (g = x ∨ iv.ownBlock = some g) → ¬ (g = sm ∨ g = cm) → g < w.heap.size → w4.heap[g]? = w.heap[g]? := fun g e1 e2 hg => by
    rw [t4.block g (by have := hp.turn.size; omega) e2, hp.turn.block g hg e1]
  refine ⟨?_, ?_⟩
  · exact {
      blk := t4.blk hp.blk (fun e => by rcases e with e | e; exact nx1 e.symm; exact nx2 e.symm)
      lims := t4.map (hp.turn.map h.lims (fun e => by rcases e with e | e; exact nx0 e; exact ni0 e)) (fun e => by rcases e with e | e; exact h.d1 e; exact h.d2 e)
      sers := by
        have := tight own2
        rw [hdel, size_by] at this
        exact this
      cnts := own4
      cnt := fun m => by
        have hd := cntM_del (met := metK) h.rs hq1 m
        by_cases e : metK q.1.s = m
        · rw [if_pos e] at hd
          rw [← e, atKey_put_same (k := kL (metK q.1.s)) h.cnts.isMap trivial]
          rw [← e] at hd
          have : cntM metK (delBy (·.s) q.1.s t.sers) (metK q.1.s) = c := by omega
          rw [this]
        · rw [if_neg e] at hd
          rw [atKey_put_other (fun e' => e (kL_inj e').symm), h.cnt m, hd]
          rfl
      q1 := by rw [delBy_map (key' := fun p : PairD => p.s) (fun q : PairD × Nat => q.1) (fun _ => rfl), h.q1]
      cells := fun p hp' => by
        have hpq := hmem p hp'
        refine (hkeep p.2 (fun e => ?_) (fun e => ?_) (lt_of_block (h.cells p hpq))).trans (h.cells p hpq)
        · rcases e with e | e
          · exact h.dx p hpq e
          · exact (h.di _ e).2 p hpq rfl
        · rcases e with e | e
          · exact map_ne_cells h.sers (h.cells p hpq) e.symm
          · exact map_ne_cells h.cnts (h.cells p hpq) e.symm
      row := by
        rw [p3]
        exact t4.row hp.row (fun g hg e => by
          rw [hp.same] at hg
          rcases e with rfl | rfl
          · exact ni1 hg
          · exact ni2 hg)
      heap := p1
      perm := popL_perm h.heap h0 h.perm hrq hq hb
      early := fun s hs' p hp' e => h.early s (p2.mem_iff.1 (List.mem_cons_of_mem _ hs')) p (hmem p hp') e
      rm := h.rm
      rs := delBy_rise h.rs
      sx := h.sx
      sl := h.sl
      ss := h.ss
      sc := h.sc
      sq := fun p hp' => h.sq p (hmem p hp')
      si := fun g hg => h.si g (by rw [← hp.same]; exact hg)
      d1 := h.d1
      d2 := h.d2
      d3 := h.d3
      nd := h.nd.sublist (List.Sublist.map _ List.filter_sublist)
      dx := fun p hp' => h.dx p (hmem p hp')
      di := fun g hg => ⟨(h.di g (by rw [← hp.same]; exact hg)).1, fun p hp' => (h.di g (by rw [← hp.same]; exact hg)).2 p (hmem p hp')⟩ }
  · refine (hp.turn.mono fun k _ e => by rcases e with rfl | e; exact h.sx; exact h.si _ e).trans' (t4.mono fun k _ e => ?_)
    rcases e with rfl | rfl
    · exact h.ss
    · exact h.sc
/-- The top's series was seen later: its sight is put in again. -/
theorem IdxS.again {w w1 w4 : World} {S : Nat → Prop} {x : Nat} {t : TenD} {M lm sm cm : Nat} {iv iv' : Value} {Q : List (PairD × Nat)} {hs : List SgD} {D : DataW Unit} {q : PairD × Nat} {g cap B : Nat} (h : IdxS w S x t M lm sm cm iv Q hs D) (h0 : 0 < hs.length) (hq : q ∈ Q) (hb : q.2 = (hget hs 0).b)
    (hp : Popped w w1 x t.limit lm sm cm iv iv' hs)
    (hb4 : Blk w4 x #[.int .i64 t.limit, .map (some lm), .map (some sm), .map (some cm), .slice (some ⟨g, 0, none⟩) ((popL hs).length + 1) cap] 100)
    (hr4 : w4.ownsRow 0 126 2 (.slice (some ⟨g, 0, none⟩) ((popL hs).length + 1) cap) ((popL hs).length + 1) (flatS (pushL (popL hs) ⟨q.2, q.1.n⟩))) (hloc : iv'.ownBlock = some g ∨ w1.heap.size ≤ g) (t4 : Turn (fun k => k = x ∨ iv'.ownBlock = some k) w1 w4) (hB : B ≤ w.heap.size) (hS : ∀ g, B ≤ g → w.heap.size ≤ g → S g) :
    IdxS w4 S x t M lm sm cm (.slice (some ⟨g, 0, none⟩) ((popL hs).length + 1) cap) Q (pushL (popL hs) ⟨q.2, q.1.n⟩) D ∧ Turn S w w4 := by
  have nx1 : sm ≠ x := map_ne_cells h.sers h.blk
  have nx2 : cm ≠ x := map_ne_cells h.cnts h.blk
  have nx0 : lm ≠ x := map_ne_cells h.lims h.blk
  have ni0 := map_ne_row h.lims h.row
  have ni1 := map_ne_row h.sers h.row
  have ni2 := map_ne_row h.cnts h.row
  obtain ⟨p1, p2, p3⟩ := popL_says h.heap h0
  obtain ⟨r1, r2, r3⟩ := pushL_says p1 ⟨q.2, q.1.n⟩
  have hsz := hp.turn.size
  have t14 : Turn (fun k => k = x ∨ iv.ownBlock = some k) w w4 := hp.turn.trans' (t4.mono fun k _ e => by rw [← hp.same]; exact e)
  have qlt : ∀ q ∈ Q, q.2 < w.heap.size := fun q hq => lt_of_block (h.cells q hq)
  have hxl := lt_of_block h.blk
  have hloc' : iv.ownBlock = some g ∨ w.heap.size ≤ g := by
    rcases hloc with e | e
    · exact Or.inl (by rw [← hp.same]; exact e)
    · exact Or.inr (by omega)
  refine ⟨?_, ?_⟩
  · exact { h with
      blk := hb4
      lims := t14.map h.lims (fun e => by rcases e with e | e; exact nx0 e; exact ni0 e)
      sers := t14.map h.sers (fun e => by rcases e with e | e; exact nx1 e; exact ni1 e)
      cnts := t14.map h.cnts (fun e => by rcases e with e | e; exact nx2 e; exact ni2 e)
      cells := fun p hp' => t14.blk (h.cells p hp') (fun e => by
        rcases e with e | e
        · exact h.dx p hp' e
        · exact (h.di _ e).2 p hp' rfl)
      row := by rw [r3]; exact hr4
      heap := r1
      perm := by
        refine (r2.map _).trans ?_
        rw [List.map_cons]
        show (q.2 :: (popL hs).map (·.b)).Perm _
        rw [hb]
        exact (p2.map (·.b)).trans h.perm
      early := fun s hs' p hp' e => by
        rcases List.mem_cons.1 (r2.mem_iff.1 hs') with rfl | hs'
        · have := nodup_inj h.nd hp' hq e
          rw [this]
          exact Int.le_refl _
        · exact h.early s (p2.mem_iff.1 (List.mem_cons_of_mem _ hs')) p hp' e
      si := fun g' hg' => by
        simp only [Value.ownBlock, Option.some.injEq] at hg'
        subst hg'
        rcases hloc' with e | e
        · exact h.si g e
        · exact hS g (by omega) e
      di := fun g' hg' => by
        simp only [Value.ownBlock, Option.some.injEq] at hg'
        subst hg'
        rcases hloc' with e | e
        · exact h.di g e
        · exact ⟨by omega, fun p hp' => by have := qlt p hp'; omega⟩ }
  · exact t14.mono fun k _ e => by
      rcases e with rfl | e
      · exact h.sx
      · exact h.si _ e
/-- How many sights of a heap are out of date: each turn makes them fewer. -/
theorem late_pop {hs : List SgD} {u : Int} (hh : HeapOK hs) (h0 : 0 < hs.length) (ht : (hget hs 0).t ≤ u) : (popL hs).countP (fun s => decide (s.t ≤ u)) + 1 = hs.countP (fun s => decide (s.t ≤ u)) := by
  obtain ⟨_, p2, _⟩ := popL_says hh h0
  rw [← p2.countP_eq, List.countP_cons_of_pos (by simpa using ht)]
theorem late_push {hs : List SgD} {u : Int} {s : SgD} (hh : HeapOK hs) (hs' : u < s.t) : (pushL hs s).countP (fun s => decide (s.t ≤ u)) = hs.countP (fun s => decide (s.t ≤ u)) := by
  obtain ⟨_, q2, _⟩ := pushL_says hh s
  rw [q2.countP_eq, List.countP_cons_of_neg (by simp; omega)]
/-- What is said of some number is said of a least one. -/
theorem least_is {R : Nat → Prop} (h : ∃ n, R n) : ∃ m, R m ∧ ∀ k, R k → m ≤ k := by
  obtain ⟨n, hn⟩ := h
  induction n using Nat.strongRecOn with
  | _ n ih =>
    by_cases hk : ∃ k, k < n ∧ R k
    · obtain ⟨k, hk, hr⟩ := hk
      exact ih k hk hr
    · exact ⟨n, hn, fun k hr => Nat.le_of_not_lt fun hlt => hk ⟨k, hlt, hr⟩⟩
end Go.Proofs.YtpajhkikcofhfaaGreatDoor

namespace Go.Proofs.YtpajhkikcofhfaaGreatDoor
open Go.RowKit Go.Maps

theorem step_enterD {P : Program} {w : World} {ops : Array Oper} {o : Oper} {a : Act} {K : Act → World → Prop} {Q : Exit → Act → World → Prop} {E : Prop} {f : FuncId} {args : Array Value} (hgd : o.guard = none) (hx : (execOp a.eval o).run P w = .ok (.enter f args) w)
    (h : Calls P f args w (fun e w' => ∃ v, e = .returned v ∧ K (a.put o.dst v) w')) : if Region.wanted o (yielded ops a.tmps) = true then Oper.wp P o a w K Q else E := by
  have hw : Region.wanted o (yielded ops a.tmps) = true := by simp [Region.wanted, hgd]
  rw [if_pos hw]
  unfold Oper.wp
  rw [hx]
  refine h.mono ?_
  rintro e w' ⟨v, rfl, hK⟩
  exact hK
set_option maxRecDepth 100000 in
set_option maxHeartbeats 4000000 in
theorem drop_any (x lm sm cm : Nat) (lim : Int) (iv : Value) (key : ByteArray) (Q : List (PairD × Nat)) (D : DataW Unit) (M c : Nat) (w : World) (hX : Blk w x #[.int .i64 lim, .map (some lm), .map (some sm), .map (some cm), iv] 100)
    (hs : w.ownsMap Tryz.prog 9 ptrElem sm Q.length (mapOf (Q.map fun q => (q.1.s, pVal q.2)))) (hc : w.ownsMap Tryz.prog 9 (plainElem Tryz.prog 3) cm M D) (hat : D.atKey (kL (metK key)) (iVal 0) = iVal ((c + 1 : Nat) : Int)) (hd : sm ≠ cm) (hk : key.size ≤ 1000000000) (hM : M ≤ 1000000000) (hc9 : c ≤ 1000000000) (hU : ∀ W, Turn (· = sm) w W → UTab W) :
    Calls Tryz.prog 72 #[.pointer (some ⟨x, 0, none⟩), .string key] w fun e w' => e = .returned (.tuple #[]) ∧ w'.ownsMap Tryz.prog 9 ptrElem sm Q.length (DataW.del (mapOf (Q.map fun q => (q.1.s, pVal q.2))) (kL key)) ∧ w'.ownsMap Tryz.prog 9 (plainElem Tryz.prog 3) cm M (D.put (kL (metK key)) (iVal c)) ∧ Turn (fun k => k = sm ∨ k = cm) w w' := by
  have HK : Hid (keyOf Tryz.prog 9 (.string key) = some (kL key)) := key_mk (by unfold maxLen; omega)
  have HKM : Hid (keyOf Tryz.prog 9 (.string (metK key)) = some (kL (metK key))) := key_mk (metK_size key)
  have HMT : Hid (∀ W, UTab W → Calls Tryz.prog 11 #[.string key] W fun e w' => e = .returned (.string (metK key)) ∧ Below W.heap.size W w') := fun W hW => implMet_any key W hk hW
  obtain ⟨n1, hn1⟩ : ∃ n1, n1 = c + 1 := ⟨_, rfl⟩
  rw [← hn1] at hat
  have hn2 : (n1 : Int) - 1 = (c : Nat) := by omega
  have hn0 : (n1 : Int) ≠ 0 := by omega
  have hn3 : 1 ≤ (n1 : Int) := by omega
  have hn9 : n1 ≤ 1000000001 := by omega
  have hwc : IntKind.i64.wrap ((c : Nat) : Int) = (c : Nat) := by
    simp only [IntKind.wrap, IntKind.bits, IntKind.signed]
    simp
    omega
  have HLK : Hid (∀ W, W.ownsMap Tryz.prog 9 (plainElem Tryz.prog 3) cm M D → (Instr.lookup 94 (.map (some cm)) (.string (metK key)) false).run Tryz.prog W = .ok (.int .i64 (n1 : Int)) W) := fun W h => look_cnt h hat (metK_size key)
  have HX := hid hX
  have HS := hid hs
  have HC := hid hc
  have HAT := hid hat
  have HU := hid hU
  have nx1 : sm ≠ x := map_ne_cells hs hX
  have x2 : w.cell? ⟨x, 2, none⟩ = some (.map (some sm)) := hX.cell 2
  have HCS : Hid (∀ W, W.ownsMap Tryz.prog 9 (plainElem Tryz.prog 3) cm M D → ∃ w4, (Instr.mapUpdate 94 (.map (some cm)) (.string (metK key)) (.int .i64 (c : Nat))).run Tryz.prog W = .ok () w4 ∧ w4.ownsMap Tryz.prog 9 (plainElem Tryz.prog 3) cm M (D.put (kL (metK key)) (iVal c)) ∧ Turn (· = cm) W w4) := fun W h => by
    obtain ⟨w4, run4, own4, tn4⟩ := h.store keyed Tryz.underlying94 (by unfold maxLen; omega) (val := .int .i64 (c : Nat)) HKM.out (plainElem_int Tryz.underlying3 (WalkArith.wf_i64 (by omega)))
    exact ⟨w4, run4, own_over own4 (h.tidy keyed) (own_size h) hat hn0, Turn.mapped tn4⟩
  clear hX hs hc hat hU hn1
  generalize metK key = mk at *
  go_enter Tryz.func72, Tryz.ntmps72
  go_upto_region 1 with (at_delete; refine wpList_delete_own _ rfl _ _ 95 9 rfl 92 keyed Tryz.underlying95 ptrElem sm _ _ rfl HS.out _ _ rfl HK.out ?_; intro w1 hown1 hturn1)
  have ht1 := Turn.mapped hturn1
  have O1 := hid hown1
  have T1 := hid ht1
  have X1 : Hid (Blk w1 x #[.int .i64 lim, .map (some lm), .map (some sm), .map (some cm), iv] 100) := ht1.blk HX.out nx1.symm
  have C1 : Hid (w1.ownsMap Tryz.prog 9 (plainElem Tryz.prog 3) cm M D) := ht1.map HC.out hd.symm
  have U1 : Hid (UTab w1) := HU.out w1 ht1
  have x3 : w1.cell? ⟨x, 3, none⟩ = some (.map (some cm)) := X1.out.cell 3
  clear hown1 hturn1 ht1 HX HS HC HU x2
  have hd1 : w1.drew.heap.size = w1.heap.size := rfl
  go_region_law (refine step_enterD (f := 11) (args := #[.string key]) rfl (by go_simp) ?_; refine (HMT.out _ (U1.out.later (Below.refl _ _).drew)).mono ?_; rintro e w2 ⟨rfl, hb2⟩; have b2 : Below w1.heap.size w1 w2 := (bto (Below.refl w1.heap.size w1).drew hb2); have C2 := (Turn.of (S := fun _ => False) b2).map C1.out (fun e => e); have hl := HLK.out w2 C2; obtain ⟨w4, run4, own4, tn4⟩ := HCS.out w2 C2; have x4 : w2.cell? ⟨x, 3, none⟩ = some (.map (some cm)) := (X1.out.later b2).cell 3; refine ⟨_, rfl, ?_⟩)
  all_goals (go_wp2; go_end0)
  all_goals exact ⟨rfl, tn4.map ((Turn.of (S := fun _ => False) b2).map O1.out (fun e => e)) hd, own4, ((T1.out.mono fun i _ e => Or.inl e).trans' (Turn.of b2)).trans' (tn4.mono fun i _ e => Or.inr e)⟩
end Go.Proofs.YtpajhkikcofhfaaGreatDoor

namespace Go.Proofs.YtpajhkikcofhfaaGreatDoor
open Go.RowKit

theorem HeapM.take {w : World} {g cap n : Nat} {hs : List SgD} (h : HeapM w g cap hs) (hn : n ≤ hs.length) : HeapM w g cap (hs.take n) := by
  obtain ⟨cur, h1, h2, h3, h4, h5⟩ := h
  refine ⟨cur, h1, h2, by rw [List.length_take]; omega, h4, fun k hk => ?_⟩
  rw [List.length_take] at hk
  have e : hget (hs.take n) k = hget hs k := by simp [hget, List.getD, List.getElem?_take_of_lt (show k < n by omega)]
  rw [e]
  exact h5 k (by omega)
theorem HeapM.but {w w' : World} {g cap b : Nat} {hs : List SgD} (h : HeapM w g cap hs) (hb : But b w w') (hne : g ≠ b) : HeapM w' g cap hs := by
  obtain ⟨cur, h1, h2⟩ := h
  exact ⟨cur, h1.but hb hne, h2⟩

set_option maxRecDepth 100000 in
set_option maxHeartbeats 4000000 in
theorem firstChild_any (x o g n cap k : Nat) (hs : List SgD) (w : World) (hp : w.cell? ⟨x, o, none⟩ = some (.slice (some ⟨g, 0, none⟩) n cap)) (hn : n = hs.length) (hH : HeapM w g cap hs) (hk : k ≤ 1000000000) :
    Calls Tryz.prog 85 #[.pointer (some ⟨x, o, none⟩), .int .i64 k] w fun e w' => e = .returned (.int .i64 (childL hs k : Nat)) ∧ Below w.heap.size w w' := by
  have HC : Hid (childL hs k = if 2 * k + 2 < hs.length ∧ (hget hs (2 * k + 2)).t < (hget hs (2 * k + 1)).t then 2 * k + 2 else 2 * k + 1) := rfl
  obtain ⟨r, hrd⟩ : ∃ r, r = 2 * k + 2 := ⟨_, rfl⟩
  obtain ⟨q, hqd⟩ : ∃ q, q = 2 * k + 1 := ⟨_, rfl⟩
  rw [← hrd, ← hqd] at HC
  have hr : 2 * (k : Int) + 2 = (r : Nat) := by omega
  have hq : 2 * (k : Int) + 1 = (q : Nat) := by omega
  have hr9 : r ≤ 2000000002 := by omega
  have hq9 : q ≤ 2000000001 := by omega
  have hqr : q < r := by omega
  have d0 := Later.cells hp
  have hnel := Later.there w
  clear hrd hqd
  by_cases h1 : r < n
  · obtain ⟨a0, a1, _, _⟩ := hH.cells (k := r) (by omega)
    obtain ⟨b0, b1, _, _⟩ := hH.cells (k := q) (by omega)
    have d1 := Later.cells a0
    have d2 := Later.cells a1
    have d3 := Later.cells b0
    have d4 := Later.cells b1
    have HN : Hid (n = hs.length) := hn
    clear a0 a1 b0 b1 hp hH hn
    generalize childL hs k = CH at *
    generalize hget hs r = A at *
    generalize hget hs q = C at *
    have hqn : q < n := by omega
    go_enter Tryz.func85, Tryz.ntmps85
    go_wp2_with fail
    refine wp_region_later (by kernel_rfl) (by kernel_rfl) ?_
    repeat (go_big_quiet_step (fail))
    refine wpQuiet_enter (by rfl) (fun W => exec_invoke _ _ _ _ _ _ rfl rfl rfl (invokeBefore _ _ W)) (by rintro _ ⟨x, rfl⟩; exact calls_later (before_any _ _ _ _ _)) ?_
    simp only [Act.put, List.setIfInBounds_toArray, List.set_cons_succ, List.set_cons_zero]
    repeat (go_big_quiet_step (fail))
    refine wpQuiet_nil ?_
    rintro _ ⟨y, rfl⟩
    have HY : Hid (Below w.heap.size w y.w') := y.h
    clear d0 d1 d2 d3 d4 hnel
    generalize y.w' = W2 at *
    clear y
    by_cases hAC : A.t < C.t
    · have hd : decide (A.t < C.t) = true := by simpa using hAC
      rw [hd]
      have HV : Hid (CH = r) := by show _ = _; rw [HC.out, if_pos ⟨by rw [← HN.out]; exact h1, hAC⟩]
      go_wp2
      go_ret
      exact ⟨ret_int (by rw [HV.out]), HY.out⟩
    · have hd : decide (A.t < C.t) = false := by simpa using hAC
      rw [hd]
      have HV : Hid (CH = q) := by show _ = _; rw [HC.out, if_neg (fun h => hAC h.2)]
      go_wp2
      go_ret
      exact ⟨ret_int (by rw [HV.out]), HY.out⟩
  · have HV : Hid (childL hs k = q) := by show _ = _; rw [HC.out, if_neg (fun h => h1 (by rw [hn]; exact h.1))]
    clear hp hH hn HC
    generalize childL hs k = CH at *
    have hrn : ¬ ((r : Int) < n) := by omega
    go_enter Tryz.func85, Tryz.ntmps85
    go_wp2_with fail
    refine wp_region_later (by kernel_rfl) (by kernel_rfl) ?_
    repeat (go_big_quiet_step (fail))
    refine wpQuiet_nil ?_
    rintro _ ⟨y, rfl⟩
    have HY : Hid (Below w.heap.size w y.w') := y.h
    clear d0 hnel
    generalize y.w' = W2 at *
    clear y
    go_wp2
    go_ret
    exact ⟨ret_int (by rw [HV.out]), HY.out⟩

set_option maxRecDepth 100000 in
set_option maxHeartbeats 8000000 in
theorem pop_any (x o g cap : Nat) (hs : List SgD) (w : World) (cx : Array Value) (tx : TypeId) (hX : Blk w x cx tx) (ho : cx[o]? = some (.slice (some ⟨g, 0, none⟩) hs.length cap)) (hM : HeapM w g cap hs) (hne : g ≠ x) (h0 : 0 < hs.length) (hn : hs.length ≤ 1000000000) :
    Calls Tryz.prog 71 #[.pointer (some ⟨x, o, none⟩)] w fun e w' => e = .returned (.agg #[.pointer (some ⟨(hget hs 0).b, 0, none⟩), .int .i64 (hget hs 0).t]) ∧ Blk w' x (cx.setIfInBounds o (.slice (some ⟨g, 0, none⟩) (hs.length - 1) cap)) tx ∧ HeapM w' g cap (popL hs) ∧ Turn (fun k => k = x ∨ k = g) w w' := by
  obtain ⟨la, hlad⟩ : ∃ la, la = hs.length - 1 := ⟨_, rfl⟩
  have hla : (hs.length : Int) - 1 = (la : Nat) := by omega
  have hl1 : la < hs.length := by omega
  have hln : hs.length = la + 1 := by omega
  have hcl : hs.length ≤ cap := by obtain ⟨cur, _, _, h3, _⟩ := hM; exact h3
  have hlc : la ≤ cap := by omega
  have hgl := hM.lt
  have hxl := lt_of_block hX
  have HPOP : Hid (popL hs = siftDn ((swapL hs 0 la).take la) 0) := by show _ = _; rw [hlad]; rfl
  have HTOP : Hid (hget (swapL hs 0 la) la = hget hs 0) := by show _ = _; rw [hget_swap h0 hl1, if_pos rfl]
  have HSW0 : Hid (∀ W, Below w.heap.size w W → Calls Tryz.prog 79 #[.pointer (some ⟨x, o, none⟩), .int .i64 0, .int .i64 la] W fun e w' => e = .returned (.tuple #[]) ∧ HeapM w' g cap (swapL hs 0 la) ∧ But g W w') := fun W hW => by
    have := swap_any x o g hs.length cap 0 la hs W (by rw [(hX.later hW).cell]; exact ho) rfl (hM.later hW) h0 hl1
    simpa using this
  have c0 : w.cell? ⟨x, o, none⟩ = some (.slice (some ⟨g, 0, none⟩) hs.length cap) := by rw [hX.cell]; exact ho
  have hoc : o < cx.size := (Array.getElem?_eq_some_iff.1 ho).1
  obtain ⟨cx1, hcd⟩ : ∃ c, c = cx.setIfInBounds o (.slice (some ⟨g, 0, none⟩) la cap) := ⟨_, rfl⟩
  have hcx : cx1[o]? = some (.slice (some ⟨g, 0, none⟩) la cap) := by rw [hcd]; simp [hoc]
  have HX := hid hX
  have HO : Hid (cx[o]? = some (.slice (some ⟨g, 0, none⟩) hs.length cap)) := ho
  rw [← hlad, ← hcd]
  have HCD : Hid (cx1 = cx.setIfInBounds o (.slice (some ⟨g, 0, none⟩) la cap)) := hcd
  have HFC : Hid (∀ (k : Nat) (l : List SgD) (W : World), Blk W x cx1 tx → HeapM W g cap l → l.length = la → k ≤ 1000000000 → Calls Tryz.prog 85 #[.pointer (some ⟨x, o, none⟩), .int .i64 k] W fun e w' => e = .returned (.int .i64 (childL l k : Nat)) ∧ Below W.heap.size W w') := fun k l W hb hm hl hk => firstChild_any x o g la cap k l W (by rw [hb.cell]; exact hcx) hl.symm hm hk
  have HSW : Hid (∀ (i j : Nat) (l : List SgD) (W : World), Blk W x cx1 tx → HeapM W g cap l → l.length = la → i < la → j < la → Calls Tryz.prog 79 #[.pointer (some ⟨x, o, none⟩), .int .i64 i, .int .i64 j] W fun e w' => e = .returned (.tuple #[]) ∧ HeapM w' g cap (swapL l i j) ∧ But g W w') := fun i j l W hb hm hl hi hj => swap_any x o g la cap i j l W (by rw [hb.cell]; exact hcx) hl.symm hm hi hj
  generalize hpl : popL hs = PL at *
  generalize htp : hget hs 0 = TP at *
  clear hX ho hM hcd hlad hpl htp
  have B0 : Hid (Below w.heap.size w (w.alloc (.cells #[.pointer none, .int .i64 0] 126))) := bnew _ _
  have P0 : Hid (Blk (w.alloc (.cells #[.pointer none, .int .i64 0] 126)) w.heap.size #[.pointer none, .int .i64 0] 126) := Blk.new _ _ _
  have e0 : (w.alloc (.cells #[.pointer none, .int .i64 0] 126)).cell? ⟨x, o, none⟩ = some (.slice (some ⟨g, 0, none⟩) hs.length cap) := (B0.out.cell hxl).trans c0
  go_enter Tryz.func71, Tryz.ntmps71
  go_wp2_with fail
  refine (HSW0.out _ B0.out).mono ?_
  rintro e w1 ⟨rfl, hM1, hb1⟩
  have HM1 := hid hM1
  have hs1 := hb1.size
  have hsa : (w.alloc (.cells #[.pointer none, .int .i64 0] 126)).heap.size = w.heap.size + 1 := by simp
  have X1 : Hid (Blk w1 x cx tx) := (HX.out.later B0.out).but hb1 hne.symm
  have P1 : Hid (Blk w1 w.heap.size #[.pointer none, .int .i64 0] 126) := P0.out.but hb1 (by omega)
  have T1 : Hid (Turn (fun k => k = x ∨ k = g) w w1) := (Turn.of B0.out).trans' ((Turn.but hb1).mono fun i _ e => Or.inr e)
  have hs1' : w.heap.size + 1 ≤ w1.heap.size := by omega
  obtain ⟨a0, a1, _, _⟩ := hM1.cells (k := la) (by rw [swapL_length]; exact hl1)
  rw [HTOP.out] at a0 a1
  have x0 : w1.cell? ⟨x, o, none⟩ = some (.slice (some ⟨g, 0, none⟩) hs.length cap) := by rw [X1.out.cell]; exact HO.out
  have fx0 := X1.out.free o
  clear hM1 hb1 HSW0 B0 P0 e0 c0 HX hsa hs1
  have hw1 : w1.heap.size < (w1.alloc (.cells #[.pointer (some ⟨TP.b, 0, none⟩), .int .i64 TP.t] 126)).heap.size := by simp
  have xa : (w1.alloc (.cells #[.pointer (some ⟨TP.b, 0, none⟩), .int .i64 TP.t] 126)).cell? ⟨x, o, none⟩ = some (.slice (some ⟨g, 0, none⟩) hs.length cap) := ((X1.out.alloc _).cell o).trans HO.out
  have fa := (X1.out.alloc (.cells #[.pointer (some ⟨TP.b, 0, none⟩), .int .i64 TP.t] 126)).free o
  have XS : Hid (Blk ((w1.alloc (.cells #[.pointer (some ⟨TP.b, 0, none⟩), .int .i64 TP.t] 126)).setCell ⟨x, o, none⟩ (.slice (some ⟨g, 0, none⟩) la cap)) x cx1 tx) := hid (by rw [HCD.out]; exact (X1.out.alloc _).set o _)
  have TXO : Turn (· = x) (w1.alloc (.cells #[.pointer (some ⟨TP.b, 0, none⟩), .int .i64 TP.t] 126)) ((w1.alloc (.cells #[.pointer (some ⟨TP.b, 0, none⟩), .int .i64 TP.t] 126)).setCell ⟨x, o, none⟩ (.slice (some ⟨g, 0, none⟩) la cap)) := (Turn.refl (· = x) _).setCell (Or.inl rfl) o _
  have MS : Hid (HeapM ((w1.alloc (.cells #[.pointer (some ⟨TP.b, 0, none⟩), .int .i64 TP.t] 126)).setCell ⟨x, o, none⟩ (.slice (some ⟨g, 0, none⟩) la cap)) g cap ((swapL hs 0 la).take la)) := by
    refine hid ?_
    have h1 : HeapM ((w1.alloc (.cells #[.pointer (some ⟨TP.b, 0, none⟩), .int .i64 TP.t] 126)).setCell ⟨x, o, none⟩ (.slice (some ⟨g, 0, none⟩) la cap)) g cap (swapL hs 0 la) := by
      obtain ⟨cur, m1, m2⟩ := HM1.out.later (bnew w1 (.cells #[.pointer (some ⟨TP.b, 0, none⟩), .int .i64 TP.t] 126))
      exact ⟨cur, TXO.blk m1 hne, m2⟩
    exact h1.take (by rw [swapL_length]; omega)
  have PS : Hid (Blk ((w1.alloc (.cells #[.pointer (some ⟨TP.b, 0, none⟩), .int .i64 TP.t] 126)).setCell ⟨x, o, none⟩ (.slice (some ⟨g, 0, none⟩) la cap)) w.heap.size #[.pointer none, .int .i64 0] 126) := TXO.blk (P1.out.alloc _) (by omega)
  have QS : Hid (Blk ((w1.alloc (.cells #[.pointer (some ⟨TP.b, 0, none⟩), .int .i64 TP.t] 126)).setCell ⟨x, o, none⟩ (.slice (some ⟨g, 0, none⟩) la cap)) w1.heap.size #[.pointer (some ⟨TP.b, 0, none⟩), .int .i64 TP.t] 126) := TXO.blk (Blk.new _ _ _) (by omega)
  have TS : Hid (Turn (fun k => k = x ∨ k = g) w ((w1.alloc (.cells #[.pointer (some ⟨TP.b, 0, none⟩), .int .i64 TP.t] 126)).setCell ⟨x, o, none⟩ (.slice (some ⟨g, 0, none⟩) la cap))) := ((T1.out.trans' (Turn.of (bnew _ _))).trans' (TXO.mono fun i _ e => Or.inl e))
  have HLT : Hid (((swapL hs 0 la).take la).length = la) := by show _ = _; rw [List.length_take, swapL_length]; omega
  clear TXO HM1 X1 P1 T1 HO HTOP
  generalize (swapL hs 0 la).take la = l0 at *
  go_wp2
  clear xa fa a0 a1 x0 fx0 hw1
  generalize ((w1.alloc (.cells #[.pointer (some ⟨TP.b, 0, none⟩), .int .i64 TP.t] 126)).setCell ⟨x, o, none⟩ (.slice (some ⟨g, 0, none⟩) la cap)) = w2 at *
  go_loopw [5] (fun a wr => ∃ (k : Nat) (l : List SgD), a = .int .i64 k ∧ k ≤ la ∧ l.length = la ∧ Hid (Blk wr x cx1 tx) ∧ Hid (HeapM wr g cap l) ∧ Hid (PL = siftDn l k) ∧ Hid (Blk wr w.heap.size #[.pointer none, .int .i64 0] 126) ∧ Hid (Blk wr w1.heap.size #[.pointer (some ⟨TP.b, 0, none⟩), .int .i64 TP.t] 126) ∧ Hid (Turn (fun k => k = x ∨ k = g) w wr)) (fun a _ => la - (intOf a).toNat)
  case atStart => exact ⟨0, l0, rfl, Nat.zero_le _, HLT.out, XS.out, MS.out, HPOP.out, PS.out, QS.out, TS.out⟩
  case round =>
    obtain ⟨k, l, rfl, hk, hl, HX2, HM2, HV2, HP2, HQ2, HT2⟩ := hrel
    have HL := hid hl
    have h2 := childL_two l k
    have HGO : Hid (childL l k < l.length → (hget l (childL l k)).t < (hget l k).t → siftDn l k = siftDn (swapL l k (childL l k)) (childL l k)) := fun a b => siftDn_go ⟨a, b⟩
    have HEN : Hid (¬ (childL l k < l.length ∧ (hget l (childL l k)).t < (hget l k).t) → siftDn l k = l) := siftDn_end
    have HFC1 := hid (HFC.out k l wr HX2.out HM2.out hl (by omega))
    clear hl
    generalize hch : childL l k = ch at *
    clear hch
    go_wp2_with fail
    refine HFC1.out.mono ?_
    rintro e w3 ⟨rfl, hb3⟩
    have B3 := hid hb3
    have X3 : Hid (Blk w3 x cx1 tx) := HX2.out.later hb3
    have M3 : Hid (HeapM w3 g cap l) := HM2.out.later hb3
    have P3 : Hid (Blk w3 w.heap.size #[.pointer none, .int .i64 0] 126) := HP2.out.later hb3
    have Q3 : Hid (Blk w3 w1.heap.size #[.pointer (some ⟨TP.b, 0, none⟩), .int .i64 TP.t] 126) := HQ2.out.later hb3
    have T3 : Hid (Turn (fun k => k = x ∨ k = g) w w3) := HT2.out.trans' (Turn.of hb3)
    clear hb3 HFC1 HX2 HM2 HP2 HQ2 HT2 B3
    have k1 : w3.cell? ⟨x, o, none⟩ = some (.slice (some ⟨g, 0, none⟩) la cap) := by rw [X3.out.cell]; exact hcx
    have d0 := Later.cells k1
    have hnel := Later.there w3
    by_cases hge : la ≤ ch
    · have HV9 : Hid (PL = l) := by show _ = _; rw [HV2.out]; exact HEN.out (fun h => by have := HL.out; omega)
      have hgi : ¬ ((ch : Int) < la) := by omega
      clear HGO HEN HSW
      go_wp2_with fail
      refine wp_region_later (by kernel_rfl) (by kernel_rfl) ?_
      repeat (go_big_quiet_step (fail))
      refine wpQuiet_nil ?_
      rintro _ ⟨y, rfl⟩
      have X9 : Hid (Blk y.w' x cx1 tx) := X3.out.later y.h
      have M9 : Hid (HeapM y.w' g cap l) := M3.out.later y.h
      have P9 : Hid (Blk y.w' w.heap.size #[.pointer none, .int .i64 0] 126) := P3.out.later y.h
      have Q9 : Hid (Blk y.w' w1.heap.size #[.pointer (some ⟨TP.b, 0, none⟩), .int .i64 TP.t] 126) := Q3.out.later y.h
      have T9 : Hid (Turn (fun k => k = x ∨ k = g) w y.w') := T3.out.trans' (Turn.of y.h)
      clear d0 hnel k1 X3 M3 P3 Q3 T3
      generalize y.w' = W2 at *
      clear y
      have z0 : W2.cell? ⟨w.heap.size, 0, none⟩ = some (.pointer none) := P9.out.cell 0
      have z1 : W2.cell? ⟨w.heap.size, 1, none⟩ = some (.int .i64 0) := P9.out.cell 1
      have fz0 := P9.out.free 0
      have fz1 := P9.out.free 1
      have q0 : W2.cell? ⟨w1.heap.size, 0, none⟩ = some (.pointer (some ⟨TP.b, 0, none⟩)) := Q9.out.cell 0
      have q1 : W2.cell? ⟨w1.heap.size, 1, none⟩ = some (.int .i64 TP.t) := Q9.out.cell 1
      have hwl : w.heap.size < W2.heap.size := lt_of_block P9.out
      go_wp2
      have HTE9 : Turn (· = w.heap.size) W2 ((W2.setCell ⟨w.heap.size, 0, none⟩ (.pointer (some ⟨TP.b, 0, none⟩))).setCell ⟨w.heap.size, 1, none⟩ (.int .i64 TP.t)) := ((Turn.refl (· = w.heap.size) W2).setCell (Or.inl rfl) 0 _).setCell (Or.inl rfl) 1 _
      refine bodyPost_ret (v := .agg #[.pointer (some ⟨TP.b, 0, none⟩), .int .i64 TP.t]) (by simp [results, Tryz.results71, go_sem, z0, z1]) rfl ⟨rfl, HTE9.blk X9.out (by omega), ?_, T9.out.trans (HTE9.mono fun i _ e => Or.inr (by omega))⟩
      rw [HV9.out]
      exact (show ∀ {a b : World} {l : List SgD}, HeapM a g cap l → Turn (· = w.heap.size) a b → HeapM b g cap l from fun h ht => by obtain ⟨cur, h1, h2⟩ := h; exact ⟨cur, ht.blk h1 (by omega), h2⟩) M9.out HTE9
    · have hcl2 : ch < la := by omega
      have hkl : k < la := by omega
      obtain ⟨a0, a1, _, _⟩ := M3.out.cells (k := ch) (by rw [HL.out]; exact hcl2)
      obtain ⟨b0, b1, _, _⟩ := M3.out.cells (k := k) (by rw [HL.out]; exact hkl)
      have d1 := Later.cells a0
      have d2 := Later.cells a1
      have d3 := Later.cells b0
      have d4 := Later.cells b1
      have HSW1 := hid (fun W h1 h2 => HSW.out k ch l W h1 h2 HL.out hkl hcl2)
      clear a0 a1 b0 b1 k1
      generalize hget l ch = A at *
      generalize hget l k = C at *
      go_wp2_with fail
      refine wp_region_later (by kernel_rfl) (by kernel_rfl) ?_
      repeat (go_big_quiet_step (fail))
      refine wpQuiet_enter (by rfl) (fun W => exec_invoke _ _ _ _ _ _ rfl rfl rfl (invokeBefore _ _ W)) (by rintro _ ⟨x, rfl⟩; exact calls_later (before_any _ _ _ _ _)) ?_
      simp only [Act.put, List.setIfInBounds_toArray, List.set_cons_succ, List.set_cons_zero]
      repeat (go_big_quiet_step (fail))
      refine wpQuiet_nil ?_
      rintro _ ⟨y, rfl⟩
      have X9 : Hid (Blk y.w' x cx1 tx) := X3.out.later y.h
      have M9 : Hid (HeapM y.w' g cap l) := M3.out.later y.h
      have P9 : Hid (Blk y.w' w.heap.size #[.pointer none, .int .i64 0] 126) := P3.out.later y.h
      have Q9 : Hid (Blk y.w' w1.heap.size #[.pointer (some ⟨TP.b, 0, none⟩), .int .i64 TP.t] 126) := Q3.out.later y.h
      have T9 : Hid (Turn (fun k => k = x ∨ k = g) w y.w') := T3.out.trans' (Turn.of y.h)
      clear d0 d1 d2 d3 d4 hnel X3 M3 P3 Q3 T3
      generalize y.w' = W2 at *
      clear y
      by_cases hAC : A.t < C.t
      · have hd : decide (A.t < C.t) = true := by simpa using hAC
        rw [hd]
        have HV9 : Hid (PL = siftDn (swapL l k ch) ch) := by show _ = _; rw [HV2.out]; exact HGO.out (by rw [HL.out]; exact hcl2) hAC
        have hkc : k < ch := by omega
        clear HGO HEN HV2 hAC hd h2
        go_wp2_with fail
        refine (HSW1.out _ X9.out M9.out).mono ?_
        rintro e w4 ⟨rfl, hM4, hb4⟩
        have M4 := hid hM4
        have X4 : Hid (Blk w4 x cx1 tx) := X9.out.but hb4 hne.symm
        have P4 : Hid (Blk w4 w.heap.size #[.pointer none, .int .i64 0] 126) := P9.out.but hb4 (by omega)
        have Q4 : Hid (Blk w4 w1.heap.size #[.pointer (some ⟨TP.b, 0, none⟩), .int .i64 TP.t] 126) := Q9.out.but hb4 (by omega)
        have T4 : Hid (Turn (fun k => k = x ∨ k = g) w w4) := T9.out.trans' ((Turn.but hb4).mono fun i _ e => Or.inr e)
        clear hM4 hb4 HSW1
        go_wp2
        exact ⟨⟨ch, swapL l k ch, rfl, by omega, by rw [swapL_length]; exact HL.out, X4.out, M4.out, HV9.out, P4.out, Q4.out, T4.out⟩, by simp [intOf]; omega⟩
      · have hd : decide (A.t < C.t) = false := by simpa using hAC
        rw [hd]
        have HV9 : Hid (PL = l) := by show _ = _; rw [HV2.out]; exact HEN.out (fun h => hAC h.2)
        clear HGO HEN HV2 hAC hd h2 HSW1
        have z0 : W2.cell? ⟨w.heap.size, 0, none⟩ = some (.pointer none) := P9.out.cell 0
        have z1 : W2.cell? ⟨w.heap.size, 1, none⟩ = some (.int .i64 0) := P9.out.cell 1
        have fz0 := P9.out.free 0
        have fz1 := P9.out.free 1
        have q0 : W2.cell? ⟨w1.heap.size, 0, none⟩ = some (.pointer (some ⟨TP.b, 0, none⟩)) := Q9.out.cell 0
        have q1 : W2.cell? ⟨w1.heap.size, 1, none⟩ = some (.int .i64 TP.t) := Q9.out.cell 1
        have hwl : w.heap.size < W2.heap.size := lt_of_block P9.out
        go_wp2
        have HTE9 : Turn (· = w.heap.size) W2 ((W2.setCell ⟨w.heap.size, 0, none⟩ (.pointer (some ⟨TP.b, 0, none⟩))).setCell ⟨w.heap.size, 1, none⟩ (.int .i64 TP.t)) := ((Turn.refl (· = w.heap.size) W2).setCell (Or.inl rfl) 0 _).setCell (Or.inl rfl) 1 _
        refine bodyPost_ret (v := .agg #[.pointer (some ⟨TP.b, 0, none⟩), .int .i64 TP.t]) (by simp [results, Tryz.results71, go_sem, z0, z1]) rfl ⟨rfl, HTE9.blk X9.out (by omega), ?_, T9.out.trans (HTE9.mono fun i _ e => Or.inr (by omega))⟩
        rw [HV9.out]
        exact (show ∀ {a b : World} {l : List SgD}, HeapM a g cap l → Turn (· = w.heap.size) a b → HeapM b g cap l from fun h ht => by obtain ⟨cur, h1, h2⟩ := h; exact ⟨cur, ht.blk h1 (by omega), h2⟩) M9.out HTE9
end Go.Proofs.YtpajhkikcofhfaaGreatDoor

