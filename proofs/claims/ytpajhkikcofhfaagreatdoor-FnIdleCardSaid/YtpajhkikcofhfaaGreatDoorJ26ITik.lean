import Derived.Test.YtpajhkikcofhfaaGreatDoorProg
import Derived.Test.YtpajhkikcofhfaaGreatDoorJ25IPop
import Derived.Test.YtpajhkikcofhfaaGreatDoorJ16QTail
import Derived.Maps.RangeWalk
namespace Go.Proofs.YtpajhkikcofhfaaGreatDoor
open Go.RowKit Go.Maps

theorem field_ser (p q : Value) (w : World) : (Instr.field 126 (.agg #[p, q]) 0).run Tryz.prog w = .ok p w := by kernel_rfl
/-- An index in the midst of its expiry, n of its sights out of date. -/
def ExR (S : Nat → Prop) (x : Nat) (t : TenD) (M : Nat) (u : Int) (wr : World) (n : Nat) : Prop :=
  ∃ xs lm sm cm iv Q hs D, IdxS wr S x ⟨t.name, t.limit, t.mets, xs⟩ M lm sm cm iv Q hs D ∧ xs.filter (fun p => decide (u < p.n)) = t.sers.filter (fun p => decide (u < p.n)) ∧ (∀ p ∈ xs, p ∈ t.sers) ∧ xs.length ≤ t.sers.length ∧ hs.countP (fun s => decide (s.t ≤ u)) = n
theorem least_spec {R : Nat → Prop} (h : ∃ n, R n) : R (Classical.epsilon fun m => R m ∧ ∀ k, R k → m ≤ k) ∧ ∀ k, R k → (Classical.epsilon fun m => R m ∧ ∀ k, R k → m ≤ k) ≤ k := Classical.epsilon_spec (least_is h)
theorem least_lt {R R' : Nat → Prop} {n : Nat} (h : R' n) (hn : n < Classical.epsilon fun m => R m ∧ ∀ k, R k → m ≤ k) : (Classical.epsilon fun m => R' m ∧ ∀ k, R' k → m ≤ k) < Classical.epsilon fun m => R m ∧ ∀ k, R k → m ≤ k :=
  Nat.lt_of_le_of_lt ((least_spec ⟨n, h⟩).2 n h) hn
/-- Nothing is out of date: that is the tenant at its new moment. -/
theorem ex_end {w : World} {S : Nat → Prop} {x : Nat} {t : TenD} {M lm sm cm : Nat} {iv : Value} {Q : List (PairD × Nat)} {hs : List SgD} {D : DataW Unit} {xs : List PairD} {u win now : Int} (h : IdxS w S x ⟨t.name, t.limit, t.mets, xs⟩ M lm sm cm iv Q hs D) (hu : u = now - win) (hf : xs.filter (fun p => decide (u < p.n)) = t.sers.filter (fun p => decide (u < p.n))) (hno : ¬ (0 < hs.length ∧ (hget hs 0).t ≤ u)) :
    IdxAt w S x (keptT win now t) M := by
  have ha : ∀ p ∈ xs, u < p.n := fun p hp => by
    have hpq : p ∈ Q.map (·.1) := by rw [h.q1]; exact hp
    obtain ⟨q, hq, rfl⟩ := List.mem_map.1 hpq
    have hb : q.2 ∈ hs.map (·.b) := h.perm.mem_iff.2 (List.mem_map_of_mem hq)
    obtain ⟨s, hs', e⟩ := List.mem_map.1 hb
    have h1 := h.early s hs' q hq e.symm
    have h2 := top_le h.heap hs'
    have h3 : 0 < hs.length := List.length_pos_of_mem hs'
    have h4 : ¬ (hget hs 0).t ≤ u := fun h' => hno ⟨h3, h'⟩
    omega
  rw [keptT_all hu hf ha]
  exact ⟨lm, sm, cm, iv, Q, hs, D, h⟩
theorem ex_drop {w w1 w4 : World} {S : Nat → Prop} {x : Nat} {t : TenD} {M lm sm cm n : Nat} {iv iv' : Value} {Q : List (PairD × Nat)} {hs : List SgD} {D : DataW Unit} {xs : List PairD} {u : Int} {q : PairD × Nat} {c : Nat} (h : IdxS w S x ⟨t.name, t.limit, t.mets, xs⟩ M lm sm cm iv Q hs D) (hf : xs.filter (fun p => decide (u < p.n)) = t.sers.filter (fun p => decide (u < p.n))) (hsub : ∀ p ∈ xs, p ∈ t.sers) (hl : xs.length ≤ t.sers.length)
    (h0 : 0 < hs.length) (ht : (hget hs 0).t ≤ u) (hq : q ∈ Q) (hb : q.2 = (hget hs 0).b) (hL : q.1.n ≤ u) (hp : Popped w w1 x t.limit lm sm cm iv iv' hs) (t4 : Turn (fun k => k = sm ∨ k = cm) w1 w4) (own2 : w4.ownsMap Tryz.prog 9 ptrElem sm n (DataW.del (mapOf (Q.map fun q => (q.1.s, pVal q.2))) (kL q.1.s)))
    (own4 : w4.ownsMap Tryz.prog 9 (plainElem Tryz.prog 3) cm M (D.put (kL (metK q.1.s)) (iVal c))) (hc : cntM metK xs (metK q.1.s) = c + 1) :
    (∃ k, ExR S x t M u w4 k ∧ k < hs.countP (fun s => decide (s.t ≤ u))) ∧ Turn S w w4 := by
  obtain ⟨h1, h2⟩ := h.dropped (c := c) h0 hq hb hp t4 own2 own4 hc
  refine ⟨⟨_, ⟨_, lm, sm, cm, iv', _, _, _, h1, ?_, fun p hp' => hsub p (mem_delBy.1 hp').1, ?_, rfl⟩, ?_⟩, h2⟩
  · rw [← hf]
    unfold delBy
    rw [List.filter_filter]
    apply List.filter_congr
    intro p hp'
    by_cases e : p.s = q.1.s
    · have hqx : q.1 ∈ xs := by have := List.mem_map_of_mem (f := (·.1)) hq; rw [h.q1] at this; exact this
      have e1 := getBy_of_mem h.rs hp'
      have e2 := getBy_of_mem h.rs hqx
      have : p = q.1 := by
        have e3 : some p = some q.1 := by rw [← e1, ← e2]; show getBy (fun p : PairD => p.s) p.s xs = getBy (fun p : PairD => p.s) q.1.s xs; rw [e]
        exact Option.some.inj e3
      rw [this, decide_eq_false (by omega)]
      simp
    · rw [same_not e]; simp
  · have : (delBy (·.s) q.1.s xs).length ≤ xs.length := List.length_filter_le _ _
    exact Nat.le_trans this hl
  · have := late_pop h.heap h0 ht
    omega
theorem ex_again {w w1 w4 : World} {S : Nat → Prop} {x : Nat} {t : TenD} {M lm sm cm : Nat} {iv iv' : Value} {Q : List (PairD × Nat)} {hs : List SgD} {D : DataW Unit} {xs : List PairD} {u : Int} {q : PairD × Nat} {g cap B : Nat} (h : IdxS w S x ⟨t.name, t.limit, t.mets, xs⟩ M lm sm cm iv Q hs D) (hf : xs.filter (fun p => decide (u < p.n)) = t.sers.filter (fun p => decide (u < p.n))) (hsub : ∀ p ∈ xs, p ∈ t.sers) (hl : xs.length ≤ t.sers.length)
    (h0 : 0 < hs.length) (ht : (hget hs 0).t ≤ u) (hq : q ∈ Q) (hb : q.2 = (hget hs 0).b) (hL : u < q.1.n) (hp : Popped w w1 x t.limit lm sm cm iv iv' hs)
    (hb4 : Blk w4 x #[.int .i64 t.limit, .map (some lm), .map (some sm), .map (some cm), .slice (some ⟨g, 0, none⟩) ((popL hs).length + 1) cap] 100)
    (hr4 : w4.ownsRow 0 126 2 (.slice (some ⟨g, 0, none⟩) ((popL hs).length + 1) cap) ((popL hs).length + 1) (flatS (pushL (popL hs) ⟨q.2, q.1.n⟩))) (hloc : iv'.ownBlock = some g ∨ w1.heap.size ≤ g) (t4 : Turn (fun k => k = x ∨ iv'.ownBlock = some k) w1 w4) (hB : B ≤ w.heap.size) (hS : ∀ g, B ≤ g → w.heap.size ≤ g → S g) :
    (∃ k, ExR S x t M u w4 k ∧ k < hs.countP (fun s => decide (s.t ≤ u))) ∧ Turn S w w4 := by
  obtain ⟨h1, h2⟩ := h.again h0 hq hb hp hb4 hr4 hloc t4 hB hS
  refine ⟨⟨_, ⟨xs, lm, sm, cm, _, _, _, _, h1, hf, hsub, hl, rfl⟩, ?_⟩, h2⟩
  have h3 := late_pop h.heap h0 ht
  rw [late_push (popL_says h.heap h0).1 (by exact hL)]
  omega

set_option maxRecDepth 100000 in
set_option maxHeartbeats 8000000 in
theorem expire_any (x : Nat) (t : TenD) (win now u : Int) (S : Nat → Prop) (M : Nat) (w0 w : World) (h : IdxAt w S x t M) (h0 : Below w0.heap.size w0 w) (hU : UTab w0) (hS : ∀ g, S g → w0.heap.size ≤ g) (hu : u = now - win) (hl : t.sers.length ≤ 1000000000) (hM : M ≤ 1000000000) (hk : ∀ p ∈ t.sers, p.s.size ≤ 1000000000) :
    Calls Tryz.prog 49 #[.pointer (some ⟨x, 0, none⟩), .int .i64 u] w fun e w' => e = .returned (.tuple #[]) ∧ IdxAt w' (fun g => S g ∨ w.heap.size ≤ g) x (keptT win now t) M ∧ Turn S w w' := by
  have HST : Hid (ExR (fun g => S g ∨ w.heap.size ≤ g) x t M u w ((Classical.epsilon fun m => ExR (fun g => S g ∨ w.heap.size ≤ g) x t M u w m ∧ ∀ k, ExR (fun g => S g ∨ w.heap.size ≤ g) x t M u w k → m ≤ k))) := by
    refine (least_spec ?_).1
    obtain ⟨lm, sm, cm, iv, Q, hs, D, h⟩ := h
    exact ⟨_, t.sers, lm, sm, cm, iv, Q, hs, D, h.keep fun g _ hs => ⟨rfl, Or.inl hs⟩, rfl, fun p hp => hp, Nat.le_refl _, rfl⟩
  have HUT : Hid (∀ W, Turn S w W → UTab W) := fun W hW => hU.later (h0.trans (hW.below h0.size fun k hk hs => by have := hS k hs; omega))
  have hw0 := h0.size
  have HSS : Hid (∀ g, S g → w0.heap.size ≤ g) := hS
  have HKS : Hid (∀ p ∈ t.sers, p.s.size ≤ 1000000000) := hk
  have HEU : Hid (u = now - win) := hu
  have HLX : Hid (t.sers.length ≤ 1000000000) := hl
  clear h h0 hU hS hk hu hl
  go_enter Tryz.func49, Tryz.ntmps49
  go_wp2
  go_loopw [4] (fun _ wr => Hid (∃ n, ExR (fun g => S g ∨ w.heap.size ≤ g) x t M u wr n) ∧ Hid (Turn S w wr)) (fun _ wr => Classical.epsilon fun m => ExR (fun g => S g ∨ w.heap.size ≤ g) x t M u wr m ∧ ∀ k, ExR (fun g => S g ∨ w.heap.size ≤ g) x t M u wr k → m ≤ k)
  case atStart => exact ⟨⟨_, HST.out⟩, Turn.refl _ _⟩
  case round =>
    obtain ⟨HN, HT⟩ := hrel
    obtain ⟨hsp, _⟩ := least_spec HN.out
    have HLT : Hid (∀ W k, ExR (fun g => S g ∨ w.heap.size ≤ g) x t M u W k → k < (Classical.epsilon fun m => ExR (fun g => S g ∨ w.heap.size ≤ g) x t M u wr m ∧ ∀ k, ExR (fun g => S g ∨ w.heap.size ≤ g) x t M u wr k → m ≤ k) → (Classical.epsilon fun m => ExR (fun g => S g ∨ w.heap.size ≤ g) x t M u W m ∧ ∀ k, ExR (fun g => S g ∨ w.heap.size ≤ g) x t M u W k → m ≤ k) < (Classical.epsilon fun m => ExR (fun g => S g ∨ w.heap.size ≤ g) x t M u wr m ∧ ∀ k, ExR (fun g => S g ∨ w.heap.size ≤ g) x t M u wr k → m ≤ k)) := fun W k h1 h2 => least_lt h1 h2
    obtain ⟨xs, lm, sm, cm, iv, Q, hs, D, hi, hf, hsub, hlen, hcnt⟩ := hsp
    have HI := hid hi
    have HF := hid hf
    have HSB := hid hsub
    have HLE := hid hlen
    have HCN := hid hcnt
    have hwr := HT.out.size
    clear HST hf hsub hlen hcnt HN
    by_cases h0 : 0 < hs.length
    · obtain ⟨g, cap, hiv⟩ : ∃ g cap, iv = .slice (some ⟨g, 0, none⟩) hs.length cap := by
        rcases hi.row.2 with ⟨_, e⟩ | ⟨g, cap, cur, e, _⟩
        · exact absurd e (by omega)
        · exact ⟨g, cap, e⟩
      subst hiv
      obtain ⟨hMM, _⟩ := heapM_of_row hi.row rfl
      have hgx : g ≠ x := (hi.di g rfl).1
      have HMM := hid hMM
      have x4 : wr.cell? ⟨x, 4, none⟩ = some (.slice (some ⟨g, 0, none⟩) hs.length cap) := hi.blk.cell 4
      have c1 : wr.cell? ⟨g, 1, none⟩ = some (.int .i64 (hget hs 0).t) := by have := (hMM.cells (k := 0) h0).2.1; simpa using this
      have h0i : (0 : Int) < hs.length := by omega
      by_cases ht : (hget hs 0).t ≤ u
      · have hhl : hs.length = xs.length := by
          have h1 := hi.perm.length_eq
          have h2 := congrArg List.length hi.q1
          simp only [List.length_map] at h1 h2
          omega
        have hh9 : hs.length ≤ 1000000000 := by have := HLE.out; have := HLX.out; omega
        obtain ⟨q, hq, hqb⟩ := hi.top h0
        have HQ := hid hq
        have HQB := hid hqb
        have HPO : Hid (Calls Tryz.prog 71 #[.pointer (some ⟨x, 4, none⟩)] wr fun e w' => e = .returned (.agg #[.pointer (some ⟨(hget hs 0).b, 0, none⟩), .int .i64 (hget hs 0).t]) ∧ Blk w' x (#[.int .i64 t.limit, .map (some lm), .map (some sm), .map (some cm), .slice (some ⟨g, 0, none⟩) hs.length cap].setIfInBounds 4 (.slice (some ⟨g, 0, none⟩) (hs.length - 1) cap)) 100 ∧ HeapM w' g cap (popL hs) ∧ Turn (fun k => k = x ∨ k = g) wr w') := pop_any x 4 g cap hs wr _ _ hi.blk rfl hMM hgx h0 hh9
        have HTL := hid ht
        clear hhl hMM
        rw [← hqb] at HPO
        clear hqb
        generalize hTT : (hget hs 0).t = TT at *
        have HTT : Hid ((hget hs 0).t = TT) := hTT
        clear hTT
        go_wp2_with fail
        refine HPO.out.mono ?_
        rintro e w1 ⟨rfl, hb1, hm1, ht1⟩
        have hp3 := (popL_says hi.heap h0).2.2
        have PP : Hid (Popped wr w1 x t.limit lm sm cm (.slice (some ⟨g, 0, none⟩) hs.length cap) (.slice (some ⟨g, 0, none⟩) (hs.length - 1) cap) hs) := hid {
          blk := by simpa using hb1
          row := by have := row_of_heapM (B := 0) hm1 (Nat.zero_le _); rw [hp3] at this; exact this
          same := rfl
          turn := ht1.mono fun k _ e => by rcases e with e | e; exact Or.inl e; exact Or.inr (by rw [e]; rfl) }
        have hqc := hi.cells q hq
        have hqg : q.2 ≠ g := (hi.di g rfl).2 q hq
        have hqx := hi.dx q hq
        have Q1 : Hid (Blk w1 q.2 #[.string q.1.s, .int .i64 q.1.n] 102) := ht1.blk hqc (fun e => by rcases e with e | e; exact hqx e; exact hqg e)
        have hfd := field_ser (.pointer (some ⟨q.2, 0, none⟩)) (.int .i64 TT)
        have v0 : w1.cell? ⟨q.2, 0, none⟩ = some (.string q.1.s) := Q1.out.cell 0
        have v1 : w1.cell? ⟨q.2, 1, none⟩ = some (.int .i64 q.1.n) := Q1.out.cell 1
        have TS1 : Hid (Turn S w w1) := HT.out.trans (ht1.mono fun k _ e => by
          rcases e with rfl | rfl
          · exact hi.sx
          · exact hi.si _ rfl)
        have hqs : q.1 ∈ xs := by have := List.mem_map_of_mem (f := (·.1)) hq; rw [hi.q1] at this; exact this
        have hks := HKS.out q.1 (HSB.out q.1 hqs)
        have hs1 := ht1.size
        clear hb1 hm1 hqc x4 c1 HPO hgx hp3
        by_cases hL : q.1.n ≤ u
        · obtain ⟨c, hc⟩ : ∃ c, cntM metK xs (metK q.1.s) = c + 1 := ⟨cntM metK (delBy (·.s) q.1.s xs) (metK q.1.s), by have := cntM_del (met := metK) hi.rs hqs (metK q.1.s); rw [if_pos rfl] at this; exact this⟩
          have hc9 : c ≤ 1000000000 := by have := cntM_le metK xs (metK q.1.s); have := HLE.out; have := HLX.out; omega
          have HDR : Hid (Calls Tryz.prog 72 #[.pointer (some ⟨x, 0, none⟩), .string q.1.s] w1 fun e w' => e = .returned (.tuple #[]) ∧ w'.ownsMap Tryz.prog 9 ptrElem sm Q.length (DataW.del (mapOf (Q.map fun q => (q.1.s, pVal q.2))) (kL q.1.s)) ∧ w'.ownsMap Tryz.prog 9 (plainElem Tryz.prog 3) cm M (D.put (kL (metK q.1.s)) (iVal c)) ∧ Turn (fun k => k = sm ∨ k = cm) w1 w') :=
            drop_any x lm sm cm t.limit _ q.1.s Q D M c w1 PP.out.blk (ht1.map hi.sers (fun e => by rcases e with e | e; exact map_ne_cells hi.sers hi.blk e; exact map_ne_row hi.sers hi.row (by rw [e]; rfl))) (ht1.map hi.cnts (fun e => by rcases e with e | e; exact map_ne_cells hi.cnts hi.blk e; exact map_ne_row hi.cnts hi.row (by rw [e]; rfl))) (by rw [hi.cnt, hc]) hi.d3 hks hM hc9 (fun W hW => HUT.out W (TS1.out.trans (hW.mono fun k _ e => by rw [e]; exact hi.ss)))
          have HCC := hid hc
          clear hc hi ht1
          go_wp2_with fail
          refine HDR.out.mono ?_
          rintro e w4 ⟨rfl, own2, own4, ht4⟩
          have HE := hid (ex_drop HI.out HF.out HSB.out HLE.out h0 (by rw [HTT.out]; exact HTL.out) HQ.out HQB.out hL PP.out ht4 own2 own4 HCC.out)
          clear own2 own4 ht4 HDR
          go_wp2
          obtain ⟨⟨k, hk1, hk2⟩, hk3⟩ := HE.out
          exact ⟨⟨⟨k, hk1⟩, HT.out.trans hk3⟩, HLT.out _ k hk1 (by rw [HCN.out] at hk2; exact hk2)⟩
        · have hL' : u < q.1.n := by omega
          have hpl : (popL hs).length = hs.length - 1 := (popL_says hi.heap h0).2.2
          have HPU : Hid (∀ W, Below w1.heap.size w1 W → Calls Tryz.prog 65 #[.pointer (some ⟨x, 4, none⟩), .agg #[.pointer (some ⟨q.2, 0, none⟩), .int .i64 q.1.n]] W fun e w' => e = .returned (.tuple #[]) ∧ ∃ g' cap', Blk w' x (#[.int .i64 t.limit, .map (some lm), .map (some sm), .map (some cm), .slice (some ⟨g, 0, none⟩) (hs.length - 1) cap].setIfInBounds 4 (.slice (some ⟨g', 0, none⟩) ((popL hs).length + 1) cap')) 100 ∧
              w'.ownsRow 0 126 2 (.slice (some ⟨g', 0, none⟩) ((popL hs).length + 1) cap') ((popL hs).length + 1) (flatS (pushL (popL hs) ⟨q.2, q.1.n⟩)) ∧ ((Value.slice (some ⟨g, 0, none⟩) (hs.length - 1) cap).ownBlock = some g' ∨ W.heap.size ≤ g') ∧ Turn (fun k => k = x ∨ (Value.slice (some ⟨g, 0, none⟩) (hs.length - 1) cap).ownBlock = some k) W w') := fun W hW => by
            have hgx := (hi.di g rfl).1
            exact push_any x 4 0 (.slice (some ⟨g, 0, none⟩) (hs.length - 1) cap) (popL hs) ⟨q.2, q.1.n⟩ W _ _ (PP.out.blk.later hW) rfl (by rw [hpl]; exact (Turn.of (S := fun _ => False) hW).row PP.out.row (fun _ _ e => e)) (fun e => hgx (by simpa [Value.ownBlock] using e)) (Nat.zero_le _) (by omega)
          clear hi ht1 v0
          go_upto_region 4 with fail
          refine wp_region_quiet_tail 9 (by kernel_rfl) (by kernel_rfl) ?_
          simp only [List.take_succ_cons, List.take_zero, List.drop_succ_cons, List.drop_zero]
          have hnel : Nonempty Unit := ⟨()⟩
          repeat (go_big_quiet_step (fail))
          refine wpQuiet_nil ?_
          go_wp2_with (first | (go_at_call 65; refine (HPU.out _ ((Below.refl _ _).drew)).mono ?_; rintro e w4 ⟨rfl, g', cap', hb4, hr4, hloc, ht4⟩))
          have HE := hid (ex_again (B := w.heap.size) HI.out HF.out HSB.out HLE.out h0 (by rw [HTT.out]; exact HTL.out) HQ.out HQB.out hL' PP.out (by simpa using hb4) hr4 hloc ((Turn.of (S := fun k => k = x ∨ (Value.slice (some ⟨g, 0, none⟩) (hs.length - 1) cap).ownBlock = some k) ((Below.refl w1.heap.size w1).drew)).trans' ht4) hwr (fun g hg _ => Or.inr hg))
          clear hb4 hr4 hloc ht4 HPU
          obtain ⟨⟨k, hk1, hk2⟩, hk3⟩ := HE.out
          exact ⟨⟨⟨k, hk1⟩, HT.out.trans hk3⟩, HLT.out _ k hk1 (by rw [HCN.out] at hk2; exact hk2)⟩
      · have HEND : Hid (IdxAt wr (fun g => S g ∨ w.heap.size ≤ g) x (keptT win now t) M) := ex_end hi HEU.out HF.out (fun h => ht h.2)
        clear hi
        generalize (hget hs 0).t = TT at *
        go_wp2
        go_end0
        exact ⟨rfl, HEND.out, HT.out⟩
    · have HEND : Hid (IdxAt wr (fun g => S g ∨ w.heap.size ≤ g) x (keptT win now t) M) := ex_end hi HEU.out HF.out (fun h => h0 h.1)
      have hz : hs.length = 0 := by omega
      have x4 : ∃ v, wr.cell? ⟨x, 4, none⟩ = some v ∧ (v = .slice none 0 0 ∨ ∃ g cap, v = .slice (some ⟨g, 0, none⟩) 0 cap) := by
        refine ⟨iv, hi.blk.cell 4, ?_⟩
        rcases hi.row.2 with ⟨e, _⟩ | ⟨g, cap, cur, e, _⟩
        · exact Or.inl e
        · rw [hz] at e; exact Or.inr ⟨g, cap, e⟩
      clear hi hz
      obtain ⟨v, x4, hv⟩ := x4
      rcases hv with rfl | ⟨g, cap, rfl⟩
      · go_wp2
        go_end0
        exact ⟨rfl, HEND.out, HT.out⟩
      · go_wp2
        go_end0
        exact ⟨rfl, HEND.out, HT.out⟩
end Go.Proofs.YtpajhkikcofhfaaGreatDoor

namespace Go.Proofs.YtpajhkikcofhfaaGreatDoor
open Go.RowKit Go.Maps

theorem ranges_turn {H : Type} {P : Program} {k : TypeId} {R : Value → Option (DataW H × List MemPlace)} {w w' : World} {b r n : Nat} {D : DataW H} {left : Lit → Bool} {cnt : Nat} {S : Nat → Prop} (h : w.ranges P k R b r n D left cnt) (ht : Turn S w w') (hb : ¬ S b) (hr : ¬ S r) : w'.ranges P k R b r n D left cnt := by
  have h1 := h.owns.lt
  have h2 := h.lt
  obtain ⟨es, clock, since, seen, c0, e1, F, hs, hD, e2, rest⟩ := h
  exact ⟨es, clock, since, seen, c0, (ht.block b h1 hb).trans e1, F, hs, hD, (ht.block r h2 hr).trans e2, rest⟩
theorem str_key {key : Value} {kl : Lit} (h : keyOf Tryz.prog 9 key = some kl) : ∃ s, key = .string s ∧ kl = kL s ∧ s.size ≤ maxLen := WideMaps.string_of_keyOf Tryz.underlying9 h
/-- The tags of a ledger, none of them on a block that is still to come. -/
theorem LedS.trim {w : World} {B : Nat} {T : Nat → Option Nat} {l m : Nat} {c : CfgD} {now : Int} {L : List (TenD × Nat)} {M : Nat} (h : LedS w B T l m c now L M) : LedS w B (fun g => if g < w.heap.size then T g else none) l m c now L M :=
  { h with
    idx := fun p hp => (h.idx p hp).keep fun g hg hs => ⟨rfl, hs.1, by show (if g < w.heap.size then T g else none) = _; rw [if_pos hg]; exact hs.2⟩
    tl := by show (if l < w.heap.size then T l else none) = none; rw [if_pos (lt_of_block h.blk)]; exact h.tl
    tm := by show (if m < w.heap.size then T m else none) = none; rw [if_pos h.ten.lt]; exact h.tm }
/-- A block without a tag, that is neither the ledger's nor the map's, may turn. -/
theorem LedS.aside {w w' : World} {B : Nat} {T : Nat → Option Nat} {l m r : Nat} {c : CfgD} {now : Int} {L : List (TenD × Nat)} {M : Nat} (h : LedS w B T l m c now L M) (ht : Turn (· = r) w w') (hr : T r = none) (hl : l ≠ r) (hm : m ≠ r) : LedS w' B T l m c now L M :=
  { h with
    blk := ht.blk h.blk hl
    ten := ht.map h.ten hm
    idx := fun p hp => (h.idx p hp).keep fun g hg hs => ⟨ht.block g hg (fun e => by rw [e, hr] at hs; cases hs.2), hs⟩ }
/-- The ledger at another moment. -/
theorem LedS.moved {w w' : World} {B : Nat} {T : Nat → Option Nat} {l m : Nat} {c : CfgD} {now now' : Int} {L : List (TenD × Nat)} {M : Nat} (h : LedS w B T l m c now L M) (ht : Turn (· = l) w w') (hb : Blk w' l (ledV c now' m) 83) : LedS w' B T l m c now' L M :=
  { h with
    blk := hb
    ten := ht.map h.ten h.lm
    idx := fun p hp => (h.idx p hp).keep fun g hg hs => ⟨ht.block g hg (fun e => by rw [e, h.tl] at hs; cases hs.2), hs⟩ }
/-- One index turned in its own blocks and new ones; the map as it was. -/
theorem LedS.turned {w w1 : World} {B : Nat} {T : Nat → Option Nat} {l m : Nat} {c : CfgD} {now : Int} {L : List (TenD × Nat)} {M : Nat} {p : TenD × Nat} {t' : TenD} (h : LedS w B T l m c now L M) (hB : B ≤ w.heap.size) (hp : p ∈ L) (hn : t'.name = p.1.name)
    (t1 : Turn (fun g => B ≤ g ∧ T g = some p.2) w w1) (hi : IdxAt w1 (fun g => (B ≤ g ∧ T g = some p.2) ∨ w.heap.size ≤ g) p.2 t' M) :
    LedS w1 B (fun g => if g < w.heap.size then T g else some p.2) l m c now (insBy (fun p : TenD × Nat => p.1.name) (t', p.2) L) M := by
  have hl := lt_of_block h.blk
  have hm := h.ten.lt
  have hmap : (insBy (fun p : TenD × Nat => p.1.name) (t', p.2) L).map (fun p => (p.1.name, pVal p.2)) = L.map fun p => (p.1.name, pVal p.2) :=
    map_ins (key := fun p : TenD × Nat => p.1.name) (a := (t', p.2)) (fun p : TenD × Nat => (p.1.name, pVal p.2)) h.rise hp hn.symm (by simp [hn])
  have hlen : (insBy (fun p : TenD × Nat => p.1.name) (t', p.2) L).length = L.length := by
    have := congrArg List.length hmap
    simpa using this
  have hnd : ∀ q ∈ L, q.1.name ≠ t'.name → q.2 ≠ p.2 := fun q hq hne e => by
    have := nodup_inj h.nd hq hp e
    rw [this, hn] at hne
    exact hne rfl
  exact {
    blk := t1.blk h.blk (fun e => by rw [h.tl] at e; cases e.2)
    ten := by rw [hmap, hlen]; exact t1.map h.ten (fun e => by rw [h.tm] at e; cases e.2)
    rise := insBy_rise h.rise
    idx := fun q hq => by
      rcases mem_ins h.rise hq with rfl | ⟨hq, hne⟩
      · refine hi.keep fun g hg hs => ⟨rfl, ?_, ?_⟩
        · rcases hs with hs | hs
          · exact hs.1
          · omega
        · show (if g < w.heap.size then T g else some p.2) = some p.2
          by_cases hg' : g < w.heap.size
          · rw [if_pos hg']
            rcases hs with hs | hs
            · exact hs.2
            · omega
          · rw [if_neg hg']
      · refine (h.idx q hq).keep fun g hg hs => ⟨t1.block g hg (fun e => ?_), hs.1, ?_⟩
        · have := hnd q hq hne
          rw [e.2] at hs
          exact this (Option.some.inj hs.2).symm
        · show (if g < w.heap.size then T g else some p.2) = _
          rw [if_pos hg]; exact hs.2
    nd := by
      rw [map_ins (key := fun p : TenD × Nat => p.1.name) (a := (t', p.2)) (·.2) h.rise hp hn.symm rfl]
      exact h.nd
    tl := by show (if l < w.heap.size then T l else _) = none; rw [if_pos hl]; exact h.tl
    tm := by show (if m < w.heap.size then T m else _) = none; rw [if_pos hm]; exact h.tm
    lB := h.lB
    mB := h.mB }
/-- One index left out. -/
theorem LedS.left {w w1 w2 : World} {B : Nat} {T : Nat → Option Nat} {l m n : Nat} {c : CfgD} {now : Int} {L : List (TenD × Nat)} {M : Nat} {k : ByteArray} {S : Nat → Prop} (h : LedS w B T l m c now L M) (hS : ∀ g, S g → ∀ q ∈ L, q.1.name ≠ k → T g ≠ some q.2) (hS2 : ∀ g, g < w.heap.size → S g → T g ≠ none)
    (t1 : Turn S w w1) (t2 : Turn (· = m) w1 w2) (own2 : w2.ownsMap Tryz.prog 9 ptrElem m n (DataW.del (mapOf (L.map fun p => (p.1.name, pVal p.2))) (kL k))) :
    LedS w2 B T l m c now (delBy (fun p : TenD × Nat => p.1.name) k L) M := by
  have hl := lt_of_block h.blk
  have h1 := t1.size
  have hdel : DataW.del (mapOf (L.map fun p => (p.1.name, pVal p.2))) (kL k) = mapOf ((delBy (fun p : TenD × Nat => p.1.name) k L).map fun p => (p.1.name, pVal p.2)) :=
    del_by (key := fun p : TenD × Nat => p.1.name) (fun p => pVal p.2) k L
  have hkeep : ∀ g, g < w.heap.size → ¬ S g → g ≠ m → w2.heap[g]? = w.heap[g]? := fun g hg h3 h4 => by
    rw [t2.block g (by omega) h4, t1.block g hg h3]
  exact {
    blk := (hkeep l hl (fun e => hS2 l hl e h.tl) h.lm.symm).trans h.blk
    ten := by
      have := tight own2
      rw [hdel, size_by] at this
      exact this
    rise := delBy_rise h.rise
    idx := fun q hq => by
      obtain ⟨hq, hne⟩ := mem_delBy.1 hq
      exact (h.idx q hq).keep fun g hg hs => ⟨hkeep g hg (fun e => hS g e q hq hne hs.2) (fun e => by rw [e, h.tm] at hs; cases hs.2), hs⟩
    nd := h.nd.sublist (List.Sublist.map _ List.filter_sublist)
    tl := h.tl
    tm := h.tm
    lB := h.lB
    mB := h.mB }
/-- What the loop of tick keeps: the ledger with those tenants still to come as they were, and the map under way. -/
def TkR (c : CfgD) (now' : Int) (ts : List TenD) (M B l m r : Nat) (left : Lit → Bool) (wr : World) : Prop :=
  ∃ T L, LedS wr B T l m c now' L M ∧ L.map (·.1) = midTs c.w now' (fun s => left (kL s)) ts ∧ T r = none
/-- The entry that has come. -/
theorem tk_entry {c : CfgD} {now' : Int} {ts : List TenD} {M B l m n : Nat} {left : Lit → Bool} {wr : World} {T : Nat → Option Nat} {L : List (TenD × Nat)} {D : DataW Unit} {s : ByteArray} {v : Value} {y : DataW Unit × List MemPlace} (h : LedS wr B T l m c now' L M) (hL : L.map (·.1) = midTs c.w now' (fun s => left (kL s)) ts) (hown : wr.ownsMap Tryz.prog 9 ptrElem m n D) (hl : left (kL s) = true) (hv : ptrElem v = some y) (hat : ∀ zd, D.atKey (kL s) zd = y.1) :
    ∃ p ∈ L, p.1.name = s ∧ p.1 ∈ ts ∧ v = .pointer (some ⟨p.2, 0, none⟩) := by
  rw [own_one hown h.ten] at hat
  have ha : ∀ zd : DataW Unit, ((getBy (fun p : TenD × Nat => p.1.name) s L).map fun p => pVal p.2).getD zd = y.1 := fun zd => by
    rw [← atKey_by (key := fun p : TenD × Nat => p.1.name) (fun p => pVal p.2)]
    exact hat zd
  cases hg : getBy (fun p : TenD × Nat => p.1.name) s L with
  | none =>
    rw [hg] at ha
    have h1 := ha (iVal 0)
    have h2 := ha (iVal 1)
    simp only [Option.map_none, Option.getD_none] at h1 h2
    rw [← h1] at h2
    simp [iVal] at h2
  | some p =>
    rw [hg] at ha
    have h1 := ha .nil
    simp only [Option.map_some, Option.getD_some] at h1
    obtain ⟨hp, hpn⟩ := getBy_mem hg
    have hm : p.1 ∈ midTs c.w now' (fun s => left (kL s)) ts := by rw [← hL]; exact List.mem_map_of_mem hp
    obtain ⟨t, ht, e, en⟩ := midTs_mem hm
    have hts : left (kL t.name) = true := by rw [← en, hpn]; exact hl
    rw [if_pos hts] at e
    refine ⟨p, hp, hpn, by rw [e]; exact ht, ptrElem_inv (ps := y.2) (by rw [hv, h1])⟩
end Go.Proofs.YtpajhkikcofhfaaGreatDoor

namespace Go.Proofs.YtpajhkikcofhfaaGreatDoor
open Go.RowKit Go.Maps

theorem mid_next {win now : Int} {left : Lit → Bool} {ts : List TenD} (hr : RiseBy (·.name) ts) {t : TenD} (ht : t ∈ ts) (hl : left (kL t.name) = true) :
    midTs win now (fun s => (fun z => left z && !z.sameKey (kL t.name)) (kL s)) ts = if idleB (keptT win now t) = true then delBy (·.name) t.name (midTs win now (fun s => left (kL s)) ts) else insBy (·.name) (keptT win now t) (midTs win now (fun s => left (kL s)) ts) :=
  midTs_step (left := fun s => left (kL s)) hr ht hl fun n => by show (left (kL n) && !(kL n).sameKey (kL t.name)) = _; rw [sameKey_kL]
set_option maxRecDepth 100000 in
set_option maxHeartbeats 8000000 in
theorem ltick_any (l m : Nat) (by_ : Int) (c : CfgD) (now : Int) (ts : List TenD) (M : Nat) (w0 w : World) (h : LedAt w w0.heap.size l m c now ts M) (h0 : Below w0.heap.size w0 w) (hU : UTab w0) (hn0 : 0 ≤ now) (hn1 : now ≤ 1000000000000) (hw0 : 1 ≤ c.w) (hw1 : c.w ≤ 1000000000) (hM : M ≤ 1000000000) (hsl : ∀ t ∈ ts, t.sers.length ≤ 1000000000) (hks : ∀ t ∈ ts, ∀ p ∈ t.sers, p.s.size ≤ 1000000000) :
    Calls Tryz.prog 24 #[.pointer (some ⟨l, 0, none⟩), .int .i64 by_] w fun e w' => e = .returned (.bool (tickL c.w now ts by_).2.2) ∧ LedAt w' w0.heap.size l m c (tickL c.w now ts by_).1 (tickL c.w now ts by_).2.1 M ∧ Turn (fun g => w0.heap.size ≤ g) w w' := by
  have HLA := hid h
  obtain ⟨T, L, h, hL⟩ := h
  have HV0 : Hid (tickL c.w now ts by_ = if by_ < 1 ∨ 1000000000000 - now < by_ then (now, ts, false) else (now + by_, keptTs c.w (now + by_) ts, true)) := rfl
  have x6 : w.cell? ⟨l, 6, none⟩ = some (.int .i64 now) := h.blk.cell 6
  generalize tickL c.w now ts by_ = R at *
  by_cases h1 : by_ < 1
  · have HV : Hid (R = (now, ts, false)) := by show _ = _; rw [HV0.out, if_pos (Or.inl h1)]
    clear h HV0
    go_enter Tryz.func24, Tryz.ntmps24
    go_wp2
    go_ret
    exact ⟨ret_bool (by rw [HV.out]), by rw [HV.out]; exact HLA.out, Turn.refl _ _⟩
  by_cases h2 : 1000000000000 - now < by_
  · have HV : Hid (R = (now, ts, false)) := by show _ = _; rw [HV0.out, if_pos (Or.inr h2)]
    clear h HV0
    go_enter Tryz.func24, Tryz.ntmps24
    go_wp2
    go_ret
    exact ⟨ret_bool (by rw [HV.out]), by rw [HV.out]; exact HLA.out, Turn.refl _ _⟩
  have HV : Hid (R = (now + by_, keptTs c.w (now + by_) ts, true)) := by show _ = _; rw [HV0.out, if_neg (fun e => by rcases e with e | e; exact h1 e; exact h2 e)]
  clear HV0 HLA
  obtain ⟨now', hnd⟩ : ∃ now', now' = now + by_ := ⟨_, rfl⟩
  rw [← hnd] at HV
  have hb1 : 1 ≤ by_ := by omega
  have hb2 : by_ ≤ 1000000000000 := by omega
  have hnn : now + by_ = now' := hnd.symm
  have hm0 : 0 ≤ now' := by omega
  have hm1 : now' ≤ 1000000000000 := by omega
  have hll := lt_of_block h.blk
  have hml := h.ten.lt
  have hB := h0.size
  have hlB := h.lB
  have hmB := h.mB
  have hrise : RiseBy (·.name) ts := by rw [← hL]; exact (riseBy_map (key' := fun t : TenD => t.name) (fun p : TenD × Nat => p.1) (fun _ => rfl)).2 h.rise
  have ht1 : Turn (· = l) w (w.setCell ⟨l, 6, none⟩ (.int .i64 now')) := (Turn.refl (· = l) w).setCell (Or.inl rfl) 6 _
  have HB1 : Hid (Blk (w.setCell ⟨l, 6, none⟩ (.int .i64 now')) l (ledV c now' m) 83) := hid (by have := h.blk.set 6 (.int .i64 now'); simpa [ledV] using this)
  have hsz : (w.setCell ⟨l, 6, none⟩ (.int .i64 now')).heap.size = w.heap.size := by simp
  have H1 : Hid (LedS (w.setCell ⟨l, 6, none⟩ (.int .i64 now')) w0.heap.size (fun g => if g < (w.setCell ⟨l, 6, none⟩ (.int .i64 now')).heap.size then T g else none) l m c now' L M) := (h.moved ht1 HB1.out).trim
  have HT1 : Hid (Turn (fun g => w0.heap.size ≤ g) w (w.setCell ⟨l, 6, none⟩ (.int .i64 now'))) := ht1.mono fun i _ e => by rw [e]; exact hlB
  have y7 : (w.setCell ⟨l, 6, none⟩ (.int .i64 now')).cell? ⟨l, 7, none⟩ = some (.map (some m)) := HB1.out.cell 7
  have f6 := h.blk.free 6
  have HLL : Hid (L.map (·.1) = ts) := hL
  have HUT : Hid (∀ W, Turn (fun g => w0.heap.size ≤ g) w W → Below w0.heap.size w0 W) := fun W hW => h0.trans (hW.below hB fun k hk hs => by omega)
  have HR := hid hrise
  have HSL := hid hsl
  have HKS := hid hks
  have HUU := hid hU
  have HEX : Hid (∀ W, Blk W l (ledV c now' m) 83 → Calls Tryz.prog 50 #[.pointer (some ⟨l, 0, none⟩)] W fun e w' => e = .returned (.int .i64 (now' - c.w)) ∧ Below W.heap.size W w') := fun W hb => expired_any l m c now' W hb hm0 hm1 hw0 hw1
  clear h hL hrise ht1 hsl hks hU h0 hnd
  go_enter Tryz.func24, Tryz.ntmps24
  go_wp2_with (first | (at_range; refine wpList_range_own _ rfl _ 81 rfl 9 89 keyed Tryz.underlying81 ptrElem m _ _ rfl H1.out.ten ?_; intro w2 hrg0 hg0 hs0) | go_in)
  try rw [hsz] at hrg0
  have HRG0 := hid hrg0
  have HT2 : Hid (Turn (fun g => w0.heap.size ≤ g) w w2) := HT1.out.trans' ((Turn.grown hg0).mono fun i _ e => by cases e)
  have K0 : Hid (TkR c now' ts M w0.heap.size l m w.heap.size (Maps.has (mapOf (L.map fun p => (p.1.name, pVal p.2)))) w2) := by
    refine hid ⟨_, L, H1.out.keep fun g hg _ => hg0.block g hg (by simp), ?_, ?_⟩
    · rw [midTs_all fun t ht => ?_, HLL.out]
      rw [has_by (key := fun p : TenD × Nat => p.1.name) (val := fun p => pVal p.2)]
      rw [← HLL.out] at ht
      obtain ⟨p, hp, rfl⟩ := List.mem_map.1 ht
      rw [getBy_of_mem H1.out.rise hp]
      rfl
    · show (if w.heap.size < (w.setCell ⟨l, 6, none⟩ (.int .i64 now')).heap.size then T w.heap.size else none) = none
      rw [if_neg (by omega)]
  clear hrg0 hg0 H1 HB1 y7 f6 x6 HT1 HLL
  generalize hnL : L.length = nL at *
  generalize mapOf (L.map fun p => (p.1.name, pVal p.2)) = D0 at *
  have hrl : l ≠ w.heap.size := by omega
  have hrm : m ≠ w.heap.size := by omega
  clear hnL
  go_loopw [31] (fun _ wr => ∃ (left : Lit → Bool) (cnt : Nat) (D : DataW Unit), Hid (wr.ranges Tryz.prog 9 ptrElem m w.heap.size nL D left cnt) ∧ Hid (TkR c now' ts M w0.heap.size l m w.heap.size left wr) ∧ Hid (Turn (fun g => w0.heap.size ≤ g) w wr)) (fun _ wr => wr.rangeLeft m w.heap.size)
  case atStart => exact ⟨_, _, _, HRG0.out, K0.out, HT2.out⟩
  case round =>
    obtain ⟨left, cnt, D, HRG, HK, HT⟩ := hrel
    clear HRG0 K0 HT2
    go_wp2_with (first
      | (at_next; refine wpList_next_ranges _ rfl _ rfl 9 keyed ptrElem Value.string (fun v : Value => v) (fun key kl hk => by obtain ⟨x, hx, _⟩ := str_key hk; exact ⟨x, hx⟩) (fun v y _ => ⟨v, rfl⟩) m w.heap.size nL _ _ _ rfl HRG.out ?_ ?_)
      | go_in)
    · intro hc0 hl0
      have HEND : Hid (LedAt wr w0.heap.size l m c now' (keptTs c.w now' ts) M) := by
        obtain ⟨T', L', k1, k2, _⟩ := HK.out
        refine hid ⟨T', L', k1, ?_⟩
        rw [k2, midTs_none fun n => hl0 _]
      clear hc0 hl0
      go_wp2
      go_ret
      exact ⟨ret_bool (by rw [HV.out]), by rw [HV.out]; exact HEND.out, HT.out⟩
    · intro s v kl yd yp w3 cnt3 hkey hlk hv hat hrg3 hlt hg3 hs3 hen
      obtain ⟨s', es, rfl, hss⟩ := str_key hkey
      obtain rfl : s = s' := by simpa using es
      obtain ⟨T', L', k1, k2, k3⟩ := HK.out
      obtain ⟨p, hp, hpn, hpt, rfl⟩ := tk_entry (y := (yd, yp)) k1 k2 HRG.out.owns hlk hv hat
      have t3 : Turn (· = w.heap.size) wr w3 := (Turn.grown hg3).mono fun i _ e => by simp only [Option.some.injEq] at e; exact e.symm
      have k1' : LedS w3 w0.heap.size T' l m c now' L' M := k1.aside t3 k3 hrl hrm
      have K1 := hid k1'
      have K2 := hid k2
      have K3 := hid k3
      have HP := hid hp
      have HPN := hid hpn
      have HPT := hid hpt
      have RG3 := hid hrg3
      have HKEY := hid hkey
      have HLK := hid hlk
      have T3 : Hid (Turn (fun g => w0.heap.size ≤ g) w w3) := HT.out.trans (t3.mono fun i _ e => Or.inr (by omega))
      have HLB : Hid (Blk w3 l (ledV c now' m) 83) := k1'.blk
      have HCN : Hid (wr.rangeLeft m w.heap.size = cnt) := HRG.out.left_eq
      have HDM : Hid (D = mapOf (L'.map fun p => (p.1.name, pVal p.2))) := own_one HRG.out.owns k1.ten
      have HMN : Hid (midTs c.w now' (fun s_1 => (fun z => left z && !z.sameKey (kL s)) (kL s_1)) ts = if idleB (keptT c.w now' p.1) = true then delBy (·.name) s (midTs c.w now' (fun s => left (kL s)) ts) else insBy (·.name) (keptT c.w now' p.1) (midTs c.w now' (fun s => left (kL s)) ts)) := by
        have := mid_next (win := c.w) (now := now') (left := left) HR.out hpt (by rw [hpn]; exact hlk)
        rw [hpn] at this
        exact hid this
      have hw3 := T3.out.size
      have HRR : Hid (w.heap.size < w3.heap.size) := hrg3.lt
      clear k1 k2 k3 k1' t3 hp hpn hpt hrg3 hkey hlk hv hat hg3 hs3 HK HRG hss es
      go_wp2_with fail
      refine (HEX.out _ HLB.out).mono ?_
      rintro e w4 ⟨rfl, hb4⟩
      have K4 : Hid (LedS w4 w0.heap.size T' l m c now' L' M) := K1.out.keep fun g hg _ => hb4.block g hg
      have hs4 := hb4.size
      have T4 : Hid (Turn (fun g => w0.heap.size ≤ g) w w4) := T3.out.trans' (Turn.of hb4)
      have RG4 : Hid (w4.ranges Tryz.prog 9 ptrElem m w.heap.size nL D (fun z => left z && !z.sameKey (kL s)) cnt3) := ranges_turn RG3.out (Turn.of (S := fun _ => False) hb4) (fun e => e) (fun e => e)
      have HXP : Hid (Calls Tryz.prog 49 #[.pointer (some ⟨p.2, 0, none⟩), .int .i64 (now' - c.w)] w4 fun e w' => e = .returned (.tuple #[]) ∧ IdxAt w' (fun g => (fun g => w0.heap.size ≤ g ∧ T' g = some p.2) g ∨ w4.heap.size ≤ g) p.2 (keptT c.w now' p.1) M ∧ Turn (fun g => w0.heap.size ≤ g ∧ T' g = some p.2) w4 w') := expire_any p.2 p.1 c.w now' (now' - c.w) (fun g => w0.heap.size ≤ g ∧ T' g = some p.2) M w0 w4 (K4.out.idx p HP.out) (HUT.out w4 T4.out) HUU.out (fun g hg => hg.1) rfl (HSL.out p.1 HPT.out) hM (HKS.out p.1 HPT.out)
      clear hb4 RG3 K1 HLB T3
      go_wp2_with fail
      refine HXP.out.mono ?_
      rintro e w5 ⟨rfl, hi5, ht5⟩
      have HI5 := hid hi5
      have HT5 := hid ht5
      have hs5 := ht5.size
      have HID : Hid (Calls Tryz.prog 51 #[.pointer (some ⟨p.2, 0, none⟩)] w5 fun e w' => e = .returned (.bool (idleB (keptT c.w now' p.1))) ∧ w' = w5) := idle_any p.2 _ _ M w5 hi5
      have RG5 : Hid (w5.ranges Tryz.prog 9 ptrElem m w.heap.size nL D (fun z => left z && !z.sameKey (kL s)) cnt3) := ranges_turn RG4.out ht5 (fun e => by rw [K4.out.tm] at e; cases e.2) (fun e => by rw [K3.out] at e; cases e.2)
      have T5 : Hid (Turn (fun g => w0.heap.size ≤ g) w w5) := T4.out.trans' (ht5.mono fun i _ e => e.1)
      have x7 : w5.cell? ⟨l, 7, none⟩ = some (.map (some m)) := (ht5.blk K4.out.blk (fun e => by rw [K4.out.tl] at e; cases e.2)).cell 7
      clear hi5 ht5 HXP RG4
      cases hidl : idleB (keptT c.w now' p.1) with
      | true =>
        rw [hidl] at HID HMN
        rw [if_pos rfl] at HMN
        clear hidl
        go_wp2_with fail
        refine HID.out.mono ?_
        rintro e wz ⟨rfl, hw⟩
        replace hw := hw.symm
        subst hw
        go_wp2_with (at_delete; refine wpList_delete_ranges _ rfl _ _ 81 9 rfl 89 keyed Tryz.underlying81 ptrElem m w.heap.size nL _ _ _ rfl RG5.out _ _ rfl HKEY.out ?_; intro w6 cnt6 hrg6 hle6 hturn6)
        rw [Maps.strike_twice] at hrg6
        have ht6 := Turn.mapped hturn6
        have HK6 : Hid (TkR c now' ts M w0.heap.size l m w.heap.size (fun z => left z && !z.sameKey (kL s)) w6) := by
          have own6 := hrg6.owns
          rw [HDM.out] at own6
          refine hid ⟨T', _, LedS.left (k := s) (S := (fun g => w0.heap.size ≤ g ∧ T' g = some p.2)) K4.out (fun g hs q hq hne e => ?_) (fun g _ hs e => by rw [e] at hs; cases hs.2) HT5.out ht6 own6, ?_, K3.out⟩
          · rw [hs.2] at e
            have := nodup_inj K4.out.nd hq HP.out (Option.some.inj e).symm
            rw [this] at hne
            exact hne HPN.out
          · rw [delBy_map (key' := fun t : TenD => t.name) (fun p : TenD × Nat => p.1) (fun _ => rfl), K2.out]
            exact HMN.out.symm
        have HT6 : Hid (Turn (fun g => w0.heap.size ≤ g) w w6) := T5.out.trans' (ht6.mono fun i _ e => by omega)
        have RG6 := hid hrg6
        clear hrg6 hturn6 ht6
        go_wp2
        refine ⟨⟨_, _, _, _, _, _, _, _, _, _, _, _, _, _, _, _, _, _, ⟨_, cnt6, _, RG6.out, HK6.out, HT6.out⟩, rfl⟩, by rw [RG6.out.left_eq, HCN.out]; omega⟩
      | false =>
        rw [hidl] at HID HMN
        rw [if_neg (by simp)] at HMN
        clear hidl
        have HK6 : Hid (TkR c now' ts M w0.heap.size l m w.heap.size (fun z => left z && !z.sameKey (kL s)) w5) := by
          refine hid ⟨_, _, LedS.turned (p := p) (t' := keptT c.w now' p.1) K4.out (by omega) HP.out rfl HT5.out HI5.out, ?_, ?_⟩
          · rw [insBy_map (key' := fun t : TenD => t.name) (fun p : TenD × Nat => p.1) (fun _ => rfl), K2.out]
            exact HMN.out.symm
          · show (if w.heap.size < w4.heap.size then T' w.heap.size else some p.2) = none
            rw [if_pos (by have := RG5.out.lt; have := HRR.out; omega)]
            exact K3.out
        go_wp2_with fail
        refine HID.out.mono ?_
        rintro e wz ⟨rfl, hw⟩
        replace hw := hw.symm
        subst hw
        go_wp2
        exact ⟨⟨_, cnt3, _, RG5.out, HK6.out, T5.out⟩, by rw [RG5.out.left_eq, HCN.out]; exact hlt⟩
end Go.Proofs.YtpajhkikcofhfaaGreatDoor

