import Derived.Test.YtojeemogabhaoaaGreatDoorProg
import Derived.Test.YtojeemogabhaoaaGreatDoorJ29SCnt
import Derived.Test.YtojeemogabhaoaaGreatDoorJ33SlmL
import Derived.Test.YtojeemogabhaoaaGreatDoorJ06IdxA
import Derived.Maps.OwnSet
namespace Go.Proofs.YtojeemogabhaoaaGreatDoor
open Go.RowKit Go.Maps
theorem Turn.mapped {w w' : World} {b : Nat} (h : w.mapTurned w' b) : Turn (· = b) w w' := (Turn.grown h.grown).mono fun i _ e => by simp only [Option.some.injEq] at e; exact e.symm
theorem IdxS.newLimit {w w' : World} {S : Nat → Prop} {x : Nat} {t : TenD} {M lm sm cm : Nat} {iv : Value} {Q : List (PairD × Nat)} {hs : List SgD} {D : DataW Unit} {limit : Int} (h : IdxS w S x t M lm sm cm iv Q hs D) (ht : Turn (· = x) w w')
    (hb : Blk w' x #[.int .i64 limit, .map (some lm), .map (some sm), .map (some cm), iv] 108) : IdxAt w' S x ⟨t.name, limit, t.mets, t.sers⟩ M := by
  refine ⟨lm, sm, cm, iv, Q, hs, D, ?_⟩
  exact { h with
    blk := hb
    lims := ht.map h.lims (map_ne_cells h.lims h.blk)
    sers := ht.map h.sers (map_ne_cells h.sers h.blk)
    cnts := ht.map h.cnts (map_ne_cells h.cnts h.blk)
    cells := fun q hq => ht.blk (h.cells q hq) (h.dx q hq)
    row := ht.row h.row (fun g hg e => (h.di g hg).1 e) }
set_option maxRecDepth 100000 in
set_option maxHeartbeats 4000000 in
theorem xlim_any (x : Nat) (metric : ByteArray) (limit : Int) (t : TenD) (S : Nat → Prop) (M : Nat) (w : World) (h : IdxAt w S x t M) (hm : metric.size ≤ maxLen) (hl0 : -1 ≤ limit) (hl1 : limit ≤ 1000000) (hlen : t.mets.length ≤ 1000000000) :
    Calls Tryz.prog 68 #[.pointer (some ⟨x, 0, none⟩), .string metric, .int .i64 limit] w fun e w' => e = .returned (.tuple #[]) ∧ IdxAt w' S x (limT t metric limit) M ∧ Turn S w w' := by
  obtain ⟨lm, sm, cm, iv, Q, hs, D, h⟩ := h
  by_cases h0 : metric.toList.isEmpty = true
  · have HV : Hid (limT t metric limit = ⟨t.name, limit, t.mets, t.sers⟩) := by show _ = _; unfold limT; rw [if_pos h0]
    have c0 : w.cell? ⟨x, 0, none⟩ = some (.int .i64 t.limit) := h.blk.cell 0
    have f0 := h.blk.free 0
    have ht : Turn (· = x) w (w.setCell ⟨x, 0, none⟩ (.int .i64 limit)) := (Turn.refl (· = x) w).setCell (Or.inl rfl) 0 _
    have hb : Blk (w.setCell ⟨x, 0, none⟩ (.int .i64 limit)) x #[.int .i64 limit, .map (some lm), .map (some sm), .map (some cm), iv] 108 := by have := h.blk.set 0 (.int .i64 limit); simpa using this
    have HN : Hid (IdxAt (w.setCell ⟨x, 0, none⟩ (.int .i64 limit)) S x (limT t metric limit) M) := by
      refine hid ?_
      rw [HV.out]
      exact h.newLimit ht hb
    have HT : Hid (Turn S w (w.setCell ⟨x, 0, none⟩ (.int .i64 limit))) := ht.mono fun i _ e => by subst e; exact h.sx
    clear h ht hb HV
    go_enter Tryz.func68, Tryz.ntmps68
    go_wp2
    go_end0
    exact ⟨rfl, HN.out, HT.out⟩
  have h0' : metric.toList.isEmpty = false := by simpa using h0
  have c1 : w.cell? ⟨x, 1, none⟩ = some (.map (some lm)) := h.blk.cell 1
  have HK : Hid (keyOf Tryz.prog 9 (.string metric) = some (kL metric)) := key_mk hm
  by_cases h1 : limit = -1
  · have HV : Hid (limT t metric limit = { t with mets := delBy (·.s) metric t.mets }) := by show _ = _; unfold limT; rw [if_neg h0, if_pos (by omega)]
    have HH := hid h
    clear h0 h
    subst h1
    go_enter Tryz.func68, Tryz.ntmps68
    go_wp2_with (at_delete; refine wpList_delete_own _ rfl _ _ 102 9 rfl 3 keyed Tryz.underlying102 (plainElem Tryz.prog 3) lm _ _ rfl HH.out.lims _ _ rfl HK.out ?_; intro w1 hown1 hturn1)
    have ht := Turn.mapped hturn1
    have HN : Hid (IdxAt w1 S x (limT t metric (-1)) M) := by
      refine hid ?_
      rw [HV.out]
      exact HH.out.newLims ht hown1 (del_by (key := fun p : PairD => p.s) (fun p => iVal p.n) metric t.mets) (delBy_rise HH.out.rm)
    have HT : Hid (Turn S w w1) := ht.mono fun i _ e => by subst e; exact HH.out.sl
    clear hown1 hturn1 ht
    go_end0
    exact ⟨rfl, HN.out, HT.out⟩
  · have HV : Hid (limT t metric limit = { t with mets := insBy (·.s) ⟨metric, limit⟩ t.mets }) := by show _ = _; unfold limT; rw [if_neg h0, if_neg (by omega)]
    obtain ⟨w1, run1, own1, tn1⟩ := h.lims.store keyed Tryz.underlying102 (by unfold maxLen; omega) (val := .int .i64 limit) HK.out (plainElem_int Tryz.underlying3 (WalkArith.wf_i64 (by omega)))
    have ht := Turn.mapped tn1
    have HN : Hid (IdxAt w1 S x (limT t metric limit) M) := by
      refine hid ?_
      rw [HV.out]
      exact h.newLims ht own1 (put_by (key := fun p : PairD => p.s) (fun p => iVal p.n) ⟨metric, limit⟩ h.rm) (insBy_rise h.rm)
    have HT : Hid (Turn S w w1) := ht.mono fun i _ e => by subst e; exact h.sl
    clear h own1 tn1 ht HV h0
    go_enter Tryz.func68, Tryz.ntmps68
    go_wp2
    go_end0
    exact ⟨rfl, HN.out, HT.out⟩
set_option maxRecDepth 100000 in
set_option maxHeartbeats 2000000 in
theorem full_any (l m : Nat) (c : CfgD) (now : Int) (B : Nat) (T : Nat → Option Nat) (L : List (TenD × Nat)) (M : Nat) (w : World) (h : LedS w B T l m c now L M) :
    Calls Tryz.prog 70 #[.pointer (some ⟨l, 0, none⟩)] w fun e w' => e = .returned (.bool (decide (10000 ≤ L.length))) ∧ w' = w := by
  have c7 : w.cell? ⟨l, 7, none⟩ = some (.map (some m)) := h.blk.cell 7
  have l1 := h.ten.len Tryz.underlying97 3
  rw [size_by] at l1
  clear h
  by_cases hl : 10000 ≤ L.length
  · have HV : Hid (decide (10000 ≤ L.length) = true) := by show _ = _; simpa using hl
    generalize L.length = z at *
    have hz : ¬ ((z : Int) < 10000) := by omega
    go_enter Tryz.func70, Tryz.ntmps70
    go_wp2
    go_ret
    exact ⟨ret_bool (by first | (rw [HV.out]; simp; omega) | (simp; omega) | simp), rfl⟩
  · have HV : Hid (decide (10000 ≤ L.length) = false) := by show _ = _; simpa using hl
    generalize L.length = z at *
    have hz : (z : Int) < 10000 := by omega
    go_enter Tryz.func70, Tryz.ntmps70
    go_wp2
    go_ret
    exact ⟨ret_bool (by first | (rw [HV.out]; simp; omega) | (simp; omega) | simp), rfl⟩
theorem nodup_inj {α β : Type} {f : α → β} {l : List α} (h : (l.map f).Nodup) {p q : α} (hp : p ∈ l) (hq : q ∈ l) (e : f p = f q) : p = q := by
  induction l with
  | nil => cases hp
  | cons a r ih =>
    rw [List.map_cons, List.nodup_cons] at h
    rcases List.mem_cons.1 hp with hp' | hp'
    · rcases List.mem_cons.1 hq with hq' | hq'
      · rw [hp', hq']
      · refine absurd ?_ h.1
        rw [← hp', e]
        exact List.mem_map.2 ⟨q, hq', rfl⟩
    · rcases List.mem_cons.1 hq with hq' | hq'
      · refine absurd ?_ h.1
        rw [← hq', ← e]
        exact List.mem_map.2 ⟨p, hp', rfl⟩
      · exact ih h.2 hp' hq'
theorem led_put {w w1 w2 : World} {B : Nat} {T : Nat → Option Nat} {l m n : Nat} {c : CfgD} {now : Int} {L : List (TenD × Nat)} {M M' : Nat} {p : TenD × Nat} {t' : TenD} (h : LedS w B T l m c now L M) (hB : B ≤ w.heap.size) (hp : p ∈ L) (hn : t'.name = p.1.name)
    (t1 : Turn (fun g => B ≤ g ∧ T g = some p.2) w w1) (hi : IdxAt w1 (fun g => (B ≤ g ∧ T g = some p.2) ∨ w.heap.size ≤ g) p.2 t' M') (hM : M ≤ M') (t2 : Turn (· = m) w1 w2)
    (own2 : w2.ownsMap Tryz.prog 9 ptrElem m n (DataW.put (mapOf (L.map fun p => (p.1.name, pVal p.2))) (kL t'.name) (pVal p.2))) :
    LedAt w2 B l m c now ((insBy (fun p : TenD × Nat => p.1.name) (t', p.2) L).map (·.1)) M' := by
  have hl := lt_of_block h.blk
  have hm := h.ten.lt
  have h1 := t1.size
  have hput : DataW.put (mapOf (L.map fun p => (p.1.name, pVal p.2))) (kL t'.name) (pVal p.2) = mapOf ((insBy (fun p : TenD × Nat => p.1.name) (t', p.2) L).map fun p => (p.1.name, pVal p.2)) :=
    put_by (key := fun p : TenD × Nat => p.1.name) (fun p => pVal p.2) (t', p.2) h.rise
  have hnd : ∀ q ∈ L, q.1.name ≠ t'.name → q.2 ≠ p.2 := fun q hq hne e => by
    have := nodup_inj h.nd hq hp e
    rw [this, hn] at hne
    exact hne rfl
  have hkeep : ∀ g, g < w.heap.size → ¬ (B ≤ g ∧ T g = some p.2) → g ≠ m → w2.heap[g]? = w.heap[g]? := fun g hg h3 h4 => by
    rw [t2.block g (by omega) h4, t1.block g hg h3]
  refine ⟨fun g => if g < w.heap.size then T g else some p.2, _, ?_, rfl⟩
  exact {
    blk := (hkeep l hl (fun e => by rw [h.tl] at e; cases e.2) h.lm.symm).trans h.blk
    ten := by
      have := tight own2
      rw [hput, size_by] at this
      exact this
    rise := insBy_rise h.rise
    idx := fun q hq => by
      rcases mem_ins h.rise hq with rfl | ⟨hq, hne⟩
      · refine hi.keep fun g hg hs => ⟨t2.block g hg (fun e => ?_), ?_, ?_⟩
        · subst e
          rcases hs with hs | hs
          · rw [h.tm] at hs; cases hs.2
          · omega
        · omega
        · show (if g < w.heap.size then T g else some p.2) = some p.2
          by_cases hg' : g < w.heap.size
          · rw [if_pos hg']
            rcases hs with hs | hs
            · exact hs.2
            · omega
          · rw [if_neg hg']
      · refine ((h.idx q hq).mono hM).keep fun g hg hs => ⟨hkeep g hg (fun e => ?_) (fun e => by rw [e, h.tm] at hs; cases hs.2), hs.1, ?_⟩
        · have := hnd q hq hne
          rw [e.2] at hs
          exact this (Option.some.inj hs.2).symm
        · show (if g < w.heap.size then T g else some p.2) = _
          rw [if_pos hg]; exact hs.2
    nd := by
      rw [map_ins (key := fun p : TenD × Nat => p.1.name) (a := (t', p.2)) (·.2) h.rise hp hn.symm rfl]
      exact h.nd
    tl := by show (if l < w.heap.size then T l else _) = none; rw [if_pos hl]; exact h.tl
    tm := by show (if m < w.heap.size then T m else _) = none; rw [if_pos hm]; exact h.tm
    lB := h.lB
    mB := h.mB }
theorem led_del {w w1 w2 : World} {B : Nat} {T : Nat → Option Nat} {l m n : Nat} {c : CfgD} {now : Int} {L : List (TenD × Nat)} {M : Nat} {k : ByteArray} {S : Nat → Prop} (h : LedS w B T l m c now L M) (hS : ∀ g, S g → ∀ q ∈ L, q.1.name ≠ k → T g ≠ some q.2) (hS2 : ∀ g, g < w.heap.size → S g → T g ≠ none)
    (t1 : Turn S w w1) (t2 : Turn (· = m) w1 w2) (own2 : w2.ownsMap Tryz.prog 9 ptrElem m n (DataW.del (mapOf (L.map fun p => (p.1.name, pVal p.2))) (kL k))) :
    LedAt w2 B l m c now ((delBy (fun p : TenD × Nat => p.1.name) k L).map (·.1)) M := by
  have hl := lt_of_block h.blk
  have h1 := t1.size
  have hdel : DataW.del (mapOf (L.map fun p => (p.1.name, pVal p.2))) (kL k) = mapOf ((delBy (fun p : TenD × Nat => p.1.name) k L).map fun p => (p.1.name, pVal p.2)) :=
    del_by (key := fun p : TenD × Nat => p.1.name) (fun p => pVal p.2) k L
  have hkeep : ∀ g, g < w.heap.size → ¬ S g → g ≠ m → w2.heap[g]? = w.heap[g]? := fun g hg h3 h4 => by
    rw [t2.block g (by omega) h4, t1.block g hg h3]
  refine ⟨T, _, ?_, rfl⟩
  exact {
    blk := (hkeep l hl (fun e => hS2 l hl e h.tl) h.lm.symm).trans h.blk
    ten := by
      have := tight own2
      rw [hdel, size_by] at this
      exact this
    rise := delBy_rise h.rise
    idx := fun q hq => by
      obtain ⟨hq, hne⟩ := mem_delBy.1 hq
      exact (h.idx q hq).keep fun g hg hs => ⟨hkeep g hg (fun e => hS g e q hq hne hs.2) (fun e => by rw [e, h.tm] at hs; cases hs.2), hs⟩
    nd := h.nd.sublist (List.Sublist.map _ List.filter_sublist)
    tl := h.tl
    tm := h.tm
    lB := h.lB
    mB := h.mB }
theorem led_len {w : World} {B l m : Nat} {T : Nat → Option Nat} {c : CfgD} {now : Int} {L : List (TenD × Nat)} {M : Nat} (_ : LedS w B T l m c now L M) : (L.map (·.1)).length = L.length := List.length_map _
theorem isNone_led {L : List (TenD × Nat)} {k : ByteArray} : getBy (·.name) k (L.map (·.1)) = (getBy (fun p : TenD × Nat => p.1.name) k L).map (·.1) := ten_led rfl k
set_option maxRecDepth 100000 in
set_option maxHeartbeats 8000000 in
theorem lsetLimit_any (l m : Nat) (tenant metric : ByteArray) (limit : Int) (c : CfgD) (now : Int) (B : Nat) (ts : List TenD) (M : Nat) (w : World) (h : LedAt w B l m c now ts M) (hB : B ≤ w.heap.size) (hU : UTab w) (hn : tenant.size ≤ 1048576) (hm : metric.size ≤ 1048576) (hml : ∀ t ∈ ts, t.mets.length ≤ 1000000000) (hlen : ts.length ≤ 1000000000) :
    Calls Tryz.prog 42 #[.pointer (some ⟨l, 0, none⟩), .string tenant, .string metric, .int .i64 limit] w fun e w' => e = .returned (.bool (setL ts tenant metric limit).2) ∧ LedAt w' B l m c now (setL ts tenant metric limit).1 M ∧ Turn (fun g => B ≤ g) w w' := by
  have HLA := hid h
  obtain ⟨T, L, h, hL⟩ := h
  have HT : Hid (∀ W, Calls Tryz.prog 36 #[.string tenant] W fun e w' => e = .returned (.bool (tnameB tenant)) ∧ w' = W) := fun W => isTenantName_any tenant W (by unfold maxLen; omega)
  have HM : Hid (∀ W, Below w.heap.size w W → Calls Tryz.prog 37 #[.string metric] W fun e w' => e = .returned (.bool (metric.toList.isEmpty || mnameB metric)) ∧ Below W.heap.size W w') := fun W hW => isMetricChoice_any metric W (by omega) (hU.later hW)
  have HLM : Hid (∀ W, Calls Tryz.prog 67 #[.int .i64 limit] W fun e w' => e = .returned (.bool (btwB limit (-1) 1000000)) ∧ w' = W) := fun W => isLimitOrNone_any limit W
  have HS : Hid (setL ts tenant metric limit = if (tnameB tenant && (metric.toList.isEmpty || mnameB metric) && btwB limit (-1) 1000000) = false then (ts, false) else if idleB (limT (tenOf ts tenant) metric limit) = true then (delBy (·.name) tenant ts, true) else if ((getBy (·.name) tenant ts).isNone && decide (10000 ≤ ts.length)) = true then (ts, false) else (insBy (·.name) (limT (tenOf ts tenant) metric limit) ts, true)) := rfl
  have HBT : Hid (btwB limit (-1) 1000000 = true → -1 ≤ limit ∧ limit ≤ 1000000) := fun h => btw_in h
  clear hU
  generalize hb1 : tnameB tenant = b1 at *
  generalize hb2 : (metric.toList.isEmpty || mnameB metric) = b2 at *
  generalize hb3 : btwB limit (-1) 1000000 = b3 at *
  clear hb1 hb2 hb3
  generalize hR : setL ts tenant metric limit = R at *
  clear hR
  by_cases h1 : b1 = false
  · have HV : Hid (R = (ts, false)) := by show _ = _; rw [HS.out, if_pos (by rw [h1]; rfl)]
    clear HS h
    subst h1
    go_enter Tryz.func42, Tryz.ntmps42
    go_wp2_with fail
    refine (HT.out _).mono ?_
    rintro e w1 ⟨rfl, hw⟩
    replace hw := hw.symm
    subst hw
    go_wp2
    go_ret
    exact ⟨ret_bool (by rw [HV.out]), by rw [HV.out]; exact HLA.out, Turn.refl _ _⟩
  have h1' : b1 = true := by simpa using h1
  subst h1'
  clear h1
  by_cases h2 : b2 = false
  · have HV : Hid (R = (ts, false)) := by show _ = _; rw [HS.out, if_pos (by rw [h2]; rfl)]
    clear HS h
    subst h2
    go_enter Tryz.func42, Tryz.ntmps42
    go_wp2_with fail
    refine (HT.out _).mono ?_
    rintro e w1 ⟨rfl, hw⟩
    replace hw := hw.symm
    subst hw
    go_wp2_with fail
    refine (HM.out _ (Below.refl _ _)).mono ?_
    rintro e w2 ⟨rfl, hb2⟩
    have HB2 := hid hb2
    clear hb2
    go_wp2
    go_ret
    exact ⟨ret_bool (by rw [HV.out]), by rw [HV.out]; exact HLA.out.later HB2.out, Turn.of HB2.out⟩
  have h2' : b2 = true := by simpa using h2
  subst h2'
  clear h2
  by_cases h3 : b3 = false
  · have HV : Hid (R = (ts, false)) := by show _ = _; rw [HS.out, if_pos (by rw [h3]; rfl)]
    clear HS h
    subst h3
    go_enter Tryz.func42, Tryz.ntmps42
    go_wp2_with fail
    refine (HT.out _).mono ?_
    rintro e w1 ⟨rfl, hw⟩
    replace hw := hw.symm
    subst hw
    go_wp2_with fail
    refine (HM.out _ (Below.refl _ _)).mono ?_
    rintro e w2 ⟨rfl, hb2⟩
    have HB2 := hid hb2
    clear hb2
    go_wp2_with fail
    refine (HLM.out _).mono ?_
    rintro e w3 ⟨rfl, hw⟩
    replace hw := hw.symm
    subst hw
    go_wp2
    go_ret
    exact ⟨ret_bool (by rw [HV.out]), by rw [HV.out]; exact HLA.out.later HB2.out, Turn.of HB2.out⟩
  have h3' : b3 = true := by simpa using h3
  subst h3'
  clear h3
  obtain ⟨hl0, hl1⟩ := HBT.out rfl
  have HS2 : Hid (R = if idleB (limT (tenOf ts tenant) metric limit) = true then (delBy (·.name) tenant ts, true) else if ((getBy (·.name) tenant ts).isNone && decide (10000 ≤ ts.length)) = true then (ts, false) else (insBy (·.name) (limT (tenOf ts tenant) metric limit) ts, true)) := by show _ = _; rw [HS.out, if_neg (by simp)]
  have HK : Hid (keyOf Tryz.prog 9 (.string tenant) = some (kL tenant)) := key_mk (by unfold maxLen; omega)
  have hsub := hL
  subst hsub
  have hln : (L.map (·.1)).length = L.length := List.length_map _
  have HGB : Hid (getBy (·.name) tenant (L.map (·.1)) = (getBy (fun p : TenD × Nat => p.1.name) tenant L).map (·.1)) := isNone_led
  have HTO : Hid (tenOf (L.map (·.1)) tenant = (((getBy (fun p : TenD × Nat => p.1.name) tenant L).map (·.1)).getD ⟨tenant, -1, [], []⟩)) := by
    show _ = _
    unfold tenOf
    rw [HGB.out]
  have HF : Hid (∀ W, LedS W B T l m c now L M → Calls Tryz.prog 48 #[.pointer (some ⟨l, 0, none⟩), .string tenant] W fun e w' => FindOut L tenant W e w') := fun W hW => find_any l m tenant c now B T L M W hW (by unfold maxLen; omega)
  unfold FindOut at HF
  have HH := hid h
  have hmlen := h.ten.lt
  have hllen := lt_of_block h.blk
  have HMB : Hid (B ≤ m ∧ B ≤ l) := ⟨h.mB, h.lB⟩
  clear h HS HBT hL
  go_enter Tryz.func42, Tryz.ntmps42
  go_wp2_with fail
  refine (HT.out _).mono ?_
  rintro e w1 ⟨rfl, hw⟩
  replace hw := hw.symm
  subst hw
  go_wp2_with fail
  refine (HM.out _ (Below.refl _ _)).mono ?_
  rintro e w2 ⟨rfl, hb2⟩
  have HB2 := hid hb2
  have H2 : Hid (LedS w2 B T l m c now L M) := HH.out.keep fun g hg _ => hb2.block g hg
  have hs2 := hb2.size
  clear hb2 HM HT
  go_wp2_with fail
  refine (HLM.out _).mono ?_
  rintro e w3 ⟨rfl, hw⟩
  replace hw := hw.symm
  subst hw
  clear HLM
  go_wp2_with fail
  refine (HF.out _ H2.out).mono ?_
  intro e w3 hfo
  have HFO := hid hfo
  clear hfo
  rcases HFO.out with ⟨p, hg, rfl, hw⟩ | ⟨hg, x, rfl, hx, hi, hb3⟩
  · replace hw := hw.symm
    subst hw
    obtain ⟨hp, hpn⟩ := getBy_mem hg
    have HTE : Hid (tenOf (L.map (·.1)) tenant = p.1) := by show _ = _; rw [HTO.out, hg]; rfl
    have HGS : Hid (getBy (·.name) tenant (L.map (·.1)) = some p.1) := by show _ = _; rw [HGB.out, hg]; rfl
    rw [HTE.out, HGS.out] at HS2
    have hpl : p.1.mets.length ≤ 1000000000 := hml p.1 (List.mem_map_of_mem hp)
    have HX : Hid (Calls Tryz.prog 68 #[.pointer (some ⟨p.2, 0, none⟩), .string metric, .int .i64 limit] w2 fun e w' => e = .returned (.tuple #[]) ∧ IdxAt w' (fun g => B ≤ g ∧ T g = some p.2) p.2 (limT p.1 metric limit) M ∧ Turn (fun g => B ≤ g ∧ T g = some p.2) w2 w') := xlim_any p.2 metric limit p.1 _ M w2 (H2.out.idx p hp) (by unfold maxLen; omega) hl0 hl1 hpl
    have HN : Hid ((limT p.1 metric limit).name = tenant) := by show _ = _; rw [limT_name]; exact hpn
    have HP : Hid (p ∈ L ∧ p.1.name = tenant) := ⟨hp, hpn⟩
    clear HFO hg hp hpn hpl HTO HGB HTE HGS HF
    generalize limT p.1 metric limit = t' at *
    go_wp2_with fail
    refine HX.out.mono ?_
    rintro e w4 ⟨rfl, hi4, ht4⟩
    have HI4 := hid hi4
    have HT4 := hid ht4
    have hs4 := ht4.size
    have HID : Hid (Calls Tryz.prog 69 #[.pointer (some ⟨p.2, 0, none⟩)] w4 fun e w' => e = .returned (.bool (idleB t')) ∧ w' = w4) := idle_any p.2 t' _ M w4 hi4
    have HTEN : Hid (w4.ownsMap Tryz.prog 9 ptrElem m L.length (mapOf (L.map fun p => (p.1.name, pVal p.2)))) := ht4.map H2.out.ten (fun e => by rw [H2.out.tm] at e; cases e.2)
    have x7 : w4.cell? ⟨l, 7, none⟩ = some (.map (some m)) := (ht4.blk H2.out.blk (fun e => by rw [H2.out.tl] at e; cases e.2)).cell 7
    have HTW : Hid (Turn (fun g => B ≤ g) w w4) := (Turn.of HB2.out).trans' (ht4.mono fun i _ e => e.1)
    clear hi4 ht4 HX
    go_wp2_with fail
    refine HID.out.mono ?_
    rintro e w5 ⟨rfl, hw⟩
    replace hw := hw.symm
    subst hw
    clear HID
    cases hidl : idleB t' with
    | true =>
      have HV : Hid (R = (delBy (·.name) tenant (L.map (·.1)), true)) := by show _ = _; rw [HS2.out, if_pos hidl]
      clear hidl HS2
      go_wp2_with (at_delete; refine wpList_delete_own _ rfl _ _ 97 9 rfl 79 keyed Tryz.underlying97 ptrElem m _ _ rfl HTEN.out _ _ rfl HK.out ?_; intro w6 hown6 hturn6)
      have ht6 := Turn.mapped hturn6
      have HL6 : Hid (LedAt w6 B l m c now (delBy (·.name) tenant (L.map (·.1))) M) := by
        refine hid ?_
        have := led_del (k := tenant) (S := fun g => B ≤ g ∧ T g = some p.2) H2.out (fun g hs q hq hne e => by
          rw [hs.2] at e
          have := nodup_inj H2.out.nd hq HP.out.1 (Option.some.inj e).symm
          rw [this] at hne
          exact hne HP.out.2) (fun g _ hs e => by rw [e] at hs; cases hs.2) HT4.out ht6 hown6
        rw [delBy_map (key' := fun t : TenD => t.name) (fun p : TenD × Nat => p.1) (fun _ => rfl)] at this
        exact this
      have HT6 : Hid (Turn (fun g => B ≤ g) w w6) := HTW.out.trans' (ht6.mono fun i _ e => by have := HMB.out; omega)
      clear hown6 hturn6 ht6
      go_ret
      exact ⟨ret_bool (by rw [HV.out]), by rw [HV.out]; exact HL6.out, HT6.out⟩
    | false =>
      have HV : Hid (R = (insBy (·.name) t' (L.map (·.1)), true)) := by show _ = _; rw [HS2.out, if_neg (by rw [hidl]; simp), if_neg (by simp)]
      clear hidl HS2
      obtain ⟨w6, run6, own6, tn6⟩ := HTEN.out.store keyed Tryz.underlying97 (by unfold maxLen; omega) HK.out (ptrElem_mk p.2)
      have ht6 := Turn.mapped tn6
      have HL6 : Hid (LedAt w6 B l m c now (insBy (·.name) t' (L.map (·.1))) M) := by
        refine hid ?_
        rw [← HN.out] at own6
        have := led_put (p := p) (t' := t') (M' := M) H2.out (by omega) HP.out.1 (by rw [HN.out, HP.out.2]) HT4.out (HI4.out.keep fun g _ hs => ⟨rfl, Or.inl hs⟩) (Nat.le_refl _) ht6 own6
        rw [insBy_map (key' := fun t : TenD => t.name) (fun p : TenD × Nat => p.1) (fun _ => rfl)] at this
        exact this
      have HT6 : Hid (Turn (fun g => B ≤ g) w w6) := HTW.out.trans' (ht6.mono fun i _ e => by have := HMB.out; omega)
      clear own6 tn6 ht6
      go_wp2
      go_ret
      exact ⟨ret_bool (by rw [HV.out]), by rw [HV.out]; exact HL6.out, HT6.out⟩
  · have HTE : Hid (tenOf (L.map (·.1)) tenant = ⟨tenant, -1, [], []⟩) := by show _ = _; rw [HTO.out, hg]; rfl
    have HGS : Hid (getBy (·.name) tenant (L.map (·.1)) = none) := by show _ = _; rw [HGB.out, hg]; rfl
    rw [HTE.out, HGS.out] at HS2
    have HX : Hid (Calls Tryz.prog 68 #[.pointer (some ⟨x, 0, none⟩), .string metric, .int .i64 limit] w3 fun e w' => e = .returned (.tuple #[]) ∧ IdxAt w' (fun g => w2.heap.size ≤ g) x (limT ⟨tenant, -1, [], []⟩ metric limit) 0 ∧ Turn (fun g => w2.heap.size ≤ g) w3 w') := xlim_any x metric limit _ _ 0 w3 hi (by unfold maxLen; omega) hl0 hl1 (by simp)
    have HN : Hid ((limT ⟨tenant, -1, [], []⟩ metric limit).name = tenant) := by show _ = _; rw [limT_name]
    have HG := hid hg
    have B3 := hid hb3
    have hs3 := hb3.size
    clear HFO hg hi hb3 HTO HGB HTE HGS HF
    generalize limT ⟨tenant, -1, [], []⟩ metric limit = t' at *
    go_wp2_with fail
    refine HX.out.mono ?_
    rintro e w4 ⟨rfl, hi4, ht4⟩
    have HI4 := hid hi4
    have hs4 := ht4.size
    have BB : Hid (Below w2.heap.size w2 w4) := B3.out.trans (ht4.below (by omega) fun i hi e => by omega)
    have H4 : Hid (LedS w4 B T l m c now L M) := H2.out.keep fun g hg _ => BB.out.block g hg
    have HID : Hid (Calls Tryz.prog 69 #[.pointer (some ⟨x, 0, none⟩)] w4 fun e w' => e = .returned (.bool (idleB t')) ∧ w' = w4) := idle_any x t' _ 0 w4 hi4
    have HFU : Hid (Calls Tryz.prog 70 #[.pointer (some ⟨l, 0, none⟩)] w4 fun e w' => e = .returned (.bool (decide (10000 ≤ L.length))) ∧ w' = w4) := full_any l m c now B T L M w4 H4.out
    have HTEN := hid H4.out.ten
    have x7 : w4.cell? ⟨l, 7, none⟩ = some (.map (some m)) := H4.out.blk.cell 7
    have HTW : Hid (Turn (fun g => B ≤ g) w w4) := (Turn.of HB2.out).trans' (Turn.of BB.out)
    clear hi4 ht4 HX
    go_wp2_with fail
    refine HID.out.mono ?_
    rintro e w5 ⟨rfl, hw⟩
    replace hw := hw.symm
    subst hw
    clear HID
    cases hidl : idleB t' with
    | true =>
      have HV : Hid (R = (delBy (·.name) tenant (L.map (·.1)), true)) := by show _ = _; rw [HS2.out, if_pos hidl]
      clear hidl HS2
      go_wp2_with (at_delete; refine wpList_delete_own _ rfl _ _ 97 9 rfl 79 keyed Tryz.underlying97 ptrElem m _ _ rfl HTEN.out _ _ rfl HK.out ?_; intro w6 hown6 hturn6)
      have ht6 := Turn.mapped hturn6
      have HL6 : Hid (LedAt w6 B l m c now (delBy (·.name) tenant (L.map (·.1))) M) := by
        refine hid ?_
        have := led_del (k := tenant) (S := fun _ => False) H4.out (fun g hs => hs.elim) (fun g _ hs => hs.elim) (Turn.refl _ w4) ht6 hown6
        rw [delBy_map (key' := fun t : TenD => t.name) (fun p : TenD × Nat => p.1) (fun _ => rfl)] at this
        exact this
      have HT6 : Hid (Turn (fun g => B ≤ g) w w6) := HTW.out.trans' (ht6.mono fun i _ e => by have := HMB.out; omega)
      clear hown6 hturn6 ht6
      go_ret
      exact ⟨ret_bool (by rw [HV.out]), by rw [HV.out]; exact HL6.out, HT6.out⟩
    | false =>
      by_cases hfl : 10000 ≤ L.length
      · have HV : Hid (R = (L.map (·.1), false)) := by show _ = _; rw [HS2.out, if_neg (by rw [hidl]; simp), if_pos (by rw [hln]; simpa using hfl)]
        have hfd : decide (10000 ≤ L.length) = true := by simpa using hfl
        rw [hfd] at HFU
        clear hidl HS2 hfd hfl
        go_wp2_with fail
        refine HFU.out.mono ?_
        rintro e w5 ⟨rfl, hw⟩
        replace hw := hw.symm
        subst hw
        go_wp2
        go_ret
        exact ⟨ret_bool (by rw [HV.out]), by rw [HV.out]; exact ⟨T, L, H4.out, rfl⟩, HTW.out⟩
      · have HV : Hid (R = (insBy (·.name) t' (L.map (·.1)), true)) := by show _ = _; rw [HS2.out, if_neg (by rw [hidl]; simp), if_neg (by rw [hln]; simpa using hfl)]
        have hfd : decide (10000 ≤ L.length) = false := by simpa using hfl
        rw [hfd] at HFU
        clear hidl HS2 hfd
        go_wp2_with fail
        refine HFU.out.mono ?_
        rintro e w5 ⟨rfl, hw⟩
        replace hw := hw.symm
        subst hw
        obtain ⟨w6, run6, own6, tn6⟩ := HTEN.out.store keyed Tryz.underlying97 (by unfold maxLen; omega) HK.out (ptrElem_mk x)
        have ht6 := Turn.mapped tn6
        have HL6 : Hid (LedAt w6 B l m c now (insBy (·.name) t' (L.map (·.1))) M) := by
          refine hid ?_
          rw [← HN.out] at own6
          have := load_end (x := x) (t := t') (M' := 0) H2.out (by omega) (by show getBy (fun p : TenD × Nat => p.1.name) t'.name L = none; rw [HN.out]; exact HG.out) (Below.refl _ _) BB.out hx ht6 own6 (Turn.refl _ w6) (HI4.out.keep fun g hg hs => ⟨ht6.block g hg (fun e => by have := H2.out.ten.lt; omega), hs⟩) (Nat.zero_le _)
          rw [insBy_map (key' := fun t : TenD => t.name) (fun p : TenD × Nat => p.1) (fun _ => rfl)] at this
          exact this
        have HT6 : Hid (Turn (fun g => B ≤ g) w w6) := HTW.out.trans' (ht6.mono fun i _ e => by have := HMB.out; omega)
        clear own6 tn6 ht6
        go_wp2
        go_ret
        exact ⟨ret_bool (by rw [HV.out]), by rw [HV.out]; exact HL6.out, HT6.out⟩
end Go.Proofs.YtojeemogabhaoaaGreatDoor
