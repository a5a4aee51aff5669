import Derived.Test.YtpajhkikcofhfaaGreatDoorProg
import Derived.Test.YtpajhkikcofhfaaGreatDoorJ17CntI
import Derived.Test.YtpajhkikcofhfaaGreatDoorJ15ILim
import Derived.Test.YtpajhkikcofhfaaGreatDoorJ05HpM
import Derived.Test.YtpajhkikcofhfaaGreatDoorJ07IdxA
import Derived.Maps.OwnSet
namespace Go.Proofs.YtpajhkikcofhfaaGreatDoor
open Go.RowKit Go.Maps

set_option maxRecDepth 100000 in
set_option maxHeartbeats 1000000 in
theorem isMetricChoice_any (s : ByteArray) (w : World) (hs : s.size ≤ 1000000000) (hT : UTab w) : Calls Tryz.prog 26 #[.string s] w fun e w' => e = .returned (.bool (s.toList.isEmpty || mnameB s)) ∧ Below w.heap.size w w' := by
  have HM : Hid (Calls Tryz.prog 53 #[.string s] w fun e w' => e = .returned (.bool (mnameB s)) ∧ Below w.heap.size w w') := isMetricName_any s w hs hT
  clear hT
  by_cases h0 : s.toList.isEmpty = true
  · have HV : Hid ((s.toList.isEmpty || mnameB s) = true) := by show _ = _; rw [h0]; rfl
    go_enter Tryz.func26, Tryz.ntmps26
    go_wp2
    go_ret
    exact ⟨ret_bool (by rw [HV.out]), Below.refl _ _⟩
  · have h1 : s.toList.isEmpty = false := by simpa using h0
    have HV : Hid ((s.toList.isEmpty || mnameB s) = mnameB s) := by show _ = _; rw [h1]; rfl
    clear h0
    go_enter Tryz.func26, Tryz.ntmps26
    go_wp2_with fail
    refine HM.out.mono ?_
    rintro e w1 ⟨rfl, hb⟩
    have HB := hid hb
    clear hb
    go_wp2
    go_ret
    exact ⟨ret_bool (by rw [HV.out]), HB.out⟩

theorem lim_of {c : CfgD} {now : Int} {ts : List TenD} (h : stateB c now ts = true) (k : ByteArray) : -1 ≤ (tenOf ts k).limit := by
  have ht : tensB c.w now ts = true := by
    rw [stateB, Bool.and_eq_true] at h
    exact h.2
  unfold tenOf
  cases hg : getBy (·.name) k ts with
  | none => exact Int.le_refl _
  | some t =>
    obtain ⟨i, hi, e⟩ := List.getElem_of_mem (getBy_mem hg).1
    have h1 := allTo_at ht hi
    rw [tenAt, List.getElem?_eq_getElem hi, e] at h1
    have h2 : btwB t.limit (-1) 1000000 = true := by
      cases hb : btwB t.limit (-1) 1000000 with
      | true => rfl
      | false => simp [tenB, hb] at h1
    exact (btw_in h2).1

set_option maxRecDepth 100000 in
set_option maxHeartbeats 2000000 in
theorem implCountOf_any (c : CfgD) (now : Int) (a : Option Addr) (cap : Nat) (ts : List TenD) (tenant met : ByteArray) (M : Nat) (w : World) (hf : TensIn w a ts) (hfit : FitT ts M) (hlen : ts.length ≤ 1000000000) (hU : UTab w) (hn : tenant.size ≤ 1048576) (hm : met.size ≤ 1048576) :
    Calls Tryz.prog 10 #[cfgV c, .agg #[.int .i64 now, .slice a ts.length cap], .string tenant, .string met] w fun e w' => e = .returned (.tuple #[.int .i64 (countOfV c now ts tenant met).1, .int .i64 (countOfV c now ts tenant met).2]) ∧ Below w.heap.size w w' := by
  have HO : Hid (∀ W, Below w.heap.size w W → Calls Tryz.prog 21 #[cfgV c, .agg #[.int .i64 now, .slice a ts.length cap]] W fun e w' => OpenOut c now ts M W e w') := fun W hW => open_any c now a cap ts M W (hf.later hW) hfit hlen (hU.later hW)
  have HT : Hid (∀ W, Calls Tryz.prog 25 #[.string tenant] W fun e w' => e = .returned (.bool (tnameB tenant)) ∧ w' = W) := fun W => isTenantName_any tenant W (by unfold maxLen; omega)
  have HM : Hid (∀ W, Below w.heap.size w W → Calls Tryz.prog 26 #[.string met] W fun e w' => e = .returned (.bool (met.toList.isEmpty || mnameB met)) ∧ Below W.heap.size W w') := fun W hW => isMetricChoice_any met W (by omega) (hU.later hW)
  have HN : Hid (∀ l m B W, stateB c now ts = true → LedAt W B l m c now ts M → Calls Tryz.prog 27 #[.pointer (some ⟨l, 0, none⟩), .string tenant, .string met] W fun e w' => e = .returned (.tuple #[.int .i64 (countV c (tenOf ts tenant) met).1, .int .i64 (countV c (tenOf ts tenant) met).2]) ∧ Below W.heap.size W w') := fun l m B W hs h => count_any l m tenant met c now B ts M W h (by unfold maxLen; omega) (by unfold maxLen; omega) (lim_of hs tenant)
  have HV : Hid (countOfV c now ts tenant met = if (stateB c now ts && tnameB tenant && (met.toList.isEmpty || mnameB met)) = true then countV c (tenOf ts tenant) met else (-1, -1)) := rfl
  clear hf hfit hU
  unfold OpenOut at HO
  unfold cfgV at *
  generalize tnameB tenant = b1 at *
  generalize (met.toList.isEmpty || mnameB met) = b2 at *
  go_enter Tryz.func10, Tryz.ntmps10
  go_wp2_with fail
  refine (HO.out _ (bto (bnew _ _) (bnew _ _))).mono ?_
  intro e w1 hx
  have HX := hid hx
  clear hx
  rcases HX.out with ⟨hs, rfl, hb⟩ | ⟨hs, l, m, rfl, _, hled, hb⟩
  · have HB : Hid (Below w.heap.size w w1) := bto (bto (bnew _ _) (bnew _ _)) hb
    have HV2 : Hid (countOfV c now ts tenant met = (-1, -1)) := by show _ = _; rw [HV.out, hs]; rfl
    clear HX hb hs
    go_wp2
    go_ret2
    exact ⟨ret_two (by rw [HV2.out]) (by rw [HV2.out]), HB.out⟩
  · have HB : Hid (Below w.heap.size w w1) := bto (bto (bnew _ _) (bnew _ _)) hb
    have HSB : Hid (stateB c now ts = true) := hs
    have HL := hid hled
    clear HX hb hs hled HO
    by_cases h1 : b1 = false
    · have HV2 : Hid (countOfV c now ts tenant met = (-1, -1)) := by show _ = _; rw [HV.out, h1]; simp
      subst h1
      go_wp2_with fail
      refine (HT.out _).mono ?_
      rintro e w2 ⟨rfl, hw⟩
      replace hw := hw.symm
      subst hw
      go_wp2
      go_ret2
      exact ⟨ret_two (by rw [HV2.out]) (by rw [HV2.out]), HB.out⟩
    have h1' : b1 = true := by simpa using h1
    subst h1'
    clear h1
    by_cases h2 : b2 = false
    · have HV2 : Hid (countOfV c now ts tenant met = (-1, -1)) := by show _ = _; rw [HV.out, h2]; simp
      subst h2
      go_wp2_with fail
      refine (HT.out _).mono ?_
      rintro e w2 ⟨rfl, hw⟩
      replace hw := hw.symm
      subst hw
      go_wp2_with fail
      refine (HM.out _ HB.out).mono ?_
      rintro e w3 ⟨rfl, hb3⟩
      have HB3 : Hid (Below w.heap.size w w3) := bto HB.out hb3
      clear hb3
      go_wp2
      go_ret2
      exact ⟨ret_two (by rw [HV2.out]) (by rw [HV2.out]), HB3.out⟩
    have h2' : b2 = true := by simpa using h2
    subst h2'
    clear h2
    have HV2 : Hid (countOfV c now ts tenant met = countV c (tenOf ts tenant) met) := by show _ = _; rw [HV.out, HSB.out]; rfl
    clear HV
    generalize countV c (tenOf ts tenant) met = RV at *
    go_wp2_with fail
    refine (HT.out _).mono ?_
    rintro e w2 ⟨rfl, hw⟩
    replace hw := hw.symm
    subst hw
    go_wp2_with fail
    refine (HM.out _ HB.out).mono ?_
    rintro e w3 ⟨rfl, hb3⟩
    have HB3 : Hid (Below w.heap.size w w3) := bto HB.out hb3
    have HL3 : Hid (LedAt w3 _ l m c now ts M) := hid (HL.out.later hb3)
    clear hb3
    go_wp2_with fail
    refine (HN.out l m _ _ HSB.out HL3.out).mono ?_
    rintro e w4 ⟨rfl, hb4⟩
    have HB4 : Hid (Below w.heap.size w w4) := bto HB3.out hb4
    clear hb4
    go_wp2
    go_ret2
    exact ⟨ret_two (by rw [HV2.out]) (by rw [HV2.out]), HB4.out⟩
end Go.Proofs.YtpajhkikcofhfaaGreatDoor

namespace Go.Proofs.YtpajhkikcofhfaaGreatDoor

/-- The tenants behind setLimit, and its answer. -/
def setL (ts : List TenD) (tenant metric : ByteArray) (limit : Int) : List TenD × Bool :=
  if (tnameB tenant && (metric.toList.isEmpty || mnameB metric) && btwB limit (-1) 1000000) = false then (ts, false)
  else if idleB (limT (tenOf ts tenant) metric limit) = true then (delBy (·.name) tenant ts, true)
  else if ((getBy (·.name) tenant ts).isNone && decide (10000 ≤ ts.length)) = true then (ts, false)
  else (insBy (·.name) (limT (tenOf ts tenant) metric limit) ts, true)
theorem limT_name (t : TenD) (metric : ByteArray) (limit : Int) : (limT t metric limit).name = t.name := by unfold limT; split <;> rfl
theorem limT_sers (t : TenD) (metric : ByteArray) (limit : Int) : (limT t metric limit).sers = t.sers := by unfold limT; split <;> rfl
theorem tens_of {c : CfgD} {now : Int} {ts : List TenD} (h : stateB c now ts = true) : cfgB c = true ∧ 0 ≤ now ∧ now ≤ 1000000000000 ∧ ts.length ≤ 10000 ∧ tensB c.w now ts = true := by
  simp only [stateB, Bool.and_eq_true, decide_eq_true_eq] at h
  obtain ⟨⟨⟨h1, h2⟩, h3⟩, h4⟩ := h
  have := btw_in h2
  exact ⟨h1, this.1, this.2, h3, h4⟩
theorem tens_up {win now : Int} {ts : List TenD} (h : tensB win now ts = true) : RiseBy (·.name) ts := by
  have := tens_rise (n := ts.length) h (Nat.le_refl _)
  rwa [List.take_length] at this
theorem setL_eq {c : CfgD} {now : Int} {ts : List TenD} (h : stateB c now ts = true) (tenant metric : ByteArray) (limit : Int) : setLimV c now ts tenant metric limit = (now, (setL ts tenant metric limit).1, (setL ts tenant metric limit).2) := by
  obtain ⟨_, _, _, hlen, ht⟩ := tens_of h
  have hr := tens_up ht
  unfold setLimV setL
  rw [if_neg (by rw [h]; simp)]
  by_cases h1 : (tnameB tenant && (metric.toList.isEmpty || mnameB metric) && btwB limit (-1) 1000000) = false
  · rw [if_pos h1, if_pos h1]
  · rw [if_neg h1, if_neg h1]
    have hnm : (limT (tenOf ts tenant) metric limit).name = tenant := by rw [limT_name, tenOf_name]
    have hlv : ∀ x ∈ (limT (tenOf ts tenant) metric limit).sers, now - x.n < c.w := by rw [limT_sers]; exact tenOf_live ht
    have hk := keptTs_put ht hr (t := limT (tenOf ts tenant) metric limit) hlv
    rw [hk, hnm]
    by_cases h2 : idleB (limT (tenOf ts tenant) metric limit) = true
    · have hd : (delBy (·.name) tenant ts).length ≤ ts.length := List.length_filter_le _ _
      rw [if_pos h2, if_pos h2, if_neg (by omega)]
    · have hil := insBy_length (a := limT (tenOf ts tenant) metric limit) hr
      simp only [hnm] at hil
      rw [if_neg h2, if_neg h2]
      cases hg : getBy (·.name) tenant ts with
      | some q =>
        rw [hg] at hil; simp only [Option.isSome_some, if_true] at hil
        rw [if_neg (by omega), if_neg (by simp)]
      | none =>
        rw [hg] at hil; simp only [Option.isSome_none, Bool.false_eq_true, if_false] at hil
        by_cases h3 : 10000 ≤ ts.length
        · rw [if_pos (by omega), if_pos (by simp [h3])]
        · rw [if_neg (by omega), if_neg (by simp [h3])]
/-- Who stands in a rising list behind an insertion. -/
theorem mem_ins {α : Type} {key : α → ByteArray} {a q : α} {l : List α} (hr : RiseBy key l) (h : q ∈ insBy key a l) : q = a ∨ (q ∈ l ∧ key q ≠ key a) := by
  induction l with
  | nil => exact Or.inl (by simpa [insBy] using h)
  | cons p r ih =>
    rw [insBy] at h
    by_cases h2 : blt (key p) (key a) = true
    · rw [if_pos h2] at h
      rcases List.mem_cons.1 h with h | h
      · exact Or.inr ⟨by rw [h]; exact List.mem_cons_self .., by rw [h]; exact blt_ne h2⟩
      · rcases ih hr.tail h with h | h
        · exact Or.inl h
        · exact Or.inr ⟨List.mem_cons_of_mem _ h.1, h.2⟩
    · rw [if_neg h2] at h
      have hnone : ∀ q ∈ r, key q ≠ key a := fun q hq e => by
        have hb := hr.head q hq
        rw [e] at hb
        exact h2 hb
      by_cases h3 : key p = key a
      · rw [if_pos ((same_iff _ _).2 h3)] at h
        rcases List.mem_cons.1 h with h | h
        · exact Or.inl h
        · exact Or.inr ⟨List.mem_cons_of_mem _ h, hnone q h⟩
      · rw [if_neg (by rw [same_not h3]; simp)] at h
        rcases List.mem_cons.1 h with h | h
        · exact Or.inl h
        · rcases List.mem_cons.1 h with h | h
          · exact Or.inr ⟨by rw [h]; exact List.mem_cons_self .., by rw [h]; exact h3⟩
          · exact Or.inr ⟨List.mem_cons_of_mem _ h, hnone q h⟩
/-- Where the key is there, what does not hang on the rest stays as it was. -/
theorem map_ins {α β : Type} {key : α → ByteArray} {a p : α} {l : List α} (f : α → β) (hr : RiseBy key l) (hp : p ∈ l) (hk : key p = key a) (hf : f p = f a) : (insBy key a l).map f = l.map f := by
  induction l with
  | nil => cases hp
  | cons q r ih =>
    rw [insBy]
    rcases List.mem_cons.1 hp with rfl | hp
    · rw [if_neg (by rw [hk, blt_irrefl]; simp), if_pos ((same_iff _ _).2 hk)]
      simp [hf]
    · have hb := hr.head p hp
      rw [hk] at hb
      rw [if_pos hb, List.map_cons, List.map_cons, ih hr.tail hp]
end Go.Proofs.YtpajhkikcofhfaaGreatDoor

namespace Go.Proofs.YtpajhkikcofhfaaGreatDoor
open Go.RowKit Go.Maps

theorem Turn.mapped {w w' : World} {b : Nat} (h : w.mapTurned w' b) : Turn (· = b) w w' := (Turn.grown h.grown).mono fun i _ e => by simp only [Option.some.injEq] at e; exact e.symm
/-- The index with another limit of its own. -/
theorem IdxS.newLimit {w w' : World} {S : Nat → Prop} {x : Nat} {t : TenD} {M lm sm cm : Nat} {iv : Value} {Q : List (PairD × Nat)} {hs : List SgD} {D : DataW Unit} {limit : Int} (h : IdxS w S x t M lm sm cm iv Q hs D) (ht : Turn (· = x) w w')
    (hb : Blk w' x #[.int .i64 limit, .map (some lm), .map (some sm), .map (some cm), iv] 100) : IdxAt w' S x ⟨t.name, limit, t.mets, t.sers⟩ M := by
  refine ⟨lm, sm, cm, iv, Q, hs, D, ?_⟩
  exact { h with
    blk := hb
    lims := ht.map h.lims (map_ne_cells h.lims h.blk)
    sers := ht.map h.sers (map_ne_cells h.sers h.blk)
    cnts := ht.map h.cnts (map_ne_cells h.cnts h.blk)
    cells := fun q hq => ht.blk (h.cells q hq) (h.dx q hq)
    row := ht.row h.row (fun g hg e => (h.di g hg).1 e) }

set_option maxRecDepth 100000 in
set_option maxHeartbeats 2000000 in
theorem full_any (l m : Nat) (c : CfgD) (now : Int) (B : Nat) (T : Nat → Option Nat) (L : List (TenD × Nat)) (M : Nat) (w : World) (h : LedS w B T l m c now L M) :
    Calls Tryz.prog 43 #[.pointer (some ⟨l, 0, none⟩)] w fun e w' => e = .returned (.bool (decide (10000 ≤ L.length))) ∧ w' = w := by
  have c7 : w.cell? ⟨l, 7, none⟩ = some (.map (some m)) := h.blk.cell 7
  have l1 := h.ten.len Tryz.underlying81 3
  rw [size_by] at l1
  clear h
  by_cases hl : 10000 ≤ L.length
  · have HV : Hid (decide (10000 ≤ L.length) = true) := by show _ = _; simpa using hl
    generalize L.length = z at *
    have hz : ¬ ((z : Int) < 10000) := by omega
    go_enter Tryz.func43, Tryz.ntmps43
    go_wp2
    go_ret
    exact ⟨ret_bool (by first | (rw [HV.out]; simp; omega) | (simp; omega) | simp), rfl⟩
  · have HV : Hid (decide (10000 ≤ L.length) = false) := by show _ = _; simpa using hl
    generalize L.length = z at *
    have hz : (z : Int) < 10000 := by omega
    go_enter Tryz.func43, Tryz.ntmps43
    go_wp2
    go_ret
    exact ⟨ret_bool (by first | (rw [HV.out]; simp; omega) | (simp; omega) | simp), rfl⟩

theorem nodup_inj {α β : Type} {f : α → β} {l : List α} (h : (l.map f).Nodup) {p q : α} (hp : p ∈ l) (hq : q ∈ l) (e : f p = f q) : p = q := by
  induction l with
  | nil => cases hp
  | cons a r ih =>
    rw [List.map_cons, List.nodup_cons] at h
    rcases List.mem_cons.1 hp with hp' | hp'
    · rcases List.mem_cons.1 hq with hq' | hq'
      · rw [hp', hq']
      · refine absurd ?_ h.1
        rw [← hp', e]
        exact List.mem_map.2 ⟨q, hq', rfl⟩
    · rcases List.mem_cons.1 hq with hq' | hq'
      · refine absurd ?_ h.1
        rw [← hq', ← e]
        exact List.mem_map.2 ⟨p, hp', rfl⟩
      · exact ih h.2 hp' hq'
/-- The ledger with one index turned, in its own blocks and new ones, and put in again under its name. -/
theorem led_put {w w1 w2 : World} {B : Nat} {T : Nat → Option Nat} {l m n : Nat} {c : CfgD} {now : Int} {L : List (TenD × Nat)} {M M' : Nat} {p : TenD × Nat} {t' : TenD} (h : LedS w B T l m c now L M) (hB : B ≤ w.heap.size) (hp : p ∈ L) (hn : t'.name = p.1.name)
    (t1 : Turn (fun g => B ≤ g ∧ T g = some p.2) w w1) (hi : IdxAt w1 (fun g => (B ≤ g ∧ T g = some p.2) ∨ w.heap.size ≤ g) p.2 t' M') (hM : M ≤ M') (t2 : Turn (· = m) w1 w2)
    (own2 : w2.ownsMap Tryz.prog 9 ptrElem m n (DataW.put (mapOf (L.map fun p => (p.1.name, pVal p.2))) (kL t'.name) (pVal p.2))) :
    LedAt w2 B l m c now ((insBy (fun p : TenD × Nat => p.1.name) (t', p.2) L).map (·.1)) M' := by
  have hl := lt_of_block h.blk
  have hm := h.ten.lt
  have h1 := t1.size
  have hput : DataW.put (mapOf (L.map fun p => (p.1.name, pVal p.2))) (kL t'.name) (pVal p.2) = mapOf ((insBy (fun p : TenD × Nat => p.1.name) (t', p.2) L).map fun p => (p.1.name, pVal p.2)) :=
    put_by (key := fun p : TenD × Nat => p.1.name) (fun p => pVal p.2) (t', p.2) h.rise
  have hnd : ∀ q ∈ L, q.1.name ≠ t'.name → q.2 ≠ p.2 := fun q hq hne e => by
    have := nodup_inj h.nd hq hp e
    rw [this, hn] at hne
    exact hne rfl
  have hkeep : ∀ g, g < w.heap.size → ¬ (B ≤ g ∧ T g = some p.2) → g ≠ m → w2.heap[g]? = w.heap[g]? := fun g hg h3 h4 => by
    rw [t2.block g (by omega) h4, t1.block g hg h3]
  refine ⟨fun g => if g < w.heap.size then T g else some p.2, _, ?_, rfl⟩
  exact {
    blk := (hkeep l hl (fun e => by rw [h.tl] at e; cases e.2) h.lm.symm).trans h.blk
    ten := by
      have := tight own2
      rw [hput, size_by] at this
      exact this
    rise := insBy_rise h.rise
    idx := fun q hq => by
      rcases mem_ins h.rise hq with rfl | ⟨hq, hne⟩
      · refine hi.keep fun g hg hs => ⟨t2.block g hg (fun e => ?_), ?_, ?_⟩
        · subst e
          rcases hs with hs | hs
          · rw [h.tm] at hs; cases hs.2
          · omega
        · omega
        · show (if g < w.heap.size then T g else some p.2) = some p.2
          by_cases hg' : g < w.heap.size
          · rw [if_pos hg']
            rcases hs with hs | hs
            · exact hs.2
            · omega
          · rw [if_neg hg']
      · refine ((h.idx q hq).mono hM).keep fun g hg hs => ⟨hkeep g hg (fun e => ?_) (fun e => by rw [e, h.tm] at hs; cases hs.2), hs.1, ?_⟩
        · have := hnd q hq hne
          rw [e.2] at hs
          exact this (Option.some.inj hs.2).symm
        · show (if g < w.heap.size then T g else some p.2) = _
          rw [if_pos hg]; exact hs.2
    nd := by
      rw [map_ins (key := fun p : TenD × Nat => p.1.name) (a := (t', p.2)) (·.2) h.rise hp hn.symm rfl]
      exact h.nd
    tl := by show (if l < w.heap.size then T l else _) = none; rw [if_pos hl]; exact h.tl
    tm := by show (if m < w.heap.size then T m else _) = none; rw [if_pos hm]; exact h.tm
    lB := h.lB
    mB := h.mB }
/-- The ledger with one index left out, whatever became of that one's own blocks. -/
theorem led_del {w w1 w2 : World} {B : Nat} {T : Nat → Option Nat} {l m n : Nat} {c : CfgD} {now : Int} {L : List (TenD × Nat)} {M : Nat} {k : ByteArray} {S : Nat → Prop} (h : LedS w B T l m c now L M) (hS : ∀ g, S g → ∀ q ∈ L, q.1.name ≠ k → T g ≠ some q.2) (hS2 : ∀ g, g < w.heap.size → S g → T g ≠ none)
    (t1 : Turn S w w1) (t2 : Turn (· = m) w1 w2) (own2 : w2.ownsMap Tryz.prog 9 ptrElem m n (DataW.del (mapOf (L.map fun p => (p.1.name, pVal p.2))) (kL k))) :
    LedAt w2 B l m c now ((delBy (fun p : TenD × Nat => p.1.name) k L).map (·.1)) M := by
  have hl := lt_of_block h.blk
  have h1 := t1.size
  have hdel : DataW.del (mapOf (L.map fun p => (p.1.name, pVal p.2))) (kL k) = mapOf ((delBy (fun p : TenD × Nat => p.1.name) k L).map fun p => (p.1.name, pVal p.2)) :=
    del_by (key := fun p : TenD × Nat => p.1.name) (fun p => pVal p.2) k L
  have hkeep : ∀ g, g < w.heap.size → ¬ S g → g ≠ m → w2.heap[g]? = w.heap[g]? := fun g hg h3 h4 => by
    rw [t2.block g (by omega) h4, t1.block g hg h3]
  refine ⟨T, _, ?_, rfl⟩
  exact {
    blk := (hkeep l hl (fun e => hS2 l hl e h.tl) h.lm.symm).trans h.blk
    ten := by
      have := tight own2
      rw [hdel, size_by] at this
      exact this
    rise := delBy_rise h.rise
    idx := fun q hq => by
      obtain ⟨hq, hne⟩ := mem_delBy.1 hq
      exact (h.idx q hq).keep fun g hg hs => ⟨hkeep g hg (fun e => hS g e q hq hne hs.2) (fun e => by rw [e, h.tm] at hs; cases hs.2), hs⟩
    nd := h.nd.sublist (List.Sublist.map _ List.filter_sublist)
    tl := h.tl
    tm := h.tm
    lB := h.lB
    mB := h.mB }

theorem led_len {w : World} {B l m : Nat} {T : Nat → Option Nat} {c : CfgD} {now : Int} {L : List (TenD × Nat)} {M : Nat} (_ : LedS w B T l m c now L M) : (L.map (·.1)).length = L.length := List.length_map _
theorem isNone_led {L : List (TenD × Nat)} {k : ByteArray} : getBy (·.name) k (L.map (·.1)) = (getBy (fun p : TenD × Nat => p.1.name) k L).map (·.1) := ten_led rfl k

end Go.Proofs.YtpajhkikcofhfaaGreatDoor

namespace Go.Proofs.YtpajhkikcofhfaaGreatDoor

/-- The tenants behind admit, and its answer. -/
def admL (c : CfgD) (now : Int) (ts : List TenD) (tenant key : ByteArray) : List TenD × Nat :=
  if (tnameB tenant && keyOK key) = false then (ts, 5)
  else if (getBy (·.s) key (tenOf ts tenant).sers).isSome = true then (insBy (·.name) (addT (tenOf ts tenant) key now) ts, 1)
  else if (if (tenOf ts tenant).limit = -1 then c.tl else (tenOf ts tenant).limit) ≤ ((tenOf ts tenant).sers.length : Nat) ∨ ((getBy (·.name) tenant ts).isNone && decide (10000 ≤ ts.length)) = true then (ts, 3)
  else if metLim (tenOf ts tenant).mets (metK key) c.ml ≤ (cntM metK (tenOf ts tenant).sers (metK key) : Nat) then (ts, 4)
  else (insBy (·.name) (addT (tenOf ts tenant) key now) ts, 2)
theorem tenOf_lim {win now : Int} {ts : List TenD} (h : tensB win now ts = true) {name : ByteArray} : -1 ≤ (tenOf ts name).limit ∧ (tenOf ts name).limit ≤ 1000000 := by
  rcases tenOf_in (ts := ts) (name := name) with ⟨h1, _⟩ | ⟨h1, _⟩
  · have := tens_at h _ h1
    simp only [tenB, Bool.and_eq_true] at this
    exact btw_in this.1.1.1.2
  · rw [h1]; exact ⟨by simp, by simp⟩
theorem admL_eq {c : CfgD} {now : Int} {ts : List TenD} (h : stateB c now ts = true) (tenant key : ByteArray) : admitV c now ts tenant key = (now, (admL c now ts tenant key).1, (admL c now ts tenant key).2) := by
  obtain ⟨_, _, _, hlen, ht⟩ := tens_of h
  unfold admitV admL
  rw [if_neg (by rw [h]; simp)]
  by_cases h1 : (tnameB tenant && keyOK key) = false
  · rw [if_pos h1, if_pos h1]
  · rw [if_neg h1, if_neg h1]
    by_cases h2 : (getBy (·.s) key (tenOf ts tenant).sers).isSome = true
    · rw [if_pos h2, if_pos h2]
    · rw [if_neg h2, if_neg h2]
      have hk : (metK key).toList.isEmpty = false := by
        have : (tnameB tenant && keyOK key) = true := by simpa using h1
        simp only [Bool.and_eq_true, keyOK] at this
        simpa using this.2
      have hc1 : countV c (tenOf ts tenant) ByteArray.empty = ((((tenOf ts tenant).sers.length : Nat) : Int), if (tenOf ts tenant).limit = -1 then c.tl else (tenOf ts tenant).limit) := by
        unfold countV
        rw [if_pos (show ByteArray.empty.toList.isEmpty = true by rw [ByteArray.toList_eq]; rfl)]
        have := (tenOf_lim ht (name := tenant)).1
        by_cases hl : (tenOf ts tenant).limit = -1
        · rw [if_pos hl, if_pos (by omega)]
        · rw [if_neg hl, if_neg (by omega)]
      have hc2 : countV c (tenOf ts tenant) (metK key) = (((cntM metK (tenOf ts tenant).sers (metK key) : Nat) : Int), metLim (tenOf ts tenant).mets (metK key) c.ml) := by
        unfold countV
        rw [if_neg (by rw [hk]; simp)]
      have hid := tenOf_idle ht (name := tenant)
      rw [hc1, hc2]
      simp only
      have hiff : (idleB (tenOf ts tenant) = true ∧ ts.length = 10000) ↔ ((getBy (·.name) tenant ts).isNone && decide (10000 ≤ ts.length)) = true := by
        rw [hid, Bool.and_eq_true, decide_eq_true_eq]
        cases getBy (·.name) tenant ts with
        | none => simp; omega
        | some q => simp
      simp only [hiff]
      generalize (if (tenOf ts tenant).limit = -1 then c.tl else (tenOf ts tenant).limit) = LM
      split
      · rfl
      · split <;> rfl
theorem cntM_names {met : ByteArray → ByteArray} {l l' : List PairD} (h : l.map (·.s) = l'.map (·.s)) (m : ByteArray) : cntM met l m = cntM met l' m := by
  have : ∀ l : List PairD, cntM met l m = ((l.map (·.s)).filter fun s => (met s).toList == m.toList).length := fun l => by
    unfold cntM
    rw [List.filter_map, List.length_map]
    rfl
  rw [this, this, h]
end Go.Proofs.YtpajhkikcofhfaaGreatDoor

namespace Go.Proofs.YtpajhkikcofhfaaGreatDoor
open Go.RowKit Go.Maps

/-- The index with one series seen again. -/
theorem IdxS.seen {w w' : World} {S : Nat → Prop} {x : Nat} {t : TenD} {M lm sm cm : Nat} {iv : Value} {Q : List (PairD × Nat)} {hs : List SgD} {D : DataW Unit} {q : PairD × Nat} {now : Int} (h : IdxS w S x t M lm sm cm iv Q hs D) (hq : q ∈ Q) (hn : q.1.n ≤ now) (ht : Turn (· = q.2) w w')
    (hb : Blk w' q.2 #[.string q.1.s, .int .i64 now] 102) : IdxAt w' S x (addT t q.1.s now) M := by
  have hrq : RiseBy (fun q : PairD × Nat => q.1.s) Q := by
    rw [← riseBy_map (key' := fun p : PairD => p.s) (fun q : PairD × Nat => q.1) (fun _ => rfl), h.q1]
    exact h.rs
  have hmap : ∀ {β : Type} (f : PairD × Nat → β), f q = f ((⟨q.1.s, now⟩ : PairD), q.2) → (insBy (fun q : PairD × Nat => q.1.s) ((⟨q.1.s, now⟩ : PairD), q.2) Q).map f = Q.map f := fun f hf =>
    map_ins (key := fun q : PairD × Nat => q.1.s) (a := ((⟨q.1.s, now⟩ : PairD), q.2)) f hrq hq rfl hf
  have hlen : (insBy (fun q : PairD × Nat => q.1.s) ((⟨q.1.s, now⟩ : PairD), q.2) Q).length = Q.length := by
    have := congrArg List.length (hmap (fun q => q.2) rfl)
    simpa using this
  have hmem : ∀ p, p ∈ insBy (fun q : PairD × Nat => q.1.s) ((⟨q.1.s, now⟩ : PairD), q.2) Q → p = ((⟨q.1.s, now⟩ : PairD), q.2) ∨ (p ∈ Q ∧ p.2 ≠ q.2) := fun p hp => by
    rcases mem_ins hrq hp with e | ⟨hp, hne⟩
    · exact Or.inl e
    · refine Or.inr ⟨hp, fun e => ?_⟩
      have := nodup_inj h.nd hp hq e
      rw [this] at hne
      exact hne rfl
  have hq1 : (insBy (fun q : PairD × Nat => q.1.s) ((⟨q.1.s, now⟩ : PairD), q.2) Q).map (·.1) = (addT t q.1.s now).sers := by
    rw [insBy_map (key' := fun p : PairD => p.s) (fun q : PairD × Nat => q.1) (fun _ => rfl), h.q1]
    rfl
  refine ⟨lm, sm, cm, iv, insBy (fun q : PairD × Nat => q.1.s) ((⟨q.1.s, now⟩ : PairD), q.2) Q, hs, D, ?_⟩
  exact { h with
    blk := ht.blk h.blk (h.dx q hq).symm
    lims := ht.map h.lims (map_ne_cells h.lims (h.cells q hq))
    sers := by
      rw [hlen, hmap (fun q => (q.1.s, pVal q.2)) rfl]
      exact ht.map h.sers (map_ne_cells h.sers (h.cells q hq))
    cnts := ht.map h.cnts (map_ne_cells h.cnts (h.cells q hq))
    cnt := fun m => by
      rw [h.cnt m]
      have : t.sers.map (·.s) = (addT t q.1.s now).sers.map (·.s) := by
        rw [← hq1, ← h.q1, List.map_map, List.map_map]
        exact (hmap ((fun p : PairD => p.s) ∘ fun q : PairD × Nat => q.1) rfl).symm
      rw [cntM_names this m]
    q1 := hq1
    cells := fun p hp => by
      rcases hmem p hp with rfl | ⟨hp, hne⟩
      · exact hb
      · exact ht.blk (h.cells p hp) hne
    row := ht.row h.row (fun g hg e => (h.di g hg).2 q hq e.symm)
    perm := by rw [hmap (fun q => q.2) rfl]; exact h.perm
    early := fun s hs' p hp e => by
      rcases hmem p hp with rfl | ⟨hp, _⟩
      · exact Int.le_trans (h.early s hs' q hq e) hn
      · exact h.early s hs' p hp e
    rs := insBy_rise h.rs
    sq := fun p hp => by
      rcases hmem p hp with rfl | ⟨hp, _⟩
      · exact h.sq q hq
      · exact h.sq p hp
    nd := by rw [hmap (fun q => q.2) rfl]; exact h.nd
    dx := fun p hp => by
      rcases hmem p hp with rfl | ⟨hp, _⟩
      · exact h.dx q hq
      · exact h.dx p hp
    di := fun g hg => ⟨(h.di g hg).1, fun p hp => by
      rcases hmem p hp with rfl | ⟨hp, _⟩
      · exact (h.di g hg).2 q hq
      · exact (h.di g hg).2 p hp⟩ }
/-- The ledger with one index turned, in its own blocks alone. -/
theorem led_turn {w w1 : World} {B : Nat} {T : Nat → Option Nat} {l m : Nat} {c : CfgD} {now : Int} {L : List (TenD × Nat)} {M M' : Nat} {p : TenD × Nat} {t' : TenD} (h : LedS w B T l m c now L M) (hB : B ≤ w.heap.size) (hp : p ∈ L) (hn : t'.name = p.1.name)
    (t1 : Turn (fun g => B ≤ g ∧ T g = some p.2) w w1) (hi : IdxAt w1 (fun g => (B ≤ g ∧ T g = some p.2) ∨ w.heap.size ≤ g) p.2 t' M') (hM : M ≤ M') :
    LedAt w1 B l m c now ((insBy (fun p : TenD × Nat => p.1.name) (t', p.2) L).map (·.1)) M' := by
  refine led_put (n := L.length) h hB hp hn t1 hi hM (Turn.refl _ w1) ?_
  have hput : DataW.put (mapOf (L.map fun p => (p.1.name, pVal p.2))) (kL t'.name) (pVal p.2) = mapOf ((insBy (fun p : TenD × Nat => p.1.name) (t', p.2) L).map fun p => (p.1.name, pVal p.2)) :=
    put_by (key := fun p : TenD × Nat => p.1.name) (fun p => pVal p.2) (t', p.2) h.rise
  have hmap : (insBy (fun p : TenD × Nat => p.1.name) (t', p.2) L).map (fun p => (p.1.name, pVal p.2)) = L.map fun p => (p.1.name, pVal p.2) :=
    map_ins (key := fun p : TenD × Nat => p.1.name) (a := (t', p.2)) (fun p : TenD × Nat => (p.1.name, pVal p.2)) h.rise hp hn.symm (by simp [hn])
  rw [hput, hmap]
  exact t1.map h.ten (fun e => by rw [h.tm] at e; cases e.2)
theorem LedAt.mono {w : World} {B l m : Nat} {c : CfgD} {now : Int} {ts : List TenD} {M M' : Nat} (h : LedAt w B l m c now ts M) (hM : M ≤ M') : LedAt w B l m c now ts M' := by
  obtain ⟨T, L, h, e⟩ := h
  exact ⟨T, L, { h with idx := fun p hp => (h.idx p hp).mono hM }, e⟩
theorem zeroSerA (w : World) : (zeroValue 92).run Tryz.prog w = .ok (.pointer none) w := by kernel_rfl
/-- The look-up of a series. -/
theorem look_serA {w : World} {sm : Nat} {Q : List (PairD × Nat)} (h : w.ownsMap Tryz.prog 9 ptrElem sm Q.length (mapOf (Q.map fun q => (q.1.s, pVal q.2)))) {key : ByteArray} (hk : key.size ≤ maxLen) :
    (∃ q, getBy (fun q : PairD × Nat => q.1.s) key Q = some q ∧ (Instr.lookup 95 (.map (some sm)) (.string key) true).run Tryz.prog w = .ok (.tuple #[.pointer (some ⟨q.2, 0, none⟩), .bool true]) w) ∨
    (getBy (fun q : PairD × Nat => q.1.s) key Q = none ∧ (Instr.lookup 95 (.map (some sm)) (.string key) true).run Tryz.prog w = .ok (.tuple #[.pointer none, .bool false]) w) := by
  obtain ⟨v, ps, hrun, hv⟩ := h.look_ok keyed Tryz.underlying95 (zeroSerA w) (zd := .nil) (zp := []) rfl (key_mk hk)
  rw [has_by (key := fun q : PairD × Nat => q.1.s) (val := fun q => pVal q.2)] at hrun
  rw [atKey_by (key := fun q : PairD × Nat => q.1.s) (fun q => pVal q.2)] at hv
  cases hg : getBy (fun q : PairD × Nat => q.1.s) key Q with
  | some q =>
    rw [hg] at hrun hv
    have hve : v = .pointer (some ⟨q.2, 0, none⟩) := ptrElem_inv hv
    subst hve
    exact Or.inl ⟨q, rfl, hrun⟩
  | none =>
    rw [hg] at hrun hv
    have hve : v = .pointer none := ptrElem_nil hv
    subst hve
    exact Or.inr ⟨rfl, hrun⟩
end Go.Proofs.YtpajhkikcofhfaaGreatDoor

