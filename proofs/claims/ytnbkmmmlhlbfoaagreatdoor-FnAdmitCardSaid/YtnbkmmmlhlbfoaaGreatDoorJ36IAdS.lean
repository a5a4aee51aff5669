import Derived.Test.YtnbkmmmlhlbfoaaGreatDoorProg
import Derived.Test.YtnbkmmmlhlbfoaaGreatDoorJ28ITell
import Derived.Test.YtnbkmmmlhlbfoaaGreatDoorJ19HpM
import Derived.Test.YtnbkmmmlhlbfoaaGreatDoorJ10RecB
import Derived.Test.YtnbkmmmlhlbfoaaGreatDoorJ23IdxA
import Derived.Maps.OwnSet
namespace Go.Proofs.YtnbkmmmlhlbfoaaGreatDoor
open Go.RowKit Go.Maps
theorem ten_led {L : List (TenD × Nat)} {ts : List TenD} (e : L.map (·.1) = ts) (k : ByteArray) : getBy (·.name) k ts = (getBy (fun p : TenD × Nat => p.1.name) k L).map (·.1) := by
  subst e
  exact getBy_map (key := fun p : TenD × Nat => p.1.name) (key' := (·.name)) (·.1) (fun _ => rfl) k L
def TenOut (c : CfgD) (now : Int) (ts : List TenD) (l m : Nat) (tenant : ByteArray) (w : World) (e : Ending) (w' : World) : Prop :=
  ∃ x b S M', e = .returned (.tuple #[.pointer (some ⟨x, 0, none⟩), .bool b]) ∧ IdxAt w' S x (tenOf ts tenant) M' ∧ Blk w' l (ledV c now m) 87 ∧ Below w.heap.size w w'
theorem find_ten (l m : Nat) (tenant : ByteArray) (c : CfgD) (now : Int) (B : Nat) (ts : List TenD) (M : Nat) (w : World) (h : LedAt w B l m c now ts M) (hn : tenant.size ≤ maxLen) :
    Calls Tryz.prog 50 #[.pointer (some ⟨l, 0, none⟩), .string tenant] w fun e w' => TenOut c now ts l m tenant w e w' := by
  obtain ⟨T, L, h, e⟩ := h
  refine (find_any l m tenant c now B T L M w h hn).mono ?_
  rintro en w1 (⟨p, hg, rfl, rfl⟩ | ⟨hg, x, rfl, hx, hi, hb⟩)
  · have ht : tenOf ts tenant = p.1 := by rw [tenOf, ten_led e, hg]; rfl
    refine ⟨p.2, true, (fun g => B ≤ g ∧ T g = some p.2), M, rfl, ?_, h.blk, Below.refl _ _⟩
    rw [ht]
    exact h.idx p (getBy_mem hg).1
  · have ht : tenOf ts tenant = ⟨tenant, -1, [], []⟩ := by rw [tenOf, ten_led e, hg]; rfl
    refine ⟨x, false, (fun g => w.heap.size ≤ g), 0, rfl, ?_, h.blk.later hb, hb⟩
    rw [ht]
    exact hi
theorem look_cnt {w : World} {cm M : Nat} {D : DataW Unit} {m : ByteArray} {n : Nat} (h : w.ownsMap Tryz.prog 9 (plainElem Tryz.prog 3) cm M D) (hc : D.atKey (kL m) (iVal 0) = iVal n) (hm : m.size ≤ maxLen) :
    (Instr.lookup 93 (.map (some cm)) (.string m) false).run Tryz.prog w = .ok (.int .i64 n) w := by
  obtain ⟨v, hrun, hat, _⟩ := h.lookup_int keyed Tryz.underlying93 Tryz.underlying3 (zeroInt _) (key_mk hm)
  rw [hrun]
  have : (iVal v : DataW Unit) = iVal n := hat.symm.trans hc
  simp [iVal] at this
  rw [this]
set_option maxRecDepth 100000 in
set_option maxHeartbeats 2000000 in
theorem count_any (l m : Nat) (tenant met : ByteArray) (c : CfgD) (now : Int) (B : Nat) (ts : List TenD) (M : Nat) (w : World) (h : LedAt w B l m c now ts M) (hn : tenant.size ≤ maxLen) (hm : met.size ≤ maxLen) (hlim : -1 ≤ (tenOf ts tenant).limit) :
    Calls Tryz.prog 32 #[.pointer (some ⟨l, 0, none⟩), .string tenant, .string met] w fun e w' => e = .returned (.tuple #[.int .i64 (countV c (tenOf ts tenant) met).1, .int .i64 (countV c (tenOf ts tenant) met).2]) ∧ Below w.heap.size w w' := by
  have HFI : Hid (Calls Tryz.prog 50 #[.pointer (some ⟨l, 0, none⟩), .string tenant] w fun e w' => TenOut c now ts l m tenant w e w') := find_ten l m tenant c now B ts M w h hn
  clear h
  unfold TenOut at HFI
  generalize tenOf ts tenant = t at *
  by_cases he : met.toList.isEmpty = true
  · have HV : Hid (countV c t met = (((t.sers.length : Nat) : Int), if t.limit = -1 then c.tl else t.limit)) := by
      show _ = _
      unfold countV
      rw [if_pos he]
      by_cases h1 : t.limit = -1
      · rw [if_pos h1, if_pos (by omega)]
      · rw [if_neg h1, if_neg (by omega)]
    go_enter Tryz.func32, Tryz.ntmps32
    go_wp2_with fail
    refine HFI.out.mono ?_
    rintro e w1 ⟨x, b, S, M', rfl, hi, hl, hb⟩
    have HLO : Hid (Calls Tryz.prog 51 #[.pointer (some ⟨l, 0, none⟩), .pointer (some ⟨x, 0, none⟩)] w1 fun e w' => e = .returned (.int .i64 (if t.limit = -1 then c.tl else t.limit)) ∧ w' = w1) := limitOf_any l m x c now t S M' w1 hl hi
    obtain ⟨lm, sm, cm, iv, Q, hs, D, hi⟩ := hi
    have c2 : w1.cell? ⟨x, 2, none⟩ = some (.map (some sm)) := hi.blk.cell 2
    have l2 := hi.sers.len Tryz.underlying94 3
    rw [size_by] at l2
    have hq : Q.length = t.sers.length := by rw [← hi.q1, List.length_map]
    rw [hq] at l2
    have HB := hid hb
    clear hi hl hq hb HFI
    generalize (if t.limit = -1 then c.tl else t.limit) = LM at *
    generalize t.sers.length = NS at *
    go_wp2_with fail
    refine HLO.out.mono ?_
    rintro e w2 ⟨rfl, hw⟩
    replace hw := hw.symm
    subst hw
    go_wp2
    go_ret2
    exact ⟨ret_two (by rw [HV.out]) (by rw [HV.out]), HB.out⟩
  · have he' : met.toList.isEmpty = false := by simpa using he
    have HV : Hid (countV c t met = (((cntM metK t.sers met : Nat) : Int), metLim t.mets met c.ml)) := by show _ = _; unfold countV; rw [if_neg he]
    go_enter Tryz.func32, Tryz.ntmps32
    clear he
    go_wp2_with fail
    refine HFI.out.mono ?_
    rintro e w1 ⟨x, b, S, M', rfl, hi, hl, hb⟩
    have HML : Hid (∀ y : Later w1, Calls Tryz.prog 53 #[.pointer (some ⟨l, 0, none⟩), .pointer (some ⟨x, 0, none⟩), .string met] y.w' fun e w' => e = .returned (.int .i64 (metLim t.mets met c.ml)) ∧ w' = y.w') := fun y => metricLimitOf_any l m x c now t S M' met y.w' (hl.later y.h) (hi.later y.h) hm
    have HC : Hid (∀ y : Later w1, ∃ cm, y.w'.cell? ⟨x, 3, none⟩ = some (.map (some cm)) ∧ (Instr.lookup 93 (.map (some cm)) (.string met) false).run Tryz.prog y.w' = .ok (.int .i64 (cntM metK t.sers met)) y.w') := fun y => by
      obtain ⟨lm, sm, cm, iv, Q, hs, D, hi⟩ := hi.later y.h
      exact ⟨cm, hi.blk.cell 3, look_cnt hi.cnts (hi.cnt met) hm⟩
    obtain ⟨lm, sm, cm, iv, Q, hs, D, hi⟩ := hi
    have c3 : w1.cell? ⟨x, 3, none⟩ = some (.map (some cm)) := hi.blk.cell 3
    have d3 := Later.cells c3
    have hrun : ∀ y : Later w1, (Instr.lookup 93 (.map (some cm)) (.string met) false).run Tryz.prog y.w' = .ok (.int .i64 (cntM metK t.sers met)) y.w' := fun y => by
      obtain ⟨cm', h1, h2⟩ := HC.out y
      rw [d3 y] at h1
      cases h1
      exact h2
    have HB := hid hb
    have hnel := Later.there w1
    clear hi hl hb HFI HC c3
    generalize cntM metK t.sers met = NC at *
    generalize metLim t.mets met c.ml = NL at *
    go_wp2_with fail
    refine wp_region_later (by kernel_rfl) (by kernel_rfl) ?_
    repeat (go_big_quiet_step (first | (go_at_call 53; exact calls_later_same (HML.out _)) | fail))
    refine wpQuiet_nil ?_
    rintro _ ⟨y, rfl⟩
    go_wp2
    go_ret2
    exact ⟨ret_two (by rw [HV.out]) (by rw [HV.out]), bto HB.out y.h⟩
end Go.Proofs.YtnbkmmmlhlbfoaaGreatDoor
namespace Go.Proofs.YtnbkmmmlhlbfoaaGreatDoor
open Go.RowKit Go.Maps
set_option maxRecDepth 100000 in
set_option maxHeartbeats 1000000 in
theorem isMetricChoice_any (s : ByteArray) (w : World) (hs : s.size ≤ 1000000000) (hT : UTab w) : Calls Tryz.prog 31 #[.string s] w fun e w' => e = .returned (.bool (s.toList.isEmpty || mnameB s)) ∧ Below w.heap.size w w' := by
  have HM : Hid (Calls Tryz.prog 62 #[.string s] w fun e w' => e = .returned (.bool (mnameB s)) ∧ Below w.heap.size w w') := isMetricName_any s w hs hT
  clear hT
  by_cases h0 : s.toList.isEmpty = true
  · have HV : Hid ((s.toList.isEmpty || mnameB s) = true) := by show _ = _; rw [h0]; rfl
    go_enter Tryz.func31, Tryz.ntmps31
    go_wp2
    go_ret
    exact ⟨ret_bool (by rw [HV.out]), Below.refl _ _⟩
  · have h1 : s.toList.isEmpty = false := by simpa using h0
    have HV : Hid ((s.toList.isEmpty || mnameB s) = mnameB s) := by show _ = _; rw [h1]; rfl
    clear h0
    go_enter Tryz.func31, Tryz.ntmps31
    go_wp2_with fail
    refine HM.out.mono ?_
    rintro e w1 ⟨rfl, hb⟩
    have HB := hid hb
    clear hb
    go_wp2
    go_ret
    exact ⟨ret_bool (by rw [HV.out]), HB.out⟩
theorem lim_of {c : CfgD} {now : Int} {ts : List TenD} (h : stateB c now ts = true) (k : ByteArray) : -1 ≤ (tenOf ts k).limit := by
  have ht : tensB c.w now ts = true := by
    rw [stateB, Bool.and_eq_true] at h
    exact h.2
  unfold tenOf
  cases hg : getBy (·.name) k ts with
  | none => exact Int.le_refl _
  | some t =>
    obtain ⟨i, hi, e⟩ := List.getElem_of_mem (getBy_mem hg).1
    have h1 := allTo_at ht hi
    rw [tenAt, List.getElem?_eq_getElem hi, e] at h1
    have h2 : btwB t.limit (-1) 1000000 = true := by
      cases hb : btwB t.limit (-1) 1000000 with
      | true => rfl
      | false => simp [tenB, hb] at h1
    exact (btw_in h2).1
set_option maxRecDepth 100000 in
set_option maxHeartbeats 2000000 in
theorem implCountOf_any (c : CfgD) (now : Int) (a : Option Addr) (cap : Nat) (ts : List TenD) (tenant met : ByteArray) (M : Nat) (w : World) (hf : TensIn w a ts) (hfit : FitT ts M) (hlen : ts.length ≤ 1000000000) (hU : UTab w) (hn : tenant.size ≤ 1048576) (hm : met.size ≤ 1048576) :
    Calls Tryz.prog 9 #[cfgV c, .agg #[.int .i64 now, .slice a ts.length cap], .string tenant, .string met] w fun e w' => e = .returned (.tuple #[.int .i64 (countOfV c now ts tenant met).1, .int .i64 (countOfV c now ts tenant met).2]) ∧ Below w.heap.size w w' := by
  have HO : Hid (∀ W, Below w.heap.size w W → Calls Tryz.prog 25 #[cfgV c, .agg #[.int .i64 now, .slice a ts.length cap]] W fun e w' => OpenOut c now ts M W e w') := fun W hW => open_any c now a cap ts M W (hf.later hW) hfit hlen (hU.later hW)
  have HT : Hid (∀ W, Calls Tryz.prog 30 #[.string tenant] W fun e w' => e = .returned (.bool (tnameB tenant)) ∧ w' = W) := fun W => isTenantName_any tenant W (by unfold maxLen; omega)
  have HM : Hid (∀ W, Below w.heap.size w W → Calls Tryz.prog 31 #[.string met] W fun e w' => e = .returned (.bool (met.toList.isEmpty || mnameB met)) ∧ Below W.heap.size W w') := fun W hW => isMetricChoice_any met W (by omega) (hU.later hW)
  have HN : Hid (∀ l m B W, stateB c now ts = true → LedAt W B l m c now ts M → Calls Tryz.prog 32 #[.pointer (some ⟨l, 0, none⟩), .string tenant, .string met] W fun e w' => e = .returned (.tuple #[.int .i64 (countV c (tenOf ts tenant) met).1, .int .i64 (countV c (tenOf ts tenant) met).2]) ∧ Below W.heap.size W w') := fun l m B W hs h => count_any l m tenant met c now B ts M W h (by unfold maxLen; omega) (by unfold maxLen; omega) (lim_of hs tenant)
  have HV : Hid (countOfV c now ts tenant met = if (stateB c now ts && tnameB tenant && (met.toList.isEmpty || mnameB met)) = true then countV c (tenOf ts tenant) met else (-1, -1)) := rfl
  clear hf hfit hU
  unfold OpenOut at HO
  unfold cfgV at *
  generalize tnameB tenant = b1 at *
  generalize (met.toList.isEmpty || mnameB met) = b2 at *
  go_enter Tryz.func9, Tryz.ntmps9
  go_wp2_with fail
  refine (HO.out _ (bto (bnew _ _) (bnew _ _))).mono ?_
  intro e w1 hx
  have HX := hid hx
  clear hx
  rcases HX.out with ⟨hs, rfl, hb⟩ | ⟨hs, l, m, rfl, _, hled, hb⟩
  · have HB : Hid (Below w.heap.size w w1) := bto (bto (bnew _ _) (bnew _ _)) hb
    have HV2 : Hid (countOfV c now ts tenant met = (-1, -1)) := by show _ = _; rw [HV.out, hs]; rfl
    clear HX hb hs
    go_wp2
    go_ret2
    exact ⟨ret_two (by rw [HV2.out]) (by rw [HV2.out]), HB.out⟩
  · have HB : Hid (Below w.heap.size w w1) := bto (bto (bnew _ _) (bnew _ _)) hb
    have HSB : Hid (stateB c now ts = true) := hs
    have HL := hid hled
    clear HX hb hs hled HO
    by_cases h1 : b1 = false
    · have HV2 : Hid (countOfV c now ts tenant met = (-1, -1)) := by show _ = _; rw [HV.out, h1]; simp
      subst h1
      go_wp2_with fail
      refine (HT.out _).mono ?_
      rintro e w2 ⟨rfl, hw⟩
      replace hw := hw.symm
      subst hw
      go_wp2
      go_ret2
      exact ⟨ret_two (by rw [HV2.out]) (by rw [HV2.out]), HB.out⟩
    have h1' : b1 = true := by simpa using h1
    subst h1'
    clear h1
    by_cases h2 : b2 = false
    · have HV2 : Hid (countOfV c now ts tenant met = (-1, -1)) := by show _ = _; rw [HV.out, h2]; simp
      subst h2
      go_wp2_with fail
      refine (HT.out _).mono ?_
      rintro e w2 ⟨rfl, hw⟩
      replace hw := hw.symm
      subst hw
      go_wp2_with fail
      refine (HM.out _ HB.out).mono ?_
      rintro e w3 ⟨rfl, hb3⟩
      have HB3 : Hid (Below w.heap.size w w3) := bto HB.out hb3
      clear hb3
      go_wp2
      go_ret2
      exact ⟨ret_two (by rw [HV2.out]) (by rw [HV2.out]), HB3.out⟩
    have h2' : b2 = true := by simpa using h2
    subst h2'
    clear h2
    have HV2 : Hid (countOfV c now ts tenant met = countV c (tenOf ts tenant) met) := by show _ = _; rw [HV.out, HSB.out]; rfl
    clear HV
    generalize countV c (tenOf ts tenant) met = RV at *
    go_wp2_with fail
    refine (HT.out _).mono ?_
    rintro e w2 ⟨rfl, hw⟩
    replace hw := hw.symm
    subst hw
    go_wp2_with fail
    refine (HM.out _ HB.out).mono ?_
    rintro e w3 ⟨rfl, hb3⟩
    have HB3 : Hid (Below w.heap.size w w3) := bto HB.out hb3
    have HL3 : Hid (LedAt w3 _ l m c now ts M) := hid (HL.out.later hb3)
    clear hb3
    go_wp2_with fail
    refine (HN.out l m _ _ HSB.out HL3.out).mono ?_
    rintro e w4 ⟨rfl, hb4⟩
    have HB4 : Hid (Below w.heap.size w w4) := bto HB3.out hb4
    clear hb4
    go_wp2
    go_ret2
    exact ⟨ret_two (by rw [HV2.out]) (by rw [HV2.out]), HB4.out⟩
end Go.Proofs.YtnbkmmmlhlbfoaaGreatDoor
namespace Go.Proofs.YtnbkmmmlhlbfoaaGreatDoor
open Go.RowKit Go.Maps
theorem Turn.mapped {w w' : World} {b : Nat} (h : w.mapTurned w' b) : Turn (· = b) w w' := (Turn.grown h.grown).mono fun i _ e => by simp only [Option.some.injEq] at e; exact e.symm
set_option maxRecDepth 100000 in
set_option maxHeartbeats 2000000 in
theorem full_any (l m : Nat) (c : CfgD) (now : Int) (B : Nat) (T : Nat → Option Nat) (L : List (TenD × Nat)) (M : Nat) (w : World) (h : LedS w B T l m c now L M) :
    Calls Tryz.prog 52 #[.pointer (some ⟨l, 0, none⟩)] w fun e w' => e = .returned (.bool (decide (10000 ≤ L.length))) ∧ w' = w := by
  have c7 : w.cell? ⟨l, 7, none⟩ = some (.map (some m)) := h.blk.cell 7
  have l1 := h.ten.len Tryz.underlying85 3
  rw [size_by] at l1
  clear h
  by_cases hl : 10000 ≤ L.length
  · have HV : Hid (decide (10000 ≤ L.length) = true) := by show _ = _; simpa using hl
    generalize L.length = z at *
    have hz : ¬ ((z : Int) < 10000) := by omega
    go_enter Tryz.func52, Tryz.ntmps52
    go_wp2
    go_ret
    exact ⟨ret_bool (by first | (rw [HV.out]; simp; omega) | (simp; omega) | simp), rfl⟩
  · have HV : Hid (decide (10000 ≤ L.length) = false) := by show _ = _; simpa using hl
    generalize L.length = z at *
    have hz : (z : Int) < 10000 := by omega
    go_enter Tryz.func52, Tryz.ntmps52
    go_wp2
    go_ret
    exact ⟨ret_bool (by first | (rw [HV.out]; simp; omega) | (simp; omega) | simp), rfl⟩
theorem nodup_inj {α β : Type} {f : α → β} {l : List α} (h : (l.map f).Nodup) {p q : α} (hp : p ∈ l) (hq : q ∈ l) (e : f p = f q) : p = q := by
  induction l with
  | nil => cases hp
  | cons a r ih =>
    rw [List.map_cons, List.nodup_cons] at h
    rcases List.mem_cons.1 hp with hp' | hp'
    · rcases List.mem_cons.1 hq with hq' | hq'
      · rw [hp', hq']
      · refine absurd ?_ h.1
        rw [← hp', e]
        exact List.mem_map.2 ⟨q, hq', rfl⟩
    · rcases List.mem_cons.1 hq with hq' | hq'
      · refine absurd ?_ h.1
        rw [← hq', ← e]
        exact List.mem_map.2 ⟨p, hp', rfl⟩
      · exact ih h.2 hp' hq'
theorem led_put {w w1 w2 : World} {B : Nat} {T : Nat → Option Nat} {l m n : Nat} {c : CfgD} {now : Int} {L : List (TenD × Nat)} {M M' : Nat} {p : TenD × Nat} {t' : TenD} (h : LedS w B T l m c now L M) (hB : B ≤ w.heap.size) (hp : p ∈ L) (hn : t'.name = p.1.name)
    (t1 : Turn (fun g => B ≤ g ∧ T g = some p.2) w w1) (hi : IdxAt w1 (fun g => (B ≤ g ∧ T g = some p.2) ∨ w.heap.size ≤ g) p.2 t' M') (hM : M ≤ M') (t2 : Turn (· = m) w1 w2)
    (own2 : w2.ownsMap Tryz.prog 9 ptrElem m n (DataW.put (mapOf (L.map fun p => (p.1.name, pVal p.2))) (kL t'.name) (pVal p.2))) :
    LedAt w2 B l m c now ((insBy (fun p : TenD × Nat => p.1.name) (t', p.2) L).map (·.1)) M' := by
  have hl := lt_of_block h.blk
  have hm := h.ten.lt
  have h1 := t1.size
  have hput : DataW.put (mapOf (L.map fun p => (p.1.name, pVal p.2))) (kL t'.name) (pVal p.2) = mapOf ((insBy (fun p : TenD × Nat => p.1.name) (t', p.2) L).map fun p => (p.1.name, pVal p.2)) :=
    put_by (key := fun p : TenD × Nat => p.1.name) (fun p => pVal p.2) (t', p.2) h.rise
  have hnd : ∀ q ∈ L, q.1.name ≠ t'.name → q.2 ≠ p.2 := fun q hq hne e => by
    have := nodup_inj h.nd hq hp e
    rw [this, hn] at hne
    exact hne rfl
  have hkeep : ∀ g, g < w.heap.size → ¬ (B ≤ g ∧ T g = some p.2) → g ≠ m → w2.heap[g]? = w.heap[g]? := fun g hg h3 h4 => by
    rw [t2.block g (by omega) h4, t1.block g hg h3]
  refine ⟨fun g => if g < w.heap.size then T g else some p.2, _, ?_, rfl⟩
  exact {
    blk := (hkeep l hl (fun e => by rw [h.tl] at e; cases e.2) h.lm.symm).trans h.blk
    ten := by
      have := tight own2
      rw [hput, size_by] at this
      exact this
    rise := insBy_rise h.rise
    idx := fun q hq => by
      rcases mem_ins h.rise hq with rfl | ⟨hq, hne⟩
      · refine hi.keep fun g hg hs => ⟨t2.block g hg (fun e => ?_), ?_, ?_⟩
        · subst e
          rcases hs with hs | hs
          · rw [h.tm] at hs; cases hs.2
          · omega
        · omega
        · show (if g < w.heap.size then T g else some p.2) = some p.2
          by_cases hg' : g < w.heap.size
          · rw [if_pos hg']
            rcases hs with hs | hs
            · exact hs.2
            · omega
          · rw [if_neg hg']
      · refine ((h.idx q hq).mono hM).keep fun g hg hs => ⟨hkeep g hg (fun e => ?_) (fun e => by rw [e, h.tm] at hs; cases hs.2), hs.1, ?_⟩
        · have := hnd q hq hne
          rw [e.2] at hs
          exact this (Option.some.inj hs.2).symm
        · show (if g < w.heap.size then T g else some p.2) = _
          rw [if_pos hg]; exact hs.2
    nd := by
      rw [map_ins (key := fun p : TenD × Nat => p.1.name) (a := (t', p.2)) (·.2) h.rise hp hn.symm rfl]
      exact h.nd
    tl := by show (if l < w.heap.size then T l else _) = none; rw [if_pos hl]; exact h.tl
    tm := by show (if m < w.heap.size then T m else _) = none; rw [if_pos hm]; exact h.tm
    lB := h.lB
    mB := h.mB }
theorem isNone_led {L : List (TenD × Nat)} {k : ByteArray} : getBy (·.name) k (L.map (·.1)) = (getBy (fun p : TenD × Nat => p.1.name) k L).map (·.1) := ten_led rfl k
end Go.Proofs.YtnbkmmmlhlbfoaaGreatDoor
namespace Go.Proofs.YtnbkmmmlhlbfoaaGreatDoor
open Go.RowKit Go.Maps
theorem IdxS.seen {w w' : World} {S : Nat → Prop} {x : Nat} {t : TenD} {M lm sm cm : Nat} {iv : Value} {Q : List (PairD × Nat)} {hs : List SgD} {D : DataW Unit} {q : PairD × Nat} {now : Int} (h : IdxS w S x t M lm sm cm iv Q hs D) (hq : q ∈ Q) (hn : q.1.n ≤ now) (ht : Turn (· = q.2) w w')
    (hb : Blk w' q.2 #[.string q.1.s, .int .i64 now] 50) : IdxAt w' S x (addT t q.1.s now) M := by
  have hrq : RiseBy (fun q : PairD × Nat => q.1.s) Q := by
    rw [← riseBy_map (key' := fun p : PairD => p.s) (fun q : PairD × Nat => q.1) (fun _ => rfl), h.q1]
    exact h.rs
  have hmap : ∀ {β : Type} (f : PairD × Nat → β), f q = f ((⟨q.1.s, now⟩ : PairD), q.2) → (insBy (fun q : PairD × Nat => q.1.s) ((⟨q.1.s, now⟩ : PairD), q.2) Q).map f = Q.map f := fun f hf =>
    map_ins (key := fun q : PairD × Nat => q.1.s) (a := ((⟨q.1.s, now⟩ : PairD), q.2)) f hrq hq rfl hf
  have hlen : (insBy (fun q : PairD × Nat => q.1.s) ((⟨q.1.s, now⟩ : PairD), q.2) Q).length = Q.length := by
    have := congrArg List.length (hmap (fun q => q.2) rfl)
    simpa using this
  have hmem : ∀ p, p ∈ insBy (fun q : PairD × Nat => q.1.s) ((⟨q.1.s, now⟩ : PairD), q.2) Q → p = ((⟨q.1.s, now⟩ : PairD), q.2) ∨ (p ∈ Q ∧ p.2 ≠ q.2) := fun p hp => by
    rcases mem_ins hrq hp with e | ⟨hp, hne⟩
    · exact Or.inl e
    · refine Or.inr ⟨hp, fun e => ?_⟩
      have := nodup_inj h.nd hp hq e
      rw [this] at hne
      exact hne rfl
  have hq1 : (insBy (fun q : PairD × Nat => q.1.s) ((⟨q.1.s, now⟩ : PairD), q.2) Q).map (·.1) = (addT t q.1.s now).sers := by
    rw [insBy_map (key' := fun p : PairD => p.s) (fun q : PairD × Nat => q.1) (fun _ => rfl), h.q1]
    rfl
  refine ⟨lm, sm, cm, iv, insBy (fun q : PairD × Nat => q.1.s) ((⟨q.1.s, now⟩ : PairD), q.2) Q, hs, D, ?_⟩
  exact { h with
    blk := ht.blk h.blk (h.dx q hq).symm
    lims := ht.map h.lims (map_ne_cells h.lims (h.cells q hq))
    sers := by
      rw [hlen, hmap (fun q => (q.1.s, pVal q.2)) rfl]
      exact ht.map h.sers (map_ne_cells h.sers (h.cells q hq))
    cnts := ht.map h.cnts (map_ne_cells h.cnts (h.cells q hq))
    cnt := fun m => by
      rw [h.cnt m]
      have : t.sers.map (·.s) = (addT t q.1.s now).sers.map (·.s) := by
        rw [← hq1, ← h.q1, List.map_map, List.map_map]
        exact (hmap ((fun p : PairD => p.s) ∘ fun q : PairD × Nat => q.1) rfl).symm
      rw [cntM_names this m]
    q1 := hq1
    cells := fun p hp => by
      rcases hmem p hp with rfl | ⟨hp, hne⟩
      · exact hb
      · exact ht.blk (h.cells p hp) hne
    row := ht.row h.row (fun g hg e => (h.di g hg).2 q hq e.symm)
    perm := by rw [hmap (fun q => q.2) rfl]; exact h.perm
    early := fun s hs' p hp e => by
      rcases hmem p hp with rfl | ⟨hp, _⟩
      · exact Int.le_trans (h.early s hs' q hq e) hn
      · exact h.early s hs' p hp e
    rs := insBy_rise h.rs
    sq := fun p hp => by
      rcases hmem p hp with rfl | ⟨hp, _⟩
      · exact h.sq q hq
      · exact h.sq p hp
    nd := by rw [hmap (fun q => q.2) rfl]; exact h.nd
    dx := fun p hp => by
      rcases hmem p hp with rfl | ⟨hp, _⟩
      · exact h.dx q hq
      · exact h.dx p hp
    di := fun g hg => ⟨(h.di g hg).1, fun p hp => by
      rcases hmem p hp with rfl | ⟨hp, _⟩
      · exact (h.di g hg).2 q hq
      · exact (h.di g hg).2 p hp⟩ }
theorem led_turn {w w1 : World} {B : Nat} {T : Nat → Option Nat} {l m : Nat} {c : CfgD} {now : Int} {L : List (TenD × Nat)} {M M' : Nat} {p : TenD × Nat} {t' : TenD} (h : LedS w B T l m c now L M) (hB : B ≤ w.heap.size) (hp : p ∈ L) (hn : t'.name = p.1.name)
    (t1 : Turn (fun g => B ≤ g ∧ T g = some p.2) w w1) (hi : IdxAt w1 (fun g => (B ≤ g ∧ T g = some p.2) ∨ w.heap.size ≤ g) p.2 t' M') (hM : M ≤ M') :
    LedAt w1 B l m c now ((insBy (fun p : TenD × Nat => p.1.name) (t', p.2) L).map (·.1)) M' := by
  refine led_put (n := L.length) h hB hp hn t1 hi hM (Turn.refl _ w1) ?_
  have hput : DataW.put (mapOf (L.map fun p => (p.1.name, pVal p.2))) (kL t'.name) (pVal p.2) = mapOf ((insBy (fun p : TenD × Nat => p.1.name) (t', p.2) L).map fun p => (p.1.name, pVal p.2)) :=
    put_by (key := fun p : TenD × Nat => p.1.name) (fun p => pVal p.2) (t', p.2) h.rise
  have hmap : (insBy (fun p : TenD × Nat => p.1.name) (t', p.2) L).map (fun p => (p.1.name, pVal p.2)) = L.map fun p => (p.1.name, pVal p.2) :=
    map_ins (key := fun p : TenD × Nat => p.1.name) (a := (t', p.2)) (fun p : TenD × Nat => (p.1.name, pVal p.2)) h.rise hp hn.symm (by simp [hn])
  rw [hput, hmap]
  exact t1.map h.ten (fun e => by rw [h.tm] at e; cases e.2)
theorem LedAt.mono {w : World} {B l m : Nat} {c : CfgD} {now : Int} {ts : List TenD} {M M' : Nat} (h : LedAt w B l m c now ts M) (hM : M ≤ M') : LedAt w B l m c now ts M' := by
  obtain ⟨T, L, h, e⟩ := h
  exact ⟨T, L, { h with idx := fun p hp => (h.idx p hp).mono hM }, e⟩
theorem zeroSerA (w : World) : (zeroValue 91).run Tryz.prog w = .ok (.pointer none) w := by kernel_rfl
theorem look_serA {w : World} {sm : Nat} {Q : List (PairD × Nat)} (h : w.ownsMap Tryz.prog 9 ptrElem sm Q.length (mapOf (Q.map fun q => (q.1.s, pVal q.2)))) {key : ByteArray} (hk : key.size ≤ maxLen) :
    (∃ q, getBy (fun q : PairD × Nat => q.1.s) key Q = some q ∧ (Instr.lookup 94 (.map (some sm)) (.string key) true).run Tryz.prog w = .ok (.tuple #[.pointer (some ⟨q.2, 0, none⟩), .bool true]) w) ∨
    (getBy (fun q : PairD × Nat => q.1.s) key Q = none ∧ (Instr.lookup 94 (.map (some sm)) (.string key) true).run Tryz.prog w = .ok (.tuple #[.pointer none, .bool false]) w) := by
  obtain ⟨v, ps, hrun, hv⟩ := h.look_ok keyed Tryz.underlying94 (zeroSerA w) (zd := .nil) (zp := []) rfl (key_mk hk)
  rw [has_by (key := fun q : PairD × Nat => q.1.s) (val := fun q => pVal q.2)] at hrun
  rw [atKey_by (key := fun q : PairD × Nat => q.1.s) (fun q => pVal q.2)] at hv
  cases hg : getBy (fun q : PairD × Nat => q.1.s) key Q with
  | some q =>
    rw [hg] at hrun hv
    have hve : v = .pointer (some ⟨q.2, 0, none⟩) := ptrElem_inv hv
    subst hve
    exact Or.inl ⟨q, rfl, hrun⟩
  | none =>
    rw [hg] at hrun hv
    have hve : v = .pointer none := ptrElem_nil hv
    subst hve
    exact Or.inr ⟨rfl, hrun⟩
end Go.Proofs.YtnbkmmmlhlbfoaaGreatDoor
