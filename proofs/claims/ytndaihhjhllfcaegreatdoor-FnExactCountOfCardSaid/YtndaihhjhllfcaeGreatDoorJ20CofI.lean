import Derived.Test.YtndaihhjhllfcaeGreatDoorProg
import Derived.Test.YtndaihhjhllfcaeGreatDoorJ05HpP
import Derived.Test.YtndaihhjhllfcaeGreatDoorJ19LedO
import Derived.Test.YtndaihhjhllfcaeGreatDoorJ17TName
namespace Go.Proofs.YtndaihhjhllfcaeGreatDoor
open Go.RowKit Go.Maps

theorem ptrElem_inv {v : Value} {g : Nat} {ps : List MemPlace} (h : ptrElem v = some (pVal g, ps)) : v = .pointer (some ⟨g, 0, none⟩) := by
  unfold ptrElem at h
  split at h
  · rename_i g'
    simp only [Option.some.injEq, Prod.mk.injEq, pVal, DataW.lit.injEq, Lit.int.injEq, true_and] at h
    have := h.1
    have : g' = g := by omega
    rw [this]
  · simp [pVal] at h
  · cases h
theorem ptrElem_nil {v : Value} {ps : List MemPlace} (h : ptrElem v = some (DataW.nil, ps)) : v = .pointer none := by
  unfold ptrElem at h
  split at h
  · simp [pVal] at h
  · rfl
  · cases h
theorem zeroIdx (w : World) : (zeroValue 171).run Tryz.prog w = .ok (.pointer none) w := by kernel_rfl

/-- What find hands back: the tenant's own index, or a new one that is no part of the ledger. -/
def FindOut (L : List (TenD × Nat)) (tenant : ByteArray) (w : World) (e : Ending) (w' : World) : Prop :=
  (∃ p, getBy (fun p : TenD × Nat => p.1.name) tenant L = some p ∧ e = .returned (.tuple #[.pointer (some ⟨p.2, 0, none⟩), .bool true]) ∧ w' = w) ∨
  (getBy (fun p : TenD × Nat => p.1.name) tenant L = none ∧ ∃ x, e = .returned (.tuple #[.pointer (some ⟨x, 0, none⟩), .bool false]) ∧ w.heap.size ≤ x ∧ IdxAt w' (fun g => w.heap.size ≤ g) x ⟨tenant, -1, [], []⟩ 0 ∧ Below w.heap.size w w')
set_option maxRecDepth 100000 in
set_option maxHeartbeats 2000000 in
theorem find_any (l m : Nat) (tenant : ByteArray) (c : CfgD) (now : Int) (B : Nat) (T : Nat → Option Nat) (L : List (TenD × Nat)) (M : Nat) (w : World) (h : LedS w B T l m c now L M) (hn : tenant.size ≤ maxLen) :
    Calls Tryz.prog 112 #[.pointer (some ⟨l, 0, none⟩), .string tenant] w fun e w' => FindOut L tenant w e w' := by
  have x0 : w.cell? ⟨l, 7, none⟩ = some (.map (some m)) := h.blk.cell 7
  obtain ⟨v, ps, hrun, hv⟩ := h.ten.look_ok keyed Tryz.underlying166 (zeroIdx w) (zd := .nil) (zp := []) rfl (key_mk hn)
  rw [has_by, atKey_by (key := fun p : TenD × Nat => p.1.name) (fun p => pVal p.2)] at *
  clear h
  cases hg : getBy (fun p : TenD × Nat => p.1.name) tenant L with
  | some p =>
    rw [hg] at hrun hv
    have hve : v = .pointer (some ⟨p.2, 0, none⟩) := ptrElem_inv hv
    subst hve
    have HG : Hid (getBy (fun p : TenD × Nat => p.1.name) tenant L = some p) := hg
    clear hg hv
    simp only [Option.isSome_some] at hrun
    go_enter Tryz.func112, Tryz.ntmps112
    go_wp2
    go_ret2
    exact Or.inl ⟨p, HG.out, rfl, rfl⟩
  | none =>
    rw [hg] at hrun hv
    have hve : v = .pointer none := ptrElem_nil hv
    subst hve
    have HG : Hid (getBy (fun p : TenD × Nat => p.1.name) tenant L = none) := hg
    clear hg hv
    simp only [Option.isSome_none] at hrun
    have HNI : Hid (∀ W, Calls Tryz.prog 167 #[.int .i64 (-1)] W fun e w' => ∃ x, e = .returned (.pointer (some ⟨x, 0, none⟩)) ∧ W.heap.size ≤ x ∧ IdxAt w' (fun g => W.heap.size ≤ g) x ⟨tenant, -1, [], []⟩ 0 ∧ Below W.heap.size W w') := fun W => newIndex_any (-1) tenant W
    go_enter Tryz.func112, Tryz.ntmps112
    go_wp2_with fail
    refine (HNI.out _).mono ?_
    rintro e w1 ⟨x, rfl, hx, hi, hb⟩
    have HI := hid hi
    clear hi HNI
    go_wp2
    go_ret2
    exact Or.inr ⟨HG.out, x, rfl, hx, HI.out, hb⟩

set_option maxRecDepth 100000 in
set_option maxHeartbeats 1000000 in
theorem limitOf_any (l m x : Nat) (c : CfgD) (now : Int) (t : TenD) (S : Nat → Prop) (M : Nat) (w : World) (hl : Blk w l (ledV c now m) 168) (h : IdxAt w S x t M) :
    Calls Tryz.prog 113 #[.pointer (some ⟨l, 0, none⟩), .pointer (some ⟨x, 0, none⟩)] w fun e w' => e = .returned (.int .i64 (if t.limit = -1 then c.tl else t.limit)) ∧ w' = w := by
  obtain ⟨lm, sm, cm, iv, Q, hs, D, h⟩ := h
  have c0 : w.cell? ⟨x, 0, none⟩ = some (.int .i64 t.limit) := h.blk.cell 0
  have c1 : w.cell? ⟨l, 1, none⟩ = some (.int .i64 c.tl) := hl.cell 1
  clear h hl
  by_cases hd : t.limit = -1
  · rw [if_pos hd]
    go_enter Tryz.func113, Tryz.ntmps113
    go_wp2
    go_ret
    exact ⟨rfl, rfl⟩
  · rw [if_neg hd]
    go_enter Tryz.func113, Tryz.ntmps113
    go_wp2
    go_ret
    exact ⟨rfl, rfl⟩

theorem look_lim {w : World} {lm : Nat} {ms : List PairD} (h : w.ownsMap Tryz.prog 9 (plainElem Tryz.prog 3) lm ms.length (mapOf (ms.map fun p => (p.s, iVal p.n)))) {m : ByteArray} (hm : m.size ≤ maxLen) :
    ∃ v : Int, (Instr.lookup 174 (.map (some lm)) (.string m) true).run Tryz.prog w = .ok (.tuple #[.int .i64 v, .bool (getBy (·.s) m ms).isSome]) w ∧ ∀ p, getBy (·.s) m ms = some p → v = p.n := by
  obtain ⟨v, ps, hrun, hv⟩ := h.look_ok keyed Tryz.underlying174 (zeroInt w) (zd := iVal 0) (zp := []) (plainElem_int Tryz.underlying3 (by decide)) (key_mk hm)
  rw [has_by (key := fun p : PairD => p.s) (val := fun p => iVal p.n)] at hrun
  obtain ⟨a, rfl, ha, _⟩ := plainElem_int_inv Tryz.underlying3 hv
  refine ⟨a, hrun, fun p hp => ?_⟩
  rw [atKey_by (key := fun p : PairD => p.s) (fun p => iVal p.n), hp] at ha
  simp [iVal] at ha
  exact ha.1.symm
set_option maxRecDepth 100000 in
set_option maxHeartbeats 1000000 in
theorem metricLimitOf_any (l m x : Nat) (c : CfgD) (now : Int) (t : TenD) (S : Nat → Prop) (M : Nat) (met : ByteArray) (w : World) (hl : Blk w l (ledV c now m) 168) (h : IdxAt w S x t M) (hm : met.size ≤ maxLen) :
    Calls Tryz.prog 114 #[.pointer (some ⟨l, 0, none⟩), .pointer (some ⟨x, 0, none⟩), .string met] w fun e w' => e = .returned (.int .i64 (metLim t.mets met c.ml)) ∧ w' = w := by
  obtain ⟨lm, sm, cm, iv, Q, hs, D, h⟩ := h
  have c0 : w.cell? ⟨x, 1, none⟩ = some (.map (some lm)) := h.blk.cell 1
  have c1 : w.cell? ⟨l, 2, none⟩ = some (.int .i64 c.ml) := hl.cell 2
  obtain ⟨v, hrun, hv⟩ := look_lim h.lims hm
  have HV : Hid (metLim t.mets met c.ml = ((getBy (·.s) met t.mets).map (·.n)).getD c.ml) := metLim_by h.rm met c.ml
  clear h hl
  cases hg : getBy (fun p : PairD => p.s) met t.mets with
  | some p =>
    rw [hg] at hrun HV
    have hvp := hv p hg
    subst hvp
    simp only [Option.isSome_some] at hrun
    clear hv hg
    go_enter Tryz.func114, Tryz.ntmps114
    go_wp2
    go_ret
    exact ⟨ret_int (by rw [HV.out]; rfl), rfl⟩
  | none =>
    rw [hg] at hrun HV
    simp only [Option.isSome_none] at hrun
    clear hv hg
    go_enter Tryz.func114, Tryz.ntmps114
    go_wp2
    go_ret
    exact ⟨ret_int (by rw [HV.out]; rfl), rfl⟩
end Go.Proofs.YtndaihhjhllfcaeGreatDoor

namespace Go.Proofs.YtndaihhjhllfcaeGreatDoor
open Go.RowKit Go.Maps

theorem idx_new {w w' : World} {l m B : Nat} {T : Nat → Option Nat} {c : CfgD} {now : Int} {L : List (TenD × Nat)} {M : Nat} (h : LedS w B T l m c now L M) (hb : Below w.heap.size w w') : Blk w' l (ledV c now m) 168 := h.blk.later hb
theorem ten_led {L : List (TenD × Nat)} {ts : List TenD} (e : L.map (·.1) = ts) (k : ByteArray) : getBy (·.name) k ts = (getBy (fun p : TenD × Nat => p.1.name) k L).map (·.1) := by
  subst e
  exact getBy_map (key := fun p : TenD × Nat => p.1.name) (key' := (·.name)) (·.1) (fun _ => rfl) k L
/-- What find hands back, as an index of the tenant that is meant. -/
def TenOut (c : CfgD) (now : Int) (ts : List TenD) (l m : Nat) (tenant : ByteArray) (w : World) (e : Ending) (w' : World) : Prop :=
  ∃ x b S M', e = .returned (.tuple #[.pointer (some ⟨x, 0, none⟩), .bool b]) ∧ IdxAt w' S x (tenOf ts tenant) M' ∧ Blk w' l (ledV c now m) 168 ∧ Below w.heap.size w w'
theorem find_ten (l m : Nat) (tenant : ByteArray) (c : CfgD) (now : Int) (B : Nat) (ts : List TenD) (M : Nat) (w : World) (h : LedAt w B l m c now ts M) (hn : tenant.size ≤ maxLen) :
    Calls Tryz.prog 112 #[.pointer (some ⟨l, 0, none⟩), .string tenant] w fun e w' => TenOut c now ts l m tenant w e w' := by
  obtain ⟨T, L, h, e⟩ := h
  refine (find_any l m tenant c now B T L M w h hn).mono ?_
  rintro en w1 (⟨p, hg, rfl, rfl⟩ | ⟨hg, x, rfl, hx, hi, hb⟩)
  · have ht : tenOf ts tenant = p.1 := by rw [tenOf, ten_led e, hg]; rfl
    refine ⟨p.2, true, (fun g => B ≤ g ∧ T g = some p.2), M, rfl, ?_, h.blk, Below.refl _ _⟩
    rw [ht]
    exact h.idx p (getBy_mem hg).1
  · have ht : tenOf ts tenant = ⟨tenant, -1, [], []⟩ := by rw [tenOf, ten_led e, hg]; rfl
    refine ⟨x, false, (fun g => w.heap.size ≤ g), 0, rfl, ?_, h.blk.later hb, hb⟩
    rw [ht]
    exact hi

theorem look_cnt {w : World} {cm M : Nat} {D : DataW Unit} {m : ByteArray} {n : Nat} (h : w.ownsMap Tryz.prog 9 (plainElem Tryz.prog 3) cm M D) (hc : D.atKey (kL m) (iVal 0) = iVal n) (hm : m.size ≤ maxLen) :
    (Instr.lookup 174 (.map (some cm)) (.string m) false).run Tryz.prog w = .ok (.int .i64 n) w := by
  obtain ⟨v, hrun, hat, _⟩ := h.lookup_int keyed Tryz.underlying174 Tryz.underlying3 (zeroInt _) (key_mk hm)
  rw [hrun]
  have : (iVal v : DataW Unit) = iVal n := hat.symm.trans hc
  simp [iVal] at this
  rw [this]

set_option maxRecDepth 100000 in
set_option maxHeartbeats 2000000 in
theorem count_any (l m : Nat) (tenant met : ByteArray) (c : CfgD) (now : Int) (B : Nat) (ts : List TenD) (M : Nat) (w : World) (h : LedAt w B l m c now ts M) (hn : tenant.size ≤ maxLen) (hm : met.size ≤ maxLen) (hlim : -1 ≤ (tenOf ts tenant).limit) :
    Calls Tryz.prog 68 #[.pointer (some ⟨l, 0, none⟩), .string tenant, .string met] w fun e w' => e = .returned (.tuple #[.int .i64 (countV c (tenOf ts tenant) met).1, .int .i64 (countV c (tenOf ts tenant) met).2]) ∧ Below w.heap.size w w' := by
  have HFI : Hid (Calls Tryz.prog 112 #[.pointer (some ⟨l, 0, none⟩), .string tenant] w fun e w' => TenOut c now ts l m tenant w e w') := find_ten l m tenant c now B ts M w h hn
  clear h
  unfold TenOut at HFI
  generalize tenOf ts tenant = t at *
  by_cases he : met.toList.isEmpty = true
  · have HV : Hid (countV c t met = (((t.sers.length : Nat) : Int), if t.limit = -1 then c.tl else t.limit)) := by
      show _ = _
      unfold countV
      rw [if_pos he]
      by_cases h1 : t.limit = -1
      · rw [if_pos h1, if_pos (by omega)]
      · rw [if_neg h1, if_neg (by omega)]
    go_enter Tryz.func68, Tryz.ntmps68
    go_wp2_with fail
    refine HFI.out.mono ?_
    rintro e w1 ⟨x, b, S, M', rfl, hi, hl, hb⟩
    have HLO : Hid (Calls Tryz.prog 113 #[.pointer (some ⟨l, 0, none⟩), .pointer (some ⟨x, 0, none⟩)] w1 fun e w' => e = .returned (.int .i64 (if t.limit = -1 then c.tl else t.limit)) ∧ w' = w1) := limitOf_any l m x c now t S M' w1 hl hi
    obtain ⟨lm, sm, cm, iv, Q, hs, D, hi⟩ := hi
    have c2 : w1.cell? ⟨x, 2, none⟩ = some (.map (some sm)) := hi.blk.cell 2
    have l2 := hi.sers.len Tryz.underlying175 3
    rw [size_by] at l2
    have hq : Q.length = t.sers.length := by rw [← hi.q1, List.length_map]
    rw [hq] at l2
    have HB := hid hb
    clear hi hl hq hb HFI
    generalize (if t.limit = -1 then c.tl else t.limit) = LM at *
    generalize t.sers.length = NS at *
    go_wp2_with fail
    refine HLO.out.mono ?_
    rintro e w2 ⟨rfl, hw⟩
    replace hw := hw.symm
    subst hw
    go_wp2
    go_ret2
    exact ⟨ret_two (by rw [HV.out]) (by rw [HV.out]), HB.out⟩
  · have he' : met.toList.isEmpty = false := by simpa using he
    have HV : Hid (countV c t met = (((cntM metK t.sers met : Nat) : Int), metLim t.mets met c.ml)) := by show _ = _; unfold countV; rw [if_neg he]
    go_enter Tryz.func68, Tryz.ntmps68
    clear he
    go_wp2_with fail
    refine HFI.out.mono ?_
    rintro e w1 ⟨x, b, S, M', rfl, hi, hl, hb⟩
    have HML : Hid (∀ y : Later w1, Calls Tryz.prog 114 #[.pointer (some ⟨l, 0, none⟩), .pointer (some ⟨x, 0, none⟩), .string met] y.w' fun e w' => e = .returned (.int .i64 (metLim t.mets met c.ml)) ∧ w' = y.w') := fun y => metricLimitOf_any l m x c now t S M' met y.w' (hl.later y.h) (hi.later y.h) hm
    have HC : Hid (∀ y : Later w1, ∃ cm, y.w'.cell? ⟨x, 3, none⟩ = some (.map (some cm)) ∧ (Instr.lookup 174 (.map (some cm)) (.string met) false).run Tryz.prog y.w' = .ok (.int .i64 (cntM metK t.sers met)) y.w') := fun y => by
      obtain ⟨lm, sm, cm, iv, Q, hs, D, hi⟩ := hi.later y.h
      exact ⟨cm, hi.blk.cell 3, look_cnt hi.cnts (hi.cnt met) hm⟩
    obtain ⟨lm, sm, cm, iv, Q, hs, D, hi⟩ := hi
    have c3 : w1.cell? ⟨x, 3, none⟩ = some (.map (some cm)) := hi.blk.cell 3
    have d3 := Later.cells c3
    have hrun : ∀ y : Later w1, (Instr.lookup 174 (.map (some cm)) (.string met) false).run Tryz.prog y.w' = .ok (.int .i64 (cntM metK t.sers met)) y.w' := fun y => by
      obtain ⟨cm', h1, h2⟩ := HC.out y
      rw [d3 y] at h1
      cases h1
      exact h2
    have HB := hid hb
    have hnel := Later.there w1
    clear hi hl hb HFI HC c3
    generalize cntM metK t.sers met = NC at *
    generalize metLim t.mets met c.ml = NL at *
    go_wp2_with fail
    refine wp_region_later (by kernel_rfl) (by kernel_rfl) ?_
    repeat (go_big_quiet_step (first | (go_at_call 114; exact calls_later_same (HML.out _)) | fail))
    refine wpQuiet_nil ?_
    rintro _ ⟨y, rfl⟩
    go_wp2
    go_ret2
    exact ⟨ret_two (by rw [HV.out]) (by rw [HV.out]), bto HB.out y.h⟩
end Go.Proofs.YtndaihhjhllfcaeGreatDoor

namespace Go.Proofs.YtndaihhjhllfcaeGreatDoor
open Go.RowKit Go.Maps

set_option maxRecDepth 100000 in
set_option maxHeartbeats 1000000 in
theorem isMetricChoice_any (s : ByteArray) (w : World) (hs : s.size ≤ 1000000000) (hT : UTab w) : Calls Tryz.prog 67 #[.string s] w fun e w' => e = .returned (.bool (s.toList.isEmpty || mnameB s)) ∧ Below w.heap.size w w' := by
  have HM : Hid (Calls Tryz.prog 111 #[.string s] w fun e w' => e = .returned (.bool (mnameB s)) ∧ Below w.heap.size w w') := isMetricName_any s w hs hT
  clear hT
  by_cases h0 : s.toList.isEmpty = true
  · have HV : Hid ((s.toList.isEmpty || mnameB s) = true) := by show _ = _; rw [h0]; rfl
    go_enter Tryz.func67, Tryz.ntmps67
    go_wp2
    go_ret
    exact ⟨ret_bool (by rw [HV.out]), Below.refl _ _⟩
  · have h1 : s.toList.isEmpty = false := by simpa using h0
    have HV : Hid ((s.toList.isEmpty || mnameB s) = mnameB s) := by show _ = _; rw [h1]; rfl
    clear h0
    go_enter Tryz.func67, Tryz.ntmps67
    go_wp2_with fail
    refine HM.out.mono ?_
    rintro e w1 ⟨rfl, hb⟩
    have HB := hid hb
    clear hb
    go_wp2
    go_ret
    exact ⟨ret_bool (by rw [HV.out]), HB.out⟩

theorem lim_of {c : CfgD} {now : Int} {ts : List TenD} (h : stateB c now ts = true) (k : ByteArray) : -1 ≤ (tenOf ts k).limit := by
  have ht : tensB c.w now ts = true := by
    rw [stateB, Bool.and_eq_true] at h
    exact h.2
  unfold tenOf
  cases hg : getBy (·.name) k ts with
  | none => exact Int.le_refl _
  | some t =>
    obtain ⟨i, hi, e⟩ := List.getElem_of_mem (getBy_mem hg).1
    have h1 := allTo_at ht hi
    rw [tenAt, List.getElem?_eq_getElem hi, e] at h1
    have h2 : btwB t.limit (-1) 1000000 = true := by
      cases hb : btwB t.limit (-1) 1000000 with
      | true => rfl
      | false => simp [tenB, hb] at h1
    exact (btw_in h2).1

set_option maxRecDepth 100000 in
set_option maxHeartbeats 2000000 in
theorem implCountOf_any (c : CfgD) (now : Int) (a : Option Addr) (cap : Nat) (ts : List TenD) (tenant met : ByteArray) (M : Nat) (w : World) (hf : TensIn w a ts) (hfit : FitT ts M) (hlen : ts.length ≤ 1000000000) (hU : UTab w) (hn : tenant.size ≤ 1048576) (hm : met.size ≤ 1048576) :
    Calls Tryz.prog 26 #[cfgV c, .agg #[.int .i64 now, .slice a ts.length cap], .string tenant, .string met] w fun e w' => e = .returned (.tuple #[.int .i64 (countOfV c now ts tenant met).1, .int .i64 (countOfV c now ts tenant met).2]) ∧ Below w.heap.size w w' := by
  have HO : Hid (∀ W, Below w.heap.size w W → Calls Tryz.prog 62 #[cfgV c, .agg #[.int .i64 now, .slice a ts.length cap]] W fun e w' => OpenOut c now ts M W e w') := fun W hW => open_any c now a cap ts M W (hf.later hW) hfit hlen (hU.later hW)
  have HT : Hid (∀ W, Calls Tryz.prog 66 #[.string tenant] W fun e w' => e = .returned (.bool (tnameB tenant)) ∧ w' = W) := fun W => isTenantName_any tenant W (by unfold maxLen; omega)
  have HM : Hid (∀ W, Below w.heap.size w W → Calls Tryz.prog 67 #[.string met] W fun e w' => e = .returned (.bool (met.toList.isEmpty || mnameB met)) ∧ Below W.heap.size W w') := fun W hW => isMetricChoice_any met W (by omega) (hU.later hW)
  have HN : Hid (∀ l m B W, stateB c now ts = true → LedAt W B l m c now ts M → Calls Tryz.prog 68 #[.pointer (some ⟨l, 0, none⟩), .string tenant, .string met] W fun e w' => e = .returned (.tuple #[.int .i64 (countV c (tenOf ts tenant) met).1, .int .i64 (countV c (tenOf ts tenant) met).2]) ∧ Below W.heap.size W w') := fun l m B W hs h => count_any l m tenant met c now B ts M W h (by unfold maxLen; omega) (by unfold maxLen; omega) (lim_of hs tenant)
  have HV : Hid (countOfV c now ts tenant met = if (stateB c now ts && tnameB tenant && (met.toList.isEmpty || mnameB met)) = true then countV c (tenOf ts tenant) met else (-1, -1)) := rfl
  clear hf hfit hU
  unfold OpenOut at HO
  unfold cfgV at *
  generalize tnameB tenant = b1 at *
  generalize (met.toList.isEmpty || mnameB met) = b2 at *
  go_enter Tryz.func26, Tryz.ntmps26
  go_wp2_with fail
  refine (HO.out _ (bto (bnew _ _) (bnew _ _))).mono ?_
  intro e w1 hx
  have HX := hid hx
  clear hx
  rcases HX.out with ⟨hs, rfl, hb⟩ | ⟨hs, l, m, rfl, _, hled, hb⟩
  · have HB : Hid (Below w.heap.size w w1) := bto (bto (bnew _ _) (bnew _ _)) hb
    have HV2 : Hid (countOfV c now ts tenant met = (-1, -1)) := by show _ = _; rw [HV.out, hs]; rfl
    clear HX hb hs
    go_wp2
    go_ret2
    exact ⟨ret_two (by rw [HV2.out]) (by rw [HV2.out]), HB.out⟩
  · have HB : Hid (Below w.heap.size w w1) := bto (bto (bnew _ _) (bnew _ _)) hb
    have HSB : Hid (stateB c now ts = true) := hs
    have HL := hid hled
    clear HX hb hs hled HO
    by_cases h1 : b1 = false
    · have HV2 : Hid (countOfV c now ts tenant met = (-1, -1)) := by show _ = _; rw [HV.out, h1]; simp
      subst h1
      go_wp2_with fail
      refine (HT.out _).mono ?_
      rintro e w2 ⟨rfl, hw⟩
      replace hw := hw.symm
      subst hw
      go_wp2
      go_ret2
      exact ⟨ret_two (by rw [HV2.out]) (by rw [HV2.out]), HB.out⟩
    have h1' : b1 = true := by simpa using h1
    subst h1'
    clear h1
    by_cases h2 : b2 = false
    · have HV2 : Hid (countOfV c now ts tenant met = (-1, -1)) := by show _ = _; rw [HV.out, h2]; simp
      subst h2
      go_wp2_with fail
      refine (HT.out _).mono ?_
      rintro e w2 ⟨rfl, hw⟩
      replace hw := hw.symm
      subst hw
      go_wp2_with fail
      refine (HM.out _ HB.out).mono ?_
      rintro e w3 ⟨rfl, hb3⟩
      have HB3 : Hid (Below w.heap.size w w3) := bto HB.out hb3
      clear hb3
      go_wp2
      go_ret2
      exact ⟨ret_two (by rw [HV2.out]) (by rw [HV2.out]), HB3.out⟩
    have h2' : b2 = true := by simpa using h2
    subst h2'
    clear h2
    have HV2 : Hid (countOfV c now ts tenant met = countV c (tenOf ts tenant) met) := by show _ = _; rw [HV.out, HSB.out]; rfl
    clear HV
    generalize countV c (tenOf ts tenant) met = RV at *
    go_wp2_with fail
    refine (HT.out _).mono ?_
    rintro e w2 ⟨rfl, hw⟩
    replace hw := hw.symm
    subst hw
    go_wp2_with fail
    refine (HM.out _ HB.out).mono ?_
    rintro e w3 ⟨rfl, hb3⟩
    have HB3 : Hid (Below w.heap.size w w3) := bto HB.out hb3
    have HL3 : Hid (LedAt w3 _ l m c now ts M) := hid (HL.out.later hb3)
    clear hb3
    go_wp2_with fail
    refine (HN.out l m _ _ HSB.out HL3.out).mono ?_
    rintro e w4 ⟨rfl, hb4⟩
    have HB4 : Hid (Below w.heap.size w w4) := bto HB3.out hb4
    clear hb4
    go_wp2
    go_ret2
    exact ⟨ret_two (by rw [HV2.out]) (by rw [HV2.out]), HB4.out⟩
end Go.Proofs.YtndaihhjhllfcaeGreatDoor

