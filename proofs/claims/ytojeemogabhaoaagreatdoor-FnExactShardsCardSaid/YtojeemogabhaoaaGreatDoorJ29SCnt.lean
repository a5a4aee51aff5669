import Derived.Test.YtojeemogabhaoaaGreatDoorJ06IdxA
import Derived.Test.YtojeemogabhaoaaGreatDoorProg
import Derived.Test.YtojeemogabhaoaaGreatDoorJ21StaI
import Derived.Test.YtojeemogabhaoaaGreatDoorJ19ILim
import Derived.Test.YtojeemogabhaoaaGreatDoorJ22SSta
namespace Go.Proofs.YtojeemogabhaoaaGreatDoor
def tenOf (ts : List TenD) (name : ByteArray) : TenD := (getBy (·.name) name ts).getD ⟨name, -1, [], []⟩
def metLim (ms : List PairD) (m : ByteArray) (d : Int) : Int := ms.foldl (fun d p => if p.s.toList == m.toList then p.n else d) d
theorem metLim_take (ms : List PairD) (m : ByteArray) (d : Int) (k : Nat) (h : k < ms.length) : metLim (ms.take (k + 1)) m d = if ms[k].s.toList == m.toList then ms[k].n else metLim (ms.take k) m d := by
  rw [List.take_succ_eq_append_getElem h, metLim, List.foldl_append]
  rfl
theorem metLim_none {ms : List PairD} {m : ByteArray} (h : ∀ p ∈ ms, p.s ≠ m) (d : Int) : metLim ms m d = d := by
  induction ms generalizing d with
  | nil => rfl
  | cons p r ih =>
    rw [metLim, List.foldl_cons, if_neg (by rw [same_not (h p (List.mem_cons_self ..))]; simp)]
    exact ih (fun q hq => h q (List.mem_cons_of_mem _ hq)) d
theorem metLim_by {ms : List PairD} (hr : RiseBy (·.s) ms) (m : ByteArray) (d : Int) : metLim ms m d = ((getBy (·.s) m ms).map (·.n)).getD d := by
  induction ms generalizing d with
  | nil => rfl
  | cons p r ih =>
    rw [metLim, List.foldl_cons, getBy_cons]
    by_cases e : p.s = m
    · rw [if_pos ((same_iff _ _).2 e), if_pos e]
      exact metLim_none (fun q hq e' => blt_ne (hr.head q hq) (e.trans e'.symm)) _
    · rw [if_neg (by rw [same_not e]; simp), if_neg e]
      exact ih hr.tail d
def countV (c : CfgD) (t : TenD) (m : ByteArray) : Int × Int :=
  if m.toList.isEmpty = true then ((t.sers.length : Nat), if t.limit < 0 then c.tl else t.limit) else ((cntM metK t.sers m : Nat), metLim t.mets m c.ml)
def countOfV (c : CfgD) (now : Int) (ts : List TenD) (tenant m : ByteArray) : Int × Int :=
  if (stateB c now ts && tnameB tenant && (m.toList.isEmpty || mnameB m)) = true then countV c (tenOf ts tenant) m else (-1, -1)
theorem cntM_take (l : List PairD) (m : ByteArray) (k : Nat) (h : k < l.length) : cntM metK (l.take (k + 1)) m = cntM metK (l.take k) m + if (metK l[k].s).toList == m.toList then 1 else 0 := by
  rw [List.take_succ_eq_append_getElem h, cntM, cntM, List.filter_append, List.length_append]
  congr 1
  cases hb : (metK l[k].s).toList == m.toList <;> simp [hb]
theorem getBy_drop {α : Type} {key : α → ByteArray} {l : List α} {k : ByteArray} : ∀ (n : Nat), (∀ j (_ : j < n) (h' : j < l.length), key l[j] ≠ k) → getBy key k l = getBy key k (l.drop n)
  | 0, _ => by simp
  | n + 1, h => by
    rw [getBy_drop n (fun j hj hj' => h j (by omega) hj')]
    by_cases hn : n < l.length
    · rw [List.drop_eq_getElem_cons hn, getBy_cons, if_neg (h n (by omega) hn)]
    · rw [List.drop_of_length_le (by omega), List.drop_of_length_le (by omega)]
end Go.Proofs.YtojeemogabhaoaaGreatDoor
namespace Go.Proofs.YtojeemogabhaoaaGreatDoor
open Go.RowKit Go.Maps
theorem ptrElem_inv {v : Value} {g : Nat} {ps : List MemPlace} (h : ptrElem v = some (pVal g, ps)) : v = .pointer (some ⟨g, 0, none⟩) := by
  unfold ptrElem at h
  split at h
  · rename_i g'
    simp only [Option.some.injEq, Prod.mk.injEq, pVal, DataW.lit.injEq, Lit.int.injEq, true_and] at h
    have := h.1
    have : g' = g := by omega
    rw [this]
  · simp [pVal] at h
  · cases h
theorem ptrElem_nil {v : Value} {ps : List MemPlace} (h : ptrElem v = some (DataW.nil, ps)) : v = .pointer none := by
  unfold ptrElem at h
  split at h
  · simp [pVal] at h
  · rfl
  · cases h
theorem zeroIdx (w : World) : (zeroValue 79).run Tryz.prog w = .ok (.pointer none) w := by kernel_rfl
def FindOut (L : List (TenD × Nat)) (tenant : ByteArray) (w : World) (e : Ending) (w' : World) : Prop :=
  (∃ p, getBy (fun p : TenD × Nat => p.1.name) tenant L = some p ∧ e = .returned (.tuple #[.pointer (some ⟨p.2, 0, none⟩), .bool true]) ∧ w' = w) ∨
  (getBy (fun p : TenD × Nat => p.1.name) tenant L = none ∧ ∃ x, e = .returned (.tuple #[.pointer (some ⟨x, 0, none⟩), .bool false]) ∧ w.heap.size ≤ x ∧ IdxAt w' (fun g => w.heap.size ≤ g) x ⟨tenant, -1, [], []⟩ 0 ∧ Below w.heap.size w w')
set_option maxRecDepth 100000 in
set_option maxHeartbeats 2000000 in
theorem find_any (l m : Nat) (tenant : ByteArray) (c : CfgD) (now : Int) (B : Nat) (T : Nat → Option Nat) (L : List (TenD × Nat)) (M : Nat) (w : World) (h : LedS w B T l m c now L M) (hn : tenant.size ≤ maxLen) :
    Calls Tryz.prog 48 #[.pointer (some ⟨l, 0, none⟩), .string tenant] w fun e w' => FindOut L tenant w e w' := by
  have x0 : w.cell? ⟨l, 7, none⟩ = some (.map (some m)) := h.blk.cell 7
  obtain ⟨v, ps, hrun, hv⟩ := h.ten.look_ok keyed Tryz.underlying97 (zeroIdx w) (zd := .nil) (zp := []) rfl (key_mk hn)
  rw [has_by, atKey_by (key := fun p : TenD × Nat => p.1.name) (fun p => pVal p.2)] at *
  clear h
  cases hg : getBy (fun p : TenD × Nat => p.1.name) tenant L with
  | some p =>
    rw [hg] at hrun hv
    have hve : v = .pointer (some ⟨p.2, 0, none⟩) := ptrElem_inv hv
    subst hve
    have HG : Hid (getBy (fun p : TenD × Nat => p.1.name) tenant L = some p) := hg
    clear hg hv
    simp only [Option.isSome_some] at hrun
    go_enter Tryz.func48, Tryz.ntmps48
    go_wp2
    go_ret2
    exact Or.inl ⟨p, HG.out, rfl, rfl⟩
  | none =>
    rw [hg] at hrun hv
    have hve : v = .pointer none := ptrElem_nil hv
    subst hve
    have HG : Hid (getBy (fun p : TenD × Nat => p.1.name) tenant L = none) := hg
    clear hg hv
    simp only [Option.isSome_none] at hrun
    have HNI : Hid (∀ W, Calls Tryz.prog 79 #[.int .i64 (-1)] W fun e w' => ∃ x, e = .returned (.pointer (some ⟨x, 0, none⟩)) ∧ W.heap.size ≤ x ∧ IdxAt w' (fun g => W.heap.size ≤ g) x ⟨tenant, -1, [], []⟩ 0 ∧ Below W.heap.size W w') := fun W => newIndex_any (-1) tenant W
    go_enter Tryz.func48, Tryz.ntmps48
    go_wp2_with fail
    refine (HNI.out _).mono ?_
    rintro e w1 ⟨x, rfl, hx, hi, hb⟩
    have HI := hid hi
    clear hi HNI
    go_wp2
    go_ret2
    exact Or.inr ⟨HG.out, x, rfl, hx, HI.out, hb⟩
set_option maxRecDepth 100000 in
set_option maxHeartbeats 1000000 in
theorem limitOf_any (l m x : Nat) (c : CfgD) (now : Int) (t : TenD) (S : Nat → Prop) (M : Nat) (w : World) (hl : Blk w l (ledV c now m) 99) (h : IdxAt w S x t M) :
    Calls Tryz.prog 65 #[.pointer (some ⟨l, 0, none⟩), .pointer (some ⟨x, 0, none⟩)] w fun e w' => e = .returned (.int .i64 (if t.limit = -1 then c.tl else t.limit)) ∧ w' = w := by
  obtain ⟨lm, sm, cm, iv, Q, hs, D, h⟩ := h
  have c0 : w.cell? ⟨x, 0, none⟩ = some (.int .i64 t.limit) := h.blk.cell 0
  have c1 : w.cell? ⟨l, 1, none⟩ = some (.int .i64 c.tl) := hl.cell 1
  clear h hl
  by_cases hd : t.limit = -1
  · rw [if_pos hd]
    go_enter Tryz.func65, Tryz.ntmps65
    go_wp2
    go_ret
    exact ⟨rfl, rfl⟩
  · rw [if_neg hd]
    go_enter Tryz.func65, Tryz.ntmps65
    go_wp2
    go_ret
    exact ⟨rfl, rfl⟩
theorem look_lim {w : World} {lm : Nat} {ms : List PairD} (h : w.ownsMap Tryz.prog 9 (plainElem Tryz.prog 3) lm ms.length (mapOf (ms.map fun p => (p.s, iVal p.n)))) {m : ByteArray} (hm : m.size ≤ maxLen) :
    ∃ v : Int, (Instr.lookup 102 (.map (some lm)) (.string m) true).run Tryz.prog w = .ok (.tuple #[.int .i64 v, .bool (getBy (·.s) m ms).isSome]) w ∧ ∀ p, getBy (·.s) m ms = some p → v = p.n := by
  obtain ⟨v, ps, hrun, hv⟩ := h.look_ok keyed Tryz.underlying102 (zeroInt w) (zd := iVal 0) (zp := []) (plainElem_int Tryz.underlying3 (by decide)) (key_mk hm)
  rw [has_by (key := fun p : PairD => p.s) (val := fun p => iVal p.n)] at hrun
  obtain ⟨a, rfl, ha, _⟩ := plainElem_int_inv Tryz.underlying3 hv
  refine ⟨a, hrun, fun p hp => ?_⟩
  rw [atKey_by (key := fun p : PairD => p.s) (fun p => iVal p.n), hp] at ha
  simp [iVal] at ha
  exact ha.1.symm
set_option maxRecDepth 100000 in
set_option maxHeartbeats 1000000 in
theorem metricLimitOf_any (l m x : Nat) (c : CfgD) (now : Int) (t : TenD) (S : Nat → Prop) (M : Nat) (met : ByteArray) (w : World) (hl : Blk w l (ledV c now m) 99) (h : IdxAt w S x t M) (hm : met.size ≤ maxLen) :
    Calls Tryz.prog 66 #[.pointer (some ⟨l, 0, none⟩), .pointer (some ⟨x, 0, none⟩), .string met] w fun e w' => e = .returned (.int .i64 (metLim t.mets met c.ml)) ∧ w' = w := by
  obtain ⟨lm, sm, cm, iv, Q, hs, D, h⟩ := h
  have c0 : w.cell? ⟨x, 1, none⟩ = some (.map (some lm)) := h.blk.cell 1
  have c1 : w.cell? ⟨l, 2, none⟩ = some (.int .i64 c.ml) := hl.cell 2
  obtain ⟨v, hrun, hv⟩ := look_lim h.lims hm
  have HV : Hid (metLim t.mets met c.ml = ((getBy (·.s) met t.mets).map (·.n)).getD c.ml) := metLim_by h.rm met c.ml
  clear h hl
  cases hg : getBy (fun p : PairD => p.s) met t.mets with
  | some p =>
    rw [hg] at hrun HV
    have hvp := hv p hg
    subst hvp
    simp only [Option.isSome_some] at hrun
    clear hv hg
    go_enter Tryz.func66, Tryz.ntmps66
    go_wp2
    go_ret
    exact ⟨ret_int (by rw [HV.out]; rfl), rfl⟩
  | none =>
    rw [hg] at hrun HV
    simp only [Option.isSome_none] at hrun
    clear hv hg
    go_enter Tryz.func66, Tryz.ntmps66
    go_wp2
    go_ret
    exact ⟨ret_int (by rw [HV.out]; rfl), rfl⟩
end Go.Proofs.YtojeemogabhaoaaGreatDoor
namespace Go.Proofs.YtojeemogabhaoaaGreatDoor
open Go.RowKit Go.Maps
theorem idx_new {w w' : World} {l m B : Nat} {T : Nat → Option Nat} {c : CfgD} {now : Int} {L : List (TenD × Nat)} {M : Nat} (h : LedS w B T l m c now L M) (hb : Below w.heap.size w w') : Blk w' l (ledV c now m) 99 := h.blk.later hb
theorem ten_led {L : List (TenD × Nat)} {ts : List TenD} (e : L.map (·.1) = ts) (k : ByteArray) : getBy (·.name) k ts = (getBy (fun p : TenD × Nat => p.1.name) k L).map (·.1) := by
  subst e
  exact getBy_map (key := fun p : TenD × Nat => p.1.name) (key' := (·.name)) (·.1) (fun _ => rfl) k L
def TenOut (c : CfgD) (now : Int) (ts : List TenD) (l m : Nat) (tenant : ByteArray) (w : World) (e : Ending) (w' : World) : Prop :=
  ∃ x b S M', e = .returned (.tuple #[.pointer (some ⟨x, 0, none⟩), .bool b]) ∧ IdxAt w' S x (tenOf ts tenant) M' ∧ Blk w' l (ledV c now m) 99 ∧ Below w.heap.size w w'
theorem find_ten (l m : Nat) (tenant : ByteArray) (c : CfgD) (now : Int) (B : Nat) (ts : List TenD) (M : Nat) (w : World) (h : LedAt w B l m c now ts M) (hn : tenant.size ≤ maxLen) :
    Calls Tryz.prog 48 #[.pointer (some ⟨l, 0, none⟩), .string tenant] w fun e w' => TenOut c now ts l m tenant w e w' := by
  obtain ⟨T, L, h, e⟩ := h
  refine (find_any l m tenant c now B T L M w h hn).mono ?_
  rintro en w1 (⟨p, hg, rfl, rfl⟩ | ⟨hg, x, rfl, hx, hi, hb⟩)
  · have ht : tenOf ts tenant = p.1 := by rw [tenOf, ten_led e, hg]; rfl
    refine ⟨p.2, true, (fun g => B ≤ g ∧ T g = some p.2), M, rfl, ?_, h.blk, Below.refl _ _⟩
    rw [ht]
    exact h.idx p (getBy_mem hg).1
  · have ht : tenOf ts tenant = ⟨tenant, -1, [], []⟩ := by rw [tenOf, ten_led e, hg]; rfl
    refine ⟨x, false, (fun g => w.heap.size ≤ g), 0, rfl, ?_, h.blk.later hb, hb⟩
    rw [ht]
    exact hi
theorem look_cnt {w : World} {cm M : Nat} {D : DataW Unit} {m : ByteArray} {n : Nat} (h : w.ownsMap Tryz.prog 9 (plainElem Tryz.prog 3) cm M D) (hc : D.atKey (kL m) (iVal 0) = iVal n) (hm : m.size ≤ maxLen) :
    (Instr.lookup 102 (.map (some cm)) (.string m) false).run Tryz.prog w = .ok (.int .i64 n) w := by
  obtain ⟨v, hrun, hat, _⟩ := h.lookup_int keyed Tryz.underlying102 Tryz.underlying3 (zeroInt _) (key_mk hm)
  rw [hrun]
  have : (iVal v : DataW Unit) = iVal n := hat.symm.trans hc
  simp [iVal] at this
  rw [this]
set_option maxRecDepth 100000 in
set_option maxHeartbeats 2000000 in
theorem count_any (l m : Nat) (tenant met : ByteArray) (c : CfgD) (now : Int) (B : Nat) (ts : List TenD) (M : Nat) (w : World) (h : LedAt w B l m c now ts M) (hn : tenant.size ≤ maxLen) (hm : met.size ≤ maxLen) (hlim : -1 ≤ (tenOf ts tenant).limit) :
    Calls Tryz.prog 38 #[.pointer (some ⟨l, 0, none⟩), .string tenant, .string met] w fun e w' => e = .returned (.tuple #[.int .i64 (countV c (tenOf ts tenant) met).1, .int .i64 (countV c (tenOf ts tenant) met).2]) ∧ Below w.heap.size w w' := by
  have HFI : Hid (Calls Tryz.prog 48 #[.pointer (some ⟨l, 0, none⟩), .string tenant] w fun e w' => TenOut c now ts l m tenant w e w') := find_ten l m tenant c now B ts M w h hn
  clear h
  unfold TenOut at HFI
  generalize tenOf ts tenant = t at *
  by_cases he : met.toList.isEmpty = true
  · have HV : Hid (countV c t met = (((t.sers.length : Nat) : Int), if t.limit = -1 then c.tl else t.limit)) := by
      show _ = _
      unfold countV
      rw [if_pos he]
      by_cases h1 : t.limit = -1
      · rw [if_pos h1, if_pos (by omega)]
      · rw [if_neg h1, if_neg (by omega)]
    go_enter Tryz.func38, Tryz.ntmps38
    go_wp2_with fail
    refine HFI.out.mono ?_
    rintro e w1 ⟨x, b, S, M', rfl, hi, hl, hb⟩
    have HLO : Hid (Calls Tryz.prog 65 #[.pointer (some ⟨l, 0, none⟩), .pointer (some ⟨x, 0, none⟩)] w1 fun e w' => e = .returned (.int .i64 (if t.limit = -1 then c.tl else t.limit)) ∧ w' = w1) := limitOf_any l m x c now t S M' w1 hl hi
    obtain ⟨lm, sm, cm, iv, Q, hs, D, hi⟩ := hi
    have c2 : w1.cell? ⟨x, 2, none⟩ = some (.map (some sm)) := hi.blk.cell 2
    have l2 := hi.sers.len Tryz.underlying103 3
    rw [size_by] at l2
    have hq : Q.length = t.sers.length := by rw [← hi.q1, List.length_map]
    rw [hq] at l2
    have HB := hid hb
    clear hi hl hq hb HFI
    generalize (if t.limit = -1 then c.tl else t.limit) = LM at *
    generalize t.sers.length = NS at *
    go_wp2_with fail
    refine HLO.out.mono ?_
    rintro e w2 ⟨rfl, hw⟩
    replace hw := hw.symm
    subst hw
    go_wp2
    go_ret2
    exact ⟨ret_two (by rw [HV.out]) (by rw [HV.out]), HB.out⟩
  · have he' : met.toList.isEmpty = false := by simpa using he
    have HV : Hid (countV c t met = (((cntM metK t.sers met : Nat) : Int), metLim t.mets met c.ml)) := by show _ = _; unfold countV; rw [if_neg he]
    go_enter Tryz.func38, Tryz.ntmps38
    clear he
    go_wp2_with fail
    refine HFI.out.mono ?_
    rintro e w1 ⟨x, b, S, M', rfl, hi, hl, hb⟩
    have HML : Hid (∀ y : Later w1, Calls Tryz.prog 66 #[.pointer (some ⟨l, 0, none⟩), .pointer (some ⟨x, 0, none⟩), .string met] y.w' fun e w' => e = .returned (.int .i64 (metLim t.mets met c.ml)) ∧ w' = y.w') := fun y => metricLimitOf_any l m x c now t S M' met y.w' (hl.later y.h) (hi.later y.h) hm
    have HC : Hid (∀ y : Later w1, ∃ cm, y.w'.cell? ⟨x, 3, none⟩ = some (.map (some cm)) ∧ (Instr.lookup 102 (.map (some cm)) (.string met) false).run Tryz.prog y.w' = .ok (.int .i64 (cntM metK t.sers met)) y.w') := fun y => by
      obtain ⟨lm, sm, cm, iv, Q, hs, D, hi⟩ := hi.later y.h
      exact ⟨cm, hi.blk.cell 3, look_cnt hi.cnts (hi.cnt met) hm⟩
    obtain ⟨lm, sm, cm, iv, Q, hs, D, hi⟩ := hi
    have c3 : w1.cell? ⟨x, 3, none⟩ = some (.map (some cm)) := hi.blk.cell 3
    have d3 := Later.cells c3
    have hrun : ∀ y : Later w1, (Instr.lookup 102 (.map (some cm)) (.string met) false).run Tryz.prog y.w' = .ok (.int .i64 (cntM metK t.sers met)) y.w' := fun y => by
      obtain ⟨cm', h1, h2⟩ := HC.out y
      rw [d3 y] at h1
      cases h1
      exact h2
    have HB := hid hb
    have hnel := Later.there w1
    clear hi hl hb HFI HC c3
    generalize cntM metK t.sers met = NC at *
    generalize metLim t.mets met c.ml = NL at *
    go_wp2_with fail
    refine wp_region_later (by kernel_rfl) (by kernel_rfl) ?_
    repeat (go_big_quiet_step (first | (go_at_call 66; exact calls_later_same (HML.out _)) | fail))
    refine wpQuiet_nil ?_
    rintro _ ⟨y, rfl⟩
    go_wp2
    go_ret2
    exact ⟨ret_two (by rw [HV.out]) (by rw [HV.out]), bto HB.out y.h⟩
end Go.Proofs.YtojeemogabhaoaaGreatDoor
namespace Go.Proofs.YtojeemogabhaoaaGreatDoor
open Go.RowKit Go.Maps
set_option maxRecDepth 100000 in
set_option maxHeartbeats 1000000 in
theorem isMetricChoice_any (s : ByteArray) (w : World) (hs : s.size ≤ 1000000000) (hT : UTab w) : Calls Tryz.prog 37 #[.string s] w fun e w' => e = .returned (.bool (s.toList.isEmpty || mnameB s)) ∧ Below w.heap.size w w' := by
  have HM : Hid (Calls Tryz.prog 64 #[.string s] w fun e w' => e = .returned (.bool (mnameB s)) ∧ Below w.heap.size w w') := isMetricName_any s w hs hT
  clear hT
  by_cases h0 : s.toList.isEmpty = true
  · have HV : Hid ((s.toList.isEmpty || mnameB s) = true) := by show _ = _; rw [h0]; rfl
    go_enter Tryz.func37, Tryz.ntmps37
    go_wp2
    go_ret
    exact ⟨ret_bool (by rw [HV.out]), Below.refl _ _⟩
  · have h1 : s.toList.isEmpty = false := by simpa using h0
    have HV : Hid ((s.toList.isEmpty || mnameB s) = mnameB s) := by show _ = _; rw [h1]; rfl
    clear h0
    go_enter Tryz.func37, Tryz.ntmps37
    go_wp2_with fail
    refine HM.out.mono ?_
    rintro e w1 ⟨rfl, hb⟩
    have HB := hid hb
    clear hb
    go_wp2
    go_ret
    exact ⟨ret_bool (by rw [HV.out]), HB.out⟩
theorem lim_of {c : CfgD} {now : Int} {ts : List TenD} (h : stateB c now ts = true) (k : ByteArray) : -1 ≤ (tenOf ts k).limit := by
  have ht : tensB c.w now ts = true := by
    rw [stateB, Bool.and_eq_true] at h
    exact h.2
  unfold tenOf
  cases hg : getBy (·.name) k ts with
  | none => exact Int.le_refl _
  | some t =>
    obtain ⟨i, hi, e⟩ := List.getElem_of_mem (getBy_mem hg).1
    have h1 := allTo_at ht hi
    rw [tenAt, List.getElem?_eq_getElem hi, e] at h1
    have h2 : btwB t.limit (-1) 1000000 = true := by
      cases hb : btwB t.limit (-1) 1000000 with
      | true => rfl
      | false => simp [tenB, hb] at h1
    exact (btw_in h2).1
set_option maxRecDepth 100000 in
set_option maxHeartbeats 2000000 in
theorem implCountOf_any (c : CfgD) (now : Int) (a : Option Addr) (cap : Nat) (ts : List TenD) (tenant met : ByteArray) (M : Nat) (w : World) (hf : TensIn w a ts) (hfit : FitT ts M) (hlen : ts.length ≤ 1000000000) (hU : UTab w) (hn : tenant.size ≤ 1048576) (hm : met.size ≤ 1048576) :
    Calls Tryz.prog 14 #[cfgV c, .agg #[.int .i64 now, .slice a ts.length cap], .string tenant, .string met] w fun e w' => e = .returned (.tuple #[.int .i64 (countOfV c now ts tenant met).1, .int .i64 (countOfV c now ts tenant met).2]) ∧ Below w.heap.size w w' := by
  have HO : Hid (∀ W, Below w.heap.size w W → Calls Tryz.prog 32 #[cfgV c, .agg #[.int .i64 now, .slice a ts.length cap]] W fun e w' => OpenOut c now ts M W e w') := fun W hW => open_any c now a cap ts M W (hf.later hW) hfit hlen (hU.later hW)
  have HT : Hid (∀ W, Calls Tryz.prog 36 #[.string tenant] W fun e w' => e = .returned (.bool (tnameB tenant)) ∧ w' = W) := fun W => isTenantName_any tenant W (by unfold maxLen; omega)
  have HM : Hid (∀ W, Below w.heap.size w W → Calls Tryz.prog 37 #[.string met] W fun e w' => e = .returned (.bool (met.toList.isEmpty || mnameB met)) ∧ Below W.heap.size W w') := fun W hW => isMetricChoice_any met W (by omega) (hU.later hW)
  have HN : Hid (∀ l m B W, stateB c now ts = true → LedAt W B l m c now ts M → Calls Tryz.prog 38 #[.pointer (some ⟨l, 0, none⟩), .string tenant, .string met] W fun e w' => e = .returned (.tuple #[.int .i64 (countV c (tenOf ts tenant) met).1, .int .i64 (countV c (tenOf ts tenant) met).2]) ∧ Below W.heap.size W w') := fun l m B W hs h => count_any l m tenant met c now B ts M W h (by unfold maxLen; omega) (by unfold maxLen; omega) (lim_of hs tenant)
  have HV : Hid (countOfV c now ts tenant met = if (stateB c now ts && tnameB tenant && (met.toList.isEmpty || mnameB met)) = true then countV c (tenOf ts tenant) met else (-1, -1)) := rfl
  clear hf hfit hU
  unfold OpenOut at HO
  unfold cfgV at *
  generalize tnameB tenant = b1 at *
  generalize (met.toList.isEmpty || mnameB met) = b2 at *
  go_enter Tryz.func14, Tryz.ntmps14
  go_wp2_with fail
  refine (HO.out _ (bto (bnew _ _) (bnew _ _))).mono ?_
  intro e w1 hx
  have HX := hid hx
  clear hx
  rcases HX.out with ⟨hs, rfl, hb⟩ | ⟨hs, l, m, rfl, _, hled, hb⟩
  · have HB : Hid (Below w.heap.size w w1) := bto (bto (bnew _ _) (bnew _ _)) hb
    have HV2 : Hid (countOfV c now ts tenant met = (-1, -1)) := by show _ = _; rw [HV.out, hs]; rfl
    clear HX hb hs
    go_wp2
    go_ret2
    exact ⟨ret_two (by rw [HV2.out]) (by rw [HV2.out]), HB.out⟩
  · have HB : Hid (Below w.heap.size w w1) := bto (bto (bnew _ _) (bnew _ _)) hb
    have HSB : Hid (stateB c now ts = true) := hs
    have HL := hid hled
    clear HX hb hs hled HO
    by_cases h1 : b1 = false
    · have HV2 : Hid (countOfV c now ts tenant met = (-1, -1)) := by show _ = _; rw [HV.out, h1]; simp
      subst h1
      go_wp2_with fail
      refine (HT.out _).mono ?_
      rintro e w2 ⟨rfl, hw⟩
      replace hw := hw.symm
      subst hw
      go_wp2
      go_ret2
      exact ⟨ret_two (by rw [HV2.out]) (by rw [HV2.out]), HB.out⟩
    have h1' : b1 = true := by simpa using h1
    subst h1'
    clear h1
    by_cases h2 : b2 = false
    · have HV2 : Hid (countOfV c now ts tenant met = (-1, -1)) := by show _ = _; rw [HV.out, h2]; simp
      subst h2
      go_wp2_with fail
      refine (HT.out _).mono ?_
      rintro e w2 ⟨rfl, hw⟩
      replace hw := hw.symm
      subst hw
      go_wp2_with fail
      refine (HM.out _ HB.out).mono ?_
      rintro e w3 ⟨rfl, hb3⟩
      have HB3 : Hid (Below w.heap.size w w3) := bto HB.out hb3
      clear hb3
      go_wp2
      go_ret2
      exact ⟨ret_two (by rw [HV2.out]) (by rw [HV2.out]), HB3.out⟩
    have h2' : b2 = true := by simpa using h2
    subst h2'
    clear h2
    have HV2 : Hid (countOfV c now ts tenant met = countV c (tenOf ts tenant) met) := by show _ = _; rw [HV.out, HSB.out]; rfl
    clear HV
    generalize countV c (tenOf ts tenant) met = RV at *
    go_wp2_with fail
    refine (HT.out _).mono ?_
    rintro e w2 ⟨rfl, hw⟩
    replace hw := hw.symm
    subst hw
    go_wp2_with fail
    refine (HM.out _ HB.out).mono ?_
    rintro e w3 ⟨rfl, hb3⟩
    have HB3 : Hid (Below w.heap.size w w3) := bto HB.out hb3
    have HL3 : Hid (LedAt w3 _ l m c now ts M) := hid (HL.out.later hb3)
    clear hb3
    go_wp2_with fail
    refine (HN.out l m _ _ HSB.out HL3.out).mono ?_
    rintro e w4 ⟨rfl, hb4⟩
    have HB4 : Hid (Below w.heap.size w w4) := bto HB3.out hb4
    clear hb4
    go_wp2
    go_ret2
    exact ⟨ret_two (by rw [HV2.out]) (by rw [HV2.out]), HB4.out⟩
end Go.Proofs.YtojeemogabhaoaaGreatDoor
namespace Go.Proofs.YtojeemogabhaoaaGreatDoor
open Go.RowKit
def TenV (w : World) (e : Ending) (t : TenD) : Prop := ∃ a1 c1 a2 c2, e = .returned (.agg #[.string t.name, .int .i64 t.limit, .slice a1 t.mets.length c1, .slice a2 t.sers.length c2]) ∧ PairsIn w a1 t.mets ∧ PairsIn w a2 t.sers
set_option maxRecDepth 100000 in
set_option maxHeartbeats 2000000 in
theorem l4Tenant_any (now : Int) (a : Option Addr) (cap : Nat) (ts : List TenD) (name : ByteArray) (w : World) (hf : TensIn w a ts) (hlen : ts.length ≤ 1000000000) :
    Calls Tryz.prog 35 #[.agg #[.int .i64 now, .slice a ts.length cap], .string name] w fun e w' => TenV w' e (tenOf ts name) ∧ Below w.heap.size w w' := by
  have HF : Hid (TensIn w a ts) := hf
  have HTO : Hid (tenOf ts name = (getBy (·.name) name ts).getD ⟨name, -1, [], []⟩) := rfl
  clear hf
  go_enter Tryz.func35, Tryz.ntmps35
  go_wp2
  have R1 : Hid (Blk ((w.alloc (.cells #[.int .i64 now, .slice a ts.length cap] 33)).alloc (.cells #[.string ⟨#[]⟩, .int .i64 0, .slice none 0 0, .slice none 0 0] 55)) (w.heap.size + 1) #[.string ⟨#[]⟩, .int .i64 0, .slice none 0 0, .slice none 0 0] 55) := hid (by have := Blk.new (w.alloc (.cells #[.int .i64 now, .slice a ts.length cap] 33)) #[.string ⟨#[]⟩, .int .i64 0, .slice none 0 0, .slice none 0 0] 55; simpa using this)
  have B1 : Hid (Below w.heap.size w ((w.alloc (.cells #[.int .i64 now, .slice a ts.length cap] 33)).alloc (.cells #[.string ⟨#[]⟩, .int .i64 0, .slice none 0 0, .slice none 0 0] 55))) := bto (bnew _ _) (bnew _ _)
  generalize hW : (w.alloc (.cells #[.int .i64 now, .slice a ts.length cap] 33)).alloc (.cells #[.string ⟨#[]⟩, .int .i64 0, .slice none 0 0, .slice none 0 0] 55) = W at *
  clear hW
  go_loopw [6, 10] (fun _ i wr => ∃ k : Nat, k ≤ ts.length ∧ i = .int .i64 k ∧ Hid (∀ j (h : j < k) (h' : j < ts.length), ts[j].name ≠ name) ∧ Below W.heap.size W wr) (fun _ i _ => ts.length - (intOf i).toNat)
  case atStart => exact ⟨0, Nat.zero_le _, rfl, (fun j h => absurd h (by omega)), Below.refl _ _⟩
  case round =>
    obtain ⟨k, hk, rfl, HN, hbel⟩ := hrel
    have HB : Hid (Below W.heap.size W wr) := hbel
    have R2 : Hid (Blk wr (w.heap.size + 1) #[.string ⟨#[]⟩, .int .i64 0, .slice none 0 0, .slice none 0 0] 55) := R1.out.later hbel
    have hrl := lt_of_block R2.out
    have s0 : wr.cell? ⟨w.heap.size + 1, 0, none⟩ = some (.string ⟨#[]⟩) := R2.out.cell 0
    have s1 : wr.cell? ⟨w.heap.size + 1, 1, none⟩ = some (.int .i64 0) := R2.out.cell 1
    have s2 : wr.cell? ⟨w.heap.size + 1, 2, none⟩ = some (.slice none 0 0) := R2.out.cell 2
    have s3 : wr.cell? ⟨w.heap.size + 1, 3, none⟩ = some (.slice none 0 0) := R2.out.cell 3
    have u0 := R2.out.free 0
    have u1 := R2.out.free 1
    have u2 := R2.out.free 2
    have u3 := R2.out.free 3
    clear hbel R1
    by_cases hlt : k < ts.length
    · obtain ⟨b, o, a1, q1, a2, q2, rfl, hb, z0, z1, z2, z3, p1, p2⟩ := HF.out.at hlt
      have Bw : Hid (Below w.heap.size w wr) := bto B1.out HB.out
      have t0 := (Bw.out.cell hb).trans z0
      have t1 := (Bw.out.cell hb).trans z1
      have t2 := (Bw.out.cell hb).trans z2
      have t3 := (Bw.out.cell hb).trans z3
      clear z0 z1 z2 z3
      have HG : Hid (getBy (·.name) name ts = if ts[k].name = name then some ts[k] else getBy (·.name) name (ts.drop (k + 1))) := by
        show _ = _
        rw [getBy_drop k HN.out, List.drop_eq_getElem_cons hlt, getBy_cons]
      have HSUC : Hid (ts[k].name ≠ name → ∀ j (h : j < k + 1) (h' : j < ts.length), ts[j].name ≠ name) := fun hne j hj hj' => by
        by_cases e : j = k
        · subst e; exact hne
        · exact HN.out j (by omega) hj'
      have P1 : Hid (PairsIn w a1 ts[k].mets) := p1
      have P2 : Hid (PairsIn w a2 ts[k].sers) := p2
      clear p1 p2
      generalize ts[k] = T at *
      by_cases he : T.name = name
      · have hb1 : (T.name.toList == name.toList) = true := (same_iff _ _).2 he
        have HT : Hid (tenOf ts name = T) := by show _ = _; rw [HTO.out, HG.out, if_pos he]; rfl
        clear he
        go_wp2
        have HFB : Below w.heap.size w (((((wr.setCell ⟨w.heap.size + 1, 0, none⟩ (.string T.name)).setCell ⟨w.heap.size + 1, 1, none⟩ (.int .i64 T.limit)).setCell ⟨w.heap.size + 1, 2, none⟩ (.slice a1 T.mets.length q1)).setCell ⟨w.heap.size + 1, 3, none⟩ (.slice a2 T.sers.length q2)).alloc (.cells #[.string T.name, .int .i64 T.limit, .slice a1 T.mets.length q1, .slice a2 T.sers.length q2] 55)) := bto (((((Bw.out.setCell (by simp) _).setCell (by simp) _).setCell (by simp) _).setCell (by simp) _)) (bnew _ _)
        refine bodyPost_ret (v := .agg #[.string T.name, .int .i64 T.limit, .slice a1 T.mets.length q1, .slice a2 T.sers.length q2]) (by simp [results, Tryz.results35, go_sem, s0, s1, s2, s3, hrl]) rfl ⟨?_, HFB⟩
        rw [HT.out]
        exact ⟨a1, q1, a2, q2, rfl, P1.out.later HFB, P2.out.later HFB⟩
      · have hb1 : (T.name.toList == name.toList) = false := same_not he
        have HN2 : Hid (∀ j (h : j < k + 1) (h' : j < ts.length), ts[j].name ≠ name) := HSUC.out he
        clear he
        go_wp2
        exact ⟨⟨k + 1, by omega, by go_num, HN2, bto HB.out (bnew _ _)⟩, by simp [intOf]; omega⟩
    · have HT : Hid (tenOf ts name = ⟨name, -1, [], []⟩) := by
        show _ = _
        rw [HTO.out, getBy_drop k HN.out, List.drop_of_length_le (by omega)]
        rfl
      have Bw : Hid (Below w.heap.size w wr) := bto B1.out HB.out
      go_wp2
      refine bodyPost_ret (v := .agg #[.string name, .int .i64 (-1), .slice none 0 0, .slice none 0 0]) (by simp [results, Tryz.results35, go_sem, s0, s1, s2, s3]) rfl ⟨?_, (((((Bw.out.setCell (by simp) _).setCell (by simp) _).setCell (by simp) _).setCell (by simp) _))⟩
      rw [HT.out]
      exact ⟨none, 0, none, 0, rfl, Or.inl rfl, Or.inl rfl⟩
set_option maxRecDepth 100000 in
set_option maxHeartbeats 4000000 in
theorem l4Count_any (c : CfgD) (t : TenD) (a1 a2 : Option Addr) (c1 c2 : Nat) (m : ByteArray) (w : World) (p1 : PairsIn w a1 t.mets) (p2 : PairsIn w a2 t.sers) (hb : BigP t.sers) (l1 : t.mets.length ≤ 1000000000) (l2 : t.sers.length ≤ 1000000000) :
    Calls Tryz.prog 34 #[cfgV c, .agg #[.string t.name, .int .i64 t.limit, .slice a1 t.mets.length c1, .slice a2 t.sers.length c2], .string m] w fun e w' => e = .returned (.tuple #[.int .i64 (countV c t m).1, .int .i64 (countV c t m).2]) ∧ Below w.heap.size w w' := by
  unfold cfgV
  by_cases hm : m.toList.isEmpty = true
  · have HV : Hid (countV c t m = (((t.sers.length : Nat) : Int), if t.limit < 0 then c.tl else t.limit)) := by show _ = _; unfold countV; rw [if_pos hm]
    clear p1 p2 hb
    by_cases hl : t.limit < 0
    · go_enter Tryz.func34, Tryz.ntmps34
      go_wp2
      go_ret2
      exact ⟨ret_two (by rw [HV.out]) (by rw [HV.out]; exact (if_pos hl).symm), bto (bnew _ _) (bnew _ _)⟩
    · have HL : Hid (¬ t.limit < 0) := hl
      go_enter Tryz.func34, Tryz.ntmps34
      go_wp2
      go_ret2
      exact ⟨ret_two (by rw [HV.out]) (by rw [HV.out]; have h0 := HL.out; exact (if_neg (by omega)).symm), bto (bnew _ _) (bnew _ _)⟩
  have hm' : m.toList.isEmpty = false := by simpa using hm
  have HV : Hid (countV c t m = (((cntM metK t.sers m : Nat) : Int), metLim t.mets m c.ml)) := by show _ = _; unfold countV; rw [if_neg hm]
  have P1 : Hid (PairsIn w a1 t.mets) := p1
  have P2 : Hid (PairsIn w a2 t.sers) := p2
  have HBP : Hid (BigP t.sers) := hb
  clear p1 p2 hb hm
  go_enter Tryz.func34, Tryz.ntmps34
  go_wp2
  have T1 : Hid (Blk ((w.alloc (.cells #[.int .i64 c.w, .int .i64 c.tl, .int .i64 c.ml, .int .i64 c.sh, .int .i64 c.ha, .int .i64 c.sg] 29)).alloc (.cells #[.string t.name, .int .i64 t.limit, .slice a1 t.mets.length c1, .slice a2 t.sers.length c2] 55)) (w.heap.size + 1) #[.string t.name, .int .i64 t.limit, .slice a1 t.mets.length c1, .slice a2 t.sers.length c2] 55) := hid (by have := Blk.new (w.alloc (.cells #[.int .i64 c.w, .int .i64 c.tl, .int .i64 c.ml, .int .i64 c.sh, .int .i64 c.ha, .int .i64 c.sg] 29)) #[.string t.name, .int .i64 t.limit, .slice a1 t.mets.length c1, .slice a2 t.sers.length c2] 55; simpa using this)
  have B1 : Hid (Below w.heap.size w ((w.alloc (.cells #[.int .i64 c.w, .int .i64 c.tl, .int .i64 c.ml, .int .i64 c.sh, .int .i64 c.ha, .int .i64 c.sg] 29)).alloc (.cells #[.string t.name, .int .i64 t.limit, .slice a1 t.mets.length c1, .slice a2 t.sers.length c2] 55))) := bto (bnew _ _) (bnew _ _)
  generalize (w.alloc (.cells #[.int .i64 c.w, .int .i64 c.tl, .int .i64 c.ml, .int .i64 c.sh, .int .i64 c.ha, .int .i64 c.sg] 29)).alloc (.cells #[.string t.name, .int .i64 t.limit, .slice a1 t.mets.length c1, .slice a2 t.sers.length c2] 55) = W at *
  go_loopw [9, 11, 32] (fun l _ i wr => ∃ k : Nat, k ≤ t.mets.length ∧ i = .int .i64 k ∧ l = .int .i64 (metLim (t.mets.take k) m c.ml) ∧ Below W.heap.size W wr) (fun _ _ i _ => t.mets.length - (intOf i).toNat)
  case atStart => exact ⟨0, Nat.zero_le _, rfl, rfl, Below.refl _ _⟩
  case round =>
    obtain ⟨k, hk, rfl, rfl, hbel⟩ := hrel
    have HB : Hid (Below W.heap.size W wr) := hbel
    clear hbel
    by_cases hlt : k < t.mets.length
    · obtain ⟨pb, po, rfl, hpl, z0, z1⟩ := (P1.out.later (bto B1.out HB.out)).at hlt
      have HT : Hid (metLim (t.mets.take (k + 1)) m c.ml = if t.mets[k].s.toList == m.toList then t.mets[k].n else metLim (t.mets.take k) m c.ml) := metLim_take _ _ _ _ hlt
      generalize t.mets[k] = P at *
      generalize metLim (t.mets.take k) m c.ml = L0 at *
      by_cases he : (P.s.toList == m.toList) = true
      · have HL : Hid (metLim (t.mets.take (k + 1)) m c.ml = P.n) := by show _ = _; rw [HT.out, if_pos he]
        clear HT
        go_wp2
        exact ⟨⟨k + 1, by omega, by go_num, by rw [HL.out], bto HB.out (bnew _ _)⟩, by simp [intOf]; omega⟩
      · have he' : (P.s.toList == m.toList) = false := by simpa using he
        have HL : Hid (metLim (t.mets.take (k + 1)) m c.ml = L0) := by show _ = _; rw [HT.out, if_neg he]
        clear HT he
        go_wp2
        exact ⟨⟨k + 1, by omega, by go_num, by rw [HL.out], bto HB.out (bnew _ _)⟩, by simp [intOf]; omega⟩
    · have ek : t.mets.take k = t.mets := List.take_of_length_le (by omega)
      rw [ek]
      clear ek
      generalize metLim t.mets m c.ml = ML at *
      have T2 : Hid (Blk wr (w.heap.size + 1) #[.string t.name, .int .i64 t.limit, .slice a1 t.mets.length c1, .slice a2 t.sers.length c2] 55) := T1.out.later HB.out
      have B2 : Hid (Below w.heap.size w wr) := bto B1.out HB.out
      have y3 : wr.cell? ⟨w.heap.size + 1, 3, none⟩ = some (.slice a2 t.sers.length c2) := T2.out.cell 3
      clear T1 B1 HB
      generalize hwo : wr = wo at *
      clear hwo
      go_wp2
      clear y3 T2
      go_loopw [12, 14, 46] (fun n _ i wr => ∃ k : Nat, k ≤ t.sers.length ∧ i = .int .i64 k ∧ n = .int .i64 (cntM metK (t.sers.take k) m : Nat) ∧ Below wo.heap.size wo wr) (fun _ _ i _ => t.sers.length - (intOf i).toNat)
      case atStart => exact ⟨0, Nat.zero_le _, rfl, rfl, Below.refl _ _⟩
      case round =>
        obtain ⟨j, hj, rfl, rfl, hbel⟩ := hrel
        have HB : Hid (Below wo.heap.size wo wr) := hbel
        clear hbel
        by_cases hlt2 : j < t.sers.length
        · obtain ⟨pb, po, rfl, hpl, z0, z1⟩ := (P2.out.later (bto B2.out HB.out)).at hlt2
          have HT : Hid (cntM metK (t.sers.take (j + 1)) m = cntM metK (t.sers.take j) m + if (metK t.sers[j].s).toList == m.toList then 1 else 0) := cntM_take _ _ _ hlt2
          have HM : Hid (∀ W, Calls Tryz.prog 57 #[.string t.sers[j].s] W fun e w' => e = .returned (.string (metK t.sers[j].s)) ∧ Below W.heap.size W w') := fun W => specMet_any t.sers[j].s W (HBP.out j hlt2)
          have hcl : cntM metK (t.sers.take j) m ≤ 1000000000 := by have := cntM_le metK (t.sers.take j) m; rw [List.length_take] at this; omega
          generalize t.sers[j] = P at *
          generalize metK P.s = mk at *
          generalize cntM metK (t.sers.take j) m = N0 at *
          go_wp2_with fail
          refine (HM.out _).mono ?_
          rintro e w5 ⟨rfl, hb5⟩
          have HB5 : Hid (Below wo.heap.size wo w5) := bto HB.out (bto (bnew _ _) hb5)
          clear hb5 HM
          by_cases he : (mk.toList == m.toList) = true
          · have HL : Hid (cntM metK (t.sers.take (j + 1)) m = N0 + 1) := by show _ = _; rw [HT.out, if_pos he]
            clear HT
            go_wp2
            exact ⟨⟨j + 1, by omega, by go_num, by rw [HL.out]; go_num, HB5.out⟩, by simp [intOf]; omega⟩
          · have he' : (mk.toList == m.toList) = false := by simpa using he
            have HL : Hid (cntM metK (t.sers.take (j + 1)) m = N0) := by show _ = _; rw [HT.out, if_neg he]; rfl
            clear HT he
            go_wp2
            exact ⟨⟨j + 1, by omega, by go_num, by rw [HL.out], HB5.out⟩, by simp [intOf]; omega⟩
        · have ej : t.sers.take j = t.sers := List.take_of_length_le (by omega)
          rw [ej]
          clear ej
          go_wp2
          go_ret2
          exact ⟨ret_two (by rw [HV.out]) (by rw [HV.out]), bto B2.out HB.out⟩
end Go.Proofs.YtojeemogabhaoaaGreatDoor
