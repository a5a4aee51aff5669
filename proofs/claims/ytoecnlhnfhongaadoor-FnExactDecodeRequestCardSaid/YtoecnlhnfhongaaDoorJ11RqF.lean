import Derived.Test.YtoecnlhnfhongaaDoorProg
import Derived.Test.YtoecnlhnfhongaaDoorJ08IRqA
import Derived.Test.YtoecnlhnfhongaaDoorJ10IRqE
import Derived.Deep.RegionHeld3
import Derived.Deep.DeepCutAuto
import Derived.Test.YtoecnlhnfhongaaDoorJ03RqD
namespace Go.Proofs.YtoecnlhnfhongaaDoor
open Go.RowKit

def shB (k : Int) (j : Nat) : Bool := match j with
  | 0 => tnK k
  | 1 => k == 1
  | 2 => mtK k
  | 3 => nmK k
  | _ => k == 1 || k == 2 || k == 3 || k == 4
/-- The table of shapes, as the program's text lays it. -/
def ShTab (w : World) : Prop := 0 < w.heap.size ∧ ∀ i j, i < 7 → j < 5 → w.cell? ⟨0, i * 5 + j, none⟩ = some (.bool (shB (i : Int) j))
theorem ShTab.later {w w' : World} (h : ShTab w) (hb : Below w.heap.size w w') : ShTab w' := ⟨Nat.lt_of_lt_of_le h.1 hb.size, fun i j hi hj => (hb.cell h.1).trans (h.2 i j hi hj)⟩
theorem ShTab.at {w : World} (h : ShTab w) {k : Int} (hk : 1 ≤ k ∧ k ≤ 6) : w.cell? ⟨0, k.toNat * 5, none⟩ = some (.bool (tnK k)) ∧ w.cell? ⟨0, k.toNat * 5 + 1, none⟩ = some (.bool (k == 1)) ∧ w.cell? ⟨0, k.toNat * 5 + 2, none⟩ = some (.bool (mtK k)) ∧ w.cell? ⟨0, k.toNat * 5 + 3, none⟩ = some (.bool (nmK k)) ∧ w.cell? ⟨0, k.toNat * 5 + 4, none⟩ = some (.bool (k == 1 || k == 2 || k == 3 || k == 4)) := by
  obtain ⟨i, rfl⟩ : ∃ i : Nat, k = (i : Int) := ⟨k.toNat, by omega⟩
  have hi : i < 7 := by omega
  exact ⟨h.2 i 0 hi (by omega), h.2 i 1 hi (by omega), h.2 i 2 hi (by omega), h.2 i 3 hi (by omega), h.2 i 4 hi (by omega)⟩
theorem encode_any (r : ReqD) (a : Option Addr) (cap : Nat) (w : World) (hf : SmpsIn w a r.smps) (hz : reqBulk r ≤ 1048576) (hok : rqOK r) :
    Calls Tryd.prog 21 #[shV r.kind, .agg #[.int .i64 r.kind, .string r.tenant, .string r.metric, .int .i64 r.num, .slice a r.smps.length cap]] w fun e w' => e = .returned (.string (rqX r)) ∧ Below w.heap.size w w' := by
  have hb : reqBulk r = r.tenant.size + r.metric.size + r.smps.length + smpsBulk r.smps := rfl
  have hk := hok.1
  have h4 := hok.2.2.2.2.1
  have hl := hok.2.2.2.2.2.2.2.1
  have hx := hok.2.2.2.2.2.2.2.2
  obtain ⟨k, te, me, nu, xs⟩ := r
  simp only at *
  rcases kinds hk with rfl | rfl | rfl | rfl | rfl | rfl
  · exact encode1_any te me nu a cap w xs hf hl (fun i hi => (hx i hi).1) (by omega) (by omega) (by omega)
  · have e := h4 (by omega)
    subst e
    exact encode2_any te me nu a cap w (by omega) (by omega)
  · have e := h4 (by omega)
    subst e
    exact encode3_any te me nu a cap w (by omega) (by omega)
  · have e := h4 (by omega)
    subst e
    exact encode4_any te me nu a cap w (by omega) (by omega)
  · have e := h4 (by omega)
    subst e
    exact encode5_any te me nu a cap w (by omega) (by omega)
  · have e := h4 (by omega)
    subst e
    exact encode6_any te me nu a cap w (by omega) (by omega)

set_option maxRecDepth 100000 in
set_option maxHeartbeats 4000000 in
theorem implReq_any (r : ReqD) (a : Option Addr) (cap : Nat) (w : World) (hf : SmpsIn w a r.smps) (hz : reqBulk r ≤ 1048576) (hT : ShTab w) :
    Calls Tryd.prog 8 #[.agg #[.int .i64 r.kind, .string r.tenant, .string r.metric, .int .i64 r.num, .slice a r.smps.length cap]] w fun e w' => e = .returned (.string (reqB r)) ∧ Below w.heap.size w w' := by
  have hb : reqBulk r = r.tenant.size + r.metric.size + r.smps.length + smpsBulk r.smps := rfl
  have hsm : ∀ i (h : i < r.smps.length), r.smps[i].labs.length ≤ 2000000 := fun i hi => by
    have h1 := smpBulk_at r.smps i hi
    have h2 : smpBulk r.smps[i] = r.smps[i].labs.length + labBulk r.smps[i].labs := rfl
    omega
  have X0 : Hid (Blk (w.alloc (.cells #[.int .i64 r.kind, .string r.tenant, .string r.metric, .int .i64 r.num, .slice a r.smps.length cap] 29)) w.heap.size #[.int .i64 r.kind, .string r.tenant, .string r.metric, .int .i64 r.num, .slice a r.smps.length cap] 29) := Blk.new _ _ _
  have B0 : Hid (Below w.heap.size w (w.alloc (.cells #[.int .i64 r.kind, .string r.tenant, .string r.metric, .int .i64 r.num, .slice a r.smps.length cap] 29))) := bnew _ _
  have HIK : Hid (∀ W, Calls Tryd.prog 17 #[.int .i64 r.kind] W fun e w' => e = .returned (.bool (decide (1 ≤ r.kind ∧ r.kind ≤ 6))) ∧ Below W.heap.size W w') := fun W => isKind_any _ W
  have HB2 : Hid (reqBulk r ≤ 1048576) := hz
  have HE1 : Hid (¬ rqOK r → reqB r = ByteArray.empty) := fun h => reqB_no h
  have HE2 : Hid (60000 < (rqX r).size → reqB r = ByteArray.empty) := fun h => reqB_big h
  have HE3 : Hid (rqOK r → (rqX r).size ≤ 60000 → reqB r = rqX r) := fun h h2 => reqB_ok h h2
  have HE4 : Hid (60000 < r.tenant.size + r.metric.size + txtS r.smps → reqB r = ByteArray.empty) := fun h => by
    by_cases hq : rqOK r
    · exact reqB_big (txt_big hq h)
    · exact reqB_no hq
  have HRS : Hid (∀ (b : ByteArray), reqB r = b → (Ending.returned (Value.string b)) = Ending.returned (.string (reqB r))) := fun b h => by rw [h]
  generalize reqB r = RQ at *
  have HFI : Hid (∀ W, 1 ≤ r.kind ∧ r.kind ≤ 6 → FitR r a cap W) := fun W h => fits_any r a cap W h
  have HSI : Hid (∀ W, Below w.heap.size w W → SmpsIn W a r.smps) := fun W h => hf.later h
  have HTA : Hid (∀ W, Below w.heap.size w W → ShTab W) := fun W h => hT.later h
  go_enter Tryd.func8, Tryd.ntmps8
  go_upto_region 1 with fail
  generalize w.alloc (.cells #[.int .i64 r.kind, .string r.tenant, .string r.metric, .int .i64 r.num, .slice a r.smps.length cap] 29) = W0 at *
  have hne := Later.there W0
  have x0 := Later.cells (show W0.cell? ⟨w.heap.size, 0, none⟩ = some (.int .i64 r.kind) from X0.out.cell 0)
  have x1 := Later.cells (show W0.cell? ⟨w.heap.size, 1, none⟩ = some (.string r.tenant) from X0.out.cell 1)
  have x2 := Later.cells (show W0.cell? ⟨w.heap.size, 2, none⟩ = some (.string r.metric) from X0.out.cell 2)
  have x3 := Later.cells (show W0.cell? ⟨w.heap.size, 3, none⟩ = some (.int .i64 r.num) from X0.out.cell 3)
  have x4 := Later.cells (show W0.cell? ⟨w.heap.size, 4, none⟩ = some (.slice a r.smps.length cap) from X0.out.cell 4)
  by_cases hk : 1 ≤ r.kind ∧ r.kind ≤ 6
  rotate_left
  · have E : Hid (RQ = ByteArray.empty) := HE1.out fun h => hk h.1
    have HK1 : Hid (∀ x : Later W0, Calls Tryd.prog 17 #[.int .i64 r.kind] x.w' fun e w' => e = .returned (.bool false) ∧ Below x.w'.heap.size x.w' w') := fun x => by have := HIK.out x.w'; rw [decide_eq_false hk] at this; exact this
    clear hf hT hsm hk HIK
    go_wp2_with fail
    refine wp_region_later (by kernel_rfl) (by kernel_rfl) ?_
    repeat (go_big_quiet_step (exact calls_later (HK1.out _)))
    refine wpQuiet_nil ?_
    rintro _ ⟨x, rfl⟩
    go_wp2
    go_ret
    exact ⟨HRS.out _ E.out, bto B0.out x.h⟩
  have HK1 : Hid (∀ x : Later W0, Calls Tryd.prog 17 #[.int .i64 r.kind] x.w' fun e w' => e = .returned (.bool true) ∧ Below x.w'.heap.size x.w' w') := fun x => by have := HIK.out x.w'; rw [decide_eq_true hk] at this; exact this
  clear HIK
  obtain ⟨t0, t1, t2, t3, t4⟩ := (HTA.out W0 B0.out).at hk
  have hk0 : 0 ≤ r.kind ∧ r.kind < 7 := ⟨by omega, by omega⟩
  have HFT : ∀ B : Bool, (B = true ↔ fitOK r) → Hid (∀ x : Later W0, Calls Tryd.prog 18 #[shV r.kind, .agg #[.int .i64 r.kind, .string r.tenant, .string r.metric, .int .i64 r.num, .slice a r.smps.length cap]] x.w' fun e w' => e = .returned (.bool B) ∧ Below x.w'.heap.size x.w' w') := fun B hB x => (HFI.out x.w' hk).mono fun e w' ⟨b, h1, h2, h3⟩ => ⟨by rw [h1]; cases b <;> cases B <;> simp_all, h3⟩
  have HCT : ∀ B : Bool, (B = true ↔ cntOK r) → Hid (∀ x : Later W0, Calls Tryd.prog 19 #[.agg #[.int .i64 r.kind, .string r.tenant, .string r.metric, .int .i64 r.num, .slice a r.smps.length cap]] x.w' fun e w' => e = .returned (.bool B) ∧ Below x.w'.heap.size x.w' w') := fun B hB x => countable_any r a cap x.w' (HSI.out _ (bto B0.out x.h)) (by omega) hsm (by omega) B hB
  have HTX : Hid (∀ x : Later W0, Calls Tryd.prog 20 #[.agg #[.int .i64 r.kind, .string r.tenant, .string r.metric, .int .i64 r.num, .slice a r.smps.length cap]] x.w' fun e w' => e = .returned (.int .i64 ((r.tenant.size + r.metric.size + txtS r.smps : Nat) : Int)) ∧ Below x.w'.heap.size x.w' w') := fun x => textSize_any r a cap x.w' (HSI.out _ (bto B0.out x.h)) HB2.out
  have HEN : rqOK r → Hid (∀ W, Below w.heap.size w W → Calls Tryd.prog 21 #[shV r.kind, .agg #[.int .i64 r.kind, .string r.tenant, .string r.metric, .int .i64 r.num, .slice a r.smps.length cap]] W fun e w' => e = .returned (.string (rqX r)) ∧ Below W.heap.size W w') := fun hok W h => encode_any r a cap W (HSI.out W h) HB2.out hok
  have HRO := fun hf hc ht => hid (rq_of (r := r) hk hf hc ht)
  clear hf hT hsm hk HFI HSI HB2
  unfold shV at *
  by_cases d1 : fitOK r
  rotate_left
  · have E : Hid (RQ = ByteArray.empty) := HE1.out fun h => d1 (rq_fit h)
    have HF1 := HFT false ⟨fun h => (Bool.false_ne_true h).elim, fun h => absurd h d1⟩
    clear HFT HCT HTX HEN HRO d1
    replace t0 := Later.cells t0
    replace t1 := Later.cells t1
    replace t2 := Later.cells t2
    replace t3 := Later.cells t3
    replace t4 := Later.cells t4
    go_wp2_with fail
    refine wp_region_later (by kernel_rfl) (by kernel_rfl) ?_
    repeat (go_big_quiet_step (first | exact calls_later (HK1.out _) | exact calls_later (HF1.out _)))
    refine wpQuiet_nil ?_
    rintro _ ⟨x, rfl⟩
    go_wp2
    go_ret
    exact ⟨HRS.out _ E.out, bto B0.out x.h⟩
  have HF1 := HFT true ⟨fun _ => d1, fun _ => rfl⟩
  clear HFT
  by_cases d2 : cntOK r
  rotate_left
  · have E : Hid (RQ = ByteArray.empty) := HE1.out fun h => d2 (rq_cnt h)
    have HC1 := HCT false ⟨fun h => (Bool.false_ne_true h).elim, fun h => absurd h d2⟩
    clear HCT HTX HEN HRO d1 d2
    replace t0 := Later.cells t0
    replace t1 := Later.cells t1
    replace t2 := Later.cells t2
    replace t3 := Later.cells t3
    replace t4 := Later.cells t4
    go_wp2_with fail
    refine wp_region_later (by kernel_rfl) (by kernel_rfl) ?_
    repeat (go_big_quiet_step (first | exact calls_later (HK1.out _) | exact calls_later (HF1.out _) | exact calls_later (HC1.out _)))
    refine wpQuiet_nil ?_
    rintro _ ⟨x, rfl⟩
    go_wp2
    go_ret
    exact ⟨HRS.out _ E.out, bto B0.out x.h⟩
  have HC1 := HCT true ⟨fun _ => d2, fun _ => rfl⟩
  clear HCT
  by_cases d3 : ((r.tenant.size + r.metric.size + txtS r.smps : Nat) : Int) > 60000
  · have E : Hid (RQ = ByteArray.empty) := HE4.out (by omega)
    clear HEN HRO d1 d2 hb hz
    generalize ((r.tenant.size + r.metric.size + txtS r.smps : Nat) : Int) = TZ at *
    replace t0 := Later.cells t0
    replace t1 := Later.cells t1
    replace t2 := Later.cells t2
    replace t3 := Later.cells t3
    replace t4 := Later.cells t4
    go_wp2_with fail
    refine wp_region_later (by kernel_rfl) (by kernel_rfl) ?_
    repeat (go_big_quiet_step (first | exact calls_later (HK1.out _) | exact calls_later (HF1.out _) | exact calls_later (HC1.out _) | exact calls_later (HTX.out _)))
    refine wpQuiet_nil ?_
    rintro _ ⟨x, rfl⟩
    go_wp2
    go_ret
    exact ⟨HRS.out _ E.out, bto B0.out x.h⟩
  have hok := (HRO d1 d2 (by omega)).out
  have HEN1 := HEN hok
  have HE31 := hid (HE3.out hok)
  clear HEN HRO HE3 HE1 HE4 d1 d2 hok hb hz
  generalize ((r.tenant.size + r.metric.size + txtS r.smps : Nat) : Int) = TZ at *
  generalize rqX r = RX at *
  replace t0 := Later.cells t0
  replace t1 := Later.cells t1
  replace t2 := Later.cells t2
  replace t3 := Later.cells t3
  replace t4 := Later.cells t4
  have HEL : Hid (∀ x : Later W0, Calls Tryd.prog 21 #[.agg #[.bool (tnK r.kind), .bool (r.kind == 1), .bool (mtK r.kind), .bool (nmK r.kind), .bool (r.kind == 1 || r.kind == 2 || r.kind == 3 || r.kind == 4)], .agg #[.int .i64 r.kind, .string r.tenant, .string r.metric, .int .i64 r.num, .slice a r.smps.length cap]] x.w' fun e w' => e = .returned (.string RX) ∧ Below x.w'.heap.size x.w' w') := fun x => HEN1.out x.w' (bto B0.out x.h)
  clear HEN1
  go_wp2_with fail
  refine wp_region_later (by kernel_rfl) (by kernel_rfl) ?_
  repeat (go_big_quiet_step (first | exact calls_later (HK1.out _) | exact calls_later (HF1.out _) | exact calls_later (HC1.out _) | exact calls_later (HTX.out _)))
  refine wpQuiet_nil ?_
  rintro _ ⟨x, rfl⟩
  have B1 : Hid (Below w.heap.size w x.w') := bto B0.out x.h
  have y0 := Later.cells (x0 x)
  have y1 := Later.cells (x1 x)
  have y2 := Later.cells (x2 x)
  have y3 := Later.cells (x3 x)
  have y4 := Later.cells (x4 x)
  have q0 := Later.cells (t0 x)
  have q1 := Later.cells (t1 x)
  have q2 := Later.cells (t2 x)
  have q3 := Later.cells (t3 x)
  have q4 := Later.cells (t4 x)
  have HEL1 : Hid (∀ y : Later x.w', Calls Tryd.prog 21 #[.agg #[.bool (tnK r.kind), .bool (r.kind == 1), .bool (mtK r.kind), .bool (nmK r.kind), .bool (r.kind == 1 || r.kind == 2 || r.kind == 3 || r.kind == 4)], .agg #[.int .i64 r.kind, .string r.tenant, .string r.metric, .int .i64 r.num, .slice a r.smps.length cap]] y.w' fun e w' => e = .returned (.string RX) ∧ Below y.w'.heap.size y.w' w') := fun y => HEL.out ⟨y.w', bto x.h y.h⟩
  clear HEL HK1 HF1 HC1 HTX x0 x1 x2 x3 x4 t0 t1 t2 t3 t4 hne
  generalize x.w' = W1 at *
  have hne := Later.there W1
  go_wp2_with fail
  refine wp_region_later (by kernel_rfl) (by kernel_rfl) ?_
  repeat (go_big_quiet_step (exact calls_later (HEL1.out _)))
  refine wpQuiet_nil ?_
  rintro _ ⟨y, rfl⟩
  by_cases d4 : (RX.size : Int) > 60000
  · have E : Hid (RQ = ByteArray.empty) := HE2.out (by omega)
    go_wp2
    go_ret
    exact ⟨HRS.out _ E.out, bto B1.out y.h⟩
  · have E : Hid (RQ = RX) := HE31.out (by omega)
    go_wp2
    go_ret
    exact ⟨HRS.out _ E.out, bto B1.out y.h⟩
end Go.Proofs.YtoecnlhnfhongaaDoor

namespace Go.Proofs.YtoecnlhnfhongaaDoor
open Go.RowKit

theorem rqK_full {s q : ByteArray} {k : Nat} (h : s = numS 1 (k : Nat) ++ q) (hk : k < 256) : rqK s = (k, ⟨q, false⟩) := by
  rw [rqK, num_full (r := ⟨s, false⟩) h, be_numS 1 _ (by omega)]
theorem text1_full {t q : ByteArray} {b : Bool} (ht : t.size ≤ 255) : textR 1 ⟨s8B t ++ q, b⟩ = (t, ⟨q, b⟩) :=
  text_full (r := ⟨s8B t ++ q, b⟩) (by show s8B t ++ q = _; apply bext; simp [s8B]) (by omega)
theorem text2_full {t q : ByteArray} {b : Bool} (ht : t.size ≤ 65535) : textR 2 ⟨s16B t ++ q, b⟩ = (t, ⟨q, b⟩) :=
  text_full (r := ⟨s16B t ++ q, b⟩) (by show s16B t ++ q = _; apply bext; simp [s16B]) (by omega)
theorem num8_full {v : Int} {q : ByteArray} {b : Bool} (hv : I64 v) : wrapN (numR 8 ⟨numS 8 v ++ q, b⟩).1 = v ∧ (numR 8 ⟨numS 8 v ++ q, b⟩).2 = ⟨q, b⟩ := by
  have := num_full (k := 8) (r := ⟨numS 8 v ++ q, b⟩) (v := v) rfl
  rw [this]
  exact ⟨be_numS8 _ hv, rfl⟩
theorem empty_of {b : ByteArray} (h : b.size = 0) : b = ByteArray.empty := by
  apply bext
  have : b.data.toList.length = 0 := by simpa using h
  rw [List.length_eq_zero_iff.1 this]
  rfl
/-- The parts of a text by what its kind has. -/
theorem rq_of_kind {s q : ByteArray} {k : Nat} (h : rqK s = (k, ⟨q, false⟩)) :
    rqT s = (if tnK (k : Nat) = true then textR 1 ⟨q, false⟩ else (ByteArray.empty, ⟨q, false⟩)) ∧ rqS s = (if k = 1 then rdXs (rqC s).2 (rqC s).1 else ([], (rqT s).2)) ∧ rqM s = (if mtK (k : Nat) = true then textR 2 (rqS s).2 else (ByteArray.empty, (rqS s).2)) ∧ rqN s = (if nmK (k : Nat) = true then (wrapN (numR 8 (rqM s).2).1, (numR 8 (rqM s).2).2) else (0, (rqM s).2)) := by
  refine ⟨?_, ?_, ?_, ?_⟩
  · rw [rqT, h]
  · rw [rqS, h]
  · rw [rqM, h]
  · rw [rqN, h]
set_option maxHeartbeats 1000000 in
theorem rq_full {r : ReqD} (h : rqOK r) (hn : I64 r.num) (hb : ∀ i (hi : i < r.smps.length), I64 r.smps[i].bits) : (1 ≤ (rqK (rqX r)).1 ∧ (rqK (rqX r)).1 ≤ 6) ∧ (rqN (rqX r)).2.short = false ∧ rqR (rqX r) = r := by
  obtain ⟨hk, h1, h2, h3, h4, h5, h6, h7, h8⟩ := h
  obtain ⟨k, te, me, nu, xs⟩ := r
  simp only at *
  rcases kinds hk with rfl | rfl | rfl | rfl | rfl | rfl
  · have e1 := empty_of (h2 rfl)
    have e2 := h3 rfl
    subst e1 e2
    rw [rqX1]
    generalize hS : numS 1 1 ++ s8B te ++ numS 2 (xs.length : Nat) ++ encXs xs = S
    have a0 : rqK S = (1, ⟨s8B te ++ (numS 2 (xs.length : Nat) ++ (encXs xs ++ ByteArray.empty)), false⟩) := rqK_full (k := 1) (by rw [← hS]; apply bext; simp) (by omega)
    obtain ⟨b1, b2, b3, b4⟩ := rq_of_kind a0
    have a1 : rqT S = (te, ⟨numS 2 (xs.length : Nat) ++ (encXs xs ++ ByteArray.empty), false⟩) := by rw [b1, if_pos (by decide), text1_full h5]
    have a2 : rqC S = (xs.length, ⟨encXs xs ++ ByteArray.empty, false⟩) := by
      rw [rqC, a1]
      have := num_full (k := 2) (r := ⟨numS 2 (xs.length : Nat) ++ (encXs xs ++ ByteArray.empty), false⟩) (v := (xs.length : Nat)) rfl
      rw [this, be_numS 2 _ (by omega)]
    have a3 : rqS S = (xs, ⟨ByteArray.empty, false⟩) := by
      rw [b2, if_pos rfl, a2]
      have := rdXs_full (r := ⟨encXs xs ++ ByteArray.empty, false⟩) rfl h8 hb xs.length (Nat.le_refl _)
      rw [this, List.take_length, List.drop_length]
      simp [encXs]
    have a4 : rqM S = (ByteArray.empty, ⟨ByteArray.empty, false⟩) := by rw [b3, if_neg (by decide), a3]
    have a5 : rqN S = (0, ⟨ByteArray.empty, false⟩) := by rw [b4, if_neg (by decide), a4]
    rw [rqR, a5, a4, a3, a1, a0]
    exact ⟨⟨by simp only; omega, by simp only; omega⟩, rfl, rfl⟩
  · have e1 := empty_of (h1 rfl)
    have e2 := empty_of (h2 rfl)
    have e3 := h4 (by omega)
    subst e1 e2 e3
    rw [rqX2]
    generalize hS : numS 1 2 ++ numS 8 nu = S
    have a0 : rqK S = (2, ⟨numS 8 nu ++ ByteArray.empty, false⟩) := rqK_full (k := 2) (by rw [← hS]; apply bext; simp) (by omega)
    obtain ⟨b1, b2, b3, b4⟩ := rq_of_kind a0
    have a1 : rqT S = (ByteArray.empty, ⟨numS 8 nu ++ ByteArray.empty, false⟩) := by rw [b1, if_neg (by decide)]
    have a3 : rqS S = ([], ⟨numS 8 nu ++ ByteArray.empty, false⟩) := by rw [b2, if_neg (by decide), a1]
    have a4 : rqM S = (ByteArray.empty, ⟨numS 8 nu ++ ByteArray.empty, false⟩) := by rw [b3, if_neg (by decide), a3]
    have a5 : rqN S = (nu, ⟨ByteArray.empty, false⟩) := by
      rw [b4, if_pos (by decide), a4]
      have := num8_full (v := nu) (q := ByteArray.empty) (b := false) hn
      simp only [this.1, this.2]
    rw [rqR, a5, a4, a3, a1, a0]
    exact ⟨⟨by simp only; omega, by simp only; omega⟩, rfl, rfl⟩
  · have e3 := h4 (by omega)
    subst e3
    rw [rqX3]
    generalize hS : numS 1 3 ++ s8B te ++ s16B me ++ numS 8 nu = S
    have a0 : rqK S = (3, ⟨s8B te ++ (s16B me ++ (numS 8 nu ++ ByteArray.empty)), false⟩) := rqK_full (k := 3) (by rw [← hS]; apply bext; simp) (by omega)
    obtain ⟨b1, b2, b3, b4⟩ := rq_of_kind a0
    have a1 : rqT S = (te, ⟨s16B me ++ (numS 8 nu ++ ByteArray.empty), false⟩) := by rw [b1, if_pos (by decide), text1_full h5]
    have a3 : rqS S = ([], ⟨s16B me ++ (numS 8 nu ++ ByteArray.empty), false⟩) := by rw [b2, if_neg (by decide), a1]
    have a4 : rqM S = (me, ⟨numS 8 nu ++ ByteArray.empty, false⟩) := by rw [b3, if_pos (by decide), a3, text2_full h6]
    have a5 : rqN S = (nu, ⟨ByteArray.empty, false⟩) := by
      rw [b4, if_pos (by decide), a4]
      have := num8_full (v := nu) (q := ByteArray.empty) (b := false) hn
      simp only [this.1, this.2]
    rw [rqR, a5, a4, a3, a1, a0]
    exact ⟨⟨by simp only; omega, by simp only; omega⟩, rfl, rfl⟩
  · have e1 := empty_of (h1 rfl)
    have e2 := empty_of (h2 rfl)
    have e3 := h4 (by omega)
    have e4 := h3 rfl
    subst e1 e2 e3 e4
    rw [rqX4]
    generalize hS : numS 1 4 = S
    have a0 : rqK S = (4, ⟨ByteArray.empty, false⟩) := rqK_full (k := 4) (by rw [← hS]; apply bext; simp) (by omega)
    obtain ⟨b1, b2, b3, b4⟩ := rq_of_kind a0
    have a1 : rqT S = (ByteArray.empty, ⟨ByteArray.empty, false⟩) := by rw [b1, if_neg (by decide)]
    have a3 : rqS S = ([], ⟨ByteArray.empty, false⟩) := by rw [b2, if_neg (by decide), a1]
    have a4 : rqM S = (ByteArray.empty, ⟨ByteArray.empty, false⟩) := by rw [b3, if_neg (by decide), a3]
    have a5 : rqN S = (0, ⟨ByteArray.empty, false⟩) := by rw [b4, if_neg (by decide), a4]
    rw [rqR, a5, a4, a3, a1, a0]
    exact ⟨⟨by simp only; omega, by simp only; omega⟩, rfl, rfl⟩
  · have e3 := h4 (by omega)
    have e4 := h3 rfl
    subst e3 e4
    rw [rqX5]
    generalize hS : numS 1 5 ++ s8B te ++ s16B me = S
    have a0 : rqK S = (5, ⟨s8B te ++ (s16B me ++ ByteArray.empty), false⟩) := rqK_full (k := 5) (by rw [← hS]; apply bext; simp) (by omega)
    obtain ⟨b1, b2, b3, b4⟩ := rq_of_kind a0
    have a1 : rqT S = (te, ⟨s16B me ++ ByteArray.empty, false⟩) := by rw [b1, if_pos (by decide), text1_full h5]
    have a3 : rqS S = ([], ⟨s16B me ++ ByteArray.empty, false⟩) := by rw [b2, if_neg (by decide), a1]
    have a4 : rqM S = (me, ⟨ByteArray.empty, false⟩) := by rw [b3, if_pos (by decide), a3, text2_full h6]
    have a5 : rqN S = (0, ⟨ByteArray.empty, false⟩) := by rw [b4, if_neg (by decide), a4]
    rw [rqR, a5, a4, a3, a1, a0]
    exact ⟨⟨by simp only; omega, by simp only; omega⟩, rfl, rfl⟩
  · have e2 := empty_of (h2 rfl)
    have e3 := h4 (by omega)
    have e4 := h3 rfl
    subst e2 e3 e4
    rw [rqX6]
    generalize hS : numS 1 6 ++ s8B te = S
    have a0 : rqK S = (6, ⟨s8B te ++ ByteArray.empty, false⟩) := rqK_full (k := 6) (by rw [← hS]; apply bext; simp) (by omega)
    obtain ⟨b1, b2, b3, b4⟩ := rq_of_kind a0
    have a1 : rqT S = (te, ⟨ByteArray.empty, false⟩) := by rw [b1, if_pos (by decide), text1_full h5]
    have a3 : rqS S = ([], ⟨ByteArray.empty, false⟩) := by rw [b2, if_neg (by decide), a1]
    have a4 : rqM S = (ByteArray.empty, ⟨ByteArray.empty, false⟩) := by rw [b3, if_neg (by decide), a3]
    have a5 : rqN S = (0, ⟨ByteArray.empty, false⟩) := by rw [b4, if_neg (by decide), a4]
    rw [rqR, a5, a4, a3, a1, a0]
    exact ⟨⟨by simp only; omega, by simp only; omega⟩, rfl, rfl⟩
/-- The request that a text is, whoever names it, is what is read. -/
theorem decR_of {s : ByteArray} {r : ReqD} (hs : s.size ≠ 0) (h : reqB r = s) (hn : I64 r.num) (hb : ∀ i (hi : i < r.smps.length), I64 r.smps[i].bits) : decR s = (r, true) := by
  have hok : rqOK r ∧ (rqX r).size ≤ 60000 := by
    by_cases hq : rqOK r ∧ (rqX r).size ≤ 60000
    · exact hq
    · exfalso
      apply hs
      rw [← h]
      unfold reqB
      rw [if_neg hq]
      rfl
  have e : rqX r = s := by rw [← h, reqB_ok hok.1 hok.2]
  obtain ⟨a, b, c⟩ := rq_full hok.1 hn hb
  rw [e] at a b c
  unfold decR
  rw [if_pos ⟨a, b, by rw [c]; exact h⟩, c]
theorem decR_no {s : ByteArray} (h : ¬ ((1 ≤ (rqK s).1 ∧ (rqK s).1 ≤ 6) ∧ (rqN s).2.short = false ∧ reqB (rqR s) = s)) : decR s = (⟨0, ByteArray.empty, ByteArray.empty, 0, []⟩, false) := by unfold decR; rw [if_neg h]
theorem decR_yes {s : ByteArray} (h : (1 ≤ (rqK s).1 ∧ (rqK s).1 ≤ 6) ∧ (rqN s).2.short = false ∧ reqB (rqR s) = s) : decR s = (rqR s, true) := by unfold decR; rw [if_pos h]
end Go.Proofs.YtoecnlhnfhongaaDoor

