import Derived.Test.YtploplddbemelaaGreatDoorProg
import Derived.Test.YtploplddbemelaaGreatDoorJ31SSam
import Derived.Test.YtploplddbemelaaGreatDoorJ23SSta
import Derived.Test.YtploplddbemelaaGreatDoorJ01Own
import Derived.Test.YtploplddbemelaaGreatDoorJ02LabB
import Derived.Test.YtploplddbemelaaGreatDoorJ05HpP
namespace Go.Proofs.YtploplddbemelaaGreatDoor
open Go.RowKit

theorem tick_all {c : CfgD} {now now' : Int} {ts : List TenD} (h : stateB c now ts = true) : keptTs c.w now' (wAll ⟨⟨#[]⟩, 0, [], []⟩ true ts) = keptTs c.w now' ts := by
  rw [wAll_placed (t := ⟨⟨#[]⟩, 0, [], []⟩) (names_ne h)]

set_option maxRecDepth 100000 in
set_option maxHeartbeats 8000000 in
theorem specTick_any (c : CfgD) (now : Int) (a : Option Addr) (cap : Nat) (ts : List TenD) (by_ : Int) (w : World) (hf : TensIn w a ts) (hbk : ts.length + tensBulk ts ≤ 1048576) :
    Calls Tryz.prog 21 #[cfgV c, .agg #[.int .i64 now, .slice a ts.length cap], .int .i64 by_] w fun e w' => StOut (tickV c now ts by_) w e w' := by
  obtain ⟨f1, f2, f3, f4⟩ := fit_of hbk
  have HO : Hid (∀ W, Below w.heap.size w W → Calls Tryz.prog 57 #[cfgV c, .agg #[.int .i64 now, .slice a ts.length cap]] W fun e w' => e = .returned (.bool (stateB c now ts)) ∧ Below W.heap.size W w') := fun W hW => specState_any c now a cap ts W (hf.later hW) f2 (by omega)
  have HV : Hid (tickV c now ts by_ = if stateB c now ts = false then (0, [], false) else if by_ < 1 ∨ 1000000000000 - now < by_ then (now, ts, false) else (now + by_, keptTs c.w (now + by_) ts, true)) := rfl
  unfold StOut
  by_cases h0 : stateB c now ts = false
  · have HV2 : Hid (tickV c now ts by_ = (0, [], false)) := by show _ = _; rw [HV.out, if_pos h0]
    rw [h0] at HO
    clear hf HV h0 f1 f2 f3 f4
    generalize tickV c now ts by_ = V at *
    unfold cfgV at *
    go_enter Tryz.func21, Tryz.ntmps21
    have B0 : Hid (Below w.heap.size w (((w.alloc (.cells #[.int .i64 c.w, .int .i64 c.tl, .int .i64 c.ml, .int .i64 c.sh, .int .i64 c.ha, .int .i64 c.sg] 24)).alloc (.cells #[.int .i64 now, .slice a ts.length cap] 41)).alloc (.cells #[.int .i64 0, .slice none 0 0] 41))) := bto (bto (bnew _ _) (bnew _ _)) (bnew _ _)
    have R0 : Hid (Blk (((w.alloc (.cells #[.int .i64 c.w, .int .i64 c.tl, .int .i64 c.ml, .int .i64 c.sh, .int .i64 c.ha, .int .i64 c.sg] 24)).alloc (.cells #[.int .i64 now, .slice a ts.length cap] 41)).alloc (.cells #[.int .i64 0, .slice none 0 0] 41)) (w.heap.size + 1 + 1) #[.int .i64 0, .slice none 0 0] 41) := hid (by have := Blk.new ((w.alloc (.cells #[.int .i64 c.w, .int .i64 c.tl, .int .i64 c.ml, .int .i64 c.sh, .int .i64 c.ha, .int .i64 c.sg] 24)).alloc (.cells #[.int .i64 now, .slice a ts.length cap] 41)) #[.int .i64 0, .slice none 0 0] 41; simpa using this)
    go_wp2_with fail
    refine (HO.out _ B0.out).mono ?_
    rintro e w1 ⟨rfl, hb⟩
    have HB : Hid (Below w.heap.size w w1) := bto B0.out hb
    have RB : Hid (Blk w1 (w.heap.size + 1 + 1) #[.int .i64 0, .slice none 0 0] 41) := R0.out.later hb
    have y0 : w1.cell? ⟨w.heap.size + 1 + 1, 0, none⟩ = some (.int .i64 0) := RB.out.cell 0
    have y1 : w1.cell? ⟨w.heap.size + 1 + 1, 1, none⟩ = some (.slice none 0 0) := RB.out.cell 1
    have f0 := RB.out.free 0
    have f1 := RB.out.free 1
    have hwl : w.heap.size + 1 + 1 < w1.heap.size := lt_of_block RB.out
    clear hb
    go_wp2
    refine bodyPost_ret (v := .tuple #[.agg #[.int .i64 0, .slice none 0 0], .bool false]) (by simp [results, Tryz.results21, go_sem, y0, y1]) rfl ?_
    rw [HV2.out]
    refine ⟨none, 0, rfl, Or.inl rfl, ?_⟩
    first
      | exact (HB.out.setCell (by show w.heap.size ≤ w.heap.size + 1 + 1; omega) _).setCell (by show w.heap.size ≤ w.heap.size + 1 + 1; omega) _
      | exact HB.out
  have h0' : stateB c now ts = true := by simpa using h0
  obtain ⟨hcf, hn0, hn1, hlen, htens⟩ := tens_of h0'
  have HSM : Hid (∀ W, Below w.heap.size w W → Calls Tryz.prog 60 #[cfgV c, .agg #[.int .i64 now, .slice a ts.length cap]] W fun e w' => ∃ a' cap', e = .returned (.agg #[.int .i64 now, .slice a' ts.length cap']) ∧ TensOwn w' W.heap.size a' ts ∧ Below W.heap.size W w') := fun W hW => l4Same_any c now a cap ts W (hf.later hW) h0' hbk
  have HWI : Hid (∀ W now', Below w.heap.size w W → 0 ≤ now' → now' ≤ 1000000000000 → Calls Tryz.prog 62 #[cfgV c, .agg #[.int .i64 now, .slice a ts.length cap], .int .i64 now', .agg #[.string ⟨#[]⟩, .int .i64 0, .slice none 0 0, .slice none 0 0]] W fun e w' => ∃ a' cap', e = .returned (.agg #[.int .i64 now', .slice a' (keptTs c.w now' ts).length cap']) ∧ TensOwn w' W.heap.size a' (keptTs c.w now' ts) ∧ Below W.heap.size W w') := fun W now' hW q0 q1 => by
    have := l4With_any c now now' a cap ts ⟨⟨#[]⟩, 0, [], []⟩ none none 0 0 W (hf.later hW) (Or.inl rfl) (Or.inl rfl) (by omega) (fun x hx => by
      rcases hx with rfl | hx
      · exact ⟨Nat.zero_le _, Nat.zero_le _, fun i h => absurd h (by simp)⟩
      · exact fitW_of h0' hbk x hx) q0 (by omega)
    have e : (⟨⟨#[]⟩, 0, [], []⟩ : TenD).name.toList.isEmpty = true := by kernel_rfl
    rw [e, tick_all h0'] at this
    exact this
  have HV1 : Hid (tickV c now ts by_ = if by_ < 1 ∨ 1000000000000 - now < by_ then (now, ts, false) else (now + by_, keptTs c.w (now + by_) ts, true)) := by show _ = _; rw [HV.out, if_neg h0]
  rw [h0'] at HO
  clear hf HV h0 h0' f1 f2 f3 f4 hcf hlen htens
  generalize tickV c now ts by_ = V at *
  unfold cfgV at *
  by_cases h1 : by_ < 1
  · have HV2 : Hid (V = (now, ts, false)) := by show _ = _; rw [HV1.out, if_pos (Or.inl h1)]
    clear HV1 HWI
    go_enter Tryz.func21, Tryz.ntmps21
    have B0 : Hid (Below w.heap.size w (((w.alloc (.cells #[.int .i64 c.w, .int .i64 c.tl, .int .i64 c.ml, .int .i64 c.sh, .int .i64 c.ha, .int .i64 c.sg] 24)).alloc (.cells #[.int .i64 now, .slice a ts.length cap] 41)).alloc (.cells #[.int .i64 0, .slice none 0 0] 41))) := bto (bto (bnew _ _) (bnew _ _)) (bnew _ _)
    have C0 : Hid (Blk (((w.alloc (.cells #[.int .i64 c.w, .int .i64 c.tl, .int .i64 c.ml, .int .i64 c.sh, .int .i64 c.ha, .int .i64 c.sg] 24)).alloc (.cells #[.int .i64 now, .slice a ts.length cap] 41)).alloc (.cells #[.int .i64 0, .slice none 0 0] 41)) w.heap.size #[.int .i64 c.w, .int .i64 c.tl, .int .i64 c.ml, .int .i64 c.sh, .int .i64 c.ha, .int .i64 c.sg] 24) := (((Blk.new _ _ _).alloc _).alloc _)
    have S0 : Hid (Blk (((w.alloc (.cells #[.int .i64 c.w, .int .i64 c.tl, .int .i64 c.ml, .int .i64 c.sh, .int .i64 c.ha, .int .i64 c.sg] 24)).alloc (.cells #[.int .i64 now, .slice a ts.length cap] 41)).alloc (.cells #[.int .i64 0, .slice none 0 0] 41)) (w.heap.size + 1) #[.int .i64 now, .slice a ts.length cap] 41) := hid (by have := (Blk.new (w.alloc (.cells #[.int .i64 c.w, .int .i64 c.tl, .int .i64 c.ml, .int .i64 c.sh, .int .i64 c.ha, .int .i64 c.sg] 24)) #[.int .i64 now, .slice a ts.length cap] 41).alloc (.cells #[.int .i64 0, .slice none 0 0] 41); simpa using this)
    have R0 : Hid (Blk (((w.alloc (.cells #[.int .i64 c.w, .int .i64 c.tl, .int .i64 c.ml, .int .i64 c.sh, .int .i64 c.ha, .int .i64 c.sg] 24)).alloc (.cells #[.int .i64 now, .slice a ts.length cap] 41)).alloc (.cells #[.int .i64 0, .slice none 0 0] 41)) (w.heap.size + 1 + 1) #[.int .i64 0, .slice none 0 0] 41) := hid (by have := Blk.new ((w.alloc (.cells #[.int .i64 c.w, .int .i64 c.tl, .int .i64 c.ml, .int .i64 c.sh, .int .i64 c.ha, .int .i64 c.sg] 24)).alloc (.cells #[.int .i64 now, .slice a ts.length cap] 41)) #[.int .i64 0, .slice none 0 0] 41; simpa using this)
    go_wp2_with fail
    refine (HO.out _ B0.out).mono ?_
    rintro e wv ⟨rfl, hb1⟩
    have Cv : Hid (Blk wv w.heap.size #[.int .i64 c.w, .int .i64 c.tl, .int .i64 c.ml, .int .i64 c.sh, .int .i64 c.ha, .int .i64 c.sg] 24) := C0.out.later hb1
    have Sv : Hid (Blk wv (w.heap.size + 1) #[.int .i64 now, .slice a ts.length cap] 41) := S0.out.later hb1
    have Rv : Hid (Blk wv (w.heap.size + 1 + 1) #[.int .i64 0, .slice none 0 0] 41) := R0.out.later hb1
    have Bv : Hid (Below w.heap.size w wv) := bto B0.out hb1
    clear hb1 HO C0 S0 R0 B0
    have bvx0 : wv.cell? ⟨w.heap.size, 0, none⟩ = some (.int .i64 c.w) := Cv.out.cell 0
    have bvx1 : wv.cell? ⟨w.heap.size, 1, none⟩ = some (.int .i64 c.tl) := Cv.out.cell 1
    have bvx2 : wv.cell? ⟨w.heap.size, 2, none⟩ = some (.int .i64 c.ml) := Cv.out.cell 2
    have bvx3 : wv.cell? ⟨w.heap.size, 3, none⟩ = some (.int .i64 c.sh) := Cv.out.cell 3
    have bvx4 : wv.cell? ⟨w.heap.size, 4, none⟩ = some (.int .i64 c.ha) := Cv.out.cell 4
    have bvx5 : wv.cell? ⟨w.heap.size, 5, none⟩ = some (.int .i64 c.sg) := Cv.out.cell 5
    have bvy0 : wv.cell? ⟨w.heap.size + 1, 0, none⟩ = some (.int .i64 now) := Sv.out.cell 0
    have bvy1 : wv.cell? ⟨w.heap.size + 1, 1, none⟩ = some (.slice a ts.length cap) := Sv.out.cell 1
    go_wp2_with fail
    refine (HSM.out _ Bv.out).mono ?_
    rintro e w9 ⟨ra, rc, rfl, ho9, hb9⟩
    have HO9 : Hid (TensOwn w9 wv.heap.size ra ts) := ho9
    have R9 : Hid (Blk w9 (w.heap.size + 1 + 1) #[.int .i64 0, .slice none 0 0] 41) := Rv.out.later hb9
    have B9 : Hid (Below w.heap.size w w9) := bto Bv.out hb9
    have hwv : w.heap.size + 1 + 1 < wv.heap.size := lt_of_block Rv.out
    clear ho9 hb9
    have z0 : w9.cell? ⟨w.heap.size + 1 + 1, 0, none⟩ = some (.int .i64 0) := R9.out.cell 0
    have z1 : w9.cell? ⟨w.heap.size + 1 + 1, 1, none⟩ = some (.slice none 0 0) := R9.out.cell 1
    have f0 := R9.out.free 0
    have f1 := R9.out.free 1
    have hwl : w.heap.size + 1 + 1 < w9.heap.size := lt_of_block R9.out
    go_wp2
    have HTE9 : Turn (· = w.heap.size + 1 + 1) w9 ((w9.setCell ⟨w.heap.size + 1 + 1, 0, none⟩ (.int .i64 now)).setCell ⟨w.heap.size + 1 + 1, 1, none⟩ (.slice ra ts.length rc)) := ((Turn.refl (· = w.heap.size + 1 + 1) w9).setCell (Or.inl rfl) 0 _).setCell (Or.inl rfl) 1 _
    refine bodyPost_ret (v := .tuple #[.agg #[.int .i64 now, .slice ra ts.length rc], .bool false]) (by simp [results, Tryz.results21, go_sem, z0, z1]) rfl ?_
    rw [HV2.out]
    have ho : TensOwn ((w9.setCell ⟨w.heap.size + 1 + 1, 0, none⟩ (.int .i64 now)).setCell ⟨w.heap.size + 1 + 1, 1, none⟩ (.slice ra ts.length rc)) w.heap.size ra ts := (TensOwn.turned HO9.out HTE9 (fun g h1 h2 e => by omega)).mono (by omega)
    have hbe : Below w.heap.size w ((w9.setCell ⟨w.heap.size + 1 + 1, 0, none⟩ (.int .i64 now)).setCell ⟨w.heap.size + 1 + 1, 1, none⟩ (.slice ra ts.length rc)) := ((Turn.of (S := fun i => w.heap.size ≤ i) B9.out).trans' (HTE9.mono fun i _ e => by omega)).below (Nat.le_refl _) fun i hi h => by omega
    first
      | exact ⟨ra, ⟨rc, rfl⟩, ho, hbe⟩
      | exact ⟨ra, rc, rfl, ho, hbe⟩
  by_cases h2 : 1000000000000 - now < by_
  · have HV2 : Hid (V = (now, ts, false)) := by show _ = _; rw [HV1.out, if_pos (Or.inr h2)]
    clear HV1 HWI
    go_enter Tryz.func21, Tryz.ntmps21
    have B0 : Hid (Below w.heap.size w (((w.alloc (.cells #[.int .i64 c.w, .int .i64 c.tl, .int .i64 c.ml, .int .i64 c.sh, .int .i64 c.ha, .int .i64 c.sg] 24)).alloc (.cells #[.int .i64 now, .slice a ts.length cap] 41)).alloc (.cells #[.int .i64 0, .slice none 0 0] 41))) := bto (bto (bnew _ _) (bnew _ _)) (bnew _ _)
    have C0 : Hid (Blk (((w.alloc (.cells #[.int .i64 c.w, .int .i64 c.tl, .int .i64 c.ml, .int .i64 c.sh, .int .i64 c.ha, .int .i64 c.sg] 24)).alloc (.cells #[.int .i64 now, .slice a ts.length cap] 41)).alloc (.cells #[.int .i64 0, .slice none 0 0] 41)) w.heap.size #[.int .i64 c.w, .int .i64 c.tl, .int .i64 c.ml, .int .i64 c.sh, .int .i64 c.ha, .int .i64 c.sg] 24) := (((Blk.new _ _ _).alloc _).alloc _)
    have S0 : Hid (Blk (((w.alloc (.cells #[.int .i64 c.w, .int .i64 c.tl, .int .i64 c.ml, .int .i64 c.sh, .int .i64 c.ha, .int .i64 c.sg] 24)).alloc (.cells #[.int .i64 now, .slice a ts.length cap] 41)).alloc (.cells #[.int .i64 0, .slice none 0 0] 41)) (w.heap.size + 1) #[.int .i64 now, .slice a ts.length cap] 41) := hid (by have := (Blk.new (w.alloc (.cells #[.int .i64 c.w, .int .i64 c.tl, .int .i64 c.ml, .int .i64 c.sh, .int .i64 c.ha, .int .i64 c.sg] 24)) #[.int .i64 now, .slice a ts.length cap] 41).alloc (.cells #[.int .i64 0, .slice none 0 0] 41); simpa using this)
    have R0 : Hid (Blk (((w.alloc (.cells #[.int .i64 c.w, .int .i64 c.tl, .int .i64 c.ml, .int .i64 c.sh, .int .i64 c.ha, .int .i64 c.sg] 24)).alloc (.cells #[.int .i64 now, .slice a ts.length cap] 41)).alloc (.cells #[.int .i64 0, .slice none 0 0] 41)) (w.heap.size + 1 + 1) #[.int .i64 0, .slice none 0 0] 41) := hid (by have := Blk.new ((w.alloc (.cells #[.int .i64 c.w, .int .i64 c.tl, .int .i64 c.ml, .int .i64 c.sh, .int .i64 c.ha, .int .i64 c.sg] 24)).alloc (.cells #[.int .i64 now, .slice a ts.length cap] 41)) #[.int .i64 0, .slice none 0 0] 41; simpa using this)
    go_wp2_with fail
    refine (HO.out _ B0.out).mono ?_
    rintro e wv ⟨rfl, hb1⟩
    have Cv : Hid (Blk wv w.heap.size #[.int .i64 c.w, .int .i64 c.tl, .int .i64 c.ml, .int .i64 c.sh, .int .i64 c.ha, .int .i64 c.sg] 24) := C0.out.later hb1
    have Sv : Hid (Blk wv (w.heap.size + 1) #[.int .i64 now, .slice a ts.length cap] 41) := S0.out.later hb1
    have Rv : Hid (Blk wv (w.heap.size + 1 + 1) #[.int .i64 0, .slice none 0 0] 41) := R0.out.later hb1
    have Bv : Hid (Below w.heap.size w wv) := bto B0.out hb1
    clear hb1 HO C0 S0 R0 B0
    have bvx0 : wv.cell? ⟨w.heap.size, 0, none⟩ = some (.int .i64 c.w) := Cv.out.cell 0
    have bvx1 : wv.cell? ⟨w.heap.size, 1, none⟩ = some (.int .i64 c.tl) := Cv.out.cell 1
    have bvx2 : wv.cell? ⟨w.heap.size, 2, none⟩ = some (.int .i64 c.ml) := Cv.out.cell 2
    have bvx3 : wv.cell? ⟨w.heap.size, 3, none⟩ = some (.int .i64 c.sh) := Cv.out.cell 3
    have bvx4 : wv.cell? ⟨w.heap.size, 4, none⟩ = some (.int .i64 c.ha) := Cv.out.cell 4
    have bvx5 : wv.cell? ⟨w.heap.size, 5, none⟩ = some (.int .i64 c.sg) := Cv.out.cell 5
    have bvy0 : wv.cell? ⟨w.heap.size + 1, 0, none⟩ = some (.int .i64 now) := Sv.out.cell 0
    have bvy1 : wv.cell? ⟨w.heap.size + 1, 1, none⟩ = some (.slice a ts.length cap) := Sv.out.cell 1
    go_wp2_with fail
    refine (HSM.out _ Bv.out).mono ?_
    rintro e w9 ⟨ra, rc, rfl, ho9, hb9⟩
    have HO9 : Hid (TensOwn w9 wv.heap.size ra ts) := ho9
    have R9 : Hid (Blk w9 (w.heap.size + 1 + 1) #[.int .i64 0, .slice none 0 0] 41) := Rv.out.later hb9
    have B9 : Hid (Below w.heap.size w w9) := bto Bv.out hb9
    have hwv : w.heap.size + 1 + 1 < wv.heap.size := lt_of_block Rv.out
    clear ho9 hb9
    have z0 : w9.cell? ⟨w.heap.size + 1 + 1, 0, none⟩ = some (.int .i64 0) := R9.out.cell 0
    have z1 : w9.cell? ⟨w.heap.size + 1 + 1, 1, none⟩ = some (.slice none 0 0) := R9.out.cell 1
    have f0 := R9.out.free 0
    have f1 := R9.out.free 1
    have hwl : w.heap.size + 1 + 1 < w9.heap.size := lt_of_block R9.out
    go_wp2
    have HTE9 : Turn (· = w.heap.size + 1 + 1) w9 ((w9.setCell ⟨w.heap.size + 1 + 1, 0, none⟩ (.int .i64 now)).setCell ⟨w.heap.size + 1 + 1, 1, none⟩ (.slice ra ts.length rc)) := ((Turn.refl (· = w.heap.size + 1 + 1) w9).setCell (Or.inl rfl) 0 _).setCell (Or.inl rfl) 1 _
    refine bodyPost_ret (v := .tuple #[.agg #[.int .i64 now, .slice ra ts.length rc], .bool false]) (by simp [results, Tryz.results21, go_sem, z0, z1]) rfl ?_
    rw [HV2.out]
    have ho : TensOwn ((w9.setCell ⟨w.heap.size + 1 + 1, 0, none⟩ (.int .i64 now)).setCell ⟨w.heap.size + 1 + 1, 1, none⟩ (.slice ra ts.length rc)) w.heap.size ra ts := (TensOwn.turned HO9.out HTE9 (fun g h1 h2 e => by omega)).mono (by omega)
    have hbe : Below w.heap.size w ((w9.setCell ⟨w.heap.size + 1 + 1, 0, none⟩ (.int .i64 now)).setCell ⟨w.heap.size + 1 + 1, 1, none⟩ (.slice ra ts.length rc)) := ((Turn.of (S := fun i => w.heap.size ≤ i) B9.out).trans' (HTE9.mono fun i _ e => by omega)).below (Nat.le_refl _) fun i hi h => by omega
    first
      | exact ⟨ra, ⟨rc, rfl⟩, ho, hbe⟩
      | exact ⟨ra, rc, rfl, ho, hbe⟩
  have HV2 : Hid (V = (now + by_, keptTs c.w (now + by_) ts, true)) := by show _ = _; rw [HV1.out, if_neg (fun e => by rcases e with e | e; exact h1 e; exact h2 e)]
  have hwr : IntKind.i64.wrap (now + by_) = now + by_ := by
    simp only [IntKind.wrap, IntKind.bits, IntKind.signed]
    simp
    omega
  have HW2 := hid (fun W hW => HWI.out W (now + by_) hW (by omega) (by omega))
  clear HV1 HSM HWI
  generalize keptTs c.w (now + by_) ts = RL at *
  generalize hnb : now + by_ = now' at *
  go_enter Tryz.func21, Tryz.ntmps21
  have B0 : Hid (Below w.heap.size w (((w.alloc (.cells #[.int .i64 c.w, .int .i64 c.tl, .int .i64 c.ml, .int .i64 c.sh, .int .i64 c.ha, .int .i64 c.sg] 24)).alloc (.cells #[.int .i64 now, .slice a ts.length cap] 41)).alloc (.cells #[.int .i64 0, .slice none 0 0] 41))) := bto (bto (bnew _ _) (bnew _ _)) (bnew _ _)
  have C0 : Hid (Blk (((w.alloc (.cells #[.int .i64 c.w, .int .i64 c.tl, .int .i64 c.ml, .int .i64 c.sh, .int .i64 c.ha, .int .i64 c.sg] 24)).alloc (.cells #[.int .i64 now, .slice a ts.length cap] 41)).alloc (.cells #[.int .i64 0, .slice none 0 0] 41)) w.heap.size #[.int .i64 c.w, .int .i64 c.tl, .int .i64 c.ml, .int .i64 c.sh, .int .i64 c.ha, .int .i64 c.sg] 24) := (((Blk.new _ _ _).alloc _).alloc _)
  have S0 : Hid (Blk (((w.alloc (.cells #[.int .i64 c.w, .int .i64 c.tl, .int .i64 c.ml, .int .i64 c.sh, .int .i64 c.ha, .int .i64 c.sg] 24)).alloc (.cells #[.int .i64 now, .slice a ts.length cap] 41)).alloc (.cells #[.int .i64 0, .slice none 0 0] 41)) (w.heap.size + 1) #[.int .i64 now, .slice a ts.length cap] 41) := hid (by have := (Blk.new (w.alloc (.cells #[.int .i64 c.w, .int .i64 c.tl, .int .i64 c.ml, .int .i64 c.sh, .int .i64 c.ha, .int .i64 c.sg] 24)) #[.int .i64 now, .slice a ts.length cap] 41).alloc (.cells #[.int .i64 0, .slice none 0 0] 41); simpa using this)
  have R0 : Hid (Blk (((w.alloc (.cells #[.int .i64 c.w, .int .i64 c.tl, .int .i64 c.ml, .int .i64 c.sh, .int .i64 c.ha, .int .i64 c.sg] 24)).alloc (.cells #[.int .i64 now, .slice a ts.length cap] 41)).alloc (.cells #[.int .i64 0, .slice none 0 0] 41)) (w.heap.size + 1 + 1) #[.int .i64 0, .slice none 0 0] 41) := hid (by have := Blk.new ((w.alloc (.cells #[.int .i64 c.w, .int .i64 c.tl, .int .i64 c.ml, .int .i64 c.sh, .int .i64 c.ha, .int .i64 c.sg] 24)).alloc (.cells #[.int .i64 now, .slice a ts.length cap] 41)) #[.int .i64 0, .slice none 0 0] 41; simpa using this)
  go_wp2_with fail
  refine (HO.out _ B0.out).mono ?_
  rintro e wv ⟨rfl, hb1⟩
  have Cv : Hid (Blk wv w.heap.size #[.int .i64 c.w, .int .i64 c.tl, .int .i64 c.ml, .int .i64 c.sh, .int .i64 c.ha, .int .i64 c.sg] 24) := C0.out.later hb1
  have Sv : Hid (Blk wv (w.heap.size + 1) #[.int .i64 now, .slice a ts.length cap] 41) := S0.out.later hb1
  have Rv : Hid (Blk wv (w.heap.size + 1 + 1) #[.int .i64 0, .slice none 0 0] 41) := R0.out.later hb1
  have Bv : Hid (Below w.heap.size w wv) := bto B0.out hb1
  clear hb1 HO C0 S0 R0 B0
  have bvx0 : wv.cell? ⟨w.heap.size, 0, none⟩ = some (.int .i64 c.w) := Cv.out.cell 0
  have bvx1 : wv.cell? ⟨w.heap.size, 1, none⟩ = some (.int .i64 c.tl) := Cv.out.cell 1
  have bvx2 : wv.cell? ⟨w.heap.size, 2, none⟩ = some (.int .i64 c.ml) := Cv.out.cell 2
  have bvx3 : wv.cell? ⟨w.heap.size, 3, none⟩ = some (.int .i64 c.sh) := Cv.out.cell 3
  have bvx4 : wv.cell? ⟨w.heap.size, 4, none⟩ = some (.int .i64 c.ha) := Cv.out.cell 4
  have bvx5 : wv.cell? ⟨w.heap.size, 5, none⟩ = some (.int .i64 c.sg) := Cv.out.cell 5
  have bvy0 : wv.cell? ⟨w.heap.size + 1, 0, none⟩ = some (.int .i64 now) := Sv.out.cell 0
  have bvy1 : wv.cell? ⟨w.heap.size + 1, 1, none⟩ = some (.slice a ts.length cap) := Sv.out.cell 1
  go_wp2_with fail
  refine (HW2.out _ Bv.out).mono ?_
  rintro e w9 ⟨ra, rc, rfl, ho9, hb9⟩
  have HO9 : Hid (TensOwn w9 wv.heap.size ra RL) := ho9
  have R9 : Hid (Blk w9 (w.heap.size + 1 + 1) #[.int .i64 0, .slice none 0 0] 41) := Rv.out.later hb9
  have B9 : Hid (Below w.heap.size w w9) := bto Bv.out hb9
  have hwv : w.heap.size + 1 + 1 < wv.heap.size := lt_of_block Rv.out
  clear ho9 hb9
  have z0 : w9.cell? ⟨w.heap.size + 1 + 1, 0, none⟩ = some (.int .i64 0) := R9.out.cell 0
  have z1 : w9.cell? ⟨w.heap.size + 1 + 1, 1, none⟩ = some (.slice none 0 0) := R9.out.cell 1
  have f0 := R9.out.free 0
  have f1 := R9.out.free 1
  have hwl : w.heap.size + 1 + 1 < w9.heap.size := lt_of_block R9.out
  go_wp2
  have HTE9 : Turn (· = w.heap.size + 1 + 1) w9 ((w9.setCell ⟨w.heap.size + 1 + 1, 0, none⟩ (.int .i64 now')).setCell ⟨w.heap.size + 1 + 1, 1, none⟩ (.slice ra RL.length rc)) := ((Turn.refl (· = w.heap.size + 1 + 1) w9).setCell (Or.inl rfl) 0 _).setCell (Or.inl rfl) 1 _
  refine bodyPost_ret (v := .tuple #[.agg #[.int .i64 now', .slice ra RL.length rc], .bool true]) (by simp [results, Tryz.results21, go_sem, z0, z1]) rfl ?_
  rw [HV2.out]
  have ho : TensOwn ((w9.setCell ⟨w.heap.size + 1 + 1, 0, none⟩ (.int .i64 now')).setCell ⟨w.heap.size + 1 + 1, 1, none⟩ (.slice ra RL.length rc)) w.heap.size ra RL := (TensOwn.turned HO9.out HTE9 (fun g h1 h2 e => by omega)).mono (by omega)
  have hbe : Below w.heap.size w ((w9.setCell ⟨w.heap.size + 1 + 1, 0, none⟩ (.int .i64 now')).setCell ⟨w.heap.size + 1 + 1, 1, none⟩ (.slice ra RL.length rc)) := ((Turn.of (S := fun i => w.heap.size ≤ i) B9.out).trans' (HTE9.mono fun i _ e => by omega)).below (Nat.le_refl _) fun i hi h => by omega
  first
    | exact ⟨ra, ⟨rc, rfl⟩, ho, hbe⟩
    | exact ⟨ra, rc, rfl, ho, hbe⟩
end Go.Proofs.YtploplddbemelaaGreatDoor

namespace Go.Proofs.YtploplddbemelaaGreatDoor
open Go.RowKit

theorem conv_one (w : World) (n : Int) : (convert 22 9 (.slice (some ⟨w.heap.size, 0, none⟩) 1 1)).run Tryz.prog (w.alloc (.cells #[.int .u8 n] 5)) = .ok (.string ⟨#[UInt8.ofNat n.toNat]⟩) (w.alloc (.cells #[.int .u8 n] 5)) := by
  rw [run_convert_bytes_string _ 22 9 5 _ 1 1 Tryz.underlying22 Tryz.underlying5 Tryz.underlying9, run_bytesToString _ _ 1 1 [n] (by simp [go_sem, loadCells])]
  rfl

theorem str_one (c : UInt8) (s : ByteArray) : ((⟨#[c]⟩ : ByteArray) ++ s).data.toList = c :: s.data.toList := by
  simp

theorem str_one_size (c : UInt8) (s : ByteArray) : ((⟨#[c]⟩ : ByteArray) ++ s).size = s.size + 1 := by
  rw [ByteArray.size_append]; show 1 + s.size = _; omega

theorem mk_toList (s : ByteArray) (l : List UInt8) (h : s.data.toList = l) : s = ⟨l.toArray⟩ := by
  subst h; simp

end Go.Proofs.YtploplddbemelaaGreatDoor

namespace Go.Proofs.YtploplddbemelaaGreatDoor
open Go.RowKit

theorem digits_pos {n : Nat} (h : 0 < n) (acc : List UInt8) : digits n n acc = digits (n / 10) (n / 10) ((48 + UInt8.ofNat (n % 10)) :: acc) := by
  obtain ⟨m, rfl⟩ : ∃ m, n = m + 1 := ⟨n - 1, by omega⟩
  conv => lhs; rw [digits]
  rw [if_neg (by omega)]
  exact digits_fuel _ _ _ _ (by omega) (Nat.le_refl _)

set_option maxRecDepth 100000 in
set_option maxHeartbeats 1000000 in
theorem markText_any (k : Nat) (w : World) (h0 : 0 < k) (h1 : k ≤ 1000000000) :
    Calls Tryz.prog 118 #[.int .i64 (k : Int)] w fun e w' => e = .returned (.string (mt k)) ∧ Below w.heap.size w w' := by
  have hk : ¬ ((k : Int) ≤ 0) := by omega
  have hcv := conv_one
  go_enter Tryz.func118, Tryz.ntmps118
  go_wp2
  go_loopw [0, 3] (fun a s wr => ∃ (n : Nat) (st : ByteArray), st.size + n ≤ k ∧ a = .int .i64 n ∧ s = .string st ∧ digits n n st.data.toList = digits k k [] ∧ Below w.heap.size w wr) (fun a _ _ => (intOf a).toNat)
  case atStart => exact ⟨k, ByteArray.empty, by simp, rfl, rfl, rfl, Below.refl _ _⟩
  case round =>
    obtain ⟨n, st, hn, rfl, rfl, hd, hbel⟩ := hrel
    have HD : Hid (digits n n st.data.toList = digits k k []) := hd
    clear hd
    have hsz : (st.size : Int) ≤ 1000000000 := by omega
    by_cases hp : 0 < n
    · go_wp2
      refine ⟨⟨n / 10, _, ?_, by go_num, rfl, ?_, hbel.alloc hbel.size _⟩, by simp [intOf]; omega⟩
      · rw [str_one_size]; omega
      · rw [str_one, ← digits_pos hp]; exact HD.out
    · go_wp2
      go_ret
      refine ⟨?_, hbel⟩
      have e0 : n = 0 := by omega
      have hd := HD.out
      rw [e0] at hd
      have e : st.data.toList = digits k k [] := by rw [← hd]; rfl
      have e2 : ((⟨#[109]⟩ : ByteArray) ++ st) = mt k := by
        unfold mt
        exact mk_toList _ _ (by rw [str_one, e])
      exact congrArg (fun x => Ending.returned (.string x)) e2

theorem markText_int (k : Int) (n : Nat) (hk : k = (n : Int)) (w : World) (h0 : 0 < n) (h1 : n ≤ 1000000000) :
    Calls Tryz.prog 118 #[.int .i64 k] w fun e w' => e = .returned (.string (mt n)) ∧ Below w.heap.size w w' := hk ▸ markText_any n w h0 h1
end Go.Proofs.YtploplddbemelaaGreatDoor

namespace Go.Proofs.YtploplddbemelaaGreatDoor
open Go.RowKit

set_option maxRecDepth 100000 in
set_option maxHeartbeats 2000000 in
theorem markMetricLimit_any (a : Option Addr) (cap : Nat) (ps : List PairD) (k B n0 : Nat) (T : Nat → Nat) (w : World) (hk : 0 < k) (hk2 : k + 2 * ps.length ≤ 100000000) (hf : PairsTag w B T n0 a ps) :
    Calls Tryz.prog 119 #[.slice a ps.length cap, .int .i64 (k : Int)] w fun e w' => e = .returned (.int .i64 ((k + 2 * ps.length : Nat) : Int)) ∧ Turn (fun g => B ≤ g ∧ T g = n0) w w' ∧ PairsTag w' B T n0 a (markPairs k ps.length) := by
  have hf3 : ps = [] ∨ (0 < ps.length ∧ ∃ g o cur t, a = some ⟨g, o, none⟩ ∧ B ≤ g ∧ T g = n0 ∧ w.heap[g]? = some (.cells cur t (0, 0)) ∧ PairsAt w g o ps) := by
    rcases hf with h | h
    · exact Or.inl h
    · by_cases h0 : ps = []
      · exact Or.inl h0
      · exact Or.inr ⟨List.length_pos_iff.2 h0, h⟩
  clear hf
  rcases hf3 with rfl | ⟨hpos, g, o, cur, t, rfl, hB, hT, hg, hfs⟩
  · go_enter Tryz.func119, Tryz.ntmps119
    go_wp2
    go_loopw [1, 5] (fun l i wr => l = .int .i64 (k : Int) ∧ i = .int .i64 0 ∧ wr = w) (fun _ i _ => 0)
    case atStart => exact ⟨rfl, rfl, rfl⟩
    case round =>
      obtain ⟨rfl, rfl, rfl⟩ := hrel
      go_wp2
      go_ret
      exact ⟨rfl, Turn.of (Below.refl _ _), Or.inl rfl⟩
  have hrow : ∀ j (hj : j < ps.length), RowPair cur o j ps[j] := rows_of_pairsAt hg hfs
  have hsz := pairs_size hrow
  have HG : Hid (Blk w g cur t) := hg
  have HBT : Hid (B ≤ g ∧ T g = n0) := ⟨hB, hT⟩
  clear hrow hg hfs hB hT
  generalize ps.length = n at *
  go_enter Tryz.func119, Tryz.ntmps119
  go_wp2
  go_loopw [1, 5] (fun l i wr => ∃ (j : Nat) (c : Array Value), j ≤ n ∧ i = .int .i64 j ∧ l = .int .i64 ((k + 2 * j : Nat) : Int) ∧ Blk wr g c t ∧ c.size = cur.size ∧ (∀ m, m < j → RowPair c o m (markP k m)) ∧ But g w wr) (fun _ i _ => n - (intOf i).toNat)
  case atStart => exact ⟨0, cur, Nat.zero_le _, rfl, rfl, HG.out, rfl, fun m h => absurd h (by omega), But.refl _ _⟩
  case round =>
    obtain ⟨j, c, hj, rfl, rfl, hblk, hcs, hrows, hbut⟩ := hrel
    have HBLK : Hid (Blk wr g c t) := hblk
    have HROWS : Hid (∀ m, m < j → RowPair c o m (markP k m)) := hrows
    have HCS : Hid (c.size = cur.size) := hcs
    clear hblk hrows
    by_cases hlt : j < n
    · have hbd : o + j * 2 + 1 < c.size := by rcases hsz with h | h <;> omega
      clear hcs hsz
      go_wp2_with fail
      refine (markText_int _ (k + 2 * j) (by omega) _ (by omega) (by omega)).mono ?_
      rintro e w1 ⟨rfl, hb1⟩
      have hB1 := HBLK.out.later hb1
      obtain ⟨v0, d0⟩ := hB1.there (j := o + j * 2) (by omega)
      have f0 := hB1.free (o + j * 2)
      obtain ⟨v1, d1⟩ := hB1.there (j := o + j * 2 + 1) (by omega)
      have f1 := hB1.free (o + j * 2 + 1)
      have HB1 : Hid (Blk w1 g c t) := hB1
      have HBUT : Hid (But g w w1) := hbut.trans (But.of hb1)
      clear hB1 hb1 hbut
      go_wp2
      refine ⟨⟨j + 1, _, by omega, by go_num, by go_num, (HB1.out.set (o + j * 2) (.string (mt (k + 2 * j)))).set (o + j * 2 + 1) (.int .i64 ((k + 2 * j + 1 : Nat) : Int)), by simp [HCS.out], ?_, (HBUT.out.setCell _ _).setCell _ _⟩, by simp [intOf]; omega⟩
      intro m hm
      by_cases e : m = j
      · subst e
        exact RowPair.made c o m (markP k m) hbd
      · exact ((HROWS.out m (by omega)).set (by omega) _).set (by omega) _
    · go_wp2
      go_ret
      have e : j = n := by omega
      subst e
      refine ⟨ret_int (by omega), (Turn.but hbut).mono fun i _ e => by subst e; exact HBT.out, Or.inr ⟨g, o, c, t, rfl, HBT.out.1, HBT.out.2, HBLK.out, pairsAt_of_rows HBLK.out ?_⟩⟩
      intro m hm
      rw [markPairs_get]
      exact HROWS.out m (by rw [markPairs_length] at hm; exact hm)

set_option maxRecDepth 100000 in
set_option maxHeartbeats 2000000 in
theorem heldMetricLimit_any (a : Option Addr) (cap : Nat) (k n : Nat) (w : World) (hk : 0 < k) (hk2 : k + 2 * n ≤ 100000000) (hf : PairsIn w a (markPairs k n)) :
    Calls Tryz.prog 121 #[.slice a n cap, .int .i64 (k : Int)] w fun e w' => e = .returned (.int .i64 ((k + 2 * n : Nat) : Int)) ∧ Below w.heap.size w w' := by
  have HF : Hid (PairsIn w a (markPairs k n)) := hf
  clear hf
  go_enter Tryz.func121, Tryz.ntmps121
  go_wp2
  go_loopw [1, 5] (fun l i wr => ∃ j : Nat, j ≤ n ∧ i = .int .i64 j ∧ l = .int .i64 ((k + 2 * j : Nat) : Int) ∧ Below w.heap.size w wr) (fun _ i _ => n - (intOf i).toNat)
  case atStart => exact ⟨0, Nat.zero_le _, rfl, rfl, Below.refl _ _⟩
  case round =>
    obtain ⟨j, hj, rfl, rfl, hbel⟩ := hrel
    by_cases hlt : j < n
    · obtain ⟨b, o, rfl, hb, c0, c1⟩ := (HF.out.later hbel).at (i := j) (by rw [markPairs_length]; exact hlt)
      rw [markPairs_get] at c0 c1
      simp only [markP] at c0 c1
      have d0 := Later.cells c0
      have hne := Later.there wr
      have HC : Hid (wr.cell? ⟨b, o + j * 2 + 1, none⟩ = some (.int .i64 ((k + 2 * j + 1 : Nat) : Int))) := c1
      clear c0 c1
      go_wp2_with fail
      refine wp_region_later (by kernel_rfl) (by kernel_rfl) ?_
      repeat (go_big_quiet_step (first | (go_at_call 118; exact calls_later (markText_int _ (k + 2 * j) (by omega) _ (by omega) (by omega)))))
      refine wpQuiet_nil ?_
      rintro _ ⟨x, rfl⟩
      have d1 : x.w'.cell? ⟨b, o + j * 2 + 1, none⟩ = some (.int .i64 ((k : Int) + 2 * (j : Int) + 1)) := by rw [x.cell HC.out]; simp
      have HX : Hid (Below w.heap.size w x.w') := bto hbel x.h
      clear d0 hne HC hbel
      generalize x.w' = W at *
      clear x
      go_wp2
      exact ⟨⟨j + 1, by omega, by go_num, by go_num, HX.out⟩, by simp [intOf]; omega⟩
    · go_wp2
      go_ret
      have e : j = n := by omega
      subst e
      exact ⟨ret_int (by omega), hbel⟩

set_option maxRecDepth 100000 in
set_option maxHeartbeats 2000000 in
theorem markSeries_any (a : Option Addr) (cap : Nat) (ps : List PairD) (k B n0 : Nat) (T : Nat → Nat) (w : World) (hk : 0 < k) (hk2 : k + 2 * ps.length ≤ 100000000) (hf : PairsTag w B T n0 a ps) :
    Calls Tryz.prog 120 #[.slice a ps.length cap, .int .i64 (k : Int)] w fun e w' => e = .returned (.int .i64 ((k + 2 * ps.length : Nat) : Int)) ∧ Turn (fun g => B ≤ g ∧ T g = n0) w w' ∧ PairsTag w' B T n0 a (markPairs k ps.length) := by
  have hf3 : ps = [] ∨ (0 < ps.length ∧ ∃ g o cur t, a = some ⟨g, o, none⟩ ∧ B ≤ g ∧ T g = n0 ∧ w.heap[g]? = some (.cells cur t (0, 0)) ∧ PairsAt w g o ps) := by
    rcases hf with h | h
    · exact Or.inl h
    · by_cases h0 : ps = []
      · exact Or.inl h0
      · exact Or.inr ⟨List.length_pos_iff.2 h0, h⟩
  clear hf
  rcases hf3 with rfl | ⟨hpos, g, o, cur, t, rfl, hB, hT, hg, hfs⟩
  · go_enter Tryz.func120, Tryz.ntmps120
    go_wp2
    go_loopw [1, 5] (fun l i wr => l = .int .i64 (k : Int) ∧ i = .int .i64 0 ∧ wr = w) (fun _ i _ => 0)
    case atStart => exact ⟨rfl, rfl, rfl⟩
    case round =>
      obtain ⟨rfl, rfl, rfl⟩ := hrel
      go_wp2
      go_ret
      exact ⟨rfl, Turn.of (Below.refl _ _), Or.inl rfl⟩
  have hrow : ∀ j (hj : j < ps.length), RowPair cur o j ps[j] := rows_of_pairsAt hg hfs
  have hsz := pairs_size hrow
  have HG : Hid (Blk w g cur t) := hg
  have HBT : Hid (B ≤ g ∧ T g = n0) := ⟨hB, hT⟩
  clear hrow hg hfs hB hT
  generalize ps.length = n at *
  go_enter Tryz.func120, Tryz.ntmps120
  go_wp2
  go_loopw [1, 5] (fun l i wr => ∃ (j : Nat) (c : Array Value), j ≤ n ∧ i = .int .i64 j ∧ l = .int .i64 ((k + 2 * j : Nat) : Int) ∧ Blk wr g c t ∧ c.size = cur.size ∧ (∀ m, m < j → RowPair c o m (markP k m)) ∧ But g w wr) (fun _ i _ => n - (intOf i).toNat)
  case atStart => exact ⟨0, cur, Nat.zero_le _, rfl, rfl, HG.out, rfl, fun m h => absurd h (by omega), But.refl _ _⟩
  case round =>
    obtain ⟨j, c, hj, rfl, rfl, hblk, hcs, hrows, hbut⟩ := hrel
    have HBLK : Hid (Blk wr g c t) := hblk
    have HROWS : Hid (∀ m, m < j → RowPair c o m (markP k m)) := hrows
    have HCS : Hid (c.size = cur.size) := hcs
    clear hblk hrows
    by_cases hlt : j < n
    · have hbd : o + j * 2 + 1 < c.size := by rcases hsz with h | h <;> omega
      clear hcs hsz
      go_wp2_with fail
      refine (markText_int _ (k + 2 * j) (by omega) _ (by omega) (by omega)).mono ?_
      rintro e w1 ⟨rfl, hb1⟩
      have hB1 := HBLK.out.later hb1
      obtain ⟨v0, d0⟩ := hB1.there (j := o + j * 2) (by omega)
      have f0 := hB1.free (o + j * 2)
      obtain ⟨v1, d1⟩ := hB1.there (j := o + j * 2 + 1) (by omega)
      have f1 := hB1.free (o + j * 2 + 1)
      have HB1 : Hid (Blk w1 g c t) := hB1
      have HBUT : Hid (But g w w1) := hbut.trans (But.of hb1)
      clear hB1 hb1 hbut
      go_wp2
      refine ⟨⟨j + 1, _, by omega, by go_num, by go_num, (HB1.out.set (o + j * 2) (.string (mt (k + 2 * j)))).set (o + j * 2 + 1) (.int .i64 ((k + 2 * j + 1 : Nat) : Int)), by simp [HCS.out], ?_, (HBUT.out.setCell _ _).setCell _ _⟩, by simp [intOf]; omega⟩
      intro m hm
      by_cases e : m = j
      · subst e
        exact RowPair.made c o m (markP k m) hbd
      · exact ((HROWS.out m (by omega)).set (by omega) _).set (by omega) _
    · go_wp2
      go_ret
      have e : j = n := by omega
      subst e
      refine ⟨ret_int (by omega), (Turn.but hbut).mono fun i _ e => by subst e; exact HBT.out, Or.inr ⟨g, o, c, t, rfl, HBT.out.1, HBT.out.2, HBLK.out, pairsAt_of_rows HBLK.out ?_⟩⟩
      intro m hm
      rw [markPairs_get]
      exact HROWS.out m (by rw [markPairs_length] at hm; exact hm)

set_option maxRecDepth 100000 in
set_option maxHeartbeats 2000000 in
theorem heldSeries_any (a : Option Addr) (cap : Nat) (k n : Nat) (w : World) (hk : 0 < k) (hk2 : k + 2 * n ≤ 100000000) (hf : PairsIn w a (markPairs k n)) :
    Calls Tryz.prog 122 #[.slice a n cap, .int .i64 (k : Int)] w fun e w' => e = .returned (.int .i64 ((k + 2 * n : Nat) : Int)) ∧ Below w.heap.size w w' := by
  have HF : Hid (PairsIn w a (markPairs k n)) := hf
  clear hf
  go_enter Tryz.func122, Tryz.ntmps122
  go_wp2
  go_loopw [1, 5] (fun l i wr => ∃ j : Nat, j ≤ n ∧ i = .int .i64 j ∧ l = .int .i64 ((k + 2 * j : Nat) : Int) ∧ Below w.heap.size w wr) (fun _ i _ => n - (intOf i).toNat)
  case atStart => exact ⟨0, Nat.zero_le _, rfl, rfl, Below.refl _ _⟩
  case round =>
    obtain ⟨j, hj, rfl, rfl, hbel⟩ := hrel
    by_cases hlt : j < n
    · obtain ⟨b, o, rfl, hb, c0, c1⟩ := (HF.out.later hbel).at (i := j) (by rw [markPairs_length]; exact hlt)
      rw [markPairs_get] at c0 c1
      simp only [markP] at c0 c1
      have d0 := Later.cells c0
      have hne := Later.there wr
      have HC : Hid (wr.cell? ⟨b, o + j * 2 + 1, none⟩ = some (.int .i64 ((k + 2 * j + 1 : Nat) : Int))) := c1
      clear c0 c1
      go_wp2_with fail
      refine wp_region_later (by kernel_rfl) (by kernel_rfl) ?_
      repeat (go_big_quiet_step (first | (go_at_call 118; exact calls_later (markText_int _ (k + 2 * j) (by omega) _ (by omega) (by omega)))))
      refine wpQuiet_nil ?_
      rintro _ ⟨x, rfl⟩
      have d1 : x.w'.cell? ⟨b, o + j * 2 + 1, none⟩ = some (.int .i64 ((k : Int) + 2 * (j : Int) + 1)) := by rw [x.cell HC.out]; simp
      have HX : Hid (Below w.heap.size w x.w') := bto hbel x.h
      clear d0 hne HC hbel
      generalize x.w' = W at *
      clear x
      go_wp2
      exact ⟨⟨j + 1, by omega, by go_num, by go_num, HX.out⟩, by simp [intOf]; omega⟩
    · go_wp2
      go_ret
      have e : j = n := by omega
      subst e
      exact ⟨ret_int (by omega), hbel⟩
end Go.Proofs.YtploplddbemelaaGreatDoor

