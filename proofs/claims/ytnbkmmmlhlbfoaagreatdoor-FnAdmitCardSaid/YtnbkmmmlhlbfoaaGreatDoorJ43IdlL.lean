import Derived.Test.YtnbkmmmlhlbfoaaGreatDoorProg
import Derived.Test.YtnbkmmmlhlbfoaaGreatDoorJ29SKin
import Derived.Test.YtnbkmmmlhlbfoaaGreatDoorJ20SSta
import Derived.Test.YtnbkmmmlhlbfoaaGreatDoorJ09InsL
import Derived.Test.YtnbkmmmlhlbfoaaGreatDoorJ06Win
import Derived.Test.YtnbkmmmlhlbfoaaGreatDoorJ10RecB
import Derived.Test.YtnbkmmmlhlbfoaaGreatDoorJ08DrwK
namespace Go.Proofs.YtnbkmmmlhlbfoaaGreatDoor
open Go.RowKit
theorem tick_all {c : CfgD} {now now' : Int} {ts : List TenD} (h : stateB c now ts = true) : keptTs c.w now' (wAll ⟨⟨#[]⟩, 0, [], []⟩ true ts) = keptTs c.w now' ts := by
  rw [wAll_placed (t := ⟨⟨#[]⟩, 0, [], []⟩) (names_ne h)]
set_option maxRecDepth 100000 in
set_option maxHeartbeats 8000000 in
theorem specTick_any (c : CfgD) (now : Int) (a : Option Addr) (cap : Nat) (ts : List TenD) (by_ : Int) (w : World) (hf : TensIn w a ts) (hbk : ts.length + tensBulk ts ≤ 1048576) :
    Calls Tryz.prog 63 #[cfgV c, .agg #[.int .i64 now, .slice a ts.length cap], .int .i64 by_] w fun e w' => StOut (tickV c now ts by_) w e w' := by
  obtain ⟨f1, f2, f3, f4⟩ := fit_of hbk
  have HO : Hid (∀ W, Below w.heap.size w W → Calls Tryz.prog 16 #[cfgV c, .agg #[.int .i64 now, .slice a ts.length cap]] W fun e w' => e = .returned (.bool (stateB c now ts)) ∧ Below W.heap.size W w') := fun W hW => specState_any c now a cap ts W (hf.later hW) f2 (by omega)
  have HV : Hid (tickV c now ts by_ = if stateB c now ts = false then (0, [], false) else if by_ < 1 ∨ 1000000000000 - now < by_ then (now, ts, false) else (now + by_, keptTs c.w (now + by_) ts, true)) := rfl
  unfold StOut
  by_cases h0 : stateB c now ts = false
  · have HV2 : Hid (tickV c now ts by_ = (0, [], false)) := by show _ = _; rw [HV.out, if_pos h0]
    rw [h0] at HO
    clear hf HV h0 f1 f2 f3 f4
    generalize tickV c now ts by_ = V at *
    unfold cfgV at *
    go_enter Tryz.func63, Tryz.ntmps63
    have B0 : Hid (Below w.heap.size w (((w.alloc (.cells #[.int .i64 c.w, .int .i64 c.tl, .int .i64 c.ml, .int .i64 c.sh, .int .i64 c.ha, .int .i64 c.sg] 24)).alloc (.cells #[.int .i64 now, .slice a ts.length cap] 27)).alloc (.cells #[.int .i64 0, .slice none 0 0] 27))) := bto (bto (bnew _ _) (bnew _ _)) (bnew _ _)
    have R0 : Hid (Blk (((w.alloc (.cells #[.int .i64 c.w, .int .i64 c.tl, .int .i64 c.ml, .int .i64 c.sh, .int .i64 c.ha, .int .i64 c.sg] 24)).alloc (.cells #[.int .i64 now, .slice a ts.length cap] 27)).alloc (.cells #[.int .i64 0, .slice none 0 0] 27)) (w.heap.size + 1 + 1) #[.int .i64 0, .slice none 0 0] 27) := hid (by have := Blk.new ((w.alloc (.cells #[.int .i64 c.w, .int .i64 c.tl, .int .i64 c.ml, .int .i64 c.sh, .int .i64 c.ha, .int .i64 c.sg] 24)).alloc (.cells #[.int .i64 now, .slice a ts.length cap] 27)) #[.int .i64 0, .slice none 0 0] 27; simpa using this)
    go_wp2_with fail
    refine (HO.out _ B0.out).mono ?_
    rintro e w1 ⟨rfl, hb⟩
    have HB : Hid (Below w.heap.size w w1) := bto B0.out hb
    have RB : Hid (Blk w1 (w.heap.size + 1 + 1) #[.int .i64 0, .slice none 0 0] 27) := R0.out.later hb
    have y0 : w1.cell? ⟨w.heap.size + 1 + 1, 0, none⟩ = some (.int .i64 0) := RB.out.cell 0
    have y1 : w1.cell? ⟨w.heap.size + 1 + 1, 1, none⟩ = some (.slice none 0 0) := RB.out.cell 1
    have f0 := RB.out.free 0
    have f1 := RB.out.free 1
    have hwl : w.heap.size + 1 + 1 < w1.heap.size := lt_of_block RB.out
    clear hb
    go_wp2
    refine bodyPost_ret (v := .tuple #[.agg #[.int .i64 0, .slice none 0 0], .bool false]) (by simp [results, Tryz.results63, go_sem, y0, y1]) rfl ?_
    rw [HV2.out]
    refine ⟨none, 0, rfl, Or.inl rfl, ?_⟩
    first
      | exact (HB.out.setCell (by show w.heap.size ≤ w.heap.size + 1 + 1; omega) _).setCell (by show w.heap.size ≤ w.heap.size + 1 + 1; omega) _
      | exact HB.out
  have h0' : stateB c now ts = true := by simpa using h0
  obtain ⟨hcf, hn0, hn1, hlen, htens⟩ := tens_of h0'
  have HSM : Hid (∀ W, Below w.heap.size w W → Calls Tryz.prog 19 #[cfgV c, .agg #[.int .i64 now, .slice a ts.length cap]] W fun e w' => ∃ a' cap', e = .returned (.agg #[.int .i64 now, .slice a' ts.length cap']) ∧ TensOwn w' W.heap.size a' ts ∧ Below W.heap.size W w') := fun W hW => l4Same_any c now a cap ts W (hf.later hW) h0' hbk
  have HWI : Hid (∀ W now', Below w.heap.size w W → 0 ≤ now' → now' ≤ 1000000000000 → Calls Tryz.prog 21 #[cfgV c, .agg #[.int .i64 now, .slice a ts.length cap], .int .i64 now', .agg #[.string ⟨#[]⟩, .int .i64 0, .slice none 0 0, .slice none 0 0]] W fun e w' => ∃ a' cap', e = .returned (.agg #[.int .i64 now', .slice a' (keptTs c.w now' ts).length cap']) ∧ TensOwn w' W.heap.size a' (keptTs c.w now' ts) ∧ Below W.heap.size W w') := fun W now' hW q0 q1 => by
    have := l4With_any c now now' a cap ts ⟨⟨#[]⟩, 0, [], []⟩ none none 0 0 W (hf.later hW) (Or.inl rfl) (Or.inl rfl) (by omega) (fun x hx => by
      rcases hx with rfl | hx
      · exact ⟨Nat.zero_le _, Nat.zero_le _, fun i h => absurd h (by simp)⟩
      · exact fitW_of h0' hbk x hx) q0 (by omega)
    have e : (⟨⟨#[]⟩, 0, [], []⟩ : TenD).name.toList.isEmpty = true := by kernel_rfl
    rw [e, tick_all h0'] at this
    exact this
  have HV1 : Hid (tickV c now ts by_ = if by_ < 1 ∨ 1000000000000 - now < by_ then (now, ts, false) else (now + by_, keptTs c.w (now + by_) ts, true)) := by show _ = _; rw [HV.out, if_neg h0]
  rw [h0'] at HO
  clear hf HV h0 h0' f1 f2 f3 f4 hcf hlen htens
  generalize tickV c now ts by_ = V at *
  unfold cfgV at *
  by_cases h1 : by_ < 1
  · have HV2 : Hid (V = (now, ts, false)) := by show _ = _; rw [HV1.out, if_pos (Or.inl h1)]
    clear HV1 HWI
    go_enter Tryz.func63, Tryz.ntmps63
    have B0 : Hid (Below w.heap.size w (((w.alloc (.cells #[.int .i64 c.w, .int .i64 c.tl, .int .i64 c.ml, .int .i64 c.sh, .int .i64 c.ha, .int .i64 c.sg] 24)).alloc (.cells #[.int .i64 now, .slice a ts.length cap] 27)).alloc (.cells #[.int .i64 0, .slice none 0 0] 27))) := bto (bto (bnew _ _) (bnew _ _)) (bnew _ _)
    have C0 : Hid (Blk (((w.alloc (.cells #[.int .i64 c.w, .int .i64 c.tl, .int .i64 c.ml, .int .i64 c.sh, .int .i64 c.ha, .int .i64 c.sg] 24)).alloc (.cells #[.int .i64 now, .slice a ts.length cap] 27)).alloc (.cells #[.int .i64 0, .slice none 0 0] 27)) w.heap.size #[.int .i64 c.w, .int .i64 c.tl, .int .i64 c.ml, .int .i64 c.sh, .int .i64 c.ha, .int .i64 c.sg] 24) := (((Blk.new _ _ _).alloc _).alloc _)
    have S0 : Hid (Blk (((w.alloc (.cells #[.int .i64 c.w, .int .i64 c.tl, .int .i64 c.ml, .int .i64 c.sh, .int .i64 c.ha, .int .i64 c.sg] 24)).alloc (.cells #[.int .i64 now, .slice a ts.length cap] 27)).alloc (.cells #[.int .i64 0, .slice none 0 0] 27)) (w.heap.size + 1) #[.int .i64 now, .slice a ts.length cap] 27) := hid (by have := (Blk.new (w.alloc (.cells #[.int .i64 c.w, .int .i64 c.tl, .int .i64 c.ml, .int .i64 c.sh, .int .i64 c.ha, .int .i64 c.sg] 24)) #[.int .i64 now, .slice a ts.length cap] 27).alloc (.cells #[.int .i64 0, .slice none 0 0] 27); simpa using this)
    have R0 : Hid (Blk (((w.alloc (.cells #[.int .i64 c.w, .int .i64 c.tl, .int .i64 c.ml, .int .i64 c.sh, .int .i64 c.ha, .int .i64 c.sg] 24)).alloc (.cells #[.int .i64 now, .slice a ts.length cap] 27)).alloc (.cells #[.int .i64 0, .slice none 0 0] 27)) (w.heap.size + 1 + 1) #[.int .i64 0, .slice none 0 0] 27) := hid (by have := Blk.new ((w.alloc (.cells #[.int .i64 c.w, .int .i64 c.tl, .int .i64 c.ml, .int .i64 c.sh, .int .i64 c.ha, .int .i64 c.sg] 24)).alloc (.cells #[.int .i64 now, .slice a ts.length cap] 27)) #[.int .i64 0, .slice none 0 0] 27; simpa using this)
    go_wp2_with fail
    refine (HO.out _ B0.out).mono ?_
    rintro e wv ⟨rfl, hb1⟩
    have Cv : Hid (Blk wv w.heap.size #[.int .i64 c.w, .int .i64 c.tl, .int .i64 c.ml, .int .i64 c.sh, .int .i64 c.ha, .int .i64 c.sg] 24) := C0.out.later hb1
    have Sv : Hid (Blk wv (w.heap.size + 1) #[.int .i64 now, .slice a ts.length cap] 27) := S0.out.later hb1
    have Rv : Hid (Blk wv (w.heap.size + 1 + 1) #[.int .i64 0, .slice none 0 0] 27) := R0.out.later hb1
    have Bv : Hid (Below w.heap.size w wv) := bto B0.out hb1
    clear hb1 HO C0 S0 R0 B0
    have bvx0 : wv.cell? ⟨w.heap.size, 0, none⟩ = some (.int .i64 c.w) := Cv.out.cell 0
    have bvx1 : wv.cell? ⟨w.heap.size, 1, none⟩ = some (.int .i64 c.tl) := Cv.out.cell 1
    have bvx2 : wv.cell? ⟨w.heap.size, 2, none⟩ = some (.int .i64 c.ml) := Cv.out.cell 2
    have bvx3 : wv.cell? ⟨w.heap.size, 3, none⟩ = some (.int .i64 c.sh) := Cv.out.cell 3
    have bvx4 : wv.cell? ⟨w.heap.size, 4, none⟩ = some (.int .i64 c.ha) := Cv.out.cell 4
    have bvx5 : wv.cell? ⟨w.heap.size, 5, none⟩ = some (.int .i64 c.sg) := Cv.out.cell 5
    have bvy0 : wv.cell? ⟨w.heap.size + 1, 0, none⟩ = some (.int .i64 now) := Sv.out.cell 0
    have bvy1 : wv.cell? ⟨w.heap.size + 1, 1, none⟩ = some (.slice a ts.length cap) := Sv.out.cell 1
    go_wp2_with fail
    refine (HSM.out _ Bv.out).mono ?_
    rintro e w9 ⟨ra, rc, rfl, ho9, hb9⟩
    have HO9 : Hid (TensOwn w9 wv.heap.size ra ts) := ho9
    have R9 : Hid (Blk w9 (w.heap.size + 1 + 1) #[.int .i64 0, .slice none 0 0] 27) := Rv.out.later hb9
    have B9 : Hid (Below w.heap.size w w9) := bto Bv.out hb9
    have hwv : w.heap.size + 1 + 1 < wv.heap.size := lt_of_block Rv.out
    clear ho9 hb9
    have z0 : w9.cell? ⟨w.heap.size + 1 + 1, 0, none⟩ = some (.int .i64 0) := R9.out.cell 0
    have z1 : w9.cell? ⟨w.heap.size + 1 + 1, 1, none⟩ = some (.slice none 0 0) := R9.out.cell 1
    have f0 := R9.out.free 0
    have f1 := R9.out.free 1
    have hwl : w.heap.size + 1 + 1 < w9.heap.size := lt_of_block R9.out
    go_wp2
    have HTE9 : Turn (· = w.heap.size + 1 + 1) w9 ((w9.setCell ⟨w.heap.size + 1 + 1, 0, none⟩ (.int .i64 now)).setCell ⟨w.heap.size + 1 + 1, 1, none⟩ (.slice ra ts.length rc)) := ((Turn.refl (· = w.heap.size + 1 + 1) w9).setCell (Or.inl rfl) 0 _).setCell (Or.inl rfl) 1 _
    refine bodyPost_ret (v := .tuple #[.agg #[.int .i64 now, .slice ra ts.length rc], .bool false]) (by simp [results, Tryz.results63, go_sem, z0, z1]) rfl ?_
    rw [HV2.out]
    have ho : TensOwn ((w9.setCell ⟨w.heap.size + 1 + 1, 0, none⟩ (.int .i64 now)).setCell ⟨w.heap.size + 1 + 1, 1, none⟩ (.slice ra ts.length rc)) w.heap.size ra ts := (TensOwn.turned HO9.out HTE9 (fun g h1 h2 e => by omega)).mono (by omega)
    have hbe : Below w.heap.size w ((w9.setCell ⟨w.heap.size + 1 + 1, 0, none⟩ (.int .i64 now)).setCell ⟨w.heap.size + 1 + 1, 1, none⟩ (.slice ra ts.length rc)) := ((Turn.of (S := fun i => w.heap.size ≤ i) B9.out).trans' (HTE9.mono fun i _ e => by omega)).below (Nat.le_refl _) fun i hi h => by omega
    first
      | exact ⟨ra, ⟨rc, rfl⟩, ho, hbe⟩
      | exact ⟨ra, rc, rfl, ho, hbe⟩
  by_cases h2 : 1000000000000 - now < by_
  · have HV2 : Hid (V = (now, ts, false)) := by show _ = _; rw [HV1.out, if_pos (Or.inr h2)]
    clear HV1 HWI
    go_enter Tryz.func63, Tryz.ntmps63
    have B0 : Hid (Below w.heap.size w (((w.alloc (.cells #[.int .i64 c.w, .int .i64 c.tl, .int .i64 c.ml, .int .i64 c.sh, .int .i64 c.ha, .int .i64 c.sg] 24)).alloc (.cells #[.int .i64 now, .slice a ts.length cap] 27)).alloc (.cells #[.int .i64 0, .slice none 0 0] 27))) := bto (bto (bnew _ _) (bnew _ _)) (bnew _ _)
    have C0 : Hid (Blk (((w.alloc (.cells #[.int .i64 c.w, .int .i64 c.tl, .int .i64 c.ml, .int .i64 c.sh, .int .i64 c.ha, .int .i64 c.sg] 24)).alloc (.cells #[.int .i64 now, .slice a ts.length cap] 27)).alloc (.cells #[.int .i64 0, .slice none 0 0] 27)) w.heap.size #[.int .i64 c.w, .int .i64 c.tl, .int .i64 c.ml, .int .i64 c.sh, .int .i64 c.ha, .int .i64 c.sg] 24) := (((Blk.new _ _ _).alloc _).alloc _)
    have S0 : Hid (Blk (((w.alloc (.cells #[.int .i64 c.w, .int .i64 c.tl, .int .i64 c.ml, .int .i64 c.sh, .int .i64 c.ha, .int .i64 c.sg] 24)).alloc (.cells #[.int .i64 now, .slice a ts.length cap] 27)).alloc (.cells #[.int .i64 0, .slice none 0 0] 27)) (w.heap.size + 1) #[.int .i64 now, .slice a ts.length cap] 27) := hid (by have := (Blk.new (w.alloc (.cells #[.int .i64 c.w, .int .i64 c.tl, .int .i64 c.ml, .int .i64 c.sh, .int .i64 c.ha, .int .i64 c.sg] 24)) #[.int .i64 now, .slice a ts.length cap] 27).alloc (.cells #[.int .i64 0, .slice none 0 0] 27); simpa using this)
    have R0 : Hid (Blk (((w.alloc (.cells #[.int .i64 c.w, .int .i64 c.tl, .int .i64 c.ml, .int .i64 c.sh, .int .i64 c.ha, .int .i64 c.sg] 24)).alloc (.cells #[.int .i64 now, .slice a ts.length cap] 27)).alloc (.cells #[.int .i64 0, .slice none 0 0] 27)) (w.heap.size + 1 + 1) #[.int .i64 0, .slice none 0 0] 27) := hid (by have := Blk.new ((w.alloc (.cells #[.int .i64 c.w, .int .i64 c.tl, .int .i64 c.ml, .int .i64 c.sh, .int .i64 c.ha, .int .i64 c.sg] 24)).alloc (.cells #[.int .i64 now, .slice a ts.length cap] 27)) #[.int .i64 0, .slice none 0 0] 27; simpa using this)
    go_wp2_with fail
    refine (HO.out _ B0.out).mono ?_
    rintro e wv ⟨rfl, hb1⟩
    have Cv : Hid (Blk wv w.heap.size #[.int .i64 c.w, .int .i64 c.tl, .int .i64 c.ml, .int .i64 c.sh, .int .i64 c.ha, .int .i64 c.sg] 24) := C0.out.later hb1
    have Sv : Hid (Blk wv (w.heap.size + 1) #[.int .i64 now, .slice a ts.length cap] 27) := S0.out.later hb1
    have Rv : Hid (Blk wv (w.heap.size + 1 + 1) #[.int .i64 0, .slice none 0 0] 27) := R0.out.later hb1
    have Bv : Hid (Below w.heap.size w wv) := bto B0.out hb1
    clear hb1 HO C0 S0 R0 B0
    have bvx0 : wv.cell? ⟨w.heap.size, 0, none⟩ = some (.int .i64 c.w) := Cv.out.cell 0
    have bvx1 : wv.cell? ⟨w.heap.size, 1, none⟩ = some (.int .i64 c.tl) := Cv.out.cell 1
    have bvx2 : wv.cell? ⟨w.heap.size, 2, none⟩ = some (.int .i64 c.ml) := Cv.out.cell 2
    have bvx3 : wv.cell? ⟨w.heap.size, 3, none⟩ = some (.int .i64 c.sh) := Cv.out.cell 3
    have bvx4 : wv.cell? ⟨w.heap.size, 4, none⟩ = some (.int .i64 c.ha) := Cv.out.cell 4
    have bvx5 : wv.cell? ⟨w.heap.size, 5, none⟩ = some (.int .i64 c.sg) := Cv.out.cell 5
    have bvy0 : wv.cell? ⟨w.heap.size + 1, 0, none⟩ = some (.int .i64 now) := Sv.out.cell 0
    have bvy1 : wv.cell? ⟨w.heap.size + 1, 1, none⟩ = some (.slice a ts.length cap) := Sv.out.cell 1
    go_wp2_with fail
    refine (HSM.out _ Bv.out).mono ?_
    rintro e w9 ⟨ra, rc, rfl, ho9, hb9⟩
    have HO9 : Hid (TensOwn w9 wv.heap.size ra ts) := ho9
    have R9 : Hid (Blk w9 (w.heap.size + 1 + 1) #[.int .i64 0, .slice none 0 0] 27) := Rv.out.later hb9
    have B9 : Hid (Below w.heap.size w w9) := bto Bv.out hb9
    have hwv : w.heap.size + 1 + 1 < wv.heap.size := lt_of_block Rv.out
    clear ho9 hb9
    have z0 : w9.cell? ⟨w.heap.size + 1 + 1, 0, none⟩ = some (.int .i64 0) := R9.out.cell 0
    have z1 : w9.cell? ⟨w.heap.size + 1 + 1, 1, none⟩ = some (.slice none 0 0) := R9.out.cell 1
    have f0 := R9.out.free 0
    have f1 := R9.out.free 1
    have hwl : w.heap.size + 1 + 1 < w9.heap.size := lt_of_block R9.out
    go_wp2
    have HTE9 : Turn (· = w.heap.size + 1 + 1) w9 ((w9.setCell ⟨w.heap.size + 1 + 1, 0, none⟩ (.int .i64 now)).setCell ⟨w.heap.size + 1 + 1, 1, none⟩ (.slice ra ts.length rc)) := ((Turn.refl (· = w.heap.size + 1 + 1) w9).setCell (Or.inl rfl) 0 _).setCell (Or.inl rfl) 1 _
    refine bodyPost_ret (v := .tuple #[.agg #[.int .i64 now, .slice ra ts.length rc], .bool false]) (by simp [results, Tryz.results63, go_sem, z0, z1]) rfl ?_
    rw [HV2.out]
    have ho : TensOwn ((w9.setCell ⟨w.heap.size + 1 + 1, 0, none⟩ (.int .i64 now)).setCell ⟨w.heap.size + 1 + 1, 1, none⟩ (.slice ra ts.length rc)) w.heap.size ra ts := (TensOwn.turned HO9.out HTE9 (fun g h1 h2 e => by omega)).mono (by omega)
    have hbe : Below w.heap.size w ((w9.setCell ⟨w.heap.size + 1 + 1, 0, none⟩ (.int .i64 now)).setCell ⟨w.heap.size + 1 + 1, 1, none⟩ (.slice ra ts.length rc)) := ((Turn.of (S := fun i => w.heap.size ≤ i) B9.out).trans' (HTE9.mono fun i _ e => by omega)).below (Nat.le_refl _) fun i hi h => by omega
    first
      | exact ⟨ra, ⟨rc, rfl⟩, ho, hbe⟩
      | exact ⟨ra, rc, rfl, ho, hbe⟩
  have HV2 : Hid (V = (now + by_, keptTs c.w (now + by_) ts, true)) := by show _ = _; rw [HV1.out, if_neg (fun e => by rcases e with e | e; exact h1 e; exact h2 e)]
  have hwr : IntKind.i64.wrap (now + by_) = now + by_ := by
    simp only [IntKind.wrap, IntKind.bits, IntKind.signed]
    simp
    omega
  have HW2 := hid (fun W hW => HWI.out W (now + by_) hW (by omega) (by omega))
  clear HV1 HSM HWI
  generalize keptTs c.w (now + by_) ts = RL at *
  generalize hnb : now + by_ = now' at *
  go_enter Tryz.func63, Tryz.ntmps63
  have B0 : Hid (Below w.heap.size w (((w.alloc (.cells #[.int .i64 c.w, .int .i64 c.tl, .int .i64 c.ml, .int .i64 c.sh, .int .i64 c.ha, .int .i64 c.sg] 24)).alloc (.cells #[.int .i64 now, .slice a ts.length cap] 27)).alloc (.cells #[.int .i64 0, .slice none 0 0] 27))) := bto (bto (bnew _ _) (bnew _ _)) (bnew _ _)
  have C0 : Hid (Blk (((w.alloc (.cells #[.int .i64 c.w, .int .i64 c.tl, .int .i64 c.ml, .int .i64 c.sh, .int .i64 c.ha, .int .i64 c.sg] 24)).alloc (.cells #[.int .i64 now, .slice a ts.length cap] 27)).alloc (.cells #[.int .i64 0, .slice none 0 0] 27)) w.heap.size #[.int .i64 c.w, .int .i64 c.tl, .int .i64 c.ml, .int .i64 c.sh, .int .i64 c.ha, .int .i64 c.sg] 24) := (((Blk.new _ _ _).alloc _).alloc _)
  have S0 : Hid (Blk (((w.alloc (.cells #[.int .i64 c.w, .int .i64 c.tl, .int .i64 c.ml, .int .i64 c.sh, .int .i64 c.ha, .int .i64 c.sg] 24)).alloc (.cells #[.int .i64 now, .slice a ts.length cap] 27)).alloc (.cells #[.int .i64 0, .slice none 0 0] 27)) (w.heap.size + 1) #[.int .i64 now, .slice a ts.length cap] 27) := hid (by have := (Blk.new (w.alloc (.cells #[.int .i64 c.w, .int .i64 c.tl, .int .i64 c.ml, .int .i64 c.sh, .int .i64 c.ha, .int .i64 c.sg] 24)) #[.int .i64 now, .slice a ts.length cap] 27).alloc (.cells #[.int .i64 0, .slice none 0 0] 27); simpa using this)
  have R0 : Hid (Blk (((w.alloc (.cells #[.int .i64 c.w, .int .i64 c.tl, .int .i64 c.ml, .int .i64 c.sh, .int .i64 c.ha, .int .i64 c.sg] 24)).alloc (.cells #[.int .i64 now, .slice a ts.length cap] 27)).alloc (.cells #[.int .i64 0, .slice none 0 0] 27)) (w.heap.size + 1 + 1) #[.int .i64 0, .slice none 0 0] 27) := hid (by have := Blk.new ((w.alloc (.cells #[.int .i64 c.w, .int .i64 c.tl, .int .i64 c.ml, .int .i64 c.sh, .int .i64 c.ha, .int .i64 c.sg] 24)).alloc (.cells #[.int .i64 now, .slice a ts.length cap] 27)) #[.int .i64 0, .slice none 0 0] 27; simpa using this)
  go_wp2_with fail
  refine (HO.out _ B0.out).mono ?_
  rintro e wv ⟨rfl, hb1⟩
  have Cv : Hid (Blk wv w.heap.size #[.int .i64 c.w, .int .i64 c.tl, .int .i64 c.ml, .int .i64 c.sh, .int .i64 c.ha, .int .i64 c.sg] 24) := C0.out.later hb1
  have Sv : Hid (Blk wv (w.heap.size + 1) #[.int .i64 now, .slice a ts.length cap] 27) := S0.out.later hb1
  have Rv : Hid (Blk wv (w.heap.size + 1 + 1) #[.int .i64 0, .slice none 0 0] 27) := R0.out.later hb1
  have Bv : Hid (Below w.heap.size w wv) := bto B0.out hb1
  clear hb1 HO C0 S0 R0 B0
  have bvx0 : wv.cell? ⟨w.heap.size, 0, none⟩ = some (.int .i64 c.w) := Cv.out.cell 0
  have bvx1 : wv.cell? ⟨w.heap.size, 1, none⟩ = some (.int .i64 c.tl) := Cv.out.cell 1
  have bvx2 : wv.cell? ⟨w.heap.size, 2, none⟩ = some (.int .i64 c.ml) := Cv.out.cell 2
  have bvx3 : wv.cell? ⟨w.heap.size, 3, none⟩ = some (.int .i64 c.sh) := Cv.out.cell 3
  have bvx4 : wv.cell? ⟨w.heap.size, 4, none⟩ = some (.int .i64 c.ha) := Cv.out.cell 4
  have bvx5 : wv.cell? ⟨w.heap.size, 5, none⟩ = some (.int .i64 c.sg) := Cv.out.cell 5
  have bvy0 : wv.cell? ⟨w.heap.size + 1, 0, none⟩ = some (.int .i64 now) := Sv.out.cell 0
  have bvy1 : wv.cell? ⟨w.heap.size + 1, 1, none⟩ = some (.slice a ts.length cap) := Sv.out.cell 1
  go_wp2_with fail
  refine (HW2.out _ Bv.out).mono ?_
  rintro e w9 ⟨ra, rc, rfl, ho9, hb9⟩
  have HO9 : Hid (TensOwn w9 wv.heap.size ra RL) := ho9
  have R9 : Hid (Blk w9 (w.heap.size + 1 + 1) #[.int .i64 0, .slice none 0 0] 27) := Rv.out.later hb9
  have B9 : Hid (Below w.heap.size w w9) := bto Bv.out hb9
  have hwv : w.heap.size + 1 + 1 < wv.heap.size := lt_of_block Rv.out
  clear ho9 hb9
  have z0 : w9.cell? ⟨w.heap.size + 1 + 1, 0, none⟩ = some (.int .i64 0) := R9.out.cell 0
  have z1 : w9.cell? ⟨w.heap.size + 1 + 1, 1, none⟩ = some (.slice none 0 0) := R9.out.cell 1
  have f0 := R9.out.free 0
  have f1 := R9.out.free 1
  have hwl : w.heap.size + 1 + 1 < w9.heap.size := lt_of_block R9.out
  go_wp2
  have HTE9 : Turn (· = w.heap.size + 1 + 1) w9 ((w9.setCell ⟨w.heap.size + 1 + 1, 0, none⟩ (.int .i64 now')).setCell ⟨w.heap.size + 1 + 1, 1, none⟩ (.slice ra RL.length rc)) := ((Turn.refl (· = w.heap.size + 1 + 1) w9).setCell (Or.inl rfl) 0 _).setCell (Or.inl rfl) 1 _
  refine bodyPost_ret (v := .tuple #[.agg #[.int .i64 now', .slice ra RL.length rc], .bool true]) (by simp [results, Tryz.results63, go_sem, z0, z1]) rfl ?_
  rw [HV2.out]
  have ho : TensOwn ((w9.setCell ⟨w.heap.size + 1 + 1, 0, none⟩ (.int .i64 now')).setCell ⟨w.heap.size + 1 + 1, 1, none⟩ (.slice ra RL.length rc)) w.heap.size ra RL := (TensOwn.turned HO9.out HTE9 (fun g h1 h2 e => by omega)).mono (by omega)
  have hbe : Below w.heap.size w ((w9.setCell ⟨w.heap.size + 1 + 1, 0, none⟩ (.int .i64 now')).setCell ⟨w.heap.size + 1 + 1, 1, none⟩ (.slice ra RL.length rc)) := ((Turn.of (S := fun i => w.heap.size ≤ i) B9.out).trans' (HTE9.mono fun i _ e => by omega)).below (Nat.le_refl _) fun i hi h => by omega
  first
    | exact ⟨ra, ⟨rc, rfl⟩, ho, hbe⟩
    | exact ⟨ra, rc, rfl, ho, hbe⟩
end Go.Proofs.YtnbkmmmlhlbfoaaGreatDoor
namespace Go.Proofs.YtnbkmmmlhlbfoaaGreatDoor
open Go.RowKit
set_option maxRecDepth 100000 in
set_option maxHeartbeats 4000000 in
theorem hState_same (now : Int) (a a' : Option Addr) (cap cap' : Nat) (fs : List TenD) (w : World) (hf : TensIn w a fs) (hf' : TensIn w a' fs) (hlen : fs.length ≤ maxLen) (hl : ∀ i (h : i < fs.length), fs[i].mets.length ≤ maxLen ∧ fs[i].sers.length ≤ maxLen) :
    Calls Tryz.prog 7 #[.agg #[.int .i64 now, .slice a fs.length cap], .agg #[.int .i64 now, .slice a' fs.length cap']] w fun e w' => e = .returned (.bool true) ∧ Below w.heap.size w w' := by
  unfold maxLen at hlen hl
  have HF : Hid (TensIn w a fs) := hf
  have HF' : Hid (TensIn w a' fs) := hf'
  have HL := hid hl
  clear hf hf' hl
  go_enter Tryz.func7, Tryz.ntmps7
  go_wp2
  have X0 : Hid (Blk ((w.alloc (.cells #[.int .i64 now, .slice a fs.length cap] 27)).alloc (.cells #[.int .i64 now, .slice a' fs.length cap'] 27)) w.heap.size #[.int .i64 now, .slice a fs.length cap] 27) := (Blk.new _ _ _).alloc _
  have Y0 : Hid (Blk ((w.alloc (.cells #[.int .i64 now, .slice a fs.length cap] 27)).alloc (.cells #[.int .i64 now, .slice a' fs.length cap'] 27)) (w.heap.size + 1) #[.int .i64 now, .slice a' fs.length cap'] 27) := hid (by have := Blk.new (w.alloc (.cells #[.int .i64 now, .slice a fs.length cap] 27)) #[.int .i64 now, .slice a' fs.length cap'] 27; simpa using this)
  have B0 : Hid (Below w.heap.size w ((w.alloc (.cells #[.int .i64 now, .slice a fs.length cap] 27)).alloc (.cells #[.int .i64 now, .slice a' fs.length cap'] 27))) := bto (bnew _ _) (bnew _ _)
  have F0 : Hid (TensIn ((w.alloc (.cells #[.int .i64 now, .slice a fs.length cap] 27)).alloc (.cells #[.int .i64 now, .slice a' fs.length cap'] 27)) a fs ∧ TensIn ((w.alloc (.cells #[.int .i64 now, .slice a fs.length cap] 27)).alloc (.cells #[.int .i64 now, .slice a' fs.length cap'] 27)) a' fs) := ⟨HF.out.later (bto (bnew _ _) (bnew _ _)), HF'.out.later (bto (bnew _ _) (bnew _ _))⟩
  generalize ((w.alloc (.cells #[.int .i64 now, .slice a fs.length cap] 27)).alloc (.cells #[.int .i64 now, .slice a' fs.length cap'] 27)) = W0 at *
  clear HF HF'
  go_loopw [27] (fun i wr => ∃ k : Nat, k ≤ fs.length ∧ i = .int .i64 (k : Nat) ∧ Hid (Below W0.heap.size W0 wr)) (fun i _ => fs.length - (intOf i).toNat)
  case atStart => exact ⟨0, Nat.zero_le _, rfl, Below.refl _ _⟩
  case round =>
    obtain ⟨k, hk, rfl, HB⟩ := hrel
    by_cases hlt : k < fs.length
    · have hlt' : (k : Int) < (fs.length : Nat) := by omega
      have XR := hid (X0.out.later HB.out)
      have YR := hid (Y0.out.later HB.out)
      have x1 := XR.out.cell 1
      have y1 := YR.out.cell 1
      have hx : w.heap.size < wr.heap.size := lt_of_block XR.out
      have hy : w.heap.size + 1 < wr.heap.size := lt_of_block YR.out
      obtain ⟨b, o, a1, q1, a2, q2, rfl, hb, c0, c1, c2, c3, p1, p2⟩ := (F0.out.1.later HB.out).at hlt
      obtain ⟨b', o', b1, r1, b2, r2, rfl, hb', e0, e1, e2, e3, s1, s2⟩ := (F0.out.2.later HB.out).at hlt
      obtain ⟨hm1, hm2⟩ := HL.out k hlt
      have P1 : Hid (PairsIn wr a1 fs[k].mets ∧ PairsIn wr b1 fs[k].mets ∧ PairsIn wr a2 fs[k].sers ∧ PairsIn wr b2 fs[k].sers) := ⟨p1, s1, p2, s2⟩
      clear p1 p2 s1 s2
      have n1 : ¬ (w.heap.size = wr.heap.size) := by omega
      have n2 : ¬ (w.heap.size + 1 = wr.heap.size) := by omega
      have n3 : ¬ (b' = wr.heap.size) := by omega
      generalize fs[k].name = nm at *
      generalize fs[k].limit = lm at *
      generalize fs[k].mets = ms at *
      generalize fs[k].sers = ss at *
      go_wp2
      have AO : Hid (Blk ((wr.alloc (.cells #[.string nm, .int .i64 lm, .slice a1 ms.length q1, .slice a2 ss.length q2] 46)).alloc (.cells #[.string nm, .int .i64 lm, .slice b1 ms.length r1, .slice b2 ss.length r2] 46)) wr.heap.size #[.string nm, .int .i64 lm, .slice a1 ms.length q1, .slice a2 ss.length q2] 46) := (Blk.new _ _ _).alloc _
      have BO : Hid (Blk ((wr.alloc (.cells #[.string nm, .int .i64 lm, .slice a1 ms.length q1, .slice a2 ss.length q2] 46)).alloc (.cells #[.string nm, .int .i64 lm, .slice b1 ms.length r1, .slice b2 ss.length r2] 46)) (wr.heap.size + 1) #[.string nm, .int .i64 lm, .slice b1 ms.length r1, .slice b2 ss.length r2] 46) := hid (by have := Blk.new (wr.alloc (.cells #[.string nm, .int .i64 lm, .slice a1 ms.length q1, .slice a2 ss.length q2] 46)) #[.string nm, .int .i64 lm, .slice b1 ms.length r1, .slice b2 ss.length r2] 46; simpa using this)
      have WB : Hid (Below W0.heap.size W0 ((wr.alloc (.cells #[.string nm, .int .i64 lm, .slice a1 ms.length q1, .slice a2 ss.length q2] 46)).alloc (.cells #[.string nm, .int .i64 lm, .slice b1 ms.length r1, .slice b2 ss.length r2] 46))) := bto HB.out (bto (bnew _ _) (bnew _ _))
      have PO : Hid (PairsIn ((wr.alloc (.cells #[.string nm, .int .i64 lm, .slice a1 ms.length q1, .slice a2 ss.length q2] 46)).alloc (.cells #[.string nm, .int .i64 lm, .slice b1 ms.length r1, .slice b2 ss.length r2] 46)) a1 ms ∧ PairsIn ((wr.alloc (.cells #[.string nm, .int .i64 lm, .slice a1 ms.length q1, .slice a2 ss.length q2] 46)).alloc (.cells #[.string nm, .int .i64 lm, .slice b1 ms.length r1, .slice b2 ss.length r2] 46)) b1 ms ∧ PairsIn ((wr.alloc (.cells #[.string nm, .int .i64 lm, .slice a1 ms.length q1, .slice a2 ss.length q2] 46)).alloc (.cells #[.string nm, .int .i64 lm, .slice b1 ms.length r1, .slice b2 ss.length r2] 46)) a2 ss ∧ PairsIn ((wr.alloc (.cells #[.string nm, .int .i64 lm, .slice a1 ms.length q1, .slice a2 ss.length q2] 46)).alloc (.cells #[.string nm, .int .i64 lm, .slice b1 ms.length r1, .slice b2 ss.length r2] 46)) b2 ss) := ⟨P1.out.1.later (bto (bnew _ _) (bnew _ _)), P1.out.2.1.later (bto (bnew _ _) (bnew _ _)), P1.out.2.2.1.later (bto (bnew _ _) (bnew _ _)), P1.out.2.2.2.later (bto (bnew _ _) (bnew _ _))⟩
      generalize ((wr.alloc (.cells #[.string nm, .int .i64 lm, .slice a1 ms.length q1, .slice a2 ss.length q2] 46)).alloc (.cells #[.string nm, .int .i64 lm, .slice b1 ms.length r1, .slice b2 ss.length r2] 46)) = wo at *
      generalize wr.heap.size = BX at *
      clear HB XR YR x1 y1 P1 c0 c1 c2 c3 e0 e1 e2 e3 hb hb' hx hy n1 n2 n3
      clear wr
      go_loopw [73] (fun i wr => ∃ j : Nat, j ≤ ms.length ∧ i = .int .i64 (j : Nat) ∧ Hid (Below wo.heap.size wo wr)) (fun i _ => ms.length - (intOf i).toNat)
      case atStart => exact ⟨0, Nat.zero_le _, rfl, Below.refl _ _⟩
      case round =>
        obtain ⟨j, hj, rfl, HBJ⟩ := hrel
        by_cases hjl : j < ms.length
        · have hjl' : (j : Int) < (ms.length : Nat) := by omega
          have AR := hid (AO.out.later HBJ.out)
          have BR := hid (BO.out.later HBJ.out)
          have u0 := AR.out.cell 2
          have u1 := BR.out.cell 2
          obtain ⟨g1, o1, rfl, hg1, d0, d1⟩ := (PO.out.1.later HBJ.out).at hjl
          obtain ⟨g2, o2, rfl, hg2, d2, d3⟩ := (PO.out.2.1.later HBJ.out).at hjl
          generalize ms[j] = pr at *
          go_wp2_with fail
          go_region
          go_wp2
          exact ⟨⟨j + 1, by omega, by go_num, HBJ.out.drew⟩, by simp [intOf]; omega⟩
        · have hjl' : ¬ ((j : Int) < (ms.length : Nat)) := by omega
          have HBI := hid HBJ.out
          have c3a := (AO.out.later HBJ.out).cell 3
          clear HBJ
          go_wp2
          obtain ⟨wz, hwz⟩ : ∃ wz : World, wz = wr := ⟨_, rfl⟩
          subst hwz
          go_loopw [91] (fun i wr => ∃ jj : Nat, jj ≤ ss.length ∧ i = .int .i64 (jj : Nat) ∧ Hid (Below wo.heap.size wo wr)) (fun i _ => ss.length - (intOf i).toNat)
          case atStart => exact ⟨0, Nat.zero_le _, rfl, HBI.out⟩
          case round =>
            obtain ⟨jj, hjj, rfl, HBJ⟩ := hrel
            by_cases hjl : jj < ss.length
            · have hjl' : (jj : Int) < (ss.length : Nat) := by omega
              have AR := hid (AO.out.later HBJ.out)
              have BR := hid (BO.out.later HBJ.out)
              have u0 := AR.out.cell 3
              have u1 := BR.out.cell 3
              obtain ⟨g1, o1, rfl, hg1, d0, d1⟩ := (PO.out.2.2.1.later HBJ.out).at hjl
              obtain ⟨g2, o2, rfl, hg2, d2, d3⟩ := (PO.out.2.2.2.later HBJ.out).at hjl
              generalize ss[jj] = pr at *
              go_wp2_with fail
              go_region
              go_wp2
              exact ⟨⟨jj + 1, by omega, by go_num, HBJ.out.drew⟩, by simp [intOf]; omega⟩
            · have hjl' : ¬ ((jj : Int) < (ss.length : Nat)) := by omega
              go_wp2
              exact ⟨⟨k + 1, by omega, by go_num, bto WB.out HBJ.out⟩, by simp [intOf]; omega⟩
    · have hlt' : ¬ ((k : Int) < (fs.length : Nat)) := by omega
      go_wp2
      go_ret
      exact ⟨rfl, bto B0.out HB.out⟩
end Go.Proofs.YtnbkmmmlhlbfoaaGreatDoor
namespace Go.Proofs.YtnbkmmmlhlbfoaaGreatDoor
theorem empty_is : ByteArray.empty.toList.isEmpty = true := by simp
theorem metV_from : ∀ (ls : List LabD), metV ls = ByteArray.empty ∨ ∃ l ∈ ls, metV ls = l.value
  | [] => Or.inl rfl
  | p :: r => by
    rw [metV]
    by_cases hm : isMet p = true
    · rw [if_pos hm]; exact Or.inr ⟨p, List.mem_cons_self .., rfl⟩
    · rw [if_neg hm]
      rcases metV_from r with h | ⟨l, hl, he⟩
      · exact Or.inl h
      · exact Or.inr ⟨l, List.mem_cons_of_mem _ hl, he⟩
end Go.Proofs.YtnbkmmmlhlbfoaaGreatDoor
