import Derived.Test.YtmggmbidihjblaaDoorProg
import Derived.Test.YtmggmbidihjblaaDoorI7Pc
import Derived.Deep.RegionHeld
import Derived.Deep.DeepCutAuto
namespace Go.Proofs.YtmggmbidihjblaaDoor
open Go.RowKit

theorem ButD {g : Nat} {w : World} : But g w w.drew := ⟨rfl, rfl, rfl, Nat.le_refl _, fun _ _ _ => rfl⟩
theorem LS.drew {W : World} {L : Nat} {r : List UInt8} {m b : Bool} (h : LS W L r m b) : LS W.drew L r m b := ⟨h.blk, h.sy⟩

set_option maxHeartbeats 8000000 in
set_option maxRecDepth 100000 in
theorem implPc_any (s : ByteArray) (w : World) (hs : s.size ≤ 1048576) (hy : SynTab w) (hG : 6 ≤ w.heap.size) :
    Calls Tryd.prog 5 #[.string s] w fun e w' => e = .returned (pcR (pcV s.data.toList)) ∧ Below w.heap.size w w' := by
  have HLO : Hid (∀ W, Calls Tryd.prog 10 #[.int .i64 1, .string s] W fun e w' => e = .returned (.pointer (some ⟨W.heap.size, 0, none⟩)) ∧ Blk w' W.heap.size (lnC 1 s.data.toList false false) 38 ∧ Below W.heap.size W w') := fun W => lineOf_any 1 s W
  have hl0 : s.data.toList.length ≤ 1048576 := by rw [Array.length_toList]; exact hs
  generalize s.data.toList = l at *
  obtain ⟨u, r, m, c0⟩ : ∃ x y z, cutA 32 l = (x, y, z) := ⟨_, _, _, rfl⟩
  have l0 := cut_le c0 hl0
  obtain ⟨F1, r1, m1, c1⟩ : ∃ x y z, cutA 32 r = (x, y, z) := ⟨_, _, _, rfl⟩
  have l1 := cut_le c1 l0
  obtain ⟨F2, r2, m2, c2⟩ : ∃ x y z, cutA 32 r1 = (x, y, z) := ⟨_, _, _, rfl⟩
  have l2 := cut_le c2 l1
  obtain ⟨F3, r3, m3, c3⟩ : ∃ x y z, cutA 32 r2 = (x, y, z) := ⟨_, _, _, rfl⟩
  have l3 := cut_le c3 l2
  obtain ⟨F4, r4, m4, c4⟩ : ∃ x y z, cutA 32 r3 = (x, y, z) := ⟨_, _, _, rfl⟩
  have l4 := cut_le c4 l3
  obtain ⟨F5, r5, m5, c5⟩ : ∃ x y z, cutA 32 r4 = (x, y, z) := ⟨_, _, _, rfl⟩
  have l5 := cut_le c5 l4
  obtain ⟨F6, r6, m6, c6⟩ : ∃ x y z, cutA 32 r5 = (x, y, z) := ⟨_, _, _, rfl⟩
  have l6 := cut_le c6 l5
  obtain ⟨F7, r7, m7, c7⟩ : ∃ x y z, cutA 32 r6 = (x, y, z) := ⟨_, _, _, rfl⟩
  have HPV : Hid (pcV l = if u = cfgW ∧ numB F1 = true ∧ numB F2 = true ∧ numB F3 = true ∧ numB F4 = true ∧ numB F5 = true ∧ numB F6 = true ∧ numB F7 = true ∧ m7 = false then
      (if cfgB ⟨valD F1, valD F2, valD F3, valD F4, valD F5, valD F6⟩ = true ∧ (valD F7 : Int) ≤ 1000000000 then some (⟨valD F1, valD F2, valD F3, valD F4, valD F5, valD F6⟩, (valD F7 : Int)) else none) else none) := pc_flags c0 c1 c2 c3 c4 c5 c6 c7
  have HNX : Hid (∀ W, LS W (w.heap.size + 1) l false false → Calls Tryd.prog 11 #[.pointer (some ⟨w.heap.size + 1, 0, none⟩)] W fun e w' => e = .returned (.string (baL u)) ∧ LS w' (w.heap.size + 1) r m false ∧ But (w.heap.size + 1) W w') := fun W h => next_ls h hl0 (by omega) c0
  have HB0 : ∃ b0 : Bool, b0 = !decide (u = cfgW) := ⟨_, rfl⟩
  obtain ⟨b0, hb0⟩ := HB0
  have HC1 : Hid (∀ W, LS W (w.heap.size + 1) r m (b0) → Calls Tryd.prog 12 #[.pointer (some ⟨w.heap.size + 1, 0, none⟩)] W fun e w' => e = .returned (.int .i64 (nvV F1)) ∧ LS w' (w.heap.size + 1) r1 m1 (b0 || !numB F1) ∧ But (w.heap.size + 1) W w') := fun W h => num_ls h l0 (by omega) c1
  have HC2 : Hid (∀ W, LS W (w.heap.size + 1) r1 m1 (b0 || !numB F1) → Calls Tryd.prog 12 #[.pointer (some ⟨w.heap.size + 1, 0, none⟩)] W fun e w' => e = .returned (.int .i64 (nvV F2)) ∧ LS w' (w.heap.size + 1) r2 m2 (b0 || !numB F1 || !numB F2) ∧ But (w.heap.size + 1) W w') := fun W h => num_ls h l1 (by omega) c2
  have HC3 : Hid (∀ W, LS W (w.heap.size + 1) r2 m2 (b0 || !numB F1 || !numB F2) → Calls Tryd.prog 12 #[.pointer (some ⟨w.heap.size + 1, 0, none⟩)] W fun e w' => e = .returned (.int .i64 (nvV F3)) ∧ LS w' (w.heap.size + 1) r3 m3 (b0 || !numB F1 || !numB F2 || !numB F3) ∧ But (w.heap.size + 1) W w') := fun W h => num_ls h l2 (by omega) c3
  have HC4 : Hid (∀ W, LS W (w.heap.size + 1) r3 m3 (b0 || !numB F1 || !numB F2 || !numB F3) → Calls Tryd.prog 12 #[.pointer (some ⟨w.heap.size + 1, 0, none⟩)] W fun e w' => e = .returned (.int .i64 (nvV F4)) ∧ LS w' (w.heap.size + 1) r4 m4 (b0 || !numB F1 || !numB F2 || !numB F3 || !numB F4) ∧ But (w.heap.size + 1) W w') := fun W h => num_ls h l3 (by omega) c4
  have HC5 : Hid (∀ W, LS W (w.heap.size + 1) r4 m4 (b0 || !numB F1 || !numB F2 || !numB F3 || !numB F4) → Calls Tryd.prog 12 #[.pointer (some ⟨w.heap.size + 1, 0, none⟩)] W fun e w' => e = .returned (.int .i64 (nvV F5)) ∧ LS w' (w.heap.size + 1) r5 m5 (b0 || !numB F1 || !numB F2 || !numB F3 || !numB F4 || !numB F5) ∧ But (w.heap.size + 1) W w') := fun W h => num_ls h l4 (by omega) c5
  have HC6 : Hid (∀ W, LS W (w.heap.size + 1) r5 m5 (b0 || !numB F1 || !numB F2 || !numB F3 || !numB F4 || !numB F5) → Calls Tryd.prog 12 #[.pointer (some ⟨w.heap.size + 1, 0, none⟩)] W fun e w' => e = .returned (.int .i64 (nvV F6)) ∧ LS w' (w.heap.size + 1) r6 m6 (b0 || !numB F1 || !numB F2 || !numB F3 || !numB F4 || !numB F5 || !numB F6) ∧ But (w.heap.size + 1) W w') := fun W h => num_ls h l5 (by omega) c6
  have HC7 : Hid (∀ W, LS W (w.heap.size + 1) r6 m6 (b0 || !numB F1 || !numB F2 || !numB F3 || !numB F4 || !numB F5 || !numB F6) → Calls Tryd.prog 12 #[.pointer (some ⟨w.heap.size + 1, 0, none⟩)] W fun e w' => e = .returned (.int .i64 (nvV F7)) ∧ LS w' (w.heap.size + 1) r7 m7 (b0 || !numB F1 || !numB F2 || !numB F3 || !numB F4 || !numB F5 || !numB F6 || !numB F7) ∧ But (w.heap.size + 1) W w') := fun W h => num_ls h l6 (by omega) c7
  have HB0 : Hid (b0 = !decide (u = cfgW)) := hb0
  have HUB : Hid ((baL u).toList = u) := by show _ = _; rw [ByteArray.toList_eq, baL_list]
  have HTT : Hid (SynTab w ∧ 6 ≤ w.heap.size) := ⟨hy, hG⟩
  clear hy hG hb0 l0 l1 l2 l3 l4 l5 l6 hl0 c0 c1 c2 c3 c4 c5 c6 c7
  generalize hUB : baL u = UB at *
  clear hUB

  obtain ⟨v1, hv1⟩ : ∃ v, nvV F1 = v := ⟨_, rfl⟩
  rw [hv1] at HC1
  have HV1 := hid hv1
  clear hv1
  obtain ⟨v2, hv2⟩ : ∃ v, nvV F2 = v := ⟨_, rfl⟩
  rw [hv2] at HC2
  have HV2 := hid hv2
  clear hv2
  obtain ⟨v3, hv3⟩ : ∃ v, nvV F3 = v := ⟨_, rfl⟩
  rw [hv3] at HC3
  have HV3 := hid hv3
  clear hv3
  obtain ⟨v4, hv4⟩ : ∃ v, nvV F4 = v := ⟨_, rfl⟩
  rw [hv4] at HC4
  have HV4 := hid hv4
  clear hv4
  obtain ⟨v5, hv5⟩ : ∃ v, nvV F5 = v := ⟨_, rfl⟩
  rw [hv5] at HC5
  have HV5 := hid hv5
  clear hv5
  obtain ⟨v6, hv6⟩ : ∃ v, nvV F6 = v := ⟨_, rfl⟩
  rw [hv6] at HC6
  have HV6 := hid hv6
  clear hv6
  obtain ⟨v7, hv7⟩ : ∃ v, nvV F7 = v := ⟨_, rfl⟩
  rw [hv7] at HC7
  have HV7 := hid hv7
  clear hv7
  generalize pcV l = R at *
  go_enter Tryd.func5, Tryd.ntmps5
  go_wp2_with fail
  refine (HLO.out _).mono ?_
  rintro e w1 ⟨rfl, hL1, hb1⟩
  rw [show (w.alloc (.cells #[.int .i64 0, .int .i64 0, .int .i64 0, .int .i64 0, .int .i64 0, .int .i64 0] 23)).heap.size = w.heap.size + 1 by simp] at hL1 hb1 ⊢
  have hg := HTT.out.2
  have HLS1 : Hid (LS w1 (w.heap.size + 1) l false false) := ⟨hL1, (HTT.out.1.later (bnew _ _) hg).later hb1 (by omega)⟩
  have HBX1 : Hid (Blk w1 w.heap.size #[.int .i64 0, .int .i64 0, .int .i64 0, .int .i64 0, .int .i64 0, .int .i64 0] 23) := (Blk.new w _ _).later (by simpa using hb1)
  have HBE1 : Hid (Below w.heap.size w w1) := bto (bnew _ _) (by simpa using hb1)
  clear hL1 hb1
  go_wp2_with fail
  refine (HNX.out _ HLS1.out).mono ?_
  rintro e w2 ⟨rfl, hls2, hb2⟩
  have HLS2 : Hid (LS w2 (w.heap.size + 1) r m false) := hls2
  have HBX2 : Hid (Blk w2 w.heap.size #[.int .i64 0, .int .i64 0, .int .i64 0, .int .i64 0, .int .i64 0, .int .i64 0] 23) := HBX1.out.but hb2 (by omega)
  have HBE2 : Hid (Below w.heap.size w w2) := HBE1.out.trans (hb2.below (by omega) HBE1.out.size)
  have y3 := hls2.blk.cell 3
  have f3 := hls2.blk.free 3
  clear hls2 hb2
  go_upto_region 3 with fail
  have HEB : Hid ((!(UB.toList == [99, 111, 110, 102, 105, 103])) = b0) := by
    show _ = _
    rw [HB0.out, HUB.out]
    unfold cfgW
    by_cases h : u = [99, 111, 110, 102, 105, 103]
    · rw [decide_eq_true h, h]; rfl
    · rw [decide_eq_false h, beq_eq_false_iff_ne.2 h]
  rw [HEB.out]
  have HLS3 : Hid (LS (w2.setCell ⟨w.heap.size + 1, 3, none⟩ (.bool b0)) (w.heap.size + 1) r m b0) := ⟨HLS2.out.blk.set 3 _, HLS2.out.sy.but ((But.refl _ _).setCell 3 _) (by omega)⟩
  have HBX3 : Hid (Blk (w2.setCell ⟨w.heap.size + 1, 3, none⟩ (.bool b0)) w.heap.size #[.int .i64 0, .int .i64 0, .int .i64 0, .int .i64 0, .int .i64 0, .int .i64 0] 23) := HBX2.out.but ((But.refl _ _).setCell 3 _) (by omega)
  have HBE3 : Hid (Below w.heap.size w (w2.setCell ⟨w.heap.size + 1, 3, none⟩ (.bool b0))) := HBE2.out.setCell (by simp) _
  clear y3 f3 HLS2 HBX2 HBE2 HLS1 HBX1 HBE1
  generalize w2.setCell ⟨w.heap.size + 1, 3, none⟩ (.bool b0) = W3 at *
  clear w2 w1
  go_wp2_with fail
  refine (HC1.out _ HLS3.out).mono ?_
  rintro e w4 ⟨rfl, hls, hb⟩
  have HLS4 := hid hls
  have HBX4 : Hid (Blk w4 w.heap.size #[.int .i64 0, .int .i64 0, .int .i64 0, .int .i64 0, .int .i64 0, .int .i64 0] 23) := HBX3.out.but hb (by omega)
  have HBE4 : Hid (Below w.heap.size w w4) := HBE3.out.trans (hb.below (by omega) HBE3.out.size)
  clear hls hb HLS3 HBX3 HBE3
  go_wp2_with fail
  refine (HC2.out _ HLS4.out).mono ?_
  rintro e w5 ⟨rfl, hls, hb⟩
  have HLS5 := hid hls
  have HBX5 : Hid (Blk w5 w.heap.size #[.int .i64 0, .int .i64 0, .int .i64 0, .int .i64 0, .int .i64 0, .int .i64 0] 23) := HBX4.out.but hb (by omega)
  have HBE5 : Hid (Below w.heap.size w w5) := HBE4.out.trans (hb.below (by omega) HBE4.out.size)
  clear hls hb HLS4 HBX4 HBE4
  go_wp2_with fail
  refine (HC3.out _ HLS5.out).mono ?_
  rintro e w6 ⟨rfl, hls, hb⟩
  have HLS6 := hid hls
  have HBX6 : Hid (Blk w6 w.heap.size #[.int .i64 0, .int .i64 0, .int .i64 0, .int .i64 0, .int .i64 0, .int .i64 0] 23) := HBX5.out.but hb (by omega)
  have HBE6 : Hid (Below w.heap.size w w6) := HBE5.out.trans (hb.below (by omega) HBE5.out.size)
  clear hls hb HLS5 HBX5 HBE5
  go_wp2_with fail
  refine (HC4.out _ HLS6.out).mono ?_
  rintro e w7 ⟨rfl, hls, hb⟩
  have HLS7 := hid hls
  have HBX7 : Hid (Blk w7 w.heap.size #[.int .i64 0, .int .i64 0, .int .i64 0, .int .i64 0, .int .i64 0, .int .i64 0] 23) := HBX6.out.but hb (by omega)
  have HBE7 : Hid (Below w.heap.size w w7) := HBE6.out.trans (hb.below (by omega) HBE6.out.size)
  clear hls hb HLS6 HBX6 HBE6
  go_wp2_with fail
  refine (HC5.out _ HLS7.out).mono ?_
  rintro e w8 ⟨rfl, hls, hb⟩
  have HLS8 := hid hls
  have HBX8 : Hid (Blk w8 w.heap.size #[.int .i64 0, .int .i64 0, .int .i64 0, .int .i64 0, .int .i64 0, .int .i64 0] 23) := HBX7.out.but hb (by omega)
  have HBE8 : Hid (Below w.heap.size w w8) := HBE7.out.trans (hb.below (by omega) HBE7.out.size)
  clear hls hb HLS7 HBX7 HBE7
  go_wp2_with fail
  refine (HC6.out _ HLS8.out).mono ?_
  rintro e w9 ⟨rfl, hls, hb⟩
  have HLS9 := hid hls
  have HBX9 : Hid (Blk w9 w.heap.size #[.int .i64 0, .int .i64 0, .int .i64 0, .int .i64 0, .int .i64 0, .int .i64 0] 23) := HBX8.out.but hb (by omega)
  have HBE9 : Hid (Below w.heap.size w w9) := HBE8.out.trans (hb.below (by omega) HBE8.out.size)
  clear hls hb HLS8 HBX8 HBE8
  have hs9 := HBE9.out.size
  have hl9 := lt_of_block HLS9.out.blk
  go_upto_region 4 with fail
  have HLSA : Hid (LS (w9.alloc (.cells #[.int .i64 v1, .int .i64 v2, .int .i64 v3, .int .i64 v4, .int .i64 v5, .int .i64 v6] 23)) (w.heap.size + 1) r6 m6 (b0 || !numB F1 || !numB F2 || !numB F3 || !numB F4 || !numB F5 || !numB F6)) := HLS9.out.later (bnew _ _) (by omega)
  have HBXA : Hid (Blk (w9.alloc (.cells #[.int .i64 v1, .int .i64 v2, .int .i64 v3, .int .i64 v4, .int .i64 v5, .int .i64 v6] 23)) w.heap.size #[.int .i64 0, .int .i64 0, .int .i64 0, .int .i64 0, .int .i64 0, .int .i64 0] 23) := HBX9.out.later (bnew _ _)
  have HBEA : Hid (Below w.heap.size w (w9.alloc (.cells #[.int .i64 v1, .int .i64 v2, .int .i64 v3, .int .i64 v4, .int .i64 v5, .int .i64 v6] 23))) := bto HBE9.out (bnew _ _)
  have HCBA : Hid (Blk (w9.alloc (.cells #[.int .i64 v1, .int .i64 v2, .int .i64 v3, .int .i64 v4, .int .i64 v5, .int .i64 v6] 23)) w9.heap.size #[.int .i64 v1, .int .i64 v2, .int .i64 v3, .int .i64 v4, .int .i64 v5, .int .i64 v6] 23) := Blk.new _ _ _
  clear HLS9 HBX9 HBE9
  generalize w9.alloc (.cells #[.int .i64 v1, .int .i64 v2, .int .i64 v3, .int .i64 v4, .int .i64 v5, .int .i64 v6] 23) = WA at *
  generalize hPP : w9.heap.size = PP at *
  clear hPP w9
  go_wp2_with fail
  refine (HC7.out _ HLSA.out).mono ?_
  rintro e w10 ⟨rfl, hls, hb⟩
  have HLSB := hid hls
  have HBXB : Hid (Blk w10 w.heap.size #[.int .i64 0, .int .i64 0, .int .i64 0, .int .i64 0, .int .i64 0, .int .i64 0] 23) := HBXA.out.but hb (by omega)
  have HCBB : Hid (Blk w10 PP #[.int .i64 v1, .int .i64 v2, .int .i64 v3, .int .i64 v4, .int .i64 v5, .int .i64 v6] 23) := HCBA.out.but hb (by omega)
  have HBEB : Hid (Below w.heap.size w w10) := HBEA.out.trans (hb.below (by omega) HBEA.out.size)
  clear hls hb HLSA HBXA HCBA HBEA
  have HWH : Hid (∀ W, Below w10.heap.size w10 W → Calls Tryd.prog 13 #[.pointer (some ⟨w.heap.size + 1, 0, none⟩)] W fun e w' => e = .returned (.bool (!m7 && !(b0 || !numB F1 || !numB F2 || !numB F3 || !numB F4 || !numB F5 || !numB F6 || !numB F7))) ∧ Below W.heap.size W w') := fun W hW => whole_any _ _ _ _ _ W (HLSB.out.blk.later hW)
  have HCF : Hid (∀ W, Calls Tryd.prog 14 #[cfgV ⟨v1, v2, v3, v4, v5, v6⟩] W fun e w' => e = .returned (.bool (cfgB ⟨v1, v2, v3, v4, v5, v6⟩)) ∧ Below W.heap.size W w') := fun W => implCfg_any _ W
  unfold cfgV at HCF
  cases hWB : (!m7 && !(b0 || !numB F1 || !numB F2 || !numB F3 || !numB F4 || !numB F5 || !numB F6 || !numB F7)) with
  | false =>
    have HN : Hid (R = none) := by
      show _ = _
      rw [HPV.out, if_neg]
      rintro ⟨a0, a1, a2, a3, a4, a5, a6, a7, a8⟩
      rw [HB0.out, decide_eq_true a0, a1, a2, a3, a4, a5, a6, a7, a8] at hWB
      exact absurd hWB (by decide)
    rw [hWB] at HWH
    clear hWB
    go_wp2_with fail
    refine (HWH.out _ (Below.refl _ _)).mono ?_
    rintro e V ⟨rfl, hbV⟩
    have HBV : Hid (Below w.heap.size w V) := bto HBEB.out hbV
    have HBZ := HBXB.out.later hbV
    clear hbV
    have y0 := HBZ.cell 0
    have f0 := HBZ.free 0
    have y1 := HBZ.cell 1
    have f1 := HBZ.free 1
    have y2 := HBZ.cell 2
    have f2 := HBZ.free 2
    have y3 := HBZ.cell 3
    have f3 := HBZ.free 3
    have y4 := HBZ.cell 4
    have f4 := HBZ.free 4
    have y5 := HBZ.cell 5
    have f5 := HBZ.free 5
    go_wp2
    refine bodyPost_ret (v := pcR none) (by simp [results, Tryd.results5, go_sem, pcR, cfgV, y0, y1, y2, y3, y4, y5]) rfl ⟨by rw [HN.out], ?_⟩
    exact ((((((HBV.out.setCell (by simp) _).setCell (by simp) _).setCell (by simp) _).setCell (by simp) _).setCell (by simp) _).setCell (by simp) _)
  | true =>
    have HALL : Hid (u = cfgW ∧ numB F1 = true ∧ numB F2 = true ∧ numB F3 = true ∧ numB F4 = true ∧ numB F5 = true ∧ numB F6 = true ∧ numB F7 = true ∧ m7 = false) := by
      show _ ∧ _
      rw [HB0.out] at hWB
      simpa [and_assoc, and_comm, and_left_comm] using hWB
    have HPC : Hid (R = if cfgB ⟨v1, v2, v3, v4, v5, v6⟩ = true ∧ v7 ≤ 1000000000 then some (⟨v1, v2, v3, v4, v5, v6⟩, v7) else none) := by
      show _ = _
      obtain ⟨a0, a1, a2, a3, a4, a5, a6, a7, a8⟩ := HALL.out
      rw [HPV.out, if_pos ⟨a0, a1, a2, a3, a4, a5, a6, a7, a8⟩, ← nvV_yes a1, ← nvV_yes a2, ← nvV_yes a3, ← nvV_yes a4, ← nvV_yes a5, ← nvV_yes a6, ← nvV_yes a7, HV1.out, HV2.out, HV3.out, HV4.out, HV5.out, HV6.out, HV7.out]
    rw [hWB] at HWH
    clear hWB HALL HPV
    go_wp2_with fail
    refine (HWH.out _ (Below.refl _ _)).mono ?_
    rintro e V0 ⟨rfl, hbV⟩
    have HBE0 : Hid (Below w.heap.size w V0) := bto HBEB.out hbV
    have HBX0 : Hid (Blk V0 w.heap.size #[.int .i64 0, .int .i64 0, .int .i64 0, .int .i64 0, .int .i64 0, .int .i64 0] 23) := HBXB.out.later hbV
    have HCB0 : Hid (Blk V0 PP #[.int .i64 v1, .int .i64 v2, .int .i64 v3, .int .i64 v4, .int .i64 v5, .int .i64 v6] 23) := HCBB.out.later hbV
    clear hbV
    have d0 := HCB0.out.cell 0
    have d1 := HCB0.out.cell 1
    have d2 := HCB0.out.cell 2
    have d3 := HCB0.out.cell 3
    have d4 := HCB0.out.cell 4
    have d5 := HCB0.out.cell 5
    cases hB : cfgB ⟨v1, v2, v3, v4, v5, v6⟩ with
    | false =>
      rw [hB] at HCF
      have HN : Hid (R = none) := by show _ = _; rw [HPC.out, if_neg (by rw [hB]; exact fun h => absurd h.1 (by decide))]
      clear hB
      go_wp2_with fail
      refine (HCF.out _).mono ?_
      rintro e V ⟨rfl, hbV⟩
      have HBV : Hid (Below w.heap.size w V) := bto HBE0.out hbV
      have HBZ := HBX0.out.later hbV
      clear d0 d1 d2 d3 d4 d5 hbV
      have y0 := HBZ.cell 0
      have f0 := HBZ.free 0
      have y1 := HBZ.cell 1
      have f1 := HBZ.free 1
      have y2 := HBZ.cell 2
      have f2 := HBZ.free 2
      have y3 := HBZ.cell 3
      have f3 := HBZ.free 3
      have y4 := HBZ.cell 4
      have f4 := HBZ.free 4
      have y5 := HBZ.cell 5
      have f5 := HBZ.free 5
      go_wp2
      refine bodyPost_ret (v := pcR none) (by simp [results, Tryd.results5, go_sem, pcR, cfgV, y0, y1, y2, y3, y4, y5]) rfl ⟨by rw [HN.out], ?_⟩
      exact ((((((HBV.out.setCell (by simp) _).setCell (by simp) _).setCell (by simp) _).setCell (by simp) _).setCell (by simp) _).setCell (by simp) _)
    | true =>
      rw [hB] at HCF
      by_cases h9 : v7 ≤ 1000000000
      · have HN : Hid (R = some (⟨v1, v2, v3, v4, v5, v6⟩, v7)) := by show _ = _; rw [HPC.out, if_pos ⟨hB, h9⟩]
        clear hB
        go_wp2_with fail
        refine (HCF.out _).mono ?_
        rintro e V ⟨rfl, hbV⟩
        have HBV : Hid (Below w.heap.size w V) := bto HBE0.out hbV
        have HBZ := HBX0.out.later hbV
        have HCZ := HCB0.out.later hbV
        clear d0 d1 d2 d3 d4 d5 hbV
        have z0 := HCZ.cell 0
        have z1 := HCZ.cell 1
        have z2 := HCZ.cell 2
        have z3 := HCZ.cell 3
        have z4 := HCZ.cell 4
        have z5 := HCZ.cell 5
        have y0 := HBZ.cell 0
        have f0 := HBZ.free 0
        have y1 := HBZ.cell 1
        have f1 := HBZ.free 1
        have y2 := HBZ.cell 2
        have f2 := HBZ.free 2
        have y3 := HBZ.cell 3
        have f3 := HBZ.free 3
        have y4 := HBZ.cell 4
        have f4 := HBZ.free 4
        have y5 := HBZ.cell 5
        have f5 := HBZ.free 5
        go_wp2
        refine bodyPost_ret (v := pcR (some (⟨v1, v2, v3, v4, v5, v6⟩, v7))) (by simp [results, Tryd.results5, go_sem, pcR, cfgV, y0, y1, y2, y3, y4, y5]) rfl ⟨by rw [HN.out], ?_⟩
        exact ((((((HBV.out.setCell (by simp) _).setCell (by simp) _).setCell (by simp) _).setCell (by simp) _).setCell (by simp) _).setCell (by simp) _)
      · have HN : Hid (R = none) := by show _ = _; rw [HPC.out, if_neg (fun h => h9 h.2)]
        clear hB
        go_wp2_with fail
        refine (HCF.out _).mono ?_
        rintro e V ⟨rfl, hbV⟩
        have HBV : Hid (Below w.heap.size w V) := bto HBE0.out hbV
        have HBZ := HBX0.out.later hbV
        clear d0 d1 d2 d3 d4 d5 hbV
        have y0 := HBZ.cell 0
        have f0 := HBZ.free 0
        have y1 := HBZ.cell 1
        have f1 := HBZ.free 1
        have y2 := HBZ.cell 2
        have f2 := HBZ.free 2
        have y3 := HBZ.cell 3
        have f3 := HBZ.free 3
        have y4 := HBZ.cell 4
        have f4 := HBZ.free 4
        have y5 := HBZ.cell 5
        have f5 := HBZ.free 5
        go_wp2
        refine bodyPost_ret (v := pcR none) (by simp [results, Tryd.results5, go_sem, pcR, cfgV, y0, y1, y2, y3, y4, y5]) rfl ⟨by rw [HN.out], ?_⟩
        exact ((((((HBV.out.setCell (by simp) _).setCell (by simp) _).setCell (by simp) _).setCell (by simp) _).setCell (by simp) _).setCell (by simp) _)
end Go.Proofs.YtmggmbidihjblaaDoor
