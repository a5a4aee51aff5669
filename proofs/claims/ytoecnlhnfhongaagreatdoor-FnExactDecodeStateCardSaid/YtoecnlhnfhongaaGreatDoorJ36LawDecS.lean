import Derived.Test.YtoecnlhnfhongaaGreatDoorProg
import Derived.Test.YtoecnlhnfhongaaGreatDoorJ28IDecS
import Derived.Test.YtoecnlhnfhongaaGreatDoorJ33SDecS
import Derived.Test.YtoecnlhnfhongaaGreatDoorJ34MkS
import Derived.Test.YtoecnlhnfhongaaGreatDoorJ35CfgT
import Derived.Deep.RegionHeld3
import Derived.Deep.DeepCutAuto
namespace Go.Proofs.YtoecnlhnfhongaaGreatDoor
open Go.RowKit

theorem blk_newS (w : World) (cs : Array Value) (t : TypeId) : Blk (w.alloc (.cells cs t)) w.heap.size cs t := heap_alloc_new _ _
theorem blk_allocS {w w' : World} {cs : Array Value} {t : TypeId} (h : Below (w.alloc (.cells cs t)).heap.size (w.alloc (.cells cs t)) w') : Blk w' w.heap.size cs t := (blk_newS w cs t).later h
theorem blk_drewS {w w' : World} {cs : Array Value} {t : TypeId} (h : Below (w.alloc (.cells cs t)).drew.heap.size (w.alloc (.cells cs t)).drew w') : Blk w' w.heap.size cs t := (blk_newS w cs t).later ⟨h.os, h.tape, h.output, h.size, h.block⟩
theorem decS_small (c : CfgD) (s : ByteArray) : (encTs (decS c s).2.2.1).size ≤ s.size := by
  have h0 : (encTs ([] : List TenD)).size ≤ s.size := by simp [encTs]
  cases h1 : (staR s).2.short with
  | true => rw [decS_short h1]; exact h0
  | false =>
    have he := sta_eat h1
    by_cases h2 : staB (wrapN (slR s).1) (wrapN (snR s).1) (staR s).1 = s
    · cases h3 : stateB c (wrapN (snR s).1) (staR s).1 with
      | false => rw [decS_no h3]; exact h0
      | true =>
        rw [decS_eq h1 h2 h3]
        clear h1 h2 h3
        generalize wrapN (slR s).1 = A at *
        generalize wrapN (snR s).1 = B at *
        generalize (staR s).1 = C at *
        exact he
    · rw [decS_ne h2]; exact h0
theorem tensLen_small : ∀ (ts : List TenD), tensLen ts ≤ (encTs ts).size
  | [] => by simp [tensLen]
  | t :: q => by
    have h := tensLen_small q
    have e : (encTs (t :: q)).size = (encT t).size + (encTs q).size := by show (encT t ++ encTs q).size = _; rw [ByteArray.size_append]
    have e1 := encT_sz t
    have e2 := encPs_size t.mets
    have e3 := encPs_size t.sers
    rw [e]
    simp only [tensLen, tenLen]
    omega

set_option maxRecDepth 100000 in
set_option maxHeartbeats 8000000 in
theorem lawDecState (c : CfgD) (s : ByteArray) (w : World) (hsz : s.size ≤ maxLen) (hU : UTab w) :
    Calls Tryz.prog 3 #[cfgV c, .string s] w fun e w' => e = .returned (.bool true) ∧ Below w.heap.size w w' := by
  unfold maxLen at hsz
  by_cases hbig : (s.size : Int) > 1048576
  · unfold cfgV
    go_enter Tryz.func3, Tryz.ntmps3
    go_wp2
    go_ret
    exact ⟨rfl, bnew _ _⟩
  have hs : s.size ≤ 1048576 := by omega
  have hsm := decS_small c s
  have htl := tensLen_small (decS c s).2.2.1
  have hln := count_in (decS c s).2.2.1
  have hpi := parts_in (decS c s).2.2.1
  have HU := hid hU
  have HTC : Hid (∀ W, Calls Tryz.prog 5 #[cfgV c] W fun e w' => e = .returned (cfgV c) ∧ Below W.heap.size W w') := fun W => toConfig_any _ _ _ _ _ _ W
  have HSP : Hid (∀ W, Calls Tryz.prog 4 #[cfgV c, .string s] W fun e w' => DecSOut c s W e w') := fun W => specDecS_any c s W hs
  have HIM : Hid (∀ W, UTab W → Calls Tryz.prog 6 #[cfgV c, .string s] W fun e w' => DecSOut c s W e w') := fun W hu => implDecS_any c s W hs hu
  unfold DecSOut at HSP HIM
  have HEQ : Hid (∀ W a a' c1 c2, TensIn W a (decS c s).2.2.1 → TensIn W a' (decS c s).2.2.1 → Calls Tryz.prog 7 #[.agg #[.int .i64 (decS c s).2.1, .slice a (decS c s).2.2.1.length c1], .agg #[.int .i64 (decS c s).2.1, .slice a' (decS c s).2.2.1.length c2]] W fun e w' => e = .returned (.bool true) ∧ Below W.heap.size W w') := fun W a a' c1 c2 h h' => eqState_same _ a a' c1 c2 _ W h h' (by unfold maxLen; omega) (fun i hi => by have := hpi i hi; unfold maxLen; omega)
  have HMK : Hid (∀ W0 W B a cc, TensOwn W0 B a (decS c s).2.2.1 → Below W0.heap.size W0 W → Calls Tryz.prog 8 #[.agg #[.int .i64 (decS c s).2.1, .slice a (decS c s).2.2.1.length cc], .int .i64 1] W fun e w' => e = .returned (.int .i64 ((1 + tensLen (decS c s).2.2.1 : Nat) : Int)) ∧ Turn (fun g => B ≤ g ∧ g < W0.heap.size) W w' ∧ TensOwn w' B a (markTens 1 (decS c s).2.2.1)) := fun W0 W B a cc h hb => markState_any _ a cc _ 1 B W0 W (by omega) (by omega) h hb
  have HHD : Hid (∀ W a cc, TensIn W a (markTens 1 (decS c s).2.2.1) → Calls Tryz.prog 9 #[.agg #[.int .i64 (decS c s).2.1, .slice a (decS c s).2.2.1.length cc], .int .i64 1] W fun e w' => e = .returned (.int .i64 ((1 + tensLen (decS c s).2.2.1 : Nat) : Int)) ∧ Below W.heap.size W w') := fun W a cc h => heldState_any _ a cc _ 1 W (by omega) (by omega) h
  obtain ⟨n, hn⟩ : ∃ n, n = (decS c s).2.2.1.length := ⟨_, rfl⟩
  rw [← hn] at HSP HIM HEQ HMK HHD
  clear hn hpi hln hsm
  have hm0 : ¬ (((1 + tensLen (decS c s).2.2.1 : Nat) : Int) < 0) := by omega
  have hmm : (((1 + tensLen (decS c s).2.2.1 : Nat) : Int) != ((1 + tensLen (decS c s).2.2.1 : Nat) : Int)) = false := by simp
  clear htl
  generalize ((1 + tensLen (decS c s).2.2.1 : Nat) : Int) = M at *
  generalize markTens 1 (decS c s).2.2.1 = MT at *
  generalize (decS c s).1 = L at *
  generalize (decS c s).2.1 = N at *
  generalize (decS c s).2.2.2 = ok at *
  generalize (decS c s).2.2.1 = ts at *
  have hok : (ok != ok) = false := by simp
  unfold cfgV at *
  go_enter Tryz.func3, Tryz.ntmps3
  go_wp2_with fail
  refine (HTC.out _).mono ?_
  rintro e w1 ⟨rfl, hb1⟩
  have H1 : Hid (Blk w1 w.heap.size #[.int .i64 c.w, .int .i64 c.tl, .int .i64 c.ml, .int .i64 c.sh, .int .i64 c.ha, .int .i64 c.sg] 23 ∧ Below w.heap.size w w1) := ⟨(Blk.new _ _ _).later hb1, bto (bnew _ _) hb1⟩
  clear hb1
  go_wp2_with fail
  refine (HSP.out _).mono ?_
  rintro e w2 ⟨a0, d0, rfl, ho2, hb2⟩
  have H2 : Hid (TensOwn w2 w1.heap.size a0 ts ∧ Blk w2 w.heap.size #[.int .i64 c.w, .int .i64 c.tl, .int .i64 c.ml, .int .i64 c.sh, .int .i64 c.ha, .int .i64 c.sg] 23 ∧ Below w.heap.size w w2) := ⟨ho2, H1.out.1.later hb2, bto H1.out.2 hb2⟩
  have h2 : w.heap.size < w2.heap.size := lt_of_block H2.out.2.1
  have hne2 : ¬ w.heap.size = w2.heap.size := by omega
  clear ho2 hb2 H1 HSP
  have cc0 : (w2.alloc (.cells #[.int .i64 N, .slice a0 n d0] 26)).cell? ⟨w.heap.size, 0, none⟩ = some (.int .i64 c.w) := (H2.out.2.1.alloc _).cell 0
  have cc1 : (w2.alloc (.cells #[.int .i64 N, .slice a0 n d0] 26)).cell? ⟨w.heap.size, 1, none⟩ = some (.int .i64 c.tl) := (H2.out.2.1.alloc _).cell 1
  have cc2 : (w2.alloc (.cells #[.int .i64 N, .slice a0 n d0] 26)).cell? ⟨w.heap.size, 2, none⟩ = some (.int .i64 c.ml) := (H2.out.2.1.alloc _).cell 2
  have cc3 : (w2.alloc (.cells #[.int .i64 N, .slice a0 n d0] 26)).cell? ⟨w.heap.size, 3, none⟩ = some (.int .i64 c.sh) := (H2.out.2.1.alloc _).cell 3
  have cc4 : (w2.alloc (.cells #[.int .i64 N, .slice a0 n d0] 26)).cell? ⟨w.heap.size, 4, none⟩ = some (.int .i64 c.ha) := (H2.out.2.1.alloc _).cell 4
  have cc5 : (w2.alloc (.cells #[.int .i64 N, .slice a0 n d0] 26)).cell? ⟨w.heap.size, 5, none⟩ = some (.int .i64 c.sg) := (H2.out.2.1.alloc _).cell 5
  go_wp2_with fail
  refine (HTC.out _).mono ?_
  rintro e w3 ⟨rfl, hb3⟩
  have h3 : w2.heap.size + 1 ≤ w3.heap.size := by have := hb3.size; simpa using this
  have H3 : Hid (Blk w3 w.heap.size #[.int .i64 c.w, .int .i64 c.tl, .int .i64 c.ml, .int .i64 c.sh, .int .i64 c.ha, .int .i64 c.sg] 23 ∧ Below w2.heap.size w2 w3 ∧ Blk w3 w2.heap.size #[.int .i64 N, .slice a0 n d0] 26) := ⟨(H2.out.2.1.alloc _).later hb3, bto (bnew _ _) hb3, (Blk.new _ _ _).later hb3⟩
  clear hb3 cc0 cc1 cc2 cc3 cc4 cc5
  go_wp2_with fail
  refine (HIM.out _ (HU.out.later (bto H2.out.2.2 H3.out.2.1))).mono ?_
  rintro e w4 ⟨a1, d1, rfl, ho4, hb4⟩
  have h4 : w3.heap.size ≤ w4.heap.size := hb4.size
  have H4 : Hid (TensOwn w4 w3.heap.size a1 ts ∧ Blk w4 w.heap.size #[.int .i64 c.w, .int .i64 c.tl, .int .i64 c.ml, .int .i64 c.sh, .int .i64 c.ha, .int .i64 c.sg] 23 ∧ Below w2.heap.size w2 w4 ∧ Blk w4 w2.heap.size #[.int .i64 N, .slice a0 n d0] 26) := ⟨ho4, H3.out.1.later hb4, bto H3.out.2.1 hb4, H3.out.2.2.later hb4⟩
  clear ho4 hb4 H3
  have x0 : (w4.alloc (.cells #[.int .i64 N, .slice a1 n d1] 26)).cell? ⟨w2.heap.size, 0, none⟩ = some (.int .i64 N) := (H4.out.2.2.2.alloc _).cell 0
  have x1 : (w4.alloc (.cells #[.int .i64 N, .slice a1 n d1] 26)).cell? ⟨w2.heap.size, 1, none⟩ = some (.slice a0 n d0) := (H4.out.2.2.2.alloc _).cell 1
  have hne4 : ¬ w2.heap.size = w4.heap.size := by omega
  go_wp2_with fail
  refine (HEQ.out _ _ _ _ _ (H4.out.1.tens.later (bnew _ _)) ((H2.out.1.tens.later H4.out.2.2.1).later (bnew _ _))).mono ?_
  rintro e w5 ⟨rfl, hb5⟩
  have H5 : Hid (Below w4.heap.size w4 w5 ∧ Blk w5 w4.heap.size #[.int .i64 N, .slice a1 n d1] 26 ∧ Blk w5 w.heap.size #[.int .i64 c.w, .int .i64 c.tl, .int .i64 c.ml, .int .i64 c.sh, .int .i64 c.ha, .int .i64 c.sg] 23 ∧ Blk w5 w2.heap.size #[.int .i64 N, .slice a0 n d0] 26) := ⟨bto (bnew _ _) hb5, (Blk.new _ _ _).later hb5, (H4.out.2.1.alloc _).later hb5, (H4.out.2.2.2.alloc _).later hb5⟩
  clear hb5 x0 x1
  have y0 : w5.cell? ⟨w4.heap.size, 0, none⟩ = some (.int .i64 N) := H5.out.2.1.cell 0
  have y1 : w5.cell? ⟨w4.heap.size, 1, none⟩ = some (.slice a1 n d1) := H5.out.2.1.cell 1
  go_wp2_with fail
  refine (HMK.out w4 _ w3.heap.size _ _ H4.out.1 H5.out.1).mono ?_
  rintro e w6 ⟨rfl, ht6, ho6⟩
  have hb56 : Below w3.heap.size w5 w6 := ht6.below (by have := H5.out.1.size; omega) (fun g hg e => by omega)
  have hb26 : Below w2.heap.size w2 w6 := (bto H4.out.2.2.1 H5.out.1).trans (hb56.mono (by omega))
  have H6 : Hid (TensOwn w6 w3.heap.size a1 MT ∧ Blk w6 w4.heap.size #[.int .i64 N, .slice a1 n d1] 26 ∧ Blk w6 w.heap.size #[.int .i64 c.w, .int .i64 c.tl, .int .i64 c.ml, .int .i64 c.sh, .int .i64 c.ha, .int .i64 c.sg] 23 ∧ Blk w6 w2.heap.size #[.int .i64 N, .slice a0 n d0] 26 ∧ TensIn w6 a0 ts ∧ Below w.heap.size w w6) := ⟨ho6, ht6.blk H5.out.2.1 (by omega), ht6.blk H5.out.2.2.1 (by omega), ht6.blk H5.out.2.2.2 (by omega), H2.out.1.tens.later hb26, bto H2.out.2.2 hb26⟩
  clear ht6 ho6 hb56 hb26 y0 y1
  have y0 : w6.cell? ⟨w4.heap.size, 0, none⟩ = some (.int .i64 N) := H6.out.2.1.cell 0
  have y1 : w6.cell? ⟨w4.heap.size, 1, none⟩ = some (.slice a1 n d1) := H6.out.2.1.cell 1
  go_wp2_with fail
  refine (HHD.out _ _ _ H6.out.1.tens).mono ?_
  rintro e w7 ⟨rfl, hb7⟩
  have H7 : Hid (Blk w7 w.heap.size #[.int .i64 c.w, .int .i64 c.tl, .int .i64 c.ml, .int .i64 c.sh, .int .i64 c.ha, .int .i64 c.sg] 23 ∧ Blk w7 w2.heap.size #[.int .i64 N, .slice a0 n d0] 26 ∧ TensIn w7 a0 ts ∧ Below w.heap.size w w7) := ⟨H6.out.2.2.1.later hb7, H6.out.2.2.2.1.later hb7, H6.out.2.2.2.2.1.later hb7, bto H6.out.2.2.2.2.2 hb7⟩
  clear hb7 y0 y1 H4 H5 H6
  have cc0 : w7.cell? ⟨w.heap.size, 0, none⟩ = some (.int .i64 c.w) := H7.out.1.cell 0
  have cc1 : w7.cell? ⟨w.heap.size, 1, none⟩ = some (.int .i64 c.tl) := H7.out.1.cell 1
  have cc2 : w7.cell? ⟨w.heap.size, 2, none⟩ = some (.int .i64 c.ml) := H7.out.1.cell 2
  have cc3 : w7.cell? ⟨w.heap.size, 3, none⟩ = some (.int .i64 c.sh) := H7.out.1.cell 3
  have cc4 : w7.cell? ⟨w.heap.size, 4, none⟩ = some (.int .i64 c.ha) := H7.out.1.cell 4
  have cc5 : w7.cell? ⟨w.heap.size, 5, none⟩ = some (.int .i64 c.sg) := H7.out.1.cell 5
  go_wp2_with fail
  refine (HTC.out _).mono ?_
  rintro e w8 ⟨rfl, hb8⟩
  have H8 : Hid (Blk w8 w2.heap.size #[.int .i64 N, .slice a0 n d0] 26 ∧ TensIn w8 a0 ts ∧ Below w.heap.size w w8) := ⟨H7.out.2.1.later hb8, H7.out.2.2.1.later hb8, bto H7.out.2.2.2 hb8⟩
  clear hb8 cc0 cc1 cc2 cc3 cc4 cc5 H7
  go_wp2_with fail
  refine (HIM.out _ (HU.out.later H8.out.2.2)).mono ?_
  rintro e w9 ⟨a2, d2, rfl, ho9, hb9⟩
  have H9 : Hid (Blk w9 w2.heap.size #[.int .i64 N, .slice a0 n d0] 26 ∧ TensIn w9 a0 ts ∧ Below w.heap.size w w9 ∧ TensIn w9 a2 ts) := ⟨H8.out.1.later hb9, H8.out.2.1.later hb9, bto H8.out.2.2 hb9, ho9.tens⟩
  clear ho9 hb9 H8
  have hne9 : ¬ w2.heap.size = w9.heap.size := by have := lt_of_block H9.out.1; omega
  have x0 : (w9.alloc (.cells #[.int .i64 N, .slice a2 n d2] 26)).cell? ⟨w2.heap.size, 0, none⟩ = some (.int .i64 N) := (H9.out.1.alloc _).cell 0
  have x1 : (w9.alloc (.cells #[.int .i64 N, .slice a2 n d2] 26)).cell? ⟨w2.heap.size, 1, none⟩ = some (.slice a0 n d0) := (H9.out.1.alloc _).cell 1
  go_wp2_with fail
  refine (HEQ.out _ _ _ _ _ (H9.out.2.2.2.later (bnew _ _)) (H9.out.2.1.later (bnew _ _))).mono ?_
  rintro e w10 ⟨rfl, hb10⟩
  have B10 : Hid (Below w.heap.size w w10) := bto (bto H9.out.2.2.1 (bnew _ _)) hb10
  clear hb10
  go_wp2
  go_ret
  exact ⟨rfl, B10.out⟩
end Go.Proofs.YtoecnlhnfhongaaGreatDoor

