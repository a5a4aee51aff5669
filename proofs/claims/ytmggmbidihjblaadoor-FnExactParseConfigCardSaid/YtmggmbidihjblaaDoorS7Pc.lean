import Derived.Test.YtmggmbidihjblaaDoorProg
import Derived.Test.YtmggmbidihjblaaDoorS7Nm
import Derived.Test.YtmggmbidihjblaaDoorPcV
import Derived.Test.YtmggmbidihjblaaDoorIntsL
import Derived.Test.YtmggmbidihjblaaDoorBlkN
import Derived.Test.YtmggmbidihjblaaDoorCfg
import Derived.Deep.DeepCutAuto
namespace Go.Proofs.YtmggmbidihjblaaDoor
open Go.RowKit

set_option maxRecDepth 100000 in
set_option maxHeartbeats 8000000 in
theorem specPc_any (s : ByteArray) (w : World) (hs : s.size ≤ 1048576) :
    Calls Tryd.prog 4 #[.string s] w fun e w' => e = .returned (pcR (pcV s.data.toList)) ∧ Below w.heap.size w w' := by
  have HSP : Hid (∀ W, Calls Tryd.prog 7 #[.string s, .int .u8 32] W fun e w' => ∃ a cap, e = .returned (.slice a ((splA 32 s.data.toList).map baL).length cap) ∧ ((splA 32 s.data.toList).map baL).length ≤ cap ∧ StrsOwn w' W.heap.size a ((splA 32 s.data.toList).map baL) ∧ Below W.heap.size W w') := fun W => specSplit_any s 32 W hs
  have HSZ : Hid (∀ i (h : i < (splA 32 s.data.toList).length), (baL (splA 32 s.data.toList)[i]).size ≤ 1048576) := fun i h => by
    rw [baL_size]
    have h1 := splA_len 32 s.data.toList _ (List.getElem_mem h)
    have h2 : s.data.toList.length = s.size := Array.length_toList
    omega
  unfold pcV
  generalize splA 32 s.data.toList = fs at *
  generalize hR : pcF fs = R
  have HR : Hid (pcF fs = R) := hR
  clear hR
  obtain ⟨ti, hti, hz0, hz1, hz2⟩ := info_num
  have HI : Hid (Tryd.prog.info? 3 = some ti) := hti
  clear hti
  go_enter Tryd.func4, Tryd.ntmps4
  go_wp2_with fail
  refine (HSP.out _).mono ?_
  rintro e w1 ⟨a, cap, rfl, hcap, hst, hb1⟩
  rw [List.length_map] at hcap ⊢
  have HB1 : Hid (Below w.heap.size w w1) := bto (bnew _ _) hb1
  have HBX : Hid (Blk w1 w.heap.size #[.int .i64 0, .int .i64 0, .int .i64 0, .int .i64 0, .int .i64 0, .int .i64 0] 23) := (Blk.new _ _ _).later hb1
  have HST : Hid (StrsIn w1 a (fs.map baL)) := hst.strs
  clear hst hb1 HSP
  by_cases h8 : fs.length = 8
  · have hc0 : 0 < (fs.map baL).length := by rw [List.length_map]; omega
    obtain ⟨b, o, rfl, hbl, hc⟩ := HST.out.at hc0
    rw [List.getElem_map] at hc
    rw [h8] at hcap ⊢
    by_cases hw : fs.getD 0 [] = cfgW
    · have hc' : w1.cell? ⟨b, o, none⟩ = some (.string ⟨#[99, 111, 110, 102, 105, 103]⟩) := by
        have e : fs[0] = cfgW := by rw [← hw, List.getD_eq_getElem?_getD, List.getElem?_eq_getElem (by omega)]; rfl
        rw [e] at hc
        exact hc
      clear hc
      clear hc0
      have HCL : Hid (∀ k (h : k < 7) (W : World), Below w1.heap.size w1 W → W.cell? ⟨b, o + 1 + k, none⟩ = some (.string (baL (fs[k + 1]'(by omega))))) := by
        intro k h W hW
        have h1 : k + 1 < (fs.map baL).length := by rw [List.length_map]; omega
        obtain ⟨b', o', e', hbl', hc2⟩ := (HST.out.later hW).at h1
        simp only [Option.some.injEq, Addr.mk.injEq] at e'
        obtain ⟨rfl, rfl, _⟩ := e'
        rw [List.getElem_map] at hc2
        rw [Nat.add_assoc, Nat.add_comm 1 k]
        exact hc2
      go_wp2
      clear hc'
      have hw1 := HB1.out.size
      go_loopw [6, 28] (fun nv iv wr => ∃ (k : Nat) (ys : List Int) (av : Option Addr) (cv : Nat), k ≤ 7 ∧ ys.length ≤ k ∧ Hid (ys.length = k) ∧ Hid (ys = ((fs.drop 1).take k).map (fun f => (valD f : Int)) ∧ ((fs.drop 1).take k).all numB = true) ∧ iv = .int .i64 k ∧ nv = .slice av ys.length cv ∧ Hid (wr.ownsRow w1.heap.size 3 1 (.slice av ys.length cv) ys.length (ys.map (Value.int .i64))) ∧ Below w1.heap.size w1 wr) (fun _ iv _ => 7 - (intOf iv).toNat)
      case atStart =>
        exact ⟨0, [], _, _, by omega, Nat.le_refl _, rfl, ⟨rfl, rfl⟩, rfl, rfl, World.ownsRow_made w1 #[] 0 (Nat.le_refl _) (by simp [maxLen]) (by simp), bnew _ _⟩
      case round =>
        obtain ⟨k, ys, av, cv, hk, hy, HYL, HY, rfl, rfl, hrow, hbel⟩ := hrel
        have hsz := hbel.size
        by_cases hlt : k < 7
        · have hc := HCL.out k hlt wr hbel
          have hk8 : k + 1 < fs.length := by omega
          have HNC : Hid (∀ W, Calls Tryd.prog 8 #[.string (baL fs[k + 1])] W fun e w' => ∃ v : Int, e = .returned (.tuple #[.int .i64 v, .bool (numB fs[k + 1])]) ∧ (numB fs[k + 1] = true → v = (valD fs[k + 1] : Int)) ∧ Below W.heap.size W w') := fun W => by
            have := specNumF_any (baL fs[k + 1]) W (HSZ.out (k + 1) hk8)
            rwa [baL_list] at this
          have HBad : Hid (numB fs[k + 1] = false → pcF fs = none) := pc_bad hk8
          have HDO : Hid ((fs.drop 1).take (k + 1) = (fs.drop 1).take k ++ [fs[k + 1]]) := drop_one hk8
          generalize fs[k + 1] = F at *
          generalize hFB : baL F = FB at *
          clear hFB
          go_wp2_with fail
          refine (HNC.out _).mono ?_
          rintro e w2 ⟨v, rfl, hv, hb2⟩
          have HB2 : Hid (Below wr.heap.size wr w2) := hb2
          have hsz2 := hb2.size
          clear hb2 HNC hc
          by_cases hF : numB F = true
          · have HV : Hid (v = (valD F : Int) ∧ numB F = true) := ⟨hv hF, hF⟩
            rw [hF]
            clear hF hv
            go_wp2_with (at_builtin; refine wpList_append_lies _ rfl _ _ _ rfl w1.heap.size 3 ti _ 1 8 Tryd.underlying30 HI.out hz0 hz1 hz2 rfl (by omega) (.slice av ys.length cv) ys.length (ys.map (Value.int .i64)) rfl (by exact row_later (row_later hrow.out HB2.out) (bnew _ _)) ⟨w2.heap.size, 0, none⟩ 1 1 [.int .i64 v] rfl rfl (by exact World.news_of_block (heap_alloc_new _ _)) (by simp [Value.oneCell']) (by omega) (by simp [maxLen]; omega) (by omega) (by simp; omega) (w2.heap.size + 1) (by simp) ?_; intro g5 cap5 w5 hown5 hgrow5 hat5 hlt5)
            have hB5 : Below w1.heap.size w1 w5 := (bto (bto hbel HB2.out) (bnew _ _)).grown hgrow5 (by simp; omega) (fun q hq => by
              rcases hrow.out.2 with ⟨he, _⟩ | ⟨g, cap, cur, he, hB, _⟩
              · rw [he] at hq; simp [Value.ownBlock] at hq
              · rw [he] at hq; simp [Value.ownBlock] at hq; omega)
            have hxs : ys.map (Value.int .i64) ++ [Value.int .i64 v] = (ys ++ [v]).map (Value.int .i64) := by simp
            have hle : (ys ++ [v]).length = ys.length + 1 := by simp
            rw [hxs, ← hle] at hown5
            exact ⟨⟨k + 1, ys ++ [v], some ⟨g5, 0, none⟩, cap5, by omega, by rw [hle]; omega, by show _ = _; rw [hle, HYL.out], ⟨by rw [HDO.out, HY.out.1, HV.out.1]; simp, by rw [HDO.out, List.all_append, HY.out.2]; simp [HV.out.2]⟩, by go_num, by rw [hle], hown5, hB5⟩, by simp [intOf]; omega⟩
          · have hF' : numB F = false := by simpa using hF
            have HN : Hid (R = none) := HR.out.symm.trans (HBad.out hF')
            rw [hF']
            have HBE : Hid (Below w1.heap.size w1 w2) := bto hbel HB2.out
            have HBT : Hid (Below w.heap.size w w2) := bto HB1.out HBE.out
            have HBY := HBX.out.later HBE.out
            clear hF hF' hv
            have y0 := HBY.cell 0
            have f0 := HBY.free 0
            have y1 := HBY.cell 1
            have f1 := HBY.free 1
            have y2 := HBY.cell 2
            have f2 := HBY.free 2
            have y3 := HBY.cell 3
            have f3 := HBY.free 3
            have y4 := HBY.cell 4
            have f4 := HBY.free 4
            have y5 := HBY.cell 5
            have f5 := HBY.free 5
            go_wp2
            refine bodyPost_ret (v := pcR none) (by simp [results, Tryd.results4, go_sem, pcR, cfgV, y0, y1, y2, y3, y4, y5]) rfl ⟨by rw [HN.out], ?_⟩
            exact ((((((HBT.out.setCell (by simp) _).setCell (by simp) _).setCell (by simp) _).setCell (by simp) _).setCell (by simp) _).setCell (by simp) _)
        · obtain rfl : k = 7 := by omega
          have HYY : Hid (ys = [pcN fs 0, pcN fs 1, pcN fs 2, pcN fs 3, pcN fs 4, pcN fs 5, pcN fs 6] ∧ (fs.drop 1).all numB = true) := by
            have h7 : (fs.drop 1).take 7 = fs.drop 1 := List.take_of_length_le (by rw [List.length_drop]; omega)
            have := HY.out
            rw [h7, pc_seven h8] at this
            exact this
          have HNI := nums_of_row hrow.out
          rw [HYY.out.1] at HNI
          have HF := pc_fits HYY.out.2 h8
          have HRR : Hid (R = if cfgB (pcC fs) = true ∧ pcN fs 6 ≤ 1000000000 then some (pcC fs, pcN fs 6) else none) := by
            show _ = _
            rw [← HR.out, pcF, if_pos ⟨h8, hw, HYY.out.2⟩]
          obtain ⟨b9, o9, rfl, hb9, hn9⟩ : ∃ b o, av = some ⟨b, o, none⟩ ∧ b < wr.heap.size ∧ ∀ i (h : i < 7), wr.cell? ⟨b, o + i, none⟩ = some (.int .i64 (pcN fs i)) := by
            rcases HNI with h | ⟨b, o, e, hlt, h⟩
            · cases h
            · refine ⟨b, o, e, hlt, fun i hi => ?_⟩
              rw [h i hi]
              match i, hi with
              | 0, _ => rfl
              | 1, _ => rfl
              | 2, _ => rfl
              | 3, _ => rfl
              | 4, _ => rfl
              | 5, _ => rfl
              | 6, _ => rfl
          rw [show ys.length = 7 from HYL.out]
          have x0 : wr.cell? ⟨b9, o9, none⟩ = some (.int .i64 (pcN fs 0)) := hn9 0 (by decide)
          have x1 : wr.cell? ⟨b9, o9 + 1, none⟩ = some (.int .i64 (pcN fs 1)) := hn9 1 (by decide)
          have x2 : wr.cell? ⟨b9, o9 + 2, none⟩ = some (.int .i64 (pcN fs 2)) := hn9 2 (by decide)
          have x3 : wr.cell? ⟨b9, o9 + 3, none⟩ = some (.int .i64 (pcN fs 3)) := hn9 3 (by decide)
          have x4 : wr.cell? ⟨b9, o9 + 4, none⟩ = some (.int .i64 (pcN fs 4)) := hn9 4 (by decide)
          have x5 : wr.cell? ⟨b9, o9 + 5, none⟩ = some (.int .i64 (pcN fs 5)) := hn9 5 (by decide)
          have x6 : wr.cell? ⟨b9, o9 + 6, none⟩ = some (.int .i64 (pcN fs 6)) := hn9 6 (by decide)
          have HCF : Hid (∀ W, Calls Tryd.prog 9 #[cfgV (pcC fs)] W fun e w' => e = .returned (.bool (cfgB (pcC fs))) ∧ Below W.heap.size W w') := fun W => specCfg_any _ W
          have HBY := HBX.out.later hbel
          have HBT : Hid (Below w.heap.size w wr) := bto HB1.out hbel
          have h6 := HF 6 (by decide)
          unfold pcC at HCF HRR
          clear HNI HF hn9 HYY HY HYL HCL HST HR h8 hw hcap hrow hbel HSZ
          generalize pcN fs 0 = n0 at *
          generalize pcN fs 1 = n1 at *
          generalize pcN fs 2 = n2 at *
          generalize pcN fs 3 = n3 at *
          generalize pcN fs 4 = n4 at *
          generalize pcN fs 5 = n5 at *
          generalize pcN fs 6 = n6 at *
          unfold cfgV at HCF
          have hblt : b9 < wr.heap.size := hb9
          go_upto_region 13 with fail
          go_cut [11] (fun sl wx => ∃ P, sl = .pointer (some ⟨P, 0, none⟩) ∧ Blk wx P #[.int .i64 n0, .int .i64 n1, .int .i64 n2, .int .i64 n3, .int .i64 n4, .int .i64 n5] 23 ∧ Below wr.heap.size wr wx)
          case first =>
            go_region
            all_goals (go_wp2_with fail; go_meet)
            all_goals exact ⟨_, rfl, (Blk.new _ _ _).later (Below.refl _ _).drew, (bnew _ _).drew⟩
          obtain ⟨PP, rfl, hcb, hbw⟩ := hcut
          rename World => W
          have HCB : Hid (Blk W PP #[.int .i64 n0, .int .i64 n1, .int .i64 n2, .int .i64 n3, .int .i64 n4, .int .i64 n5] 23) := hcb
          have HBU : Hid (Below w.heap.size w W) := bto HBT.out hbw
          have HBW : Hid (Blk W w.heap.size #[.int .i64 0, .int .i64 0, .int .i64 0, .int .i64 0, .int .i64 0, .int .i64 0] 23) := HBY.later hbw
          have k6 : W.cell? ⟨b9, o9 + 6, none⟩ = some (.int .i64 n6) := (hbw.cell hb9).trans x6
          have hWs := hbw.size
          clear hcb hbw x0 x1 x2 x3 x4 x5 x6 HBY HBT
          have d0 := HCB.out.cell 0
          have d1 := HCB.out.cell 1
          have d2 := HCB.out.cell 2
          have d3 := HCB.out.cell 3
          have d4 := HCB.out.cell 4
          have d5 := HCB.out.cell 5
          have K6 : Hid (W.cell? ⟨b9, o9 + 6, none⟩ = some (.int .i64 n6)) := k6
          clear k6
          have hW9 : b9 < W.heap.size := by omega
          cases hB : cfgB ⟨n0, n1, n2, n3, n4, n5⟩ with
          | false =>
            rw [hB] at HCF
            have HN : Hid (R = none) := by show _ = _; rw [HRR.out, if_neg (by rw [hB]; exact fun h => absurd h.1 (by decide))]
            clear hB
            go_wp2_with fail
            refine (HCF.out _).mono ?_
            rintro e V ⟨rfl, hbV⟩
            have HBV : Hid (Below w.heap.size w V) := bto HBU.out hbV
            have HBZ := HBW.out.later hbV
            have HCZ := HCB.out.later hbV
            have k6 : V.cell? ⟨b9, o9 + 6, none⟩ = some (.int .i64 n6) := (hbV.cell hW9).trans K6.out
            clear d0 d1 d2 d3 d4 d5 hbV
            have y0 := HBZ.cell 0
            have f0 := HBZ.free 0
            have y1 := HBZ.cell 1
            have f1 := HBZ.free 1
            have y2 := HBZ.cell 2
            have f2 := HBZ.free 2
            have y3 := HBZ.cell 3
            have f3 := HBZ.free 3
            have y4 := HBZ.cell 4
            have f4 := HBZ.free 4
            have y5 := HBZ.cell 5
            have f5 := HBZ.free 5
            go_wp2
            refine bodyPost_ret (v := pcR none) (by simp [results, Tryd.results4, go_sem, pcR, cfgV, y0, y1, y2, y3, y4, y5]) rfl ⟨by rw [HN.out], ?_⟩
            exact ((((((HBV.out.setCell (by simp) _).setCell (by simp) _).setCell (by simp) _).setCell (by simp) _).setCell (by simp) _).setCell (by simp) _)
          | true =>
            rw [hB] at HCF
            by_cases h9 : n6 ≤ 1000000000
            · have HN : Hid (R = some (⟨n0, n1, n2, n3, n4, n5⟩, n6)) := by show _ = _; rw [HRR.out, if_pos ⟨hB, h9⟩]
              clear hB
              go_wp2_with fail
              refine (HCF.out _).mono ?_
              rintro e V ⟨rfl, hbV⟩
              have HBV : Hid (Below w.heap.size w V) := bto HBU.out hbV
              have HBZ := HBW.out.later hbV
              have HCZ := HCB.out.later hbV
              have k6 : V.cell? ⟨b9, o9 + 6, none⟩ = some (.int .i64 n6) := (hbV.cell hW9).trans K6.out
              clear d0 d1 d2 d3 d4 d5 hbV
              have y0 := HBZ.cell 0
              have f0 := HBZ.free 0
              have y1 := HBZ.cell 1
              have f1 := HBZ.free 1
              have y2 := HBZ.cell 2
              have f2 := HBZ.free 2
              have y3 := HBZ.cell 3
              have f3 := HBZ.free 3
              have y4 := HBZ.cell 4
              have f4 := HBZ.free 4
              have y5 := HBZ.cell 5
              have f5 := HBZ.free 5
              have z0 := HCZ.cell 0
              have z1 := HCZ.cell 1
              have z2 := HCZ.cell 2
              have z3 := HCZ.cell 3
              have z4 := HCZ.cell 4
              have z5 := HCZ.cell 5
              go_wp2_with fail
              go_region
              go_wp2
              refine bodyPost_ret (v := pcR (some (⟨n0, n1, n2, n3, n4, n5⟩, n6))) (by simp [results, Tryd.results4, go_sem, pcR, cfgV, y0, y1, y2, y3, y4, y5]) rfl ⟨by rw [HN.out], ?_⟩
              repeat (first | with_reducible exact HBV.out | with_reducible refine Below.drew ?_ | with_reducible refine Below.setCell ?_ (by simp) _)
            · have HN : Hid (R = none) := by show _ = _; rw [HRR.out, if_neg (fun h => h9 h.2)]
              clear hB
              go_wp2_with fail
              refine (HCF.out _).mono ?_
              rintro e V ⟨rfl, hbV⟩
              have HBV : Hid (Below w.heap.size w V) := bto HBU.out hbV
              have HBZ := HBW.out.later hbV
              have HCZ := HCB.out.later hbV
              have k6 : V.cell? ⟨b9, o9 + 6, none⟩ = some (.int .i64 n6) := (hbV.cell hW9).trans K6.out
              clear d0 d1 d2 d3 d4 d5 hbV
              have y0 := HBZ.cell 0
              have f0 := HBZ.free 0
              have y1 := HBZ.cell 1
              have f1 := HBZ.free 1
              have y2 := HBZ.cell 2
              have f2 := HBZ.free 2
              have y3 := HBZ.cell 3
              have f3 := HBZ.free 3
              have y4 := HBZ.cell 4
              have f4 := HBZ.free 4
              have y5 := HBZ.cell 5
              have f5 := HBZ.free 5
              go_wp2
              refine bodyPost_ret (v := pcR none) (by simp [results, Tryd.results4, go_sem, pcR, cfgV, y0, y1, y2, y3, y4, y5]) rfl ⟨by rw [HN.out], ?_⟩
              exact ((((((HBV.out.setCell (by simp) _).setCell (by simp) _).setCell (by simp) _).setCell (by simp) _).setCell (by simp) _).setCell (by simp) _)
    · have HN : Hid (R = none) := by show _ = _; rw [← HR.out, pcF, if_neg (fun h => hw h.2.1)]
      have hc' : w1.cell? ⟨b, o, none⟩ = some (.string (baL fs[0])) := hc
      have hne : ((baL fs[0]).toList == [99, 111, 110, 102, 105, 103]) = false := by
        rw [beq_eq_false_iff_ne]
        intro e
        rw [ByteArray.toList_eq, baL_list] at e
        exact hw (by rw [List.getD_eq_getElem?_getD, List.getElem?_eq_getElem (by omega)]; exact e)
      clear hc
      generalize baL fs[0] = F0 at *
      have y0 := HBX.out.cell 0
      have f0 := HBX.out.free 0
      have y1 := HBX.out.cell 1
      have f1 := HBX.out.free 1
      have y2 := HBX.out.cell 2
      have f2 := HBX.out.free 2
      have y3 := HBX.out.cell 3
      have f3 := HBX.out.free 3
      have y4 := HBX.out.cell 4
      have f4 := HBX.out.free 4
      have y5 := HBX.out.cell 5
      have f5 := HBX.out.free 5
      go_wp2
      refine bodyPost_ret (v := pcR none) (by simp [results, Tryd.results4, go_sem, pcR, cfgV, y0, y1, y2, y3, y4, y5]) rfl ⟨by rw [HN.out], ?_⟩
      exact ((((((HB1.out.setCell (by simp) _).setCell (by simp) _).setCell (by simp) _).setCell (by simp) _).setCell (by simp) _).setCell (by simp) _)
  · have HN : Hid (R = none) := by show _ = _; rw [← HR.out, pcF, if_neg (fun h => h8 h.1)]
    have h8' : ¬ ((fs.length : Int) = 8) := by omega
    have y0 := HBX.out.cell 0
    have f0 := HBX.out.free 0
    have y1 := HBX.out.cell 1
    have f1 := HBX.out.free 1
    have y2 := HBX.out.cell 2
    have f2 := HBX.out.free 2
    have y3 := HBX.out.cell 3
    have f3 := HBX.out.free 3
    have y4 := HBX.out.cell 4
    have f4 := HBX.out.free 4
    have y5 := HBX.out.cell 5
    have f5 := HBX.out.free 5
    go_wp2
    refine bodyPost_ret (v := pcR none) (by simp [results, Tryd.results4, go_sem, pcR, cfgV, y0, y1, y2, y3, y4, y5]) rfl ⟨by rw [HN.out], ?_⟩
    exact ((((((HB1.out.setCell (by simp) _).setCell (by simp) _).setCell (by simp) _).setCell (by simp) _).setCell (by simp) _).setCell (by simp) _)
end Go.Proofs.YtmggmbidihjblaaDoor
