import Derived.Test.YtojeemogabhaoaaGreatDoorProg
import Derived.Test.YtojeemogabhaoaaGreatDoorJ12SName
import Derived.Test.YtojeemogabhaoaaGreatDoorJ10AppE
import Derived.Test.YtojeemogabhaoaaGreatDoorJ04SNum
import Derived.Test.YtojeemogabhaoaaGreatDoorJ11IRd
import Derived.Test.YtojeemogabhaoaaGreatDoorJ16SIns
namespace Go.Proofs.YtojeemogabhaoaaGreatDoor
open Go.RowKit
def BigS (ls : List LabD) : Prop := ∀ i (h : i < ls.length), ls[i].name.size ≤ 1000000000 ∧ ls[i].value.size ≤ 1000000000
theorem row_mono0 {w : World} {B B' : Nat} {e : TypeId} {size : Nat} {v : Value} {n : Nat} {xs : List Value} (h : w.ownsRow B e size v n xs) (hB : B' ≤ B) : w.ownsRow B' e size v n xs := by
  refine ⟨h.1, ?_⟩
  rcases h.2 with h2 | ⟨g, cap, cur, hv, hb, r⟩
  · exact Or.inl h2
  · exact Or.inr ⟨g, cap, cur, hv, Nat.le_trans hB hb, r⟩
theorem flatL_drop0 (ys : List LabD) (m : Nat) (h : m < ys.length) : (flatL ys)[m * 2]? = some (.string ys[m].name) := by
  have e : flatL ys = flatL (ys.take m) ++ flatL (ys.drop m) := by rw [← flatL_append, List.take_append_drop]
  have hl : (flatL (ys.take m)).length = m * 2 := by rw [flatL_length, List.length_take]; omega
  rw [e, List.getElem?_append_right (by omega), hl, Nat.sub_self, List.drop_eq_getElem_cons h]
  rfl
def CanonOut (e : Ending) (w w' : World) (l : List LabD) (c i : Nat) : Prop := ∃ a' cap', e = .returned (.tuple #[.slice a' l.length cap', .int .i64 (c : Nat), .int .i64 (i : Nat)]) ∧ LabsOwn w' w.heap.size a' l ∧ Below w.heap.size w w'
def CanonOut2 (e : Ending) (w w' : World) (l : List LabD) (c i : Nat) : Prop := ∃ a' cap', e = .returned (.tuple #[.slice a' l.length cap', .int .i64 (c : Nat), .int .i64 (i : Nat)]) ∧ l.length ≤ cap' ∧ LabsOwn w' w.heap.size a' l ∧ Below w.heap.size w w'
set_option maxRecDepth 100000 in
set_option maxHeartbeats 2000000 in
theorem specCanon_cap (a : Option Addr) (cap : Nat) (ls : List LabD) (w : World) (hf : LabsIn w a ls) (hB : BigS ls) (hlen : ls.length ≤ 2000000) (hcap : ls.length ≤ cap) :
    Calls Tryz.prog 104 #[.slice a ls.length cap] w fun e w' => CanonOut2 e w w' (canonR ls).1 (canonR ls).2.1 (canonR ls).2.2 := by
  have HF : Hid (LabsIn w a ls) := hf
  have HB : Hid (BigS ls) := hB
  clear hf hB
  by_cases h16 : 16 < ls.length
  · rw [canon_many h16]
    go_enter Tryz.func104, Tryz.ntmps104
    go_wp2
    refine bodyPost_ret (v := .tuple #[.slice (some ⟨w.heap.size, 0, none⟩) 0 0, .int .i64 40, .int .i64 0]) (by simp [results, Tryz.results104, go_sem]) rfl ⟨_, _, rfl, Nat.le_refl _, Or.inl rfl, bnew _ _⟩
  have H16 : Hid (¬ 16 < ls.length) := h16
  go_enter Tryz.func104, Tryz.ntmps104
  go_wp2
  go_loopw [6, 7, 8, 25] (fun _ _ _ i wr => ∃ k : Nat, k ≤ ls.length ∧ i = .int .i64 k ∧ Hid (firstBad ls 0 = firstBad (ls.drop k) k) ∧ Below w.heap.size w wr) (fun _ _ _ i _ => ls.length - (intOf i).toNat)
  case atStart => exact ⟨0, Nat.zero_le _, rfl, rfl, bnew _ _⟩
  case round =>
    obtain ⟨k, hk, rfl, HK, hbel⟩ := hrel
    by_cases hlt : k < ls.length
    · obtain ⟨b, o, rfl, hb, c0, c1⟩ := (HF.out.later hbel).at hlt
      obtain ⟨hs1, hs2⟩ := HB.out k hlt
      have HNM : Hid (∀ W, Calls Tryz.prog 123 #[.string ls[k].name] W fun e w' => e = .returned (.bool (nameB ls[k].name)) ∧ w' = W) := fun W => specName_any ls[k].name W (by unfold maxLen; omega)
      have HVL : Hid (∀ W, Calls Tryz.prog 55 #[.string ls[k].value] W fun e w' => e = .returned (.int .i64 (valV ls[k].value : Nat)) ∧ Below W.heap.size W w') := fun W => specVal_any ls[k].value W hs2
      have HS := firstBad_step ls k hlt
      have hnb : ¬ b = wr.heap.size := by omega
      by_cases hn : nameB ls[k].name = true
      · have HNB : Hid (nameB ls[k].name = true) := hn
        have HLV : labV ls[k] = valV ls[k].value := by rw [labV, if_pos hn]
        by_cases h0 : valV ls[k].value = 0
        · have E : Hid (firstBad ls 0 = firstBad (ls.drop (k + 1)) (k + 1)) := by show _ = _; rw [HK.out, HS, if_pos (by rw [HLV]; exact h0)]
          have HVL2 : Hid (∀ W, Calls Tryz.prog 55 #[.string ls[k].value] W fun e w' => e = .returned (.int .i64 0) ∧ Below W.heap.size W w') := by
            show ∀ _, _
            have := HVL.out
            rw [h0] at this
            exact this
          clear HS HVL h0 hs1 hs2 hn HLV
          generalize ls[k].name = nm at *
          generalize ls[k].value = va at *
          go_wp2_with fail
          refine (HNM.out _).mono ?_
          rintro e w1 ⟨rfl, hw⟩
          rw [HNB.out]
          replace hw := hw.symm
          subst hw
          go_wp2_with fail
          refine (HVL2.out _).mono ?_
          rintro e w2 ⟨rfl, hb2⟩
          have HB2 : Hid (Below w.heap.size w w2) := bto (bto hbel (bnew _ _)) hb2
          clear hb2
          go_wp2
          exact ⟨⟨k + 1, by omega, by go_num, E.out, HB2.out⟩, by simp [intOf]; omega⟩
        · have E : Hid (canonR ls = ([], valV ls[k].value, k)) := by
            show _ = _
            rw [← HLV]
            exact canon_bad H16.out (by rw [HK.out, HS, if_neg (by rw [HLV]; exact h0)])
          have h0b : ((valV ls[k].value : Int) != 0) = true := by simp; omega
          clear HS h0 hs1 hs2 hn HLV
          generalize ls[k].name = nm at *
          generalize ls[k].value = va at *
          generalize valV va = V at *
          go_wp2_with fail
          refine (HNM.out _).mono ?_
          rintro e w1 ⟨rfl, hw⟩
          rw [HNB.out]
          replace hw := hw.symm
          subst hw
          go_wp2_with fail
          refine (HVL.out _).mono ?_
          rintro e w2 ⟨rfl, hb2⟩
          have HB2 : Hid (Below w.heap.size w w2) := bto (bto hbel (bnew _ _)) hb2
          clear hb2
          go_wp2
          refine bodyPost_ret (v := .tuple #[.slice (some ⟨w.heap.size, 0, none⟩) 0 0, .int .i64 V, .int .i64 k]) (by simp [results, Tryz.results104, go_sem]) rfl ?_
          rw [E.out]
          exact ⟨_, _, rfl, Nat.le_refl _, Or.inl rfl, HB2.out⟩
      · have HNB : Hid (nameB ls[k].name = false) := by show _ = _; simpa using hn
        have E : Hid (canonR ls = ([], 41, k)) := by
          show _ = _
          have HLV : labV ls[k] = 41 := by rw [labV, if_neg hn]
          rw [← HLV]
          exact canon_bad H16.out (by rw [HK.out, HS, if_neg (by rw [HLV]; omega)])
        clear HS hs1 hs2 hn
        generalize ls[k].name = nm at *
        generalize ls[k].value = va at *
        go_wp2_with fail
        refine (HNM.out _).mono ?_
        rintro e w1 ⟨rfl, hw⟩
        rw [HNB.out]
        replace hw := hw.symm
        subst hw
        go_wp2
        refine bodyPost_ret (v := .tuple #[.slice (some ⟨w.heap.size, 0, none⟩) 0 0, .int .i64 41, .int .i64 k]) (by simp [results, Tryz.results104, go_sem]) rfl ?_
        rw [E.out]
        exact ⟨_, _, rfl, Nat.le_refl _, Or.inl rfl, bto hbel (bnew _ _)⟩
    · have HN : Hid (firstBad ls 0 = none) := by
        show _ = _
        rw [HK.out, List.drop_of_length_le (by omega)]; rfl
      clear HK HB
      go_wp2
      clear hlt hk
      go_loopw [9, 10, 12, 47, 54, 55, 56] (fun _ _ _ i _ _ _ wr => ∃ k : Nat, k ≤ ls.length ∧ i = .int .i64 k ∧ Hid (firstTw [] ls 0 = firstTw (ls.take k) (ls.drop k) k) ∧ Below w.heap.size w wr) (fun _ _ _ i _ _ _ _ => ls.length - (intOf i).toNat)
      case atStart => exact ⟨0, Nat.zero_le _, rfl, rfl, hbel⟩
      case round =>
        clear hbel
        obtain ⟨k, hk, rfl, HK, hbel⟩ := hrel
        by_cases hlt : k < ls.length
        · obtain ⟨b, o, rfl, hb, c0, c1⟩ := (HF.out.later hbel).at hlt
          have HS := firstTw_step ls k hlt
          have hnb : ¬ b = wr.heap.size := by omega
          have hk0 : (0 : Int) ≤ (k : Int) := by omega
          have hkc : (k : Int) ≤ (cap : Int) := by omega
          have HYES : Hid (((ls.take k).any fun x => sameN x ls[k]) = true → canonR ls = ([], 45, k)) := fun h => canon_twice H16.out HN.out (by rw [HK.out, HS, if_pos h])
          have HNO : Hid (((ls.take k).any fun x => sameN x ls[k]) = false → firstTw [] ls 0 = firstTw (ls.take (k + 1)) (ls.drop (k + 1)) (k + 1)) := fun h => by rw [HK.out, HS, if_neg (by rw [h]; simp)]
          have HSN : Hid (∀ x, sameN x ls[k] = (x.name.toList == ls[k].name.toList)) := fun x => rfl
          clear HS
          generalize hlk : ls[k] = lk at *
          generalize lk.name = nm at *
          generalize lk.value = va at *
          have HBX : Hid (Blk (wr.alloc (.cells #[.string nm, .string va] 135)) wr.heap.size #[.string nm, .string va] 135 ∧ Below w.heap.size w (wr.alloc (.cells #[.string nm, .string va] 135))) := ⟨heap_alloc_new _ _, bto hbel (bnew _ _)⟩
          go_wp2
          generalize wr.alloc (.cells #[.string nm, .string va] 135) = W at *
          clear hnb hb c0 c1 hbel
          generalize wr.heap.size = BX at *
          clear wr
          go_loopw [12, 56] (fun _ i wr => ∃ m : Nat, m ≤ k ∧ i = .int .i64 m ∧ Hid (((ls.take m).any fun x => sameN x lk) = false) ∧ Below W.heap.size W wr) (fun _ i _ => k - (intOf i).toNat)
          case atStart => exact ⟨0, Nat.zero_le _, rfl, by show _ = _; simp, Below.refl _ _⟩
          case round =>
            obtain ⟨m, hm, rfl, HM, hbel2⟩ := hrel
            have hX := HBX.out.1.later hbel2
            have x0 := hX.cell 0
            simp only [List.getElem?_toArray, List.getElem?_cons_zero] at x0
            have hXl : BX < wr.heap.size := lt_of_block hX
            have hnX : ¬ BX = wr.heap.size := by omega
            clear hX
            by_cases hmk : m < k
            · obtain ⟨b', o', e', hb', d0, d1⟩ := (HF.out.later (bto HBX.out.2 hbel2)).at (i := m) (by omega)
              simp only [Option.some.injEq, Addr.mk.injEq, and_true] at e'
              obtain ⟨rfl, rfl⟩ := e'
              have hnb2 : ¬ b = wr.heap.size := by omega
              have hT1 : (ls.take k).any (fun x => sameN x lk) = true ∨ sameN ls[m] lk = false := by
                cases hq : sameN ls[m] lk with
                | false => exact Or.inr rfl
                | true =>
                  left
                  rw [List.any_eq_true]
                  refine ⟨ls[m], ?_, hq⟩
                  rw [List.mem_take_iff_getElem]
                  exact ⟨m, by omega, rfl⟩
              have HT1 : Hid ((ls.take k).any (fun x => sameN x lk) = true ∨ sameN ls[m] lk = false) := hT1
              have HQ : Hid (sameN ls[m] lk = (ls[m].name.toList == nm.toList)) := HSN.out ls[m]
              have HT2 : Hid (sameN ls[m] lk = false → ((ls.take (m + 1)).any fun x => sameN x lk) = false) := fun h => by rw [List.take_succ_eq_append_getElem (by omega), List.any_append, HM.out]; simp [h]
              clear hT1
              generalize ls[m] = lm at *
              generalize lm.name = nm2 at *
              generalize lm.value = va2 at *
              by_cases hq : (nm2.toList == nm.toList) = true
              · have E : Hid (canonR ls = ([], 45, k)) := by
                  rcases HT1.out with h | h
                  · exact HYES.out h
                  · rw [HQ.out, hq] at h; exact absurd h (by simp)
                go_wp2
                refine bodyPost_ret (v := .tuple #[.slice (some ⟨w.heap.size, 0, none⟩) 0 0, .int .i64 45, .int .i64 k]) (by simp [results, Tryz.results104, go_sem]) rfl ?_
                rw [E.out]
                exact ⟨_, _, rfl, Nat.le_refl _, Or.inl rfl, bto (bto HBX.out.2 hbel2) (bnew _ _)⟩
              · have hq' : (nm2.toList == nm.toList) = false := by simpa using hq
                have E : Hid (((ls.take (m + 1)).any fun x => sameN x lk) = false) := HT2.out (by rw [HQ.out]; exact hq')
                clear hq
                go_wp2
                exact ⟨⟨m + 1, by omega, by go_num, E.out, bto hbel2 (bnew _ _)⟩, by simp [intOf]; omega⟩
            · have hmk' : m = k := by omega
              have E : Hid (firstTw [] ls 0 = firstTw (ls.take (k + 1)) (ls.drop (k + 1)) (k + 1)) := HNO.out (by rw [← hmk']; exact HM.out)
              subst hmk'
              go_wp2
              exact ⟨⟨m + 1, by omega, by go_num, E.out, bto HBX.out.2 hbel2⟩, by simp [intOf]; omega⟩
        · have HN2 : Hid (firstTw [] ls 0 = none) := by
            show _ = _
            rw [HK.out, List.drop_of_length_le (by omega)]; rfl
          obtain ⟨ti, hti, hz0, hz1, hz2⟩ := info_lab
          have HI : Hid (Tryz.prog.info? 135 = some ti) := hti
          clear HK hti
          go_wp2
          clear hlt hk
          go_loopw [13, 14, 16, 17, 72] (fun out me _ _ i wr => ∃ (k : Nat) (ys : List LabD) (g0 cv : Nat) (bm : Bool), k ≤ ls.length ∧ ys.length ≤ k ∧ Hid (insAll [] ls = insAll ys (ls.drop k) ∧ bm = metB (ls.take k)) ∧ i = .int .i64 k ∧ out = .slice (some ⟨g0, 0, none⟩) ys.length cv ∧ me = .bool bm ∧ Hid (wr.ownsRow w.heap.size 135 2 (.slice (some ⟨g0, 0, none⟩) ys.length cv) ys.length (flatL ys)) ∧ Below w.heap.size w wr) (fun _ _ _ _ i _ => ls.length - (intOf i).toNat)
          case atStart =>
            exact ⟨0, [], _, _, false, Nat.zero_le _, Nat.zero_le _, ⟨rfl, by simp [metB]⟩, rfl, rfl, rfl, row_mono0 (World.ownsRow_made wr #[] 0 (Nat.le_refl _) (by simp [maxLen]) (by simp)) hbel.size, bto hbel (bnew _ _)⟩
          case round =>
            clear hbel
            obtain ⟨k, ys, g0, cv, bm, hk, hy, HK, rfl, rfl, rfl, hrow, hbel⟩ := hrel
            have hsz := hbel.size
            by_cases hlt : k < ls.length
            · obtain ⟨b, o, rfl, hb, c0, c1⟩ := (HF.out.later hbel).at hlt
              have HS := insAll_step ys ls k hlt
              have HM := metB_take ls k hlt
              have hE := isEmp_eq ls[k]
              have hMN : isMet ls[k] = (ls[k].name.toList == [95, 95, 110, 97, 109, 101, 95, 95]) := by rw [isMet, show mname.toList = [95, 95, 110, 97, 109, 101, 95, 95] by rw [mname, ByteArray.toList_eq]]
              have hnb : ¬ b = wr.heap.size := by omega
              by_cases he : isEmp ls[k] = true
              · have E : Hid (insAll [] ls = insAll ys (ls.drop (k + 1)) ∧ bm = metB (ls.take (k + 1))) := by
                  refine ⟨?_, ?_⟩
                  · rw [HK.out.1, HS, if_pos he]
                  · rw [HM, he, HK.out.2]; simp
                have heb : ls[k].value.toList.isEmpty = true := by rw [← hE]; exact he
                clear HS HM he hE hMN
                generalize ls[k].name = nm at *
                generalize ls[k].value = va at *
                go_wp2
                exact ⟨⟨k + 1, ys, g0, cv, bm, by omega, by omega, E.out, by go_num, rfl, rfl, row_later hrow.out (bnew _ _), bto hbel (bnew _ _)⟩, by simp [intOf]; omega⟩
              · have E : Hid (insAll [] ls = insAll (insL ls[k] ys) (ls.drop (k + 1)) ∧ (bm || isMet ls[k]) = metB (ls.take (k + 1))) := by
                  refine ⟨?_, ?_⟩
                  · rw [HK.out.1, HS, if_neg he]
                  · have he' : isEmp ls[k] = false := by simpa using he
                    rw [HM, he', HK.out.2]; simp
                have heb : ls[k].value.toList.isEmpty = false := by rw [← hE]; simpa using he
                have HMN : Hid (isMet ls[k] = (ls[k].name.toList == [95, 95, 110, 97, 109, 101, 95, 95])) := hMN
                have HLK : Hid (∀ x, lessN x ls[k] = Op.bytesLess x.name.toList ls[k].name.toList) := fun x => rfl
                have HFL : Hid (flatL [ls[k]] = [.string ls[k].name, .string ls[k].value]) := rfl
                clear HS HM he hE hMN
                generalize ls[k] = lk at *
                generalize lk.name = nm at *
                generalize lk.value = va at *
                have HBX : Hid (Blk (wr.alloc (.cells #[.string nm, .string va] 135)) wr.heap.size #[.string nm, .string va] 135) := heap_alloc_new _ _
                have HROW : Hid ((wr.alloc (.cells #[.string nm, .string va] 135)).ownsRow w.heap.size 135 2 (.slice (some ⟨g0, 0, none⟩) ys.length cv) ys.length (flatL ys)) := row_later hrow.out (bnew _ _)
                have HBW : Hid (Below w.heap.size w (wr.alloc (.cells #[.string nm, .string va] 135)) ∧ w.heap.size ≤ wr.heap.size ∧ g0 < wr.heap.size) := ⟨bto hbel (bnew _ _), hsz, by
                  rcases hrow.out.2 with ⟨he, _⟩ | ⟨g', cap', cur, he, _, hb, _⟩
                  · simp at he
                  · simp only [Value.slice.injEq, Option.some.injEq, Addr.mk.injEq, and_true] at he
                    rw [he.1]; exact lt_of_block hb⟩
                cases bm
                all_goals
                  go_wp2
                  generalize wr.alloc (.cells #[.string nm, .string va] 135) = W at *
                  clear hrow hbel hsz hnb hb c0 c1
                  generalize wr.heap.size = BX at *
                  clear wr
                  go_loopw [17] (fun at_ wr => ∃ m : Nat, m ≤ ys.length ∧ at_ = .int .i64 m ∧ Hid (posI lk ys = m + posI lk (ys.drop m)) ∧ Below W.heap.size W wr) (fun at_ _ => ys.length - (intOf at_).toNat)
                  case atStart => exact ⟨0, Nat.zero_le _, rfl, by show _ = _; simp, Below.refl _ _⟩
                  case round =>
                    obtain ⟨m, hm, rfl, HM, hbel⟩ := hrel
                    have hX := HBX.out.later hbel
                    have x0 := hX.cell 0
                    have x1 := hX.cell 1
                    simp only [List.getElem?_toArray, List.getElem?_cons_zero, List.getElem?_cons_succ] at x0 x1
                    have y0 := Later.cells x0
                    have y1 := Later.cells x1
                    have hne := Later.there wr
                    have HX : Hid (Blk wr BX #[.string nm, .string va] 135) := hX
                    clear hX x0 x1
                    by_cases hml : m < ys.length
                    · have hrc1 := row_cells (row_later HROW.out hbel)
                      have z0 : wr.cell? ⟨g0, m * 2, none⟩ = some (.string ys[m].name) := hrc1.2.2.2 (m * 2) _ (by
                        have h := flatL_drop0 ys m hml
                        exact h)
                      have y2 := Later.cells z0
                      have hm1 : (m : Int) < (ys.length : Int) := by omega
                      have hm00 : (0 : Int) ≤ (m : Int) := by omega
                      have HPS := posI_step lk ys m hml
                      have HLS : Hid (lessN ys[m] lk = Op.bytesLess ys[m].name.toList nm.toList) := HLK.out ys[m]
                      clear z0 hrc1
                      generalize ys[m].name = nm2 at *
                      by_cases hle : lessN ys[m] lk = true
                      · have hbl : Op.bytesLess nm2.toList nm.toList = true := by rw [← HLS.out]; exact hle
                        have E2 : Hid (posI lk ys = m + 1 + posI lk (ys.drop (m + 1))) := by show _ = _; rw [HM.out, HPS, if_pos hle]; omega
                        clear HPS hle
                        go_wp2_with fail
                        refine wp_region_later (by kernel_rfl) (by kernel_rfl) ?_
                        repeat (go_big_quiet_step (fail))
                        refine wpQuiet_nil ?_
                        rintro _ ⟨x, rfl⟩
                        have HXB : Hid (Below W.heap.size W x.w') := bto hbel x.h
                        clear y0 y1 y2 hne
                        generalize x.w' = W2 at *
                        clear x
                        go_wp2
                        exact ⟨⟨m + 1, by omega, by go_num, E2.out, HXB.out⟩, by simp [intOf]; omega⟩
                      have hbl : Op.bytesLess nm2.toList nm.toList = false := by rw [← HLS.out]; simpa using hle
                      have E2 : Hid (posI lk ys = m) := by show _ = _; rw [HM.out, HPS, if_neg hle]; rfl
                      clear HPS hle
                      go_wp2_with fail
                      refine wp_region_later (by kernel_rfl) (by kernel_rfl) ?_
                      repeat (go_big_quiet_step (fail))
                      refine wpQuiet_nil ?_
                      rintro _ ⟨x, rfl⟩
                      clear y2
                      have hx := x.h
                      clear y0 y1 hne
                      generalize x.w' = W2 at *
                      clear x
                      have HB2 : Hid (Below W.heap.size W W2) := bto hbel hx
                      have HBW2 : Hid (Below w.heap.size w W2) := bto HBW.out.1 HB2.out
                      have hrc := row_cells (row_later HROW.out HB2.out)
                      have hcv : ys.length ≤ cv := hrc.1
                      have hg2 : g0 < W2.heap.size := hrc.2.1
                      have HRC : Hid (∀ j u, (flatL ys)[j]? = some u → W2.cell? ⟨g0, j, none⟩ = some u) := hrc.2.2.2
                      have hX2 := HX.out.later hx
                      have x0 := hX2.cell 0
                      have x1 := hX2.cell 1
                      simp only [List.getElem?_toArray, List.getElem?_cons_zero, List.getElem?_cons_succ] at x0 x1
                      have hBX2 : BX < W2.heap.size := lt_of_block hX2
                      have hm0 : (0 : Int) ≤ (m : Int) := by omega
                      have hmc : (m : Int) ≤ (cv : Int) := by omega
                      clear hx hbel HX HROW HBX hX2 hrc HM
                      go_wp2_with fail
                      refine ins_region _ ys nm va g0 cv BX m ti W2 _ (by simp) rfl rfl rfl HI.out hz0 hz1 hz2 x0 x1 hBX2 hm hcv (by omega) hg2 HRC.out ?_
                      intro v102 v103 v104 v106 v109 v110 v111 v101 v105 v107 v108 g7 cap7 w7 hown7 hb7
                      have HO7 : Hid (w7.ownsRow w.heap.size 135 2 (.slice (some ⟨g7, 0, none⟩) (insL lk ys).length cap7) (insL lk ys).length (flatL (insL lk ys))) := by
                        have hl : (insL lk ys).length = m + 1 + (ys.length - m) := by rw [insL_length]; omega
                        have hfl : flatL (insL lk ys) = flatL (ys.take m) ++ [.string nm, .string va] ++ flatL (ys.drop m) := by
                          rw [insL, E2.out, flatL_append, show lk :: ys.drop m = [lk] ++ ys.drop m from rfl, flatL_append, HFL.out, List.append_assoc]
                        show World.ownsRow _ _ _ _ _ _ _
                        rw [hl, hfl]
                        exact row_mono0 hown7 HBW2.out.size
                      have HB7 : Hid (Below w.heap.size w w7) := bto HBW2.out hb7
                      have hll : (m + 1 + (ys.length - m) : Nat) = (insL lk ys).length := by rw [insL_length]; omega
                      rw [hll]
                      have hle7 : (insL lk ys).length ≤ k + 1 := by rw [insL_length]; omega
                      clear hown7 hb7 hll
                      generalize insL lk ys = ys7 at *
                      go_wp2
                      refine ⟨⟨k + 1, ys7, g7, cap7, _, by omega, hle7, ⟨E.out.1, ?_⟩, by go_num, rfl, rfl, HO7.out, HB7.out⟩, by simp [intOf]; omega⟩
                      have h := E.out.2
                      rw [HMN.out] at h
                      simpa using h
                    · have E2 : Hid (posI lk ys = m) := by show _ = _; rw [HM.out, List.drop_of_length_le (by omega)]; simp [posI]
                      have hml' : ¬ ((m : Int) < (ys.length : Int)) := by omega
                      go_wp2_with fail
                      refine wp_region_later (by kernel_rfl) (by kernel_rfl) ?_
                      repeat (go_big_quiet_step (fail))
                      refine wpQuiet_nil ?_
                      rintro _ ⟨x, rfl⟩
                      have hx := x.h
                      clear y0 y1 hne
                      generalize x.w' = W2 at *
                      clear x
                      have HB2 : Hid (Below W.heap.size W W2) := bto hbel hx
                      have HBW2 : Hid (Below w.heap.size w W2) := bto HBW.out.1 HB2.out
                      have hrc := row_cells (row_later HROW.out HB2.out)
                      have hcv : ys.length ≤ cv := hrc.1
                      have hg2 : g0 < W2.heap.size := hrc.2.1
                      have HRC : Hid (∀ j u, (flatL ys)[j]? = some u → W2.cell? ⟨g0, j, none⟩ = some u) := hrc.2.2.2
                      have hX2 := HX.out.later hx
                      have x0 := hX2.cell 0
                      have x1 := hX2.cell 1
                      simp only [List.getElem?_toArray, List.getElem?_cons_zero, List.getElem?_cons_succ] at x0 x1
                      have hBX2 : BX < W2.heap.size := lt_of_block hX2
                      have hm0 : (0 : Int) ≤ (m : Int) := by omega
                      have hmc : (m : Int) ≤ (cv : Int) := by omega
                      clear hx hbel HX HROW HBX hX2 hrc HM
                      go_wp2_with fail
                      refine ins_region _ ys nm va g0 cv BX m ti W2 _ (by simp) rfl rfl rfl HI.out hz0 hz1 hz2 x0 x1 hBX2 hm hcv (by omega) hg2 HRC.out ?_
                      intro v102 v103 v104 v106 v109 v110 v111 v101 v105 v107 v108 g7 cap7 w7 hown7 hb7
                      have HO7 : Hid (w7.ownsRow w.heap.size 135 2 (.slice (some ⟨g7, 0, none⟩) (insL lk ys).length cap7) (insL lk ys).length (flatL (insL lk ys))) := by
                        have hl : (insL lk ys).length = m + 1 + (ys.length - m) := by rw [insL_length]; omega
                        have hfl : flatL (insL lk ys) = flatL (ys.take m) ++ [.string nm, .string va] ++ flatL (ys.drop m) := by
                          rw [insL, E2.out, flatL_append, show lk :: ys.drop m = [lk] ++ ys.drop m from rfl, flatL_append, HFL.out, List.append_assoc]
                        show World.ownsRow _ _ _ _ _ _ _
                        rw [hl, hfl]
                        exact row_mono0 hown7 HBW2.out.size
                      have HB7 : Hid (Below w.heap.size w w7) := bto HBW2.out hb7
                      have hll : (m + 1 + (ys.length - m) : Nat) = (insL lk ys).length := by rw [insL_length]; omega
                      rw [hll]
                      have hle7 : (insL lk ys).length ≤ k + 1 := by rw [insL_length]; omega
                      clear hown7 hb7 hll
                      generalize insL lk ys = ys7 at *
                      go_wp2
                      refine ⟨⟨k + 1, ys7, g7, cap7, _, by omega, hle7, ⟨E.out.1, ?_⟩, by go_num, rfl, rfl, HO7.out, HB7.out⟩, by simp [intOf]; omega⟩
                      have h := E.out.2
                      rw [HMN.out] at h
                      simpa using h
            · have HE : Hid (insAll [] ls = ys ∧ bm = metB ls) := by
                have h := HK.out
                rw [List.drop_of_length_le (by omega), List.take_of_length_le (by omega)] at h
                exact h
              have HR : Hid (LabsOwn wr w.heap.size (some ⟨g0, 0, none⟩) ys) := labs_of_row hrow.out
              have hcvr : ys.length ≤ cv := (row_cells hrow.out).1
              clear hrow HK
              cases bm with
              | false =>
                have E : Hid (canonR ls = ([], 46, 0)) := canon_met H16.out HN.out HN2.out HE.out.2.symm
                go_wp2
                refine bodyPost_ret (v := .tuple #[.slice (some ⟨w.heap.size, 0, none⟩) 0 0, .int .i64 46, .int .i64 0]) (by simp [results, Tryz.results104, go_sem]) rfl ?_
                rw [E.out]
                exact ⟨_, _, rfl, Nat.le_refl _, Or.inl rfl, hbel⟩
              | true =>
                have E : Hid (canonR ls = (ys, 0, 0)) := by show _ = _; rw [canon_ok H16.out HN.out HN2.out HE.out.2.symm, HE.out.1]
                go_wp2
                refine bodyPost_ret (v := .tuple #[.slice (some ⟨g0, 0, none⟩) ys.length cv, .int .i64 0, .int .i64 0]) (by simp [results, Tryz.results104, go_sem]) rfl ?_
                rw [E.out]
                exact ⟨_, _, rfl, hcvr, HR.out, hbel⟩
theorem specCanon_any (a : Option Addr) (cap : Nat) (ls : List LabD) (w : World) (hf : LabsIn w a ls) (hB : BigS ls) (hlen : ls.length ≤ 2000000) (hcap : ls.length ≤ cap) :
    Calls Tryz.prog 104 #[.slice a ls.length cap] w fun e w' => CanonOut e w w' (canonR ls).1 (canonR ls).2.1 (canonR ls).2.2 := by
  refine (specCanon_cap a cap ls w hf hB hlen hcap).mono ?_
  rintro e w' ⟨a', cap', h1, _, h2, h3⟩
  exact ⟨a', cap', h1, h2, h3⟩
end Go.Proofs.YtojeemogabhaoaaGreatDoor
