import Derived.Test.YtoecnlhnfhongaaDoorProg
import Derived.Test.YtoecnlhnfhongaaDoorJ19SDecR
import Derived.Deep.AppendLies
namespace Go.Proofs.YtoecnlhnfhongaaDoor
open Go.RowKit

theorem row_formR {W : World} {B : Nat} {e : TypeId} {size : Nat} {v : Value} {n : Nat} {xs : List Value} (h : W.ownsRow B e size v n xs) : ∃ a c, v = .slice a n c := by
  rcases h.2 with ⟨rfl, rfl⟩ | ⟨g, cap, cur, rfl, _⟩
  · exact ⟨none, 0, rfl⟩
  · exact ⟨_, _, rfl⟩

set_option maxRecDepth 100000 in
set_option maxHeartbeats 16000000 in
theorem specDecR1_any (s : ByteArray) (w : World) (hs : s.size ≤ 1048576) (hk : (lqK s).1 = 1) :
    Calls Tryd.prog 10 #[.string s] w fun e w' => DecROut s w e w' := by
  have hsL : s.size ≤ 1000000000 := by omega
  have hk2 : (((lqK s).1 : Nat) : Int) = 1 := by rw [hk]; rfl
  have eT : lqT s = lPart s 1 (lqK s).2 := by rw [lqT, hk2, if_pos (by decide)]
  have eM : lqM s = (ByteArray.empty, (lqT s).2) := by rw [lqM, hk2, if_neg (by decide)]
  have eN : lqN s = (0, (lqT s).2) := by rw [lqN, hk2, if_neg (by decide), eM]
  have eR : lRq s = ⟨1, (lqT s).1, ByteArray.empty, 0, (lqS s).1⟩ := by rw [lRq, hk2, eN, eM]
  have HN0 : Hid (∀ W, Calls Tryd.prog 23 #[.string s, .int .i64 0, .int .i64 1] W fun e w' => e = .returned (.tuple #[.int .i64 1, .int .i64 (posV (lqK s).2)]) ∧ w' = W) := fun W => by
    have := specNumL_any s 1 (some 0) W hsL (fun q h => by cases h; omega) (by omega)
    rw [show lNum s 1 (some 0) = lqK s from rfl, hk, wrapN_small (by omega)] at this
    exact this
  have hpK : ∀ q, (lqK s).2 = some q → q ≤ s.size := fun q h => lNum_le (s := s) (n := 1) (p := some 0) h
  have HT : Hid (∀ W, Calls Tryd.prog 24 #[.string s, .int .i64 (posV (lqK s).2), .int .i64 1] W fun e w' => e = .returned (.tuple #[.string (lqT s).1, .int .i64 (posV (lqT s).2)]) ∧ w' = W) := fun W => by
    have := specPartL_any s 1 (lqK s).2 W hsL (fun q h => by have := hpK q h; omega) (by omega)
    rw [← eT] at this
    exact this
  have hpT : ∀ q, (lqT s).2 = some q → q ≤ s.size := fun q h => by rw [eT] at h; exact lPart_le h
  have hcc : (lqC s).1 < 65536 := by have := lNumZ_cap s 2 (lqN s).2; rw [lqC]; omega
  have eC : lqC s = lNum s 2 (lqT s).2 := by rw [lqC, eN]
  have HC : Hid (∀ W, Calls Tryd.prog 23 #[.string s, .int .i64 (posV (lqT s).2), .int .i64 2] W fun e w' => e = .returned (.tuple #[.int .i64 ((lqC s).1 : Nat), .int .i64 (posV (lqC s).2)]) ∧ w' = W) := fun W => by
    have := specNumL_any s 2 (lqT s).2 W hsL (fun q h => by have := hpT q h; omega) (by omega)
    rw [← eC, wrapN_small (by omega)] at this
    exact this
  have hpC : ∀ q, (lqC s).2 = some q → q ≤ s.size := fun q h => by rw [eC] at h; exact lNum_le h
  have HKL : Hid (∀ k q, (lXs s (lqC s).2 k).2 = some q → q ≤ s.size) := fun k q h => lXs_le hpC k q h
  have HLB : Hid ((lqS s).1 = (lXs s (lqC s).2 (lqC s).1).1) := by show _ = _; rw [lqS, if_pos hk]
  have HEN : Hid (∀ W av cap, SmpsIn W av (lqS s).1 → Calls Tryd.prog 6 #[.agg #[.int .i64 1, .string (lqT s).1, .string ByteArray.empty, .int .i64 0, .slice av (lqS s).1.length cap]] W fun e w' => e = .returned (.string (reqB (lRq s))) ∧ Below W.heap.size W w') := fun W av cap h => by
    have h1 := lRq_bulk s
    have h2 := lRq_rng s
    rw [eR] at h1 h2 ⊢
    exact specReq_any ⟨1, (lqT s).1, ByteArray.empty, 0, (lqS s).1⟩ av cap W h (Nat.le_trans h1 hs) h2.1 h2.2
  have HYES : Hid (s.size ≠ 0 → reqB (lRq s) = s → decR s = (⟨1, (lqT s).1, ByteArray.empty, 0, (lqS s).1⟩, true)) := fun h1 h2 => by rw [← eR]; exact looseR_yes h1 h2
  have HNOT : Hid (¬ (s.size ≠ 0 ∧ reqB (lRq s) = s) → decR s = (⟨0, ByteArray.empty, ByteArray.empty, 0, []⟩, false)) := fun h => looseR_no h
  have HPOST : Hid (∀ (e : Ending) (w' : World) (D : ReqD × Bool), decR s = D → (∃ av cap, e = .returned (.tuple #[.agg #[.int .i64 D.1.kind, .string D.1.tenant, .string D.1.metric, .int .i64 D.1.num, .slice av D.1.smps.length cap], .bool D.2]) ∧ SmpsOwn w' w.heap.size av D.1.smps ∧ Below w.heap.size w w') → DecROut s w e w') := fun e w' D h hh => by subst h; exact hh
  clear eT eM eN eR hpK hk2 eC hpT
  clear hk
  generalize reqB (lRq s) = EB at *
  generalize DecROut s w = Post at *
  generalize posV (lqK s).2 = pK at *
  generalize posV (lqT s).2 = pT at *
  generalize (lqT s).1 = te at *
  generalize (lqC s).1 = n at *
  generalize (lqC s).2 = p0 at *
  generalize (lqS s).1 = LL at *
  go_enter Tryd.func10, Tryd.ntmps10
  go_wp2_with fail
  refine (HN0.out _).mono ?_
  rintro e wx ⟨rfl, hw⟩
  replace hw := hw.symm
  subst hw
  have G0 : Hid (GS w ((w.alloc (.cells #[.int .i64 0, .string ⟨#[]⟩, .string ⟨#[]⟩, .int .i64 0, .slice none 0 0] 29)).alloc (.cells #[.int .i64 0, .string ⟨#[]⟩, .string ⟨#[]⟩, .int .i64 0, .slice none 0 0] 29)) #[.int .i64 0, .string ByteArray.empty, .string ByteArray.empty, .int .i64 0, .slice none 0 0]) := GS.start w
  generalize (w.alloc (.cells #[.int .i64 0, .string ⟨#[]⟩, .string ⟨#[]⟩, .int .i64 0, .slice none 0 0] 29)).alloc (.cells #[.int .i64 0, .string ⟨#[]⟩, .string ⟨#[]⟩, .int .i64 0, .slice none 0 0] 29) = W0 at *
  have c0 : W0.cell? ⟨(w.heap.size + 1), 0, none⟩ = some (.int .i64 0) := G0.out.1.cell 0
  have c1 := G0.out.1.free 0
  go_upto_region 4 with fail
  have G1 := hid (G0.out.set 0 (.int .i64 1))
  clear c0 c1 G0
  generalize W0.setCell ⟨(w.heap.size + 1), 0, none⟩ (.int .i64 1) = W1 at *
  clear W0
  replace G1 : Hid (GS w W1 #[.int .i64 1, .string ByteArray.empty, .string ByteArray.empty, .int .i64 0, .slice none 0 0]) := G1
  go_wp2_with fail
  refine (HT.out _).mono ?_
  rintro e wx ⟨rfl, hw⟩
  replace hw := hw.symm
  subst hw
  have c0 : W1.cell? ⟨(w.heap.size + 1), 1, none⟩ = some (.string ByteArray.empty) := G1.out.1.cell 1
  have c1 := G1.out.1.free 1
  go_upto_region 8 with fail
  have G2 := hid (G1.out.set 1 (.string te))
  clear c0 c1 G1
  generalize W1.setCell ⟨(w.heap.size + 1), 1, none⟩ (.string te) = W2 at *
  clear W1
  replace G2 : Hid (GS w W2 #[.int .i64 1, .string te, .string ByteArray.empty, .int .i64 0, .slice none 0 0]) := G2
  obtain ⟨i1, hi1, hq10, hq11, hq12⟩ := info_lab
  have HI1 : Hid (Tryd.prog.info? 56 = some i1) := hi1
  obtain ⟨i2, hi2, hq20, hq21, hq22⟩ := info_smp
  have HI2 : Hid (Tryd.prog.info? 54 = some i2) := hi2
  clear hi1 hi2
  go_wp2_with fail
  refine (HC.out _).mono ?_
  rintro e wx ⟨rfl, hw⟩
  replace hw := hw.symm
  subst hw
  go_wp2
  go_loopw [6, 15] (fun at_ i wr => ∃ (k : Nat) (v : Value), k ≤ n ∧ i = .int .i64 k ∧ at_ = .int .i64 (posV (lXs s p0 k).2) ∧ Hid (GS w wr #[.int .i64 1, .string te, .string ByteArray.empty, .int .i64 0, v] ∧ RowX wr (w.heap.size + 1 + 1) 54 v (lXs s p0 k).1.length (lXs s p0 k).1)) (fun _ i _ => n - (intOf i).toNat)
  case atStart =>
    refine ⟨0, .slice none 0 0, Nat.zero_le _, rfl, by rw [lXs_zero], G2.out, ?_⟩
    rw [lXs_zero]; exact RowX.nil _ _ _
  case round =>
    obtain ⟨k, v, hk, rfl, rfl, HG⟩ := hrel
    by_cases hgo : k < n ∧ ∃ p, (lXs s p0 k).2 = some p
    · obtain ⟨hlt, p, hp⟩ := hgo
      have hple := HKL.out k p hp
      have hsome := lXs_some hp
      have hpv : posV (lXs s p0 k).2 = (p : Int) := by rw [hp]; rfl
      have hsm : lSm s (some p) = (⟨(lSmL s (some p)).1, wrapN (lSmB s (some p)).1⟩, (lSmB s (some p)).2) := by rw [lSm]
      have hn1 : (lSmN s (some p)).1 < 256 := by have := lNumZ_cap s 1 (some p); rw [lSmN]; omega
      have P1 : Hid (∀ W, Calls Tryd.prog 23 #[.string s, .int .i64 (p : Nat), .int .i64 1] W fun e w' => e = .returned (.tuple #[.int .i64 ((lSmN s (some p)).1 : Nat), .int .i64 (posV (lSmN s (some p)).2)]) ∧ w' = W) := fun W => by
        have := specNumL_any s 1 (some p) W hsL (fun b h => by cases h; omega) (by omega)
        rw [show lNum s 1 (some p) = lSmN s (some p) from rfl, wrapN_small (by omega)] at this
        exact this
      have hM0 : ∀ b, (lSmN s (some p)).2 = some b → b ≤ s.size := fun b hb => lNum_le (s := s) (n := 1) (p := some p) hb
      have hMe : ∀ b, (lSmL s (some p)).2 = some b → b ≤ s.size := fun b hb => by rw [lSmL] at hb; exact lLs_le hM0 _ b hb
      have P3 : Hid (∀ W, Calls Tryd.prog 23 #[.string s, .int .i64 (posV (lSmL s (some p)).2), .int .i64 8] W fun e w' => e = .returned (.tuple #[.int .i64 (wrapN (lSmB s (some p)).1), .int .i64 (posV (lSmB s (some p)).2)]) ∧ w' = W) := fun W => specNumL_any s 8 (lSmL s (some p)).2 W hsL (fun b h => by have := hMe b h; omega) (by omega)
      have HL1 : Hid (∀ k q, (lLs s (lSmN s (some p)).2 k).2 = some q → q ≤ s.size) := fun k q h => lLs_le hM0 k q h
      have EM : Hid (lSmL s (some p) = lLs s (lSmN s (some p)).2 (lSmN s (some p)).1) := by show _ = _; rw [lSmL]
      rw [hsm] at hsome
      rw [hpv]
      have e1 : (lXs s p0 (k + 1)).1 = (lXs s p0 k).1 ++ [⟨(lSmL s (some p)).1, wrapN (lSmB s (some p)).1⟩] := by rw [hsome]
      have HZZ : Hid (posV (lXs s p0 (k + 1)).2 = posV (lSmB s (some p)).2) := by show _ = _; rw [hsome]
      have hm := lXs_len s p0 k
      clear hsome hsm hpv hp hM0 hMe
      generalize wrapN (lSmB s (some p)).1 = bi at *
      generalize posV (lSmB s (some p)).2 = zB at *
      generalize lSmL s (some p) = MS at *
      generalize (lSmN s (some p)).1 = n1 at *
      generalize (lSmN s (some p)).2 = q0 at *
      have E1 : Hid ((lXs s p0 (k + 1)).1 = (lXs s p0 k).1 ++ [⟨MS.1, bi⟩] ∧ (lXs s p0 (k + 1)).1.length = (lXs s p0 k).1.length + 1) := ⟨e1, by rw [e1]; simp⟩
      clear e1
      rename World => wo
      have hRw : w.heap.size + 1 < wo.heap.size := lt_of_block HG.out.1.1
      obtain ⟨T, ys, hV1, hV2, hV3, hV4⟩ := HG.out.2
      have hob : ∀ q, v.ownBlock = some q → (w.heap.size + 1 + 1) ≤ q ∧ q < wo.heap.size := fun q hq => hV1.lt q hq
      have HYK : Hid (ys.length = (lXs s p0 k).1.length) := by show _ = _; rw [← hV2, List.length_map]
      have HVO := hid hV1
      have HV2 := hid hV2
      have HV3 := hid hV3
      have HV4 := hid hV4
      clear hV1 hV2 hV3 hV4
      have HOB := hid hob
      clear hob
      generalize (lXs s p0 k).1.length = m at *
      go_wp2_with fail
      refine (P1.out _).mono ?_
      rintro e wx ⟨rfl, hw⟩
      replace hw := hw.symm
      subst hw
      go_wp2
      go_loopw [6, 19] (fun at_ j wr => ∃ (k1 : Nat) (v1 : Value), k1 ≤ n1 ∧ j = .int .i64 k1 ∧ at_ = .int .i64 (posV (lLs s q0 k1).2) ∧ Hid (Blk wr wo.heap.size #[v1, .int .i64 0] 54 ∧ wr.ownsRow (wo.heap.size + 1) 56 2 v1 (lLs s q0 k1).1.length (flatL (lLs s q0 k1).1) ∧ Below wo.heap.size wo wr)) (fun _ j _ => n1 - (intOf j).toNat)
      case atStart =>
        refine ⟨0, .slice none 0 0, Nat.zero_le _, rfl, by rw [lLs_zero], ?_, ?_, bnew _ _⟩
        · exact Blk.new _ _ _
        · rw [lLs_zero]; exact World.ownsRow_nil _ _ _ _
      case round =>
        obtain ⟨k1, v1, hk1, rfl, rfl, HG1⟩ := hrel
        by_cases hgo1 : k1 < n1 ∧ ∃ q, (lLs s q0 k1).2 = some q
        · skip
          obtain ⟨hlt1, b0, hq⟩ := hgo1
          have hqle := HL1.out k1 b0 hq
          have hs1 := lLs_some hq
          have hqv : posV (lLs s q0 k1).2 = (b0 : Int) := by rw [hq]; rfl
          have hpr : lLab s (some b0) = (⟨(lPart s 1 (some b0)).1, (lPart s 2 (lPart s 1 (some b0)).2).1⟩, (lPart s 2 (lPart s 1 (some b0)).2).2) := by rw [lLab]
          have Q1 : Hid (∀ W, Calls Tryd.prog 24 #[.string s, .int .i64 (b0 : Nat), .int .i64 1] W fun e w' => e = .returned (.tuple #[.string (lPart s 1 (some b0)).1, .int .i64 (posV (lPart s 1 (some b0)).2)]) ∧ w' = W) := fun W => specPartL_any s 1 (some b0) W hsL (fun b h => by cases h; omega) (by omega)
          have Q2 : Hid (∀ W, Calls Tryd.prog 24 #[.string s, .int .i64 (posV (lPart s 1 (some b0)).2), .int .i64 2] W fun e w' => e = .returned (.tuple #[.string (lPart s 2 (lPart s 1 (some b0)).2).1, .int .i64 (posV (lPart s 2 (lPart s 1 (some b0)).2).2)]) ∧ w' = W) := fun W => specPartL_any s 2 _ W hsL (fun b h => by have := lPart_le h; omega) (by omega)
          rw [hpr] at hs1
          rw [hqv]
          have e1 : (lLs s q0 (k1 + 1)).1 = (lLs s q0 k1).1 ++ [⟨(lPart s 1 (some b0)).1, (lPart s 2 (lPart s 1 (some b0)).2).1⟩] := by rw [hs1]
          have e2 : (lLs s q0 (k1 + 1)).2 = (lPart s 2 (lPart s 1 (some b0)).2).2 := by rw [hs1]
          have hm1 := lLs_len s q0 k1
          clear hs1 hpr hqv hq
          generalize (lPart s 2 (lPart s 1 (some b0)).2).1 = va at *
          generalize (lPart s 2 (lPart s 1 (some b0)).2).2 = b4 at *
          generalize (lPart s 1 (some b0)).1 = tx at *
          generalize (lPart s 1 (some b0)).2 = b3 at *
          have F1 : Hid (flatL (lLs s q0 (k1 + 1)).1 = flatL (lLs s q0 k1).1 ++ [.string tx, .string va] ∧ (lLs s q0 (k1 + 1)).1.length = (lLs s q0 k1).1.length + 1 ∧ (lLs s q0 (k1 + 1)).2 = b4) := ⟨by rw [e1]; simp [flatL], by rw [e1]; simp, e2⟩
          clear e1 e2
          generalize posV b3 = z3 at *
          generalize hz4 : posV b4 = z4 at *
          have HZ4 : Hid (posV b4 = z4) := hz4
          clear hz4
          generalize hlen : (lLs s q0 k1).1.length = m1 at *
          clear hlen
          have hob : ∀ b, v1.ownBlock = some b → wo.heap.size + 1 ≤ b := fun b hb => (HG1.out.2.1.lt b hb).1
          have agv : v1.ownBlock ≠ some wo.heap.size := fun e => by have := hob _ e; omega
          have hRw : wo.heap.size < wr.heap.size := lt_of_block HG1.out.1
          have c1 : wr.cell? ⟨wo.heap.size, 0, none⟩ = some v1 := HG1.out.1.cell 0
          go_wp2_with fail
          refine (Q1.out _).mono ?_
          rintro e wx ⟨rfl, hw⟩
          replace hw := hw.symm
          subst hw
          go_wp2_with fail
          refine (Q2.out _).mono ?_
          rintro e wx ⟨rfl, hw⟩
          replace hw := hw.symm
          subst hw
          go_wp2_with (at_builtin; refine wpList_append_lies _ rfl _ _ _ rfl (wo.heap.size + 1) 56 i1 _ 2 32 Tryd.underlying52 HI1.out hq10 hq11 hq12 rfl (by omega) v1 m1 (flatL (lLs s q0 k1).1) rfl (by exact HG1.out.2.1.alloc _) ⟨wr.heap.size, 0, none⟩ 1 1 [.string tx, .string va] rfl rfl (by have := World.news_of_block (cs := #[.string tx, .string va]) (t := 56) (fr := (0, 0)) (heap_alloc_new wr (.cells #[.string tx, .string va] 56)); simpa using this) (by simp [Value.oneCell']) (by omega) (by simp [maxLen]; omega) (by omega) (by simp; omega) (wr.heap.size + 1) (by simp) ?_; intro g5 cap5 w5 hown5 hgrow5 hat5 hlt5; have HX5 : Hid (Blk w5 wo.heap.size #[v1, .int .i64 0] 54) := (Turn.grown hgrow5).blk (HG1.out.1.alloc _) agv; have s5 := HX5.out.cell 0; have f5 := HX5.out.free 0)
          have hgg : wo.heap.size + 1 ≤ g5 := by
            rcases hat5 with h | h
            · exact hob _ h
            · omega
          refine ⟨⟨k1 + 1, (.slice (some ⟨g5, 0, none⟩) (m1 + 1) cap5), by omega, by go_num, ?_, ?_, ?_, ?_⟩, by simp [intOf]; omega⟩
          · rw [F1.out.2.2, HZ4.out]
          · have := HX5.out.set 0 (.slice (some ⟨g5, 0, none⟩) (m1 + 1) cap5); simpa using this
          · rw [F1.out.1, F1.out.2.1]; exact ((Turn.refl (· = wo.heap.size) w5).setCell (Or.inl rfl) 0 _).row hown5 (fun b hb e => by simp [Value.ownBlock] at hb; omega)
          · exact ((bto HG1.out.2.2 (bnew _ _)).grown hgrow5 (by have := HG1.out.2.2.size; simp; omega) (fun b hb => by have := hob b hb; omega)).setCell (by simp) _
        · skip
          have hgb : ¬ k1 < n1 ∨ (k1 < n1 ∧ posV (lLs s q0 k1).2 = -1) := by
            rcases Nat.lt_or_ge k1 n1 with h | h
            · have hn : (lLs s q0 k1).2 = none := by
                cases hh : (lLs s q0 k1).2 with
                | none => rfl
                | some b => exact absurd ⟨h, b, hh⟩ hgo1
              exact Or.inr ⟨h, by rw [hn]; rfl⟩
            · exact Or.inl (by omega)
          have hLL : MS = (lLs s q0 k1) := by
            rw [EM.out]
            rcases Nat.lt_or_ge k1 n1 with h | h
            · have hn : (lLs s q0 k1).2 = none := by
                cases hh : (lLs s q0 k1).2 with
                | none => rfl
                | some b => exact absurd ⟨h, b, hh⟩ hgo1
              rw [lLs_stay hn n1 (by omega)]
            · rw [show k1 = n1 by omega]
          clear hgo1 EM HL1
          subst hLL
          obtain ⟨a1, d1, rfl⟩ := row_formR HG1.out.2.1
          generalize posV (lLs s q0 k1).2 = zz at *
          generalize (lLs s q0 k1).1 = ls at *
          rcases hgb with hg | ⟨hg, rfl⟩
          · skip
            go_wp2_with fail
            refine (P3.out _).mono ?_
            rintro e wx ⟨rfl, hw⟩
            replace hw := hw.symm
            subst hw
            have x0 : wr.cell? ⟨wo.heap.size, 0, none⟩ = some (.slice a1 ls.length d1) := HG1.out.1.cell 0
            have x1 : wr.cell? ⟨wo.heap.size, 1, none⟩ = some (.int .i64 0) := HG1.out.1.cell 1
            have f1 := HG1.out.1.free 1
            go_upto_region 35 with fail
            have G4 : Hid (Blk (wr.setCell ⟨wo.heap.size, 1, none⟩ (.int .i64 bi)) wo.heap.size #[.slice a1 ls.length d1, .int .i64 bi] 54 ∧ (wr.setCell ⟨wo.heap.size, 1, none⟩ (.int .i64 bi)).ownsRow (wo.heap.size + 1) 56 2 (.slice a1 ls.length d1) ls.length (flatL ls) ∧ Below wo.heap.size wo (wr.setCell ⟨wo.heap.size, 1, none⟩ (.int .i64 bi))) := ⟨by have := HG1.out.1.set 1 (.int .i64 bi); simpa using this, ((Turn.refl (· = wo.heap.size) wr).setCell (Or.inl rfl) 1 _).row HG1.out.2.1 (fun b hb e => by have := (HG1.out.2.1.lt b hb).1; omega), HG1.out.2.2.setCell (by simp) _⟩
            clear x0 x1 f1 HG1
            generalize wr.setCell ⟨wo.heap.size, 1, none⟩ (.int .i64 bi) = w1 at *
            clear wr
            have hw1 : wo.heap.size < w1.heap.size := lt_of_block G4.out.1
            have HV1 : Hid (w1.ownsRow (w.heap.size + 1 + 1) 54 2 v m (flatX ys)) := (Turn.but (But.of (g := (w.heap.size + 1)) G4.out.2.2)).row HVO.out (fun g hg e => by have := (HVO.out.lt g hg).1; omega)
            have HBX : Hid (GS w w1 #[.int .i64 1, .string te, .string ByteArray.empty, .int .i64 0, v]) := HG.out.1.later G4.out.2.2
            have x0 : w1.cell? ⟨wo.heap.size, 0, none⟩ = some (.slice a1 ls.length d1) := G4.out.1.cell 0
            have x1 : w1.cell? ⟨wo.heap.size, 1, none⟩ = some (.int .i64 bi) := G4.out.1.cell 1
            have x4 : w1.cell? ⟨(w.heap.size + 1), 4, none⟩ = some v := HBX.out.1.cell 4
            have hob := HOB.out
            have agv : v.ownBlock ≠ some (w.heap.size + 1) := fun e => by have := hob _ e; omega
            go_wp2_with (at_builtin; refine wpList_append_lies _ rfl _ _ _ rfl (w.heap.size + 1 + 1) 54 i2 _ 2 32 Tryd.underlying27 HI2.out hq20 hq21 hq22 rfl (by omega) v m (flatX ys) rfl (by exact HV1.out.alloc _) ⟨w1.heap.size, 0, none⟩ 1 1 [.slice a1 ls.length d1, .int .i64 bi] rfl rfl (by have := World.news_of_block (cs := #[.slice a1 ls.length d1, .int .i64 bi]) (t := 54) (fr := (0, 0)) (heap_alloc_new w1 (.cells #[.slice a1 ls.length d1, .int .i64 bi] 54)); simpa using this) (by simp [Value.oneCell']) (by omega) (by simp [maxLen]; omega) (by omega) (by simp; omega) (w1.heap.size + 1) (by simp) ?_; intro g5 cap5 w5 hown5 hgrow5 hat5 hlt5; have HX5 : Hid (Blk w5 (w.heap.size + 1) #[.int .i64 1, .string te, .string ByteArray.empty, .int .i64 0, v] 29) := (Turn.grown hgrow5).blk (HBX.out.1.alloc _) agv; have s5 := HX5.out.cell 4; have f5 := HX5.out.free 4)
            have hgg : (v.ownBlock = some g5 ∧ g5 < wo.heap.size) ∨ w1.heap.size ≤ g5 := by
              rcases hat5 with h | h
              · exact Or.inl ⟨h, (hob _ h).2⟩
              · exact Or.inr (by omega)
            have hgR : (w.heap.size + 1 + 1) ≤ g5 := by
              rcases hgg with h | h
              · exact (hob _ h.1).1
              · omega
            refine ⟨⟨k + 1, (.slice (some ⟨g5, 0, none⟩) (m + 1) cap5), by omega, by go_num, ?_, ⟨?_, ?_, ?_⟩, ?_⟩, by simp [intOf]; omega⟩
            · rw [HZZ.out]
            · have := HX5.out.set 4 (.slice (some ⟨g5, 0, none⟩) (m + 1) cap5); simpa using this
            · exact Blk.but ((Turn.grown hgrow5).blk (HBX.out.2.1.alloc _) (fun e => by have := hob _ e; omega)) ((But.refl (w.heap.size + 1) w5).setCell 4 _) (by omega)
            · exact ((bto (bto HG.out.1.2.2 G4.out.2.2) (bnew _ _)).grown hgrow5 (by have := HG.out.1.2.2.size; have := G4.out.2.2.size; simp; omega) (fun q hq => by have := hob q hq; omega)).setCell (by simp) _
            · rw [E1.out.2, E1.out.1]
              have hset : Turn (· = (w.heap.size + 1)) w5 (w5.setCell ⟨(w.heap.size + 1), 4, none⟩ (.slice (some ⟨g5, 0, none⟩) (m + 1) cap5)) := (Turn.refl (· = (w.heap.size + 1)) w5).setCell (Or.inl rfl) 4 _
              have hk5 : ∀ g, g < w1.heap.size → (w.heap.size + 1 + 1) ≤ g → v.ownBlock ≠ some g → (w5.setCell ⟨(w.heap.size + 1), 4, none⟩ (.slice (some ⟨g5, 0, none⟩) (m + 1) cap5)).heap[g]? = w1.heap[g]? := fun g hg hgR2 hne => by
                rw [hset.block g (by have := hgrow5.size; simp at this; omega) (by omega), (Turn.grown hgrow5).block g (by simp; omega) hne]
                exact (bnew _ _).block g hg
              exact RowX.snoc (wr := wo) (w4 := w1) (v := v) (T := T) (ys := ys) (x := ⟨ls, bi⟩) (hset.row hown5 (fun q hq e => by simp [Value.ownBlock] at hq; omega)) HV2.out HYK.out HV3.out HV4.out (by omega)
                (fun g hg hgR2 hne => (hk5 g (by omega) hgR2 hne).trans (G4.out.2.2.block g hg))
                (fun g hg hg4 => hk5 g hg4 (by omega) (fun e => by have := (hob _ e).2; omega))
                (LabsOwn.mono (labs_of_row G4.out.2.1) (by omega)) hgg (by omega)
          · skip
            go_wp2_with fail
            refine (P3.out _).mono ?_
            rintro e wx ⟨rfl, hw⟩
            replace hw := hw.symm
            subst hw
            have x0 : wr.cell? ⟨wo.heap.size, 0, none⟩ = some (.slice a1 ls.length d1) := HG1.out.1.cell 0
            have x1 : wr.cell? ⟨wo.heap.size, 1, none⟩ = some (.int .i64 0) := HG1.out.1.cell 1
            have f1 := HG1.out.1.free 1
            go_upto_region 35 with fail
            have G4 : Hid (Blk (wr.setCell ⟨wo.heap.size, 1, none⟩ (.int .i64 bi)) wo.heap.size #[.slice a1 ls.length d1, .int .i64 bi] 54 ∧ (wr.setCell ⟨wo.heap.size, 1, none⟩ (.int .i64 bi)).ownsRow (wo.heap.size + 1) 56 2 (.slice a1 ls.length d1) ls.length (flatL ls) ∧ Below wo.heap.size wo (wr.setCell ⟨wo.heap.size, 1, none⟩ (.int .i64 bi))) := ⟨by have := HG1.out.1.set 1 (.int .i64 bi); simpa using this, ((Turn.refl (· = wo.heap.size) wr).setCell (Or.inl rfl) 1 _).row HG1.out.2.1 (fun b hb e => by have := (HG1.out.2.1.lt b hb).1; omega), HG1.out.2.2.setCell (by simp) _⟩
            clear x0 x1 f1 HG1
            generalize wr.setCell ⟨wo.heap.size, 1, none⟩ (.int .i64 bi) = w1 at *
            clear wr
            have hw1 : wo.heap.size < w1.heap.size := lt_of_block G4.out.1
            have HV1 : Hid (w1.ownsRow (w.heap.size + 1 + 1) 54 2 v m (flatX ys)) := (Turn.but (But.of (g := (w.heap.size + 1)) G4.out.2.2)).row HVO.out (fun g hg e => by have := (HVO.out.lt g hg).1; omega)
            have HBX : Hid (GS w w1 #[.int .i64 1, .string te, .string ByteArray.empty, .int .i64 0, v]) := HG.out.1.later G4.out.2.2
            have x0 : w1.cell? ⟨wo.heap.size, 0, none⟩ = some (.slice a1 ls.length d1) := G4.out.1.cell 0
            have x1 : w1.cell? ⟨wo.heap.size, 1, none⟩ = some (.int .i64 bi) := G4.out.1.cell 1
            have x4 : w1.cell? ⟨(w.heap.size + 1), 4, none⟩ = some v := HBX.out.1.cell 4
            have hob := HOB.out
            have agv : v.ownBlock ≠ some (w.heap.size + 1) := fun e => by have := hob _ e; omega
            go_wp2_with (at_builtin; refine wpList_append_lies _ rfl _ _ _ rfl (w.heap.size + 1 + 1) 54 i2 _ 2 32 Tryd.underlying27 HI2.out hq20 hq21 hq22 rfl (by omega) v m (flatX ys) rfl (by exact HV1.out.alloc _) ⟨w1.heap.size, 0, none⟩ 1 1 [.slice a1 ls.length d1, .int .i64 bi] rfl rfl (by have := World.news_of_block (cs := #[.slice a1 ls.length d1, .int .i64 bi]) (t := 54) (fr := (0, 0)) (heap_alloc_new w1 (.cells #[.slice a1 ls.length d1, .int .i64 bi] 54)); simpa using this) (by simp [Value.oneCell']) (by omega) (by simp [maxLen]; omega) (by omega) (by simp; omega) (w1.heap.size + 1) (by simp) ?_; intro g5 cap5 w5 hown5 hgrow5 hat5 hlt5; have HX5 : Hid (Blk w5 (w.heap.size + 1) #[.int .i64 1, .string te, .string ByteArray.empty, .int .i64 0, v] 29) := (Turn.grown hgrow5).blk (HBX.out.1.alloc _) agv; have s5 := HX5.out.cell 4; have f5 := HX5.out.free 4)
            have hgg : (v.ownBlock = some g5 ∧ g5 < wo.heap.size) ∨ w1.heap.size ≤ g5 := by
              rcases hat5 with h | h
              · exact Or.inl ⟨h, (hob _ h).2⟩
              · exact Or.inr (by omega)
            have hgR : (w.heap.size + 1 + 1) ≤ g5 := by
              rcases hgg with h | h
              · exact (hob _ h.1).1
              · omega
            refine ⟨⟨k + 1, (.slice (some ⟨g5, 0, none⟩) (m + 1) cap5), by omega, by go_num, ?_, ⟨?_, ?_, ?_⟩, ?_⟩, by simp [intOf]; omega⟩
            · rw [HZZ.out]
            · have := HX5.out.set 4 (.slice (some ⟨g5, 0, none⟩) (m + 1) cap5); simpa using this
            · exact Blk.but ((Turn.grown hgrow5).blk (HBX.out.2.1.alloc _) (fun e => by have := hob _ e; omega)) ((But.refl (w.heap.size + 1) w5).setCell 4 _) (by omega)
            · exact ((bto (bto HG.out.1.2.2 G4.out.2.2) (bnew _ _)).grown hgrow5 (by have := HG.out.1.2.2.size; have := G4.out.2.2.size; simp; omega) (fun q hq => by have := hob q hq; omega)).setCell (by simp) _
            · rw [E1.out.2, E1.out.1]
              have hset : Turn (· = (w.heap.size + 1)) w5 (w5.setCell ⟨(w.heap.size + 1), 4, none⟩ (.slice (some ⟨g5, 0, none⟩) (m + 1) cap5)) := (Turn.refl (· = (w.heap.size + 1)) w5).setCell (Or.inl rfl) 4 _
              have hk5 : ∀ g, g < w1.heap.size → (w.heap.size + 1 + 1) ≤ g → v.ownBlock ≠ some g → (w5.setCell ⟨(w.heap.size + 1), 4, none⟩ (.slice (some ⟨g5, 0, none⟩) (m + 1) cap5)).heap[g]? = w1.heap[g]? := fun g hg hgR2 hne => by
                rw [hset.block g (by have := hgrow5.size; simp at this; omega) (by omega), (Turn.grown hgrow5).block g (by simp; omega) hne]
                exact (bnew _ _).block g hg
              exact RowX.snoc (wr := wo) (w4 := w1) (v := v) (T := T) (ys := ys) (x := ⟨ls, bi⟩) (hset.row hown5 (fun q hq e => by simp [Value.ownBlock] at hq; omega)) HV2.out HYK.out HV3.out HV4.out (by omega)
                (fun g hg hgR2 hne => (hk5 g (by omega) hgR2 hne).trans (G4.out.2.2.block g hg))
                (fun g hg hg4 => hk5 g hg4 (by omega) (fun e => by have := (hob _ e).2; omega))
                (LabsOwn.mono (labs_of_row G4.out.2.1) (by omega)) hgg (by omega)
    · skip
      have hgb : ¬ k < n ∨ (k < n ∧ posV (lXs s p0 k).2 = -1) := by
        rcases Nat.lt_or_ge k n with h | h
        · have hn : (lXs s p0 k).2 = none := by
            cases hh : (lXs s p0 k).2 with
            | none => rfl
            | some b => exact absurd ⟨h, b, hh⟩ hgo
          exact Or.inr ⟨h, by rw [hn]; rfl⟩
        · exact Or.inl (by omega)
      have hLL : LL = (lXs s p0 k).1 := by
        rw [HLB.out]
        rcases Nat.lt_or_ge k n with h | h
        · have hn : (lXs s p0 k).2 = none := by
            cases hh : (lXs s p0 k).2 with
            | none => rfl
            | some b => exact absurd ⟨h, b, hh⟩ hgo
          rw [lXs_stay hn n (by omega)]
        · rw [show k = n by omega]
      rw [← hLL] at HG
      clear hgo hLL HLB
      obtain ⟨ra, rc, rfl⟩ := HG.out.2.row
      have HB0 : Hid (GS w wr #[.int .i64 1, .string te, .string ByteArray.empty, .int .i64 0, .slice ra LL.length rc]) := HG.out.1
      have HO0 : Hid (SmpsOwn wr (w.heap.size + 1 + 1) ra LL) := HG.out.2.own rfl
      clear HG
      generalize posV (lXs s p0 k).2 = zz at *
      have x0 : wr.cell? ⟨(w.heap.size + 1), 0, none⟩ = some (.int .i64 1) := HB0.out.1.cell 0
      have x1 : wr.cell? ⟨(w.heap.size + 1), 1, none⟩ = some (.string te) := HB0.out.1.cell 1
      have x2 : wr.cell? ⟨(w.heap.size + 1), 2, none⟩ = some (.string ByteArray.empty) := HB0.out.1.cell 2
      have x3 : wr.cell? ⟨(w.heap.size + 1), 3, none⟩ = some (.int .i64 0) := HB0.out.1.cell 3
      have x4 : wr.cell? ⟨(w.heap.size + 1), 4, none⟩ = some (.slice ra LL.length rc) := HB0.out.1.cell 4
      have y0 : wr.cell? ⟨w.heap.size, 0, none⟩ = some (.int .i64 0) := HB0.out.2.1.cell 0
      have f0 := HB0.out.2.1.free 0
      have y1 : wr.cell? ⟨w.heap.size, 1, none⟩ = some (.string ByteArray.empty) := HB0.out.2.1.cell 1
      have f1 := HB0.out.2.1.free 1
      have y2 : wr.cell? ⟨w.heap.size, 2, none⟩ = some (.string ByteArray.empty) := HB0.out.2.1.cell 2
      have f2 := HB0.out.2.1.free 2
      have y3 : wr.cell? ⟨w.heap.size, 3, none⟩ = some (.int .i64 0) := HB0.out.2.1.cell 3
      have f3 := HB0.out.2.1.free 3
      have y4 : wr.cell? ⟨w.heap.size, 4, none⟩ = some (.slice none 0 0) := HB0.out.2.1.cell 4
      have f4 := HB0.out.2.1.free 4
      by_cases hs0 : s.size = 0
      · have E : Hid (decR s = (⟨0, ByteArray.empty, ByteArray.empty, 0, []⟩, false)) := HNOT.out (fun h => h.1 hs0)
        have hd : (s.toList == []) = true := by rw [bemptyRq]; exact decide_eq_true hs0
        have hde : s.toList.isEmpty = true := by simpa using hd
        clear hs0
        rcases hgb with hg | ⟨hg, rfl⟩
        · skip
          go_wp2
          refine bodyPost_ret (v := .tuple #[.agg #[.int .i64 0, .string ByteArray.empty, .string ByteArray.empty, .int .i64 0, .slice none 0 0], .bool false]) (by simp [results, Tryd.results10, go_sem, y0, y1, y2, y3, y4]; rfl) rfl (HPOST.out _ _ _ E.out ⟨none, 0, rfl, Or.inl rfl, ?_⟩)
          exact (((((HB0.out.2.2.setCell (by simp) _).setCell (by simp) _).setCell (by simp) _).setCell (by simp) _).setCell (by simp) _)
        · skip
          go_wp2
          refine bodyPost_ret (v := .tuple #[.agg #[.int .i64 0, .string ByteArray.empty, .string ByteArray.empty, .int .i64 0, .slice none 0 0], .bool false]) (by simp [results, Tryd.results10, go_sem, y0, y1, y2, y3, y4]; rfl) rfl (HPOST.out _ _ _ E.out ⟨none, 0, rfl, Or.inl rfl, ?_⟩)
          exact (((((HB0.out.2.2.setCell (by simp) _).setCell (by simp) _).setCell (by simp) _).setCell (by simp) _).setCell (by simp) _)
      · have hd : (s.toList == []) = false := by rw [bemptyRq]; exact decide_eq_false hs0
        have hde : s.toList.isEmpty = false := by simpa using hd
        by_cases heq : EB = s
        · have E : Hid (decR s = (⟨1, te, ByteArray.empty, 0, LL⟩, true)) := HYES.out hs0 heq
          subst heq
          have hR : (EB.toList != EB.toList) = false := by simp
          clear hs0
          rcases hgb with hg | ⟨hg, rfl⟩
          · skip
            go_wp2_with fail
            refine (HEN.out _ ra rc HO0.out.smps).mono ?_
            rintro e w4 ⟨rfl, hb4⟩
            have HB4 : Hid (GS w w4 #[.int .i64 1, .string te, .string ByteArray.empty, .int .i64 0, .slice ra LL.length rc]) := HB0.out.later hb4
            have HO4 := hid (HO0.out.later hb4)
            clear hb4
            clear x0 y0 f0 x1 y1 f1 x2 y2 f2 x3 y3 f3 x4 y4 f4
            have x0 : w4.cell? ⟨(w.heap.size + 1), 0, none⟩ = some (.int .i64 1) := HB4.out.1.cell 0
            have x1 : w4.cell? ⟨(w.heap.size + 1), 1, none⟩ = some (.string te) := HB4.out.1.cell 1
            have x2 : w4.cell? ⟨(w.heap.size + 1), 2, none⟩ = some (.string ByteArray.empty) := HB4.out.1.cell 2
            have x3 : w4.cell? ⟨(w.heap.size + 1), 3, none⟩ = some (.int .i64 0) := HB4.out.1.cell 3
            have x4 : w4.cell? ⟨(w.heap.size + 1), 4, none⟩ = some (.slice ra LL.length rc) := HB4.out.1.cell 4
            have y0 : w4.cell? ⟨w.heap.size, 0, none⟩ = some (.int .i64 0) := HB4.out.2.1.cell 0
            have f0 := HB4.out.2.1.free 0
            have y1 : w4.cell? ⟨w.heap.size, 1, none⟩ = some (.string ByteArray.empty) := HB4.out.2.1.cell 1
            have f1 := HB4.out.2.1.free 1
            have y2 : w4.cell? ⟨w.heap.size, 2, none⟩ = some (.string ByteArray.empty) := HB4.out.2.1.cell 2
            have f2 := HB4.out.2.1.free 2
            have y3 : w4.cell? ⟨w.heap.size, 3, none⟩ = some (.int .i64 0) := HB4.out.2.1.cell 3
            have f3 := HB4.out.2.1.free 3
            have y4 : w4.cell? ⟨w.heap.size, 4, none⟩ = some (.slice none 0 0) := HB4.out.2.1.cell 4
            have f4 := HB4.out.2.1.free 4
            go_wp2
            refine bodyPost_ret (v := .tuple #[.agg #[.int .i64 1, .string te, .string ByteArray.empty, .int .i64 0, .slice ra LL.length rc], .bool true]) (by simp [results, Tryd.results10, go_sem, y0, y1, y2, y3, y4]) rfl (HPOST.out _ _ _ E.out ⟨ra, rc, rfl, ?_, ?_⟩)
            · exact (((((HO4.out.but ((But.refl w.heap.size _).setCell 0 _) (by omega)).but ((But.refl w.heap.size _).setCell 1 _) (by omega)).but ((But.refl w.heap.size _).setCell 2 _) (by omega)).but ((But.refl w.heap.size _).setCell 3 _) (by omega)).but ((But.refl w.heap.size _).setCell 4 _) (by omega)).mono (by omega)
            · exact (((((HB4.out.2.2.setCell (by simp) _).setCell (by simp) _).setCell (by simp) _).setCell (by simp) _).setCell (by simp) _)
          · skip
            go_wp2_with fail
            refine (HEN.out _ ra rc HO0.out.smps).mono ?_
            rintro e w4 ⟨rfl, hb4⟩
            have HB4 : Hid (GS w w4 #[.int .i64 1, .string te, .string ByteArray.empty, .int .i64 0, .slice ra LL.length rc]) := HB0.out.later hb4
            have HO4 := hid (HO0.out.later hb4)
            clear hb4
            clear x0 y0 f0 x1 y1 f1 x2 y2 f2 x3 y3 f3 x4 y4 f4
            have x0 : w4.cell? ⟨(w.heap.size + 1), 0, none⟩ = some (.int .i64 1) := HB4.out.1.cell 0
            have x1 : w4.cell? ⟨(w.heap.size + 1), 1, none⟩ = some (.string te) := HB4.out.1.cell 1
            have x2 : w4.cell? ⟨(w.heap.size + 1), 2, none⟩ = some (.string ByteArray.empty) := HB4.out.1.cell 2
            have x3 : w4.cell? ⟨(w.heap.size + 1), 3, none⟩ = some (.int .i64 0) := HB4.out.1.cell 3
            have x4 : w4.cell? ⟨(w.heap.size + 1), 4, none⟩ = some (.slice ra LL.length rc) := HB4.out.1.cell 4
            have y0 : w4.cell? ⟨w.heap.size, 0, none⟩ = some (.int .i64 0) := HB4.out.2.1.cell 0
            have f0 := HB4.out.2.1.free 0
            have y1 : w4.cell? ⟨w.heap.size, 1, none⟩ = some (.string ByteArray.empty) := HB4.out.2.1.cell 1
            have f1 := HB4.out.2.1.free 1
            have y2 : w4.cell? ⟨w.heap.size, 2, none⟩ = some (.string ByteArray.empty) := HB4.out.2.1.cell 2
            have f2 := HB4.out.2.1.free 2
            have y3 : w4.cell? ⟨w.heap.size, 3, none⟩ = some (.int .i64 0) := HB4.out.2.1.cell 3
            have f3 := HB4.out.2.1.free 3
            have y4 : w4.cell? ⟨w.heap.size, 4, none⟩ = some (.slice none 0 0) := HB4.out.2.1.cell 4
            have f4 := HB4.out.2.1.free 4
            go_wp2
            refine bodyPost_ret (v := .tuple #[.agg #[.int .i64 1, .string te, .string ByteArray.empty, .int .i64 0, .slice ra LL.length rc], .bool true]) (by simp [results, Tryd.results10, go_sem, y0, y1, y2, y3, y4]) rfl (HPOST.out _ _ _ E.out ⟨ra, rc, rfl, ?_, ?_⟩)
            · exact (((((HO4.out.but ((But.refl w.heap.size _).setCell 0 _) (by omega)).but ((But.refl w.heap.size _).setCell 1 _) (by omega)).but ((But.refl w.heap.size _).setCell 2 _) (by omega)).but ((But.refl w.heap.size _).setCell 3 _) (by omega)).but ((But.refl w.heap.size _).setCell 4 _) (by omega)).mono (by omega)
            · exact (((((HB4.out.2.2.setCell (by simp) _).setCell (by simp) _).setCell (by simp) _).setCell (by simp) _).setCell (by simp) _)
        · have E : Hid (decR s = (⟨0, ByteArray.empty, ByteArray.empty, 0, []⟩, false)) := HNOT.out (fun h => heq h.2)
          have hR : (EB.toList == s.toList) = false := by
            apply Bool.eq_false_iff.2
            intro h
            replace h := eq_of_beq h
            apply heq
            apply bext
            rw [ByteArray.toList_eq, ByteArray.toList_eq] at h
            exact h
          clear hs0 heq
          rcases hgb with hg | ⟨hg, rfl⟩
          · skip
            go_wp2_with fail
            refine (HEN.out _ ra rc HO0.out.smps).mono ?_
            rintro e w4 ⟨rfl, hb4⟩
            have HB4 : Hid (GS w w4 #[.int .i64 1, .string te, .string ByteArray.empty, .int .i64 0, .slice ra LL.length rc]) := HB0.out.later hb4
            have HO4 := hid (HO0.out.later hb4)
            clear hb4
            clear x0 y0 f0 x1 y1 f1 x2 y2 f2 x3 y3 f3 x4 y4 f4
            have x0 : w4.cell? ⟨(w.heap.size + 1), 0, none⟩ = some (.int .i64 1) := HB4.out.1.cell 0
            have x1 : w4.cell? ⟨(w.heap.size + 1), 1, none⟩ = some (.string te) := HB4.out.1.cell 1
            have x2 : w4.cell? ⟨(w.heap.size + 1), 2, none⟩ = some (.string ByteArray.empty) := HB4.out.1.cell 2
            have x3 : w4.cell? ⟨(w.heap.size + 1), 3, none⟩ = some (.int .i64 0) := HB4.out.1.cell 3
            have x4 : w4.cell? ⟨(w.heap.size + 1), 4, none⟩ = some (.slice ra LL.length rc) := HB4.out.1.cell 4
            have y0 : w4.cell? ⟨w.heap.size, 0, none⟩ = some (.int .i64 0) := HB4.out.2.1.cell 0
            have f0 := HB4.out.2.1.free 0
            have y1 : w4.cell? ⟨w.heap.size, 1, none⟩ = some (.string ByteArray.empty) := HB4.out.2.1.cell 1
            have f1 := HB4.out.2.1.free 1
            have y2 : w4.cell? ⟨w.heap.size, 2, none⟩ = some (.string ByteArray.empty) := HB4.out.2.1.cell 2
            have f2 := HB4.out.2.1.free 2
            have y3 : w4.cell? ⟨w.heap.size, 3, none⟩ = some (.int .i64 0) := HB4.out.2.1.cell 3
            have f3 := HB4.out.2.1.free 3
            have y4 : w4.cell? ⟨w.heap.size, 4, none⟩ = some (.slice none 0 0) := HB4.out.2.1.cell 4
            have f4 := HB4.out.2.1.free 4
            go_wp2
            refine bodyPost_ret (v := .tuple #[.agg #[.int .i64 0, .string ByteArray.empty, .string ByteArray.empty, .int .i64 0, .slice none 0 0], .bool false]) (by simp [results, Tryd.results10, go_sem, y0, y1, y2, y3, y4]; rfl) rfl (HPOST.out _ _ _ E.out ⟨none, 0, rfl, Or.inl rfl, ?_⟩)
            exact (((((HB4.out.2.2.setCell (by simp) _).setCell (by simp) _).setCell (by simp) _).setCell (by simp) _).setCell (by simp) _)
          · skip
            go_wp2_with fail
            refine (HEN.out _ ra rc HO0.out.smps).mono ?_
            rintro e w4 ⟨rfl, hb4⟩
            have HB4 : Hid (GS w w4 #[.int .i64 1, .string te, .string ByteArray.empty, .int .i64 0, .slice ra LL.length rc]) := HB0.out.later hb4
            have HO4 := hid (HO0.out.later hb4)
            clear hb4
            clear x0 y0 f0 x1 y1 f1 x2 y2 f2 x3 y3 f3 x4 y4 f4
            have x0 : w4.cell? ⟨(w.heap.size + 1), 0, none⟩ = some (.int .i64 1) := HB4.out.1.cell 0
            have x1 : w4.cell? ⟨(w.heap.size + 1), 1, none⟩ = some (.string te) := HB4.out.1.cell 1
            have x2 : w4.cell? ⟨(w.heap.size + 1), 2, none⟩ = some (.string ByteArray.empty) := HB4.out.1.cell 2
            have x3 : w4.cell? ⟨(w.heap.size + 1), 3, none⟩ = some (.int .i64 0) := HB4.out.1.cell 3
            have x4 : w4.cell? ⟨(w.heap.size + 1), 4, none⟩ = some (.slice ra LL.length rc) := HB4.out.1.cell 4
            have y0 : w4.cell? ⟨w.heap.size, 0, none⟩ = some (.int .i64 0) := HB4.out.2.1.cell 0
            have f0 := HB4.out.2.1.free 0
            have y1 : w4.cell? ⟨w.heap.size, 1, none⟩ = some (.string ByteArray.empty) := HB4.out.2.1.cell 1
            have f1 := HB4.out.2.1.free 1
            have y2 : w4.cell? ⟨w.heap.size, 2, none⟩ = some (.string ByteArray.empty) := HB4.out.2.1.cell 2
            have f2 := HB4.out.2.1.free 2
            have y3 : w4.cell? ⟨w.heap.size, 3, none⟩ = some (.int .i64 0) := HB4.out.2.1.cell 3
            have f3 := HB4.out.2.1.free 3
            have y4 : w4.cell? ⟨w.heap.size, 4, none⟩ = some (.slice none 0 0) := HB4.out.2.1.cell 4
            have f4 := HB4.out.2.1.free 4
            go_wp2
            refine bodyPost_ret (v := .tuple #[.agg #[.int .i64 0, .string ByteArray.empty, .string ByteArray.empty, .int .i64 0, .slice none 0 0], .bool false]) (by simp [results, Tryd.results10, go_sem, y0, y1, y2, y3, y4]; rfl) rfl (HPOST.out _ _ _ E.out ⟨none, 0, rfl, Or.inl rfl, ?_⟩)
            exact (((((HB4.out.2.2.setCell (by simp) _).setCell (by simp) _).setCell (by simp) _).setCell (by simp) _).setCell (by simp) _)

theorem specDecR_any (s : ByteArray) (w : World) (hs : s.size ≤ 1048576) : Calls Tryd.prog 10 #[.string s] w fun e w' => DecROut s w e w' := by
  by_cases hk : 1 ≤ (lqK s).1 ∧ (lqK s).1 ≤ 6
  · have h : (lqK s).1 = 1 ∨ (lqK s).1 = 2 ∨ (lqK s).1 = 3 ∨ (lqK s).1 = 4 ∨ (lqK s).1 = 5 ∨ (lqK s).1 = 6 := by omega
    rcases h with h | h | h | h | h | h
    · exact specDecR1_any s w hs h
    · exact specDecR2_any s w hs h
    · exact specDecR3_any s w hs h
    · exact specDecR4_any s w hs h
    · exact specDecR5_any s w hs h
    · exact specDecR6_any s w hs h
  · exact specDecRbad_any s w hs hk
end Go.Proofs.YtoecnlhnfhongaaDoor

