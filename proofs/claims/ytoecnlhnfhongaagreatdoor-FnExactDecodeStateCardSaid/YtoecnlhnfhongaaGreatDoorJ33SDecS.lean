import Derived.Test.YtoecnlhnfhongaaGreatDoorProg
import Derived.Test.YtoecnlhnfhongaaGreatDoorJ30AppS
import Derived.Test.YtoecnlhnfhongaaGreatDoorJ28IDecS
import Derived.Test.YtoecnlhnfhongaaGreatDoorJ31SEst
import Derived.Test.YtoecnlhnfhongaaGreatDoorJ32SSta
namespace Go.Proofs.YtoecnlhnfhongaaGreatDoor
open Go.RowKit

theorem bemptyS {x : ByteArray} : (x.toList == []) = decide (x.size = 0) := by
  rw [ByteArray.toList_eq]
  cases h : x.data.toList with
  | nil =>
    have h2 : x.size = 0 := by have : x.data.toList.length = 0 := by rw [h]; rfl
                               simpa using this
    simp [h2]
  | cons a l =>
    have h2 : x.size ≠ 0 := by have : x.data.toList.length = l.length + 1 := by rw [h]; rfl
                               simp at this; omega
    simp [h2]
theorem TensOwn.butD {g B : Nat} {w w' : World} {a : Option Addr} {ts : List TenD} (h : TensOwn w B a ts) (hb : But g w w') (hg : g < B) : TensOwn w' B a ts := by
  rcases h with h | ⟨g', o, cur, t, T, rfl, hB, hg', hT, h⟩
  · exact Or.inl h
  · have hk := hb.block g' (lt_of_block hg') (by omega)
    exact Or.inr ⟨g', o, cur, t, T, rfl, hB, hk.trans hg', hT, fun i hi => (h i hi).keep (fun j _ => World.cell?_of_block hk) fun q hq hBq _ => ⟨hb.block q hq (by omega), rfl⟩⟩
theorem loose_big {s : ByteArray} (hs : s.size ≤ 1048576) {p0 : Option Nat} (h0 : ∀ b, p0 = some b → b ≤ s.size) (k : Nat) : (lTs s p0 k).1.length ≤ 1000000 ∧ BigSe (lTs s p0 k).1 ∧ BigT (lTs s p0 k).1 ∧ (encTs (lTs s p0 k).1).size ≤ 100000000 := by
  have h := lTs_bulk h0 k
  generalize (lTs s p0 k).1 = ts at *
  obtain ⟨h1, h2⟩ := small_parts h
  refine ⟨by omega, fun i hi => ?_, fun i hi => ?_, by omega⟩
  · obtain ⟨a, b, c, d, e⟩ := h2 i hi
    exact ⟨by omega, by omega, by omega, fun j hj => by have := d j hj; omega, fun j hj => by have := e j hj; omega⟩
  · obtain ⟨a, b, c, d, e⟩ := h2 i hi
    exact ⟨by unfold maxLen; omega, fun j hj => by have := d j hj; omega, fun j hj => by have := e j hj; omega, by omega, by omega⟩
theorem loose_few {s : ByteArray} (hs : s.size ≤ 1048576) {p0 : Option Nat} (h0 : ∀ b, p0 = some b → b ≤ s.size) (k : Nat) : (lPs s p0 k).1.length ≤ 1000000 := by
  have h := lPs_bulk h0 k
  have := encPs_many (lPs s p0 k).1
  omega
theorem cnt_small (s : ByteArray) (p : Option Nat) : (lNum s 4 p).1 < 4294967296 := by
  have := lNum_cap s 4 p
  omega

set_option maxRecDepth 100000 in
set_option maxHeartbeats 16000000 in
theorem specDecS_any (c : CfgD) (s : ByteArray) (w : World) (hs : s.size ≤ 1048576) :
    Calls Tryz.prog 4 #[cfgV c, .string s] w fun e w' => DecSOut c s w e w' := by
  have hsL : s.size ≤ 1000000000 := by omega
  have HN1 : Hid (∀ W, Calls Tryz.prog 10 #[.string s, .int .i64 4, .int .i64 8] W fun e w' => e = .returned (.tuple #[.int .i64 (wrapN (lSl s).1), .int .i64 (posV (lSl s).2)]) ∧ w' = W) := fun W => specNumL_any s 8 (some 4) W hsL (fun q h => by cases h; omega) (by omega)
  have hp1 : ∀ q, (lSl s).2 = some q → q ≤ s.size := fun q h => lNum_le h
  have HN2 : Hid (∀ W, Calls Tryz.prog 10 #[.string s, .int .i64 (posV (lSl s).2), .int .i64 8] W fun e w' => e = .returned (.tuple #[.int .i64 (wrapN (lNw s).1), .int .i64 (posV (lNw s).2)]) ∧ w' = W) := fun W => specNumL_any s 8 (lSl s).2 W hsL (fun q h => by have := hp1 q h; omega) (by omega)
  have hp2 : ∀ q, (lNw s).2 = some q → q ≤ s.size := fun q h => lNum_le h
  have hcl : (lCt s).1 < 4294967296 := cnt_small s _
  have HN3 : Hid (∀ W, Calls Tryz.prog 10 #[.string s, .int .i64 (posV (lNw s).2), .int .i64 4] W fun e w' => e = .returned (.tuple #[.int .i64 ((lCt s).1 : Nat), .int .i64 (posV (lCt s).2)]) ∧ w' = W) := fun W => by
    have := specNumL_any s 4 (lNw s).2 W hsL (fun q h => by have := hp2 q h; omega) (by omega)
    rw [show lNum s 4 (lNw s).2 = lCt s from rfl, wrapN_small (by omega)] at this
    exact this
  have hp3 : ∀ q, (lCt s).2 = some q → q ≤ s.size := fun q h => lNum_le h
  have HKL : Hid (∀ k q, (lTs s (lCt s).2 k).2 = some q → q ≤ s.size) := fun k q h => by
    obtain ⟨_, _, _, h2⟩ := lTs_eat k q h
    exact h2 hp3
  have HBG : Hid (∀ k, (lTs s (lCt s).2 k).1.length ≤ 1000000) := fun k => (loose_big hs hp3 k).1
  have HLR : Hid ((lSta s).1.length ≤ 1000000 ∧ BigSe (lSta s).1 ∧ BigT (lSta s).1 ∧ (encTs (lSta s).1).size ≤ 100000000) := loose_big hs hp3 _
  have HRG : Hid (RngT (lSta s).1) := by show RngT _; rw [lSta]; exact lTs_rng _
  have HSO : Hid (∀ W av cap, TensIn W av (lSta s).1 → Calls Tryz.prog 12 #[cfgV c, .agg #[.int .i64 (wrapN (lNw s).1), .slice av (lSta s).1.length cap]] W fun e w' => e = .returned (.bool (stateB c (wrapN (lNw s).1) (lSta s).1)) ∧ Below W.heap.size W w') := fun W av cap h => specState_any c _ av cap (lSta s).1 W h HLR.out.2.2.1 (by have := HLR.out.1; omega)
  have HEN : Hid (∀ W av cap, TensIn W av (lSta s).1 → Calls Tryz.prog 13 #[.int .i64 (wrapN (lSl s).1), .agg #[.int .i64 (wrapN (lNw s).1), .slice av (lSta s).1.length cap]] W fun e w' => e = .returned (.string (staB (wrapN (lSl s).1) (wrapN (lNw s).1) (lSta s).1)) ∧ Below W.heap.size W w') := fun W av cap h => specEst_any _ _ av cap (lSta s).1 W h HLR.out.2.1 HRG.out (wrapN_rng _) (wrapN_rng _) (by have := HLR.out.1; omega) HLR.out.2.2.2
  have HLB : Hid ((lSta s).1 = (lTs s (lCt s).2 (lCt s).1).1) := by show _ = _; rw [lSta]
  have HYES : Hid (s.size ≠ 0 → staB (wrapN (lSl s).1) (wrapN (lNw s).1) (lSta s).1 = s → stateB c (wrapN (lNw s).1) (lSta s).1 = true → decS c s = (wrapN (lSl s).1, wrapN (lNw s).1, (lSta s).1, true)) := fun h1 h2 h3 => looseS_yes h1 hsL h2 h3
  have HNOT : Hid (¬ (s.size ≠ 0 ∧ staB (wrapN (lSl s).1) (wrapN (lNw s).1) (lSta s).1 = s ∧ stateB c (wrapN (lNw s).1) (lSta s).1 = true) → decS c s = (0, 0, [], false)) := fun h => looseS_no h
  have HPOST : Hid (∀ (e : Ending) (w' : World) (D : Int × Int × List TenD × Bool), decS c s = D → (∃ av cap, e = .returned (.tuple #[.int .i64 D.1, .agg #[.int .i64 D.2.1, .slice av D.2.2.1.length cap], .bool D.2.2.2]) ∧ TensOwn w' w.heap.size av D.2.2.1 ∧ Below w.heap.size w w') → DecSOut c s w e w') := fun e w' D h hh => by subst h; exact hh
  clear hp1 hp2 hp3 HLR HRG
  generalize staB (wrapN (lSl s).1) (wrapN (lNw s).1) (lSta s).1 = EB at *
  generalize stateB c (wrapN (lNw s).1) (lSta s).1 = SB at *
  generalize wrapN (lSl s).1 = L at *
  generalize wrapN (lNw s).1 = N at *
  generalize posV (lSl s).2 = pL at *
  generalize posV (lNw s).2 = pN at *
  generalize (lCt s).1 = n at *
  generalize (lCt s).2 = p0 at *
  generalize (lSta s).1 = LL at *
  generalize DecSOut c s w = Post at *
  unfold cfgV at *
  obtain ⟨i1, hi1, hq10, hq11, hq12⟩ := info_mlP
  have HI1 : Hid (Tryz.prog.info? 43 = some i1) := hi1
  obtain ⟨i2, hi2, hq20, hq21, hq22⟩ := info_srP
  have HI2 : Hid (Tryz.prog.info? 45 = some i2) := hi2
  obtain ⟨i3, hi3, hq30, hq31, hq32⟩ := info_tenP
  have HI3 : Hid (Tryz.prog.info? 39 = some i3) := hi3
  clear hi1 hi2 hi3
  go_enter Tryz.func4, Tryz.ntmps4
  go_wp2_with fail
  refine (HN1.out _).mono ?_
  rintro e wx ⟨rfl, hw⟩
  replace hw := hw.symm
  subst hw
  go_wp2_with fail
  refine (HN2.out _).mono ?_
  rintro e wx ⟨rfl, hw⟩
  replace hw := hw.symm
  subst hw
  go_wp2_with fail
  refine (HN3.out _).mono ?_
  rintro e wx ⟨rfl, hw⟩
  replace hw := hw.symm
  subst hw
  go_wp2
  go_loopw [9, 14] (fun at_ i wr => ∃ (k : Nat) (v : Value), k ≤ n ∧ i = .int .i64 k ∧ at_ = .int .i64 (posV (lTs s p0 k).2) ∧ Hid (Blk wr (w.heap.size + 1 + 1) #[.int .i64 N, v] 26 ∧ Blk wr (w.heap.size + 1) #[.int .i64 0, .slice none 0 0] 26 ∧ RowV wr (w.heap.size + 1 + 1 + 1) 39 v (lTs s p0 k).1.length (lTs s p0 k).1 ∧ Below w.heap.size w wr ∧ Blk wr w.heap.size #[.int .i64 c.w, .int .i64 c.tl, .int .i64 c.ml, .int .i64 c.sh, .int .i64 c.ha, .int .i64 c.sg] 29)) (fun _ i _ => n - (intOf i).toNat)
  case atStart =>
    refine ⟨0, .slice none 0 0, Nat.zero_le _, rfl, by rw [lTs_zero], ?_, ?_, ?_, bto (bto (bnew _ _) (bnew _ _)) (bnew _ _), ?_⟩
    · have := Blk.new ((w.alloc (.cells #[.int .i64 c.w, .int .i64 c.tl, .int .i64 c.ml, .int .i64 c.sh, .int .i64 c.ha, .int .i64 c.sg] 29)).alloc (.cells #[.int .i64 0, .slice none 0 0] 26)) #[.int .i64 N, .slice none 0 0] 26
      simpa using this
    · have := (Blk.new (w.alloc (.cells #[.int .i64 c.w, .int .i64 c.tl, .int .i64 c.ml, .int .i64 c.sh, .int .i64 c.ha, .int .i64 c.sg] 29)) #[.int .i64 0, .slice none 0 0] 26).alloc (.cells #[.int .i64 N, .slice none 0 0] 26)
      simpa using this
    · rw [lTs_zero]; exact RowV.nil _ _ _
    · exact ((Blk.new _ _ _).alloc _).alloc _
  case round =>
    obtain ⟨k, v, hk, rfl, rfl, HG⟩ := hrel
    by_cases hgo : k < n ∧ ∃ p, (lTs s p0 k).2 = some p
    · obtain ⟨hlt, p, hp⟩ := hgo
      have hple := HKL.out k p hp
      have hsome := lTs_some hp
      have hpv : posV (lTs s p0 k).2 = (p : Int) := by rw [hp]; rfl
      have hten : lTen s (some p) = (⟨(lTn s (some p)).1, wrapN (lTl s (some p)).1, (lMs s (some p)).1, (lSs s (some p)).1⟩, (lSs s (some p)).2) := by rw [lTen]
      have P1 : Hid (∀ W, Calls Tryz.prog 11 #[.string s, .int .i64 (p : Nat), .int .i64 1] W fun e w' => e = .returned (.tuple #[.string (lTn s (some p)).1, .int .i64 (posV (lTn s (some p)).2)]) ∧ w' = W) := fun W => specPartL_any s 1 (some p) W hsL (fun b h => by cases h; omega) (by omega)
      have P2 : Hid (∀ W, Calls Tryz.prog 10 #[.string s, .int .i64 (posV (lTn s (some p)).2), .int .i64 8] W fun e w' => e = .returned (.tuple #[.int .i64 (wrapN (lTl s (some p)).1), .int .i64 (posV (lTl s (some p)).2)]) ∧ w' = W) := fun W => specNumL_any s 8 _ W hsL (fun b h => by have := lPart_le h; omega) (by omega)
      have hn1 : (lMn s (some p)).1 < 4294967296 := cnt_small s _
      have hn2 : (lSn s (some p)).1 < 4294967296 := cnt_small s _
      have P3 : Hid (∀ W, Calls Tryz.prog 10 #[.string s, .int .i64 (posV (lTl s (some p)).2), .int .i64 4] W fun e w' => e = .returned (.tuple #[.int .i64 ((lMn s (some p)).1 : Nat), .int .i64 (posV (lMn s (some p)).2)]) ∧ w' = W) := fun W => by
        have := specNumL_any s 4 (lTl s (some p)).2 W hsL (fun b h => by have := lNum_le h; omega) (by omega)
        rw [show lNum s 4 (lTl s (some p)).2 = lMn s (some p) from rfl, wrapN_small (by omega)] at this
        exact this
      have hM0 : ∀ b, (lMn s (some p)).2 = some b → b ≤ s.size := fun b hb => lNum_le hb
      have hS0 : ∀ b, (lSn s (some p)).2 = some b → b ≤ s.size := fun b hb => lNum_le hb
      have hMe : ∀ b, (lMs s (some p)).2 = some b → b ≤ s.size := fun b hb => by
        rw [lMs] at hb
        obtain ⟨_, _, _, h2⟩ := lPs_eat _ b hb
        exact h2 hM0
      have P4 : Hid (∀ W, Calls Tryz.prog 10 #[.string s, .int .i64 (posV (lMs s (some p)).2), .int .i64 4] W fun e w' => e = .returned (.tuple #[.int .i64 ((lSn s (some p)).1 : Nat), .int .i64 (posV (lSn s (some p)).2)]) ∧ w' = W) := fun W => by
        have := specNumL_any s 4 (lMs s (some p)).2 W hsL (fun b h => by have := hMe b h; omega) (by omega)
        rw [show lNum s 4 (lMs s (some p)).2 = lSn s (some p) from rfl, wrapN_small (by omega)] at this
        exact this
      have HL1 : Hid (∀ k q, (lPs s (lMn s (some p)).2 k).2 = some q → q ≤ s.size) := fun k q h => by
        obtain ⟨_, _, _, h2⟩ := lPs_eat k q h
        exact h2 hM0
      have HL2 : Hid (∀ k q, (lPs s (lSn s (some p)).2 k).2 = some q → q ≤ s.size) := fun k q h => by
        obtain ⟨_, _, _, h2⟩ := lPs_eat k q h
        exact h2 hS0
      have HB1 : Hid (∀ k, (lPs s (lMn s (some p)).2 k).1.length ≤ 1000000) := fun k => loose_few hs hM0 k
      have HB2 : Hid (∀ k, (lPs s (lSn s (some p)).2 k).1.length ≤ 1000000) := fun k => loose_few hs hS0 k
      have EM : Hid (lMs s (some p) = lPs s (lMn s (some p)).2 (lMn s (some p)).1) := by show _ = _; rw [lMs]
      have ES : Hid (lSs s (some p) = lPs s (lSn s (some p)).2 (lSn s (some p)).1) := by show _ = _; rw [lSs]
      rw [hten] at hsome
      rw [hpv]
      have e1 : (lTs s p0 (k + 1)).1 = (lTs s p0 k).1 ++ [⟨(lTn s (some p)).1, wrapN (lTl s (some p)).1, (lMs s (some p)).1, (lSs s (some p)).1⟩] := by rw [hsome]
      have HZZ : Hid (posV (lTs s p0 (k + 1)).2 = posV (lSs s (some p)).2) := by show _ = _; rw [hsome]
      have hm := HBG.out k
      clear hsome hten hpv hp hM0 hS0 hMe
      generalize lMs s (some p) = MS at *
      generalize lSs s (some p) = SS at *
      generalize (lTn s (some p)).1 = nm at *
      generalize posV (lTn s (some p)).2 = y1 at *
      generalize wrapN (lTl s (some p)).1 = lim at *
      generalize posV (lTl s (some p)).2 = y2 at *
      generalize (lMn s (some p)).1 = n1 at *
      generalize (lMn s (some p)).2 = q0 at *
      generalize (lSn s (some p)).1 = n2 at *
      generalize (lSn s (some p)).2 = q1 at *
      have E1 : Hid ((lTs s p0 (k + 1)).1 = (lTs s p0 k).1 ++ [⟨nm, lim, MS.1, SS.1⟩] ∧ (lTs s p0 (k + 1)).1.length = (lTs s p0 k).1.length + 1) := ⟨e1, by rw [e1]; simp⟩
      clear e1
      rename World => wo
      have hRw : w.heap.size + 1 + 1 < wo.heap.size := lt_of_block HG.out.1
      obtain ⟨T, ys, hV1, hV2, hV3, hV4⟩ := HG.out.2.2.1
      have hob : ∀ q, v.ownBlock = some q → (w.heap.size + 1 + 1 + 1) ≤ q ∧ q < wo.heap.size := fun q hq => hV1.lt q hq
      have HYK : Hid (ys.length = (lTs s p0 k).1.length) := by show _ = _; rw [← hV2, List.length_map]
      have HVO := hid hV1
      have HV2 := hid hV2
      have HV3 := hid hV3
      have HV4 := hid hV4
      clear hV1 hV2 hV3 hV4
      have HOB := hid hob
      clear hob
      generalize (lTs s p0 k).1.length = m at *
      go_wp2_with fail
      refine (P1.out _).mono ?_
      rintro e wx ⟨rfl, hw⟩
      replace hw := hw.symm
      subst hw
      go_wp2_with fail
      refine (P2.out _).mono ?_
      rintro e wx ⟨rfl, hw⟩
      replace hw := hw.symm
      subst hw
      go_wp2_with fail
      refine (P3.out _).mono ?_
      rintro e wx ⟨rfl, hw⟩
      replace hw := hw.symm
      subst hw
      go_wp2
      go_loopw [9, 22] (fun at_ j wr => ∃ (k1 : Nat) (v1 : Value), k1 ≤ n1 ∧ j = .int .i64 k1 ∧ at_ = .int .i64 (posV (lPs s q0 k1).2) ∧ Hid (Blk wr wo.heap.size #[.string nm, .int .i64 lim, v1, .slice none 0 0] 39 ∧ wr.ownsRow (wo.heap.size + 1) 43 2 v1 (lPs s q0 k1).1.length (flatQ (lPs s q0 k1).1) ∧ Below wo.heap.size wo wr)) (fun _ j _ => n1 - (intOf j).toNat)
      case atStart =>
        refine ⟨0, .slice none 0 0, Nat.zero_le _, rfl, by rw [lPs_zero], ?_, ?_, bnew _ _⟩
        · exact Blk.new _ _ _
        · rw [lPs_zero]; exact World.ownsRow_nil _ _ _ _
      case round =>
        obtain ⟨k1, v1, hk1, rfl, rfl, HG1⟩ := hrel
        by_cases hgo1 : k1 < n1 ∧ ∃ q, (lPs s q0 k1).2 = some q
        · skip
          obtain ⟨hlt1, b0, hq⟩ := hgo1
          have hqle := HL1.out k1 b0 hq
          have hs1 := lPs_some hq
          have hqv : posV (lPs s q0 k1).2 = (b0 : Int) := by rw [hq]; rfl
          have hpr : lPr s (some b0) = (⟨(lPart s 2 (some b0)).1, wrapN (lNum s 8 (lPart s 2 (some b0)).2).1⟩, (lNum s 8 (lPart s 2 (some b0)).2).2) := by rw [lPr]
          have Q1 : Hid (∀ W, Calls Tryz.prog 11 #[.string s, .int .i64 (b0 : Nat), .int .i64 2] W fun e w' => e = .returned (.tuple #[.string (lPart s 2 (some b0)).1, .int .i64 (posV (lPart s 2 (some b0)).2)]) ∧ w' = W) := fun W => specPartL_any s 2 (some b0) W hsL (fun b h => by cases h; omega) (by omega)
          have Q2 : Hid (∀ W, Calls Tryz.prog 10 #[.string s, .int .i64 (posV (lPart s 2 (some b0)).2), .int .i64 8] W fun e w' => e = .returned (.tuple #[.int .i64 (wrapN (lNum s 8 (lPart s 2 (some b0)).2).1), .int .i64 (posV (lNum s 8 (lPart s 2 (some b0)).2).2)]) ∧ w' = W) := fun W => specNumL_any s 8 _ W hsL (fun b h => by have := lPart_le h; omega) (by omega)
          rw [hpr] at hs1
          rw [hqv]
          have e1 : (lPs s q0 (k1 + 1)).1 = (lPs s q0 k1).1 ++ [⟨(lPart s 2 (some b0)).1, wrapN (lNum s 8 (lPart s 2 (some b0)).2).1⟩] := by rw [hs1]
          have e2 : (lPs s q0 (k1 + 1)).2 = (lNum s 8 (lPart s 2 (some b0)).2).2 := by rw [hs1]
          have hm1 := HB1.out k1
          clear hs1 hpr hqv hq
          generalize wrapN (lNum s 8 (lPart s 2 (some b0)).2).1 = nu at *
          generalize (lNum s 8 (lPart s 2 (some b0)).2).2 = b4 at *
          generalize (lPart s 2 (some b0)).1 = tx at *
          generalize (lPart s 2 (some b0)).2 = b3 at *
          have F1 : Hid (flatQ (lPs s q0 (k1 + 1)).1 = flatQ (lPs s q0 k1).1 ++ [.string tx, .int .i64 nu] ∧ (lPs s q0 (k1 + 1)).1.length = (lPs s q0 k1).1.length + 1 ∧ (lPs s q0 (k1 + 1)).2 = b4) := ⟨by rw [e1, flatQ_append]; rfl, by rw [e1]; simp, e2⟩
          clear e1 e2
          generalize posV b3 = z3 at *
          generalize hz4 : posV b4 = z4 at *
          have HZ4 : Hid (posV b4 = z4) := hz4
          clear hz4
          generalize hlen : (lPs s q0 k1).1.length = m1 at *
          clear hlen
          have hob : ∀ b, v1.ownBlock = some b → wo.heap.size + 1 ≤ b := fun b hb => (HG1.out.2.1.lt b hb).1
          have agv : v1.ownBlock ≠ some wo.heap.size := fun e => by have := hob _ e; omega
          have hRw : wo.heap.size < wr.heap.size := lt_of_block HG1.out.1
          have c1 : wr.cell? ⟨wo.heap.size, 2, none⟩ = some v1 := HG1.out.1.cell 2
          skip
          go_wp2_with fail
          refine (Q1.out _).mono ?_
          rintro e wx ⟨rfl, hw⟩
          replace hw := hw.symm
          subst hw
          go_wp2_with fail
          refine (Q2.out _).mono ?_
          rintro e wx ⟨rfl, hw⟩
          replace hw := hw.symm
          subst hw
          go_wp2_with (at_builtin; refine wpList_append_lies _ rfl _ _ _ rfl (wo.heap.size + 1) 43 i1 _ 2 24 Tryz.underlying36 HI1.out hq10 hq11 hq12 rfl (by omega) v1 m1 (flatQ (lPs s q0 k1).1) rfl (by exact HG1.out.2.1.alloc _) ⟨wr.heap.size, 0, none⟩ 1 1 [.string tx, .int .i64 nu] rfl rfl (by have := World.news_of_block (cs := #[.string tx, .int .i64 nu]) (t := 43) (fr := (0, 0)) (heap_alloc_new wr (.cells #[.string tx, .int .i64 nu] 43)); simpa using this) (by simp [Value.oneCell']) (by omega) (by simp [maxLen]; omega) (by omega) (by simp; omega) (wr.heap.size + 1) (by simp) ?_; intro g5 cap5 w5 hown5 hgrow5 hat5 hlt5; have HX5 : Hid (Blk w5 wo.heap.size #[.string nm, .int .i64 lim, v1, .slice none 0 0] 39) := (Turn.grown hgrow5).blk (HG1.out.1.alloc _) agv; have s5 := HX5.out.cell 2; have f5 := HX5.out.free 2)
          have hgg : wo.heap.size + 1 ≤ g5 := by
            rcases hat5 with h | h
            · exact hob _ h
            · omega
          refine ⟨⟨k1 + 1, (.slice (some ⟨g5, 0, none⟩) (m1 + 1) cap5), by omega, by go_num, ?_, ?_, ?_, ?_⟩, by simp [intOf]; omega⟩
          · rw [F1.out.2.2, HZ4.out]
          · have := HX5.out.set 2 (.slice (some ⟨g5, 0, none⟩) (m1 + 1) cap5); simpa using this
          · rw [F1.out.1, F1.out.2.1]; exact ((Turn.refl (· = wo.heap.size) w5).setCell (Or.inl rfl) 2 _).row hown5 (fun b hb e => by simp [Value.ownBlock] at hb; omega)
          · exact ((bto HG1.out.2.2 (bnew _ _)).grown hgrow5 (by have := HG1.out.2.2.size; simp; omega) (fun b hb => by have := hob b hb; omega)).setCell (by simp) _
        · skip
          have hgb : ¬ k1 < n1 ∨ (k1 < n1 ∧ posV (lPs s q0 k1).2 = -1) := by
            rcases Nat.lt_or_ge k1 n1 with h | h
            · have hn : (lPs s q0 k1).2 = none := by
                cases hh : (lPs s q0 k1).2 with
                | none => rfl
                | some b => exact absurd ⟨h, b, hh⟩ hgo1
              exact Or.inr ⟨h, by rw [hn]; rfl⟩
            · exact Or.inl (by omega)
          have hLL : MS = (lPs s q0 k1) := by
            rw [EM.out]
            rcases Nat.lt_or_ge k1 n1 with h | h
            · have hn : (lPs s q0 k1).2 = none := by
                cases hh : (lPs s q0 k1).2 with
                | none => rfl
                | some b => exact absurd ⟨h, b, hh⟩ hgo1
              rw [lPs_stay hn n1 (by omega)]
            · rw [show k1 = n1 by omega]
          clear hgo1 EM
          subst hLL
          obtain ⟨a1, d1, rfl⟩ := row_formT HG1.out.2.1
          generalize posV (lPs s q0 k1).2 = zz at *
          generalize (lPs s q0 k1).1 = ms at *
          rename World => w1
          have hw1o : wo.heap.size < w1.heap.size := lt_of_block HG1.out.1
          have HM1 : Hid (∀ g, (Value.slice a1 ms.length d1).ownBlock = some g → g < w1.heap.size) := fun g hg => (HG1.out.2.1.lt g hg).2
          clear HL1 HB1
          rcases hgb with hg | ⟨hg, rfl⟩
          · skip
            go_wp2_with fail
            refine (P4.out _).mono ?_
            rintro e wx ⟨rfl, hw⟩
            replace hw := hw.symm
            subst hw
            go_wp2
            go_loopw [9, 29] (fun at_ j wr => ∃ (k2 : Nat) (v2 : Value), k2 ≤ n2 ∧ j = .int .i64 k2 ∧ at_ = .int .i64 (posV (lPs s q1 k2).2) ∧ Hid (Blk wr wo.heap.size #[.string nm, .int .i64 lim, .slice a1 ms.length d1, v2] 39 ∧ wr.ownsRow (wo.heap.size + 1) 43 2 (.slice a1 ms.length d1) ms.length (flatQ ms) ∧ wr.ownsRow w1.heap.size 45 2 v2 (lPs s q1 k2).1.length (flatQ (lPs s q1 k2).1) ∧ Below wo.heap.size wo wr ∧ w1.heap.size ≤ wr.heap.size)) (fun _ j _ => n2 - (intOf j).toNat)
            case atStart =>
              refine ⟨0, .slice none 0 0, Nat.zero_le _, rfl, by rw [lPs_zero], HG1.out.1, HG1.out.2.1, ?_, HG1.out.2.2, Nat.le_refl _⟩
              rw [lPs_zero]; exact World.ownsRow_nil _ _ _ _
            case round =>
              obtain ⟨k2, v2, hk2, rfl, rfl, HG2⟩ := hrel
              by_cases hgo2 : k2 < n2 ∧ ∃ q, (lPs s q1 k2).2 = some q
              · skip
                obtain ⟨hlt1, b0, hq⟩ := hgo2
                have hqle := HL2.out k2 b0 hq
                have hs1 := lPs_some hq
                have hqv : posV (lPs s q1 k2).2 = (b0 : Int) := by rw [hq]; rfl
                have hpr : lPr s (some b0) = (⟨(lPart s 2 (some b0)).1, wrapN (lNum s 8 (lPart s 2 (some b0)).2).1⟩, (lNum s 8 (lPart s 2 (some b0)).2).2) := by rw [lPr]
                have Q1 : Hid (∀ W, Calls Tryz.prog 11 #[.string s, .int .i64 (b0 : Nat), .int .i64 2] W fun e w' => e = .returned (.tuple #[.string (lPart s 2 (some b0)).1, .int .i64 (posV (lPart s 2 (some b0)).2)]) ∧ w' = W) := fun W => specPartL_any s 2 (some b0) W hsL (fun b h => by cases h; omega) (by omega)
                have Q2 : Hid (∀ W, Calls Tryz.prog 10 #[.string s, .int .i64 (posV (lPart s 2 (some b0)).2), .int .i64 8] W fun e w' => e = .returned (.tuple #[.int .i64 (wrapN (lNum s 8 (lPart s 2 (some b0)).2).1), .int .i64 (posV (lNum s 8 (lPart s 2 (some b0)).2).2)]) ∧ w' = W) := fun W => specNumL_any s 8 _ W hsL (fun b h => by have := lPart_le h; omega) (by omega)
                rw [hpr] at hs1
                rw [hqv]
                have e1 : (lPs s q1 (k2 + 1)).1 = (lPs s q1 k2).1 ++ [⟨(lPart s 2 (some b0)).1, wrapN (lNum s 8 (lPart s 2 (some b0)).2).1⟩] := by rw [hs1]
                have e2 : (lPs s q1 (k2 + 1)).2 = (lNum s 8 (lPart s 2 (some b0)).2).2 := by rw [hs1]
                have hm1 := HB2.out k2
                clear hs1 hpr hqv hq
                generalize wrapN (lNum s 8 (lPart s 2 (some b0)).2).1 = nu at *
                generalize (lNum s 8 (lPart s 2 (some b0)).2).2 = b4 at *
                generalize (lPart s 2 (some b0)).1 = tx at *
                generalize (lPart s 2 (some b0)).2 = b3 at *
                have F1 : Hid (flatQ (lPs s q1 (k2 + 1)).1 = flatQ (lPs s q1 k2).1 ++ [.string tx, .int .i64 nu] ∧ (lPs s q1 (k2 + 1)).1.length = (lPs s q1 k2).1.length + 1 ∧ (lPs s q1 (k2 + 1)).2 = b4) := ⟨by rw [e1, flatQ_append]; rfl, by rw [e1]; simp, e2⟩
                clear e1 e2
                generalize posV b3 = z3 at *
                generalize hz4 : posV b4 = z4 at *
                have HZ4 : Hid (posV b4 = z4) := hz4
                clear hz4
                generalize hlen : (lPs s q1 k2).1.length = m1 at *
                clear hlen
                have hob : ∀ b, v2.ownBlock = some b → w1.heap.size ≤ b := fun b hb => (HG2.out.2.2.1.lt b hb).1
                have agv : v2.ownBlock ≠ some wo.heap.size := fun e => by have := hob _ e; omega
                have hRw : wo.heap.size < wr.heap.size := lt_of_block HG2.out.1
                have c1 : wr.cell? ⟨wo.heap.size, 3, none⟩ = some v2 := HG2.out.1.cell 3
                have hw2 := HG2.out.2.2.2.2
                go_wp2_with fail
                refine (Q1.out _).mono ?_
                rintro e wx ⟨rfl, hw⟩
                replace hw := hw.symm
                subst hw
                go_wp2_with fail
                refine (Q2.out _).mono ?_
                rintro e wx ⟨rfl, hw⟩
                replace hw := hw.symm
                subst hw
                go_wp2_with (at_builtin; refine wpList_append_lies _ rfl _ _ _ rfl (w1.heap.size) 45 i2 _ 2 24 Tryz.underlying37 HI2.out hq20 hq21 hq22 rfl (by omega) v2 m1 (flatQ (lPs s q1 k2).1) rfl (by exact HG2.out.2.2.1.alloc _) ⟨wr.heap.size, 0, none⟩ 1 1 [.string tx, .int .i64 nu] rfl rfl (by have := World.news_of_block (cs := #[.string tx, .int .i64 nu]) (t := 45) (fr := (0, 0)) (heap_alloc_new wr (.cells #[.string tx, .int .i64 nu] 45)); simpa using this) (by simp [Value.oneCell']) (by omega) (by simp [maxLen]; omega) (by omega) (by simp; omega) (wr.heap.size + 1) (by simp) ?_; intro g5 cap5 w5 hown5 hgrow5 hat5 hlt5; have HX5 : Hid (Blk w5 wo.heap.size #[.string nm, .int .i64 lim, .slice a1 ms.length d1, v2] 39) := (Turn.grown hgrow5).blk (HG2.out.1.alloc _) agv; have s5 := HX5.out.cell 3; have f5 := HX5.out.free 3)
                have hgg : w1.heap.size ≤ g5 := by
                  rcases hat5 with h | h
                  · exact hob _ h
                  · omega
                have hob1 := HM1.out
                refine ⟨⟨k2 + 1, (.slice (some ⟨g5, 0, none⟩) (m1 + 1) cap5), by omega, by go_num, ?_, ?_, ?_, ?_, ?_, ?_⟩, by simp [intOf]; omega⟩
                · rw [F1.out.2.2, HZ4.out]
                · have := HX5.out.set 3 (.slice (some ⟨g5, 0, none⟩) (m1 + 1) cap5); simpa using this
                · refine ((Turn.refl (· = wo.heap.size) w5).setCell (Or.inl rfl) 3 _).row ((Turn.grown hgrow5).row (HG2.out.2.1.alloc _) (fun b hb e => ?_)) (fun b hb e => ?_)
                  · have h1 := hob1 b hb; have h2 := hob b e; omega
                  · have h1 := (HG2.out.2.1.lt b hb).1; omega
                · rw [F1.out.1, F1.out.2.1]; exact ((Turn.refl (· = wo.heap.size) w5).setCell (Or.inl rfl) 3 _).row hown5 (fun b hb e => by simp [Value.ownBlock] at hb; omega)
                · exact ((bto HG2.out.2.2.2.1 (bnew _ _)).grown hgrow5 (by have := HG2.out.2.2.2.1.size; simp; omega) (fun b hb => by have := hob b hb; omega)).setCell (by simp) _
                · have h1 := hgrow5.size; have h2 := HG2.out.2.2.2.2; simp at h1 ⊢; omega
              · skip
                have hgb : ¬ k2 < n2 ∨ (k2 < n2 ∧ posV (lPs s q1 k2).2 = -1) := by
                  rcases Nat.lt_or_ge k2 n2 with h | h
                  · have hn : (lPs s q1 k2).2 = none := by
                      cases hh : (lPs s q1 k2).2 with
                      | none => rfl
                      | some b => exact absurd ⟨h, b, hh⟩ hgo2
                    exact Or.inr ⟨h, by rw [hn]; rfl⟩
                  · exact Or.inl (by omega)
                have hLL : SS = (lPs s q1 k2) := by
                  rw [ES.out]
                  rcases Nat.lt_or_ge k2 n2 with h | h
                  · have hn : (lPs s q1 k2).2 = none := by
                      cases hh : (lPs s q1 k2).2 with
                      | none => rfl
                      | some b => exact absurd ⟨h, b, hh⟩ hgo2
                    rw [lPs_stay hn n2 (by omega)]
                  · rw [show k2 = n2 by omega]
                clear hgo2 ES
                subst hLL
                obtain ⟨a2, d2, rfl⟩ := row_formT HG2.out.2.2.1
                generalize posV (lPs s q1 k2).2 = zz at *
                generalize (lPs s q1 k2).1 = ss at *
                have HV1 : Hid (wr.ownsRow (w.heap.size + 1 + 1 + 1) 39 4 v m (flatV ys)) := (Turn.but (But.of (g := (w.heap.size + 1 + 1)) HG2.out.2.2.2.1)).row HVO.out (fun g hg e => by have := (HVO.out.lt g hg).1; omega)
                have HBX : Hid (Blk wr (w.heap.size + 1 + 1) #[.int .i64 N, v] 26 ∧ Blk wr (w.heap.size + 1) #[.int .i64 0, .slice none 0 0] 26 ∧ Blk wr w.heap.size #[.int .i64 c.w, .int .i64 c.tl, .int .i64 c.ml, .int .i64 c.sh, .int .i64 c.ha, .int .i64 c.sg] 29) := ⟨HG.out.1.later HG2.out.2.2.2.1, HG.out.2.1.later HG2.out.2.2.2.1, HG.out.2.2.2.2.later HG2.out.2.2.2.1⟩
                have hwr : wo.heap.size < wr.heap.size := lt_of_block HG2.out.1
                have hw1 := HG2.out.2.2.2.2
                have x0 : wr.cell? ⟨wo.heap.size, 0, none⟩ = some (.string nm) := HG2.out.1.cell 0
                have x1 : wr.cell? ⟨wo.heap.size, 1, none⟩ = some (.int .i64 lim) := HG2.out.1.cell 1
                have x2 : wr.cell? ⟨wo.heap.size, 2, none⟩ = some (.slice a1 ms.length d1) := HG2.out.1.cell 2
                have x3 : wr.cell? ⟨wo.heap.size, 3, none⟩ = some (.slice a2 ss.length d2) := HG2.out.1.cell 3
                have x4 : wr.cell? ⟨(w.heap.size + 1 + 1), 1, none⟩ = some v := HBX.out.1.cell 1
                rcases hgb with hg | ⟨hg, rfl⟩
                · skip
                  have hob := HOB.out
                  have agv : v.ownBlock ≠ some (w.heap.size + 1 + 1) := fun e => by have := hob _ e; omega
                  go_wp2_with (at_builtin; refine wpList_append_lies _ rfl _ _ _ rfl (w.heap.size + 1 + 1 + 1) 39 i3 _ 4 72 Tryz.underlying24 HI3.out hq30 hq31 hq32 rfl (by omega) v m (flatV ys) rfl (by exact HV1.out.alloc _) ⟨wr.heap.size, 0, none⟩ 1 1 [.string nm, .int .i64 lim, .slice a1 ms.length d1, .slice a2 ss.length d2] rfl rfl (by have := World.news_of_block (cs := #[.string nm, .int .i64 lim, .slice a1 ms.length d1, .slice a2 ss.length d2]) (t := 39) (fr := (0, 0)) (heap_alloc_new wr (.cells #[.string nm, .int .i64 lim, .slice a1 ms.length d1, .slice a2 ss.length d2] 39)); simpa using this) (by simp [Value.oneCell']) (by omega) (by simp [maxLen]; omega) (by omega) (by simp; omega) (wr.heap.size + 1) (by simp) ?_; intro g5 cap5 w5 hown5 hgrow5 hat5 hlt5; have HX5 : Hid (Blk w5 (w.heap.size + 1 + 1) #[.int .i64 N, v] 26) := (Turn.grown hgrow5).blk (HBX.out.1.alloc _) agv; have s5 := HX5.out.cell 1; have f5 := HX5.out.free 1)
                  have hgg : (v.ownBlock = some g5 ∧ g5 < wo.heap.size) ∨ wr.heap.size ≤ g5 := by
                    rcases hat5 with h | h
                    · exact Or.inl ⟨h, (hob _ h).2⟩
                    · exact Or.inr (by omega)
                  have hgR : (w.heap.size + 1 + 1 + 1) ≤ g5 := by
                    rcases hgg with h | h
                    · exact (hob _ h.1).1
                    · omega
                  refine ⟨⟨k + 1, (.slice (some ⟨g5, 0, none⟩) (m + 1) cap5), by omega, by go_num, ?_, ?_, ?_, ?_, ?_, ?_⟩, by simp [intOf]; omega⟩
                  · rw [HZZ.out]
                  · have := HX5.out.set 1 (.slice (some ⟨g5, 0, none⟩) (m + 1) cap5); simpa using this
                  · exact Blk.but ((Turn.grown hgrow5).blk (HBX.out.2.1.alloc _) (fun e => by have := hob _ e; omega)) ((But.refl (w.heap.size + 1 + 1) w5).setCell 1 _) (by omega)
                  · rw [E1.out.2, E1.out.1]
                    have hset : Turn (· = (w.heap.size + 1 + 1)) w5 (w5.setCell ⟨(w.heap.size + 1 + 1), 1, none⟩ (.slice (some ⟨g5, 0, none⟩) (m + 1) cap5)) := (Turn.refl (· = (w.heap.size + 1 + 1)) w5).setCell (Or.inl rfl) 1 _
                    have hk5 : ∀ g, g < wr.heap.size → (w.heap.size + 1 + 1 + 1) ≤ g → v.ownBlock ≠ some g → (w5.setCell ⟨(w.heap.size + 1 + 1), 1, none⟩ (.slice (some ⟨g5, 0, none⟩) (m + 1) cap5)).heap[g]? = wr.heap[g]? := fun g hg hgR2 hne => by
                      rw [hset.block g (by have := hgrow5.size; simp at this; omega) (by omega), (Turn.grown hgrow5).block g (by simp; omega) hne]
                      exact (bnew _ _).block g hg
                    exact RowV.snoc (wr := wo) (w4 := wr) (M := w1.heap.size) (v := v) (T := T) (ys := ys) (t := ⟨nm, lim, ms, ss⟩) (hset.row hown5 (fun q hq e => by simp [Value.ownBlock] at hq; omega)) HV2.out HYK.out HV3.out HV4.out (by omega) (by omega)
                      (fun g hg hgR2 hne => (hk5 g (by omega) hgR2 hne).trans (HG2.out.2.2.2.1.block g hg))
                      (fun g hg hg4 => hk5 g hg4 (by omega) (fun e => by have := (hob _ e).2; omega))
                      ((pairs_of_row HG2.out.2.1).mono (by omega)) (fun g o ha => HM1.out g (by rw [ha]; rfl)) (pairs_of_row HG2.out.2.2.1) hgg (by omega) (by omega)
                  · exact ((bto (bto HG.out.2.2.2.1 HG2.out.2.2.2.1) (bnew _ _)).grown hgrow5 (by have := HG.out.2.2.2.1.size; have := HG2.out.2.2.2.1.size; simp; omega) (fun q hq => by have := hob q hq; omega)).setCell (by simp; omega) _
                  · exact Blk.but ((Turn.grown hgrow5).blk (HBX.out.2.2.alloc _) (fun e => by have := hob _ e; omega)) ((But.refl (w.heap.size + 1 + 1) w5).setCell 1 _) (by omega)
                · skip
                  have hob := HOB.out
                  have agv : v.ownBlock ≠ some (w.heap.size + 1 + 1) := fun e => by have := hob _ e; omega
                  go_wp2_with (at_builtin; refine wpList_append_lies _ rfl _ _ _ rfl (w.heap.size + 1 + 1 + 1) 39 i3 _ 4 72 Tryz.underlying24 HI3.out hq30 hq31 hq32 rfl (by omega) v m (flatV ys) rfl (by exact HV1.out.alloc _) ⟨wr.heap.size, 0, none⟩ 1 1 [.string nm, .int .i64 lim, .slice a1 ms.length d1, .slice a2 ss.length d2] rfl rfl (by have := World.news_of_block (cs := #[.string nm, .int .i64 lim, .slice a1 ms.length d1, .slice a2 ss.length d2]) (t := 39) (fr := (0, 0)) (heap_alloc_new wr (.cells #[.string nm, .int .i64 lim, .slice a1 ms.length d1, .slice a2 ss.length d2] 39)); simpa using this) (by simp [Value.oneCell']) (by omega) (by simp [maxLen]; omega) (by omega) (by simp; omega) (wr.heap.size + 1) (by simp) ?_; intro g5 cap5 w5 hown5 hgrow5 hat5 hlt5; have HX5 : Hid (Blk w5 (w.heap.size + 1 + 1) #[.int .i64 N, v] 26) := (Turn.grown hgrow5).blk (HBX.out.1.alloc _) agv; have s5 := HX5.out.cell 1; have f5 := HX5.out.free 1)
                  have hgg : (v.ownBlock = some g5 ∧ g5 < wo.heap.size) ∨ wr.heap.size ≤ g5 := by
                    rcases hat5 with h | h
                    · exact Or.inl ⟨h, (hob _ h).2⟩
                    · exact Or.inr (by omega)
                  have hgR : (w.heap.size + 1 + 1 + 1) ≤ g5 := by
                    rcases hgg with h | h
                    · exact (hob _ h.1).1
                    · omega
                  refine ⟨⟨k + 1, (.slice (some ⟨g5, 0, none⟩) (m + 1) cap5), by omega, by go_num, ?_, ?_, ?_, ?_, ?_, ?_⟩, by simp [intOf]; omega⟩
                  · rw [HZZ.out]
                  · have := HX5.out.set 1 (.slice (some ⟨g5, 0, none⟩) (m + 1) cap5); simpa using this
                  · exact Blk.but ((Turn.grown hgrow5).blk (HBX.out.2.1.alloc _) (fun e => by have := hob _ e; omega)) ((But.refl (w.heap.size + 1 + 1) w5).setCell 1 _) (by omega)
                  · rw [E1.out.2, E1.out.1]
                    have hset : Turn (· = (w.heap.size + 1 + 1)) w5 (w5.setCell ⟨(w.heap.size + 1 + 1), 1, none⟩ (.slice (some ⟨g5, 0, none⟩) (m + 1) cap5)) := (Turn.refl (· = (w.heap.size + 1 + 1)) w5).setCell (Or.inl rfl) 1 _
                    have hk5 : ∀ g, g < wr.heap.size → (w.heap.size + 1 + 1 + 1) ≤ g → v.ownBlock ≠ some g → (w5.setCell ⟨(w.heap.size + 1 + 1), 1, none⟩ (.slice (some ⟨g5, 0, none⟩) (m + 1) cap5)).heap[g]? = wr.heap[g]? := fun g hg hgR2 hne => by
                      rw [hset.block g (by have := hgrow5.size; simp at this; omega) (by omega), (Turn.grown hgrow5).block g (by simp; omega) hne]
                      exact (bnew _ _).block g hg
                    exact RowV.snoc (wr := wo) (w4 := wr) (M := w1.heap.size) (v := v) (T := T) (ys := ys) (t := ⟨nm, lim, ms, ss⟩) (hset.row hown5 (fun q hq e => by simp [Value.ownBlock] at hq; omega)) HV2.out HYK.out HV3.out HV4.out (by omega) (by omega)
                      (fun g hg hgR2 hne => (hk5 g (by omega) hgR2 hne).trans (HG2.out.2.2.2.1.block g hg))
                      (fun g hg hg4 => hk5 g hg4 (by omega) (fun e => by have := (hob _ e).2; omega))
                      ((pairs_of_row HG2.out.2.1).mono (by omega)) (fun g o ha => HM1.out g (by rw [ha]; rfl)) (pairs_of_row HG2.out.2.2.1) hgg (by omega) (by omega)
                  · exact ((bto (bto HG.out.2.2.2.1 HG2.out.2.2.2.1) (bnew _ _)).grown hgrow5 (by have := HG.out.2.2.2.1.size; have := HG2.out.2.2.2.1.size; simp; omega) (fun q hq => by have := hob q hq; omega)).setCell (by simp; omega) _
                  · exact Blk.but ((Turn.grown hgrow5).blk (HBX.out.2.2.alloc _) (fun e => by have := hob _ e; omega)) ((But.refl (w.heap.size + 1 + 1) w5).setCell 1 _) (by omega)
          · skip
            go_wp2_with fail
            refine (P4.out _).mono ?_
            rintro e wx ⟨rfl, hw⟩
            replace hw := hw.symm
            subst hw
            go_wp2
            go_loopw [9, 29] (fun at_ j wr => ∃ (k2 : Nat) (v2 : Value), k2 ≤ n2 ∧ j = .int .i64 k2 ∧ at_ = .int .i64 (posV (lPs s q1 k2).2) ∧ Hid (Blk wr wo.heap.size #[.string nm, .int .i64 lim, .slice a1 ms.length d1, v2] 39 ∧ wr.ownsRow (wo.heap.size + 1) 43 2 (.slice a1 ms.length d1) ms.length (flatQ ms) ∧ wr.ownsRow w1.heap.size 45 2 v2 (lPs s q1 k2).1.length (flatQ (lPs s q1 k2).1) ∧ Below wo.heap.size wo wr ∧ w1.heap.size ≤ wr.heap.size)) (fun _ j _ => n2 - (intOf j).toNat)
            case atStart =>
              refine ⟨0, .slice none 0 0, Nat.zero_le _, rfl, by rw [lPs_zero], HG1.out.1, HG1.out.2.1, ?_, HG1.out.2.2, Nat.le_refl _⟩
              rw [lPs_zero]; exact World.ownsRow_nil _ _ _ _
            case round =>
              obtain ⟨k2, v2, hk2, rfl, rfl, HG2⟩ := hrel
              by_cases hgo2 : k2 < n2 ∧ ∃ q, (lPs s q1 k2).2 = some q
              · skip
                obtain ⟨hlt1, b0, hq⟩ := hgo2
                have hqle := HL2.out k2 b0 hq
                have hs1 := lPs_some hq
                have hqv : posV (lPs s q1 k2).2 = (b0 : Int) := by rw [hq]; rfl
                have hpr : lPr s (some b0) = (⟨(lPart s 2 (some b0)).1, wrapN (lNum s 8 (lPart s 2 (some b0)).2).1⟩, (lNum s 8 (lPart s 2 (some b0)).2).2) := by rw [lPr]
                have Q1 : Hid (∀ W, Calls Tryz.prog 11 #[.string s, .int .i64 (b0 : Nat), .int .i64 2] W fun e w' => e = .returned (.tuple #[.string (lPart s 2 (some b0)).1, .int .i64 (posV (lPart s 2 (some b0)).2)]) ∧ w' = W) := fun W => specPartL_any s 2 (some b0) W hsL (fun b h => by cases h; omega) (by omega)
                have Q2 : Hid (∀ W, Calls Tryz.prog 10 #[.string s, .int .i64 (posV (lPart s 2 (some b0)).2), .int .i64 8] W fun e w' => e = .returned (.tuple #[.int .i64 (wrapN (lNum s 8 (lPart s 2 (some b0)).2).1), .int .i64 (posV (lNum s 8 (lPart s 2 (some b0)).2).2)]) ∧ w' = W) := fun W => specNumL_any s 8 _ W hsL (fun b h => by have := lPart_le h; omega) (by omega)
                rw [hpr] at hs1
                rw [hqv]
                have e1 : (lPs s q1 (k2 + 1)).1 = (lPs s q1 k2).1 ++ [⟨(lPart s 2 (some b0)).1, wrapN (lNum s 8 (lPart s 2 (some b0)).2).1⟩] := by rw [hs1]
                have e2 : (lPs s q1 (k2 + 1)).2 = (lNum s 8 (lPart s 2 (some b0)).2).2 := by rw [hs1]
                have hm1 := HB2.out k2
                clear hs1 hpr hqv hq
                generalize wrapN (lNum s 8 (lPart s 2 (some b0)).2).1 = nu at *
                generalize (lNum s 8 (lPart s 2 (some b0)).2).2 = b4 at *
                generalize (lPart s 2 (some b0)).1 = tx at *
                generalize (lPart s 2 (some b0)).2 = b3 at *
                have F1 : Hid (flatQ (lPs s q1 (k2 + 1)).1 = flatQ (lPs s q1 k2).1 ++ [.string tx, .int .i64 nu] ∧ (lPs s q1 (k2 + 1)).1.length = (lPs s q1 k2).1.length + 1 ∧ (lPs s q1 (k2 + 1)).2 = b4) := ⟨by rw [e1, flatQ_append]; rfl, by rw [e1]; simp, e2⟩
                clear e1 e2
                generalize posV b3 = z3 at *
                generalize hz4 : posV b4 = z4 at *
                have HZ4 : Hid (posV b4 = z4) := hz4
                clear hz4
                generalize hlen : (lPs s q1 k2).1.length = m1 at *
                clear hlen
                have hob : ∀ b, v2.ownBlock = some b → w1.heap.size ≤ b := fun b hb => (HG2.out.2.2.1.lt b hb).1
                have agv : v2.ownBlock ≠ some wo.heap.size := fun e => by have := hob _ e; omega
                have hRw : wo.heap.size < wr.heap.size := lt_of_block HG2.out.1
                have c1 : wr.cell? ⟨wo.heap.size, 3, none⟩ = some v2 := HG2.out.1.cell 3
                have hw2 := HG2.out.2.2.2.2
                go_wp2_with fail
                refine (Q1.out _).mono ?_
                rintro e wx ⟨rfl, hw⟩
                replace hw := hw.symm
                subst hw
                go_wp2_with fail
                refine (Q2.out _).mono ?_
                rintro e wx ⟨rfl, hw⟩
                replace hw := hw.symm
                subst hw
                go_wp2_with (at_builtin; refine wpList_append_lies _ rfl _ _ _ rfl (w1.heap.size) 45 i2 _ 2 24 Tryz.underlying37 HI2.out hq20 hq21 hq22 rfl (by omega) v2 m1 (flatQ (lPs s q1 k2).1) rfl (by exact HG2.out.2.2.1.alloc _) ⟨wr.heap.size, 0, none⟩ 1 1 [.string tx, .int .i64 nu] rfl rfl (by have := World.news_of_block (cs := #[.string tx, .int .i64 nu]) (t := 45) (fr := (0, 0)) (heap_alloc_new wr (.cells #[.string tx, .int .i64 nu] 45)); simpa using this) (by simp [Value.oneCell']) (by omega) (by simp [maxLen]; omega) (by omega) (by simp; omega) (wr.heap.size + 1) (by simp) ?_; intro g5 cap5 w5 hown5 hgrow5 hat5 hlt5; have HX5 : Hid (Blk w5 wo.heap.size #[.string nm, .int .i64 lim, .slice a1 ms.length d1, v2] 39) := (Turn.grown hgrow5).blk (HG2.out.1.alloc _) agv; have s5 := HX5.out.cell 3; have f5 := HX5.out.free 3)
                have hgg : w1.heap.size ≤ g5 := by
                  rcases hat5 with h | h
                  · exact hob _ h
                  · omega
                have hob1 := HM1.out
                refine ⟨⟨k2 + 1, (.slice (some ⟨g5, 0, none⟩) (m1 + 1) cap5), by omega, by go_num, ?_, ?_, ?_, ?_, ?_, ?_⟩, by simp [intOf]; omega⟩
                · rw [F1.out.2.2, HZ4.out]
                · have := HX5.out.set 3 (.slice (some ⟨g5, 0, none⟩) (m1 + 1) cap5); simpa using this
                · refine ((Turn.refl (· = wo.heap.size) w5).setCell (Or.inl rfl) 3 _).row ((Turn.grown hgrow5).row (HG2.out.2.1.alloc _) (fun b hb e => ?_)) (fun b hb e => ?_)
                  · have h1 := hob1 b hb; have h2 := hob b e; omega
                  · have h1 := (HG2.out.2.1.lt b hb).1; omega
                · rw [F1.out.1, F1.out.2.1]; exact ((Turn.refl (· = wo.heap.size) w5).setCell (Or.inl rfl) 3 _).row hown5 (fun b hb e => by simp [Value.ownBlock] at hb; omega)
                · exact ((bto HG2.out.2.2.2.1 (bnew _ _)).grown hgrow5 (by have := HG2.out.2.2.2.1.size; simp; omega) (fun b hb => by have := hob b hb; omega)).setCell (by simp) _
                · have h1 := hgrow5.size; have h2 := HG2.out.2.2.2.2; simp at h1 ⊢; omega
              · skip
                have hgb : ¬ k2 < n2 ∨ (k2 < n2 ∧ posV (lPs s q1 k2).2 = -1) := by
                  rcases Nat.lt_or_ge k2 n2 with h | h
                  · have hn : (lPs s q1 k2).2 = none := by
                      cases hh : (lPs s q1 k2).2 with
                      | none => rfl
                      | some b => exact absurd ⟨h, b, hh⟩ hgo2
                    exact Or.inr ⟨h, by rw [hn]; rfl⟩
                  · exact Or.inl (by omega)
                have hLL : SS = (lPs s q1 k2) := by
                  rw [ES.out]
                  rcases Nat.lt_or_ge k2 n2 with h | h
                  · have hn : (lPs s q1 k2).2 = none := by
                      cases hh : (lPs s q1 k2).2 with
                      | none => rfl
                      | some b => exact absurd ⟨h, b, hh⟩ hgo2
                    rw [lPs_stay hn n2 (by omega)]
                  · rw [show k2 = n2 by omega]
                clear hgo2 ES
                subst hLL
                obtain ⟨a2, d2, rfl⟩ := row_formT HG2.out.2.2.1
                generalize posV (lPs s q1 k2).2 = zz at *
                generalize (lPs s q1 k2).1 = ss at *
                have HV1 : Hid (wr.ownsRow (w.heap.size + 1 + 1 + 1) 39 4 v m (flatV ys)) := (Turn.but (But.of (g := (w.heap.size + 1 + 1)) HG2.out.2.2.2.1)).row HVO.out (fun g hg e => by have := (HVO.out.lt g hg).1; omega)
                have HBX : Hid (Blk wr (w.heap.size + 1 + 1) #[.int .i64 N, v] 26 ∧ Blk wr (w.heap.size + 1) #[.int .i64 0, .slice none 0 0] 26 ∧ Blk wr w.heap.size #[.int .i64 c.w, .int .i64 c.tl, .int .i64 c.ml, .int .i64 c.sh, .int .i64 c.ha, .int .i64 c.sg] 29) := ⟨HG.out.1.later HG2.out.2.2.2.1, HG.out.2.1.later HG2.out.2.2.2.1, HG.out.2.2.2.2.later HG2.out.2.2.2.1⟩
                have hwr : wo.heap.size < wr.heap.size := lt_of_block HG2.out.1
                have hw1 := HG2.out.2.2.2.2
                have x0 : wr.cell? ⟨wo.heap.size, 0, none⟩ = some (.string nm) := HG2.out.1.cell 0
                have x1 : wr.cell? ⟨wo.heap.size, 1, none⟩ = some (.int .i64 lim) := HG2.out.1.cell 1
                have x2 : wr.cell? ⟨wo.heap.size, 2, none⟩ = some (.slice a1 ms.length d1) := HG2.out.1.cell 2
                have x3 : wr.cell? ⟨wo.heap.size, 3, none⟩ = some (.slice a2 ss.length d2) := HG2.out.1.cell 3
                have x4 : wr.cell? ⟨(w.heap.size + 1 + 1), 1, none⟩ = some v := HBX.out.1.cell 1
                rcases hgb with hg | ⟨hg, rfl⟩
                · skip
                  have hob := HOB.out
                  have agv : v.ownBlock ≠ some (w.heap.size + 1 + 1) := fun e => by have := hob _ e; omega
                  go_wp2_with (at_builtin; refine wpList_append_lies _ rfl _ _ _ rfl (w.heap.size + 1 + 1 + 1) 39 i3 _ 4 72 Tryz.underlying24 HI3.out hq30 hq31 hq32 rfl (by omega) v m (flatV ys) rfl (by exact HV1.out.alloc _) ⟨wr.heap.size, 0, none⟩ 1 1 [.string nm, .int .i64 lim, .slice a1 ms.length d1, .slice a2 ss.length d2] rfl rfl (by have := World.news_of_block (cs := #[.string nm, .int .i64 lim, .slice a1 ms.length d1, .slice a2 ss.length d2]) (t := 39) (fr := (0, 0)) (heap_alloc_new wr (.cells #[.string nm, .int .i64 lim, .slice a1 ms.length d1, .slice a2 ss.length d2] 39)); simpa using this) (by simp [Value.oneCell']) (by omega) (by simp [maxLen]; omega) (by omega) (by simp; omega) (wr.heap.size + 1) (by simp) ?_; intro g5 cap5 w5 hown5 hgrow5 hat5 hlt5; have HX5 : Hid (Blk w5 (w.heap.size + 1 + 1) #[.int .i64 N, v] 26) := (Turn.grown hgrow5).blk (HBX.out.1.alloc _) agv; have s5 := HX5.out.cell 1; have f5 := HX5.out.free 1)
                  have hgg : (v.ownBlock = some g5 ∧ g5 < wo.heap.size) ∨ wr.heap.size ≤ g5 := by
                    rcases hat5 with h | h
                    · exact Or.inl ⟨h, (hob _ h).2⟩
                    · exact Or.inr (by omega)
                  have hgR : (w.heap.size + 1 + 1 + 1) ≤ g5 := by
                    rcases hgg with h | h
                    · exact (hob _ h.1).1
                    · omega
                  refine ⟨⟨k + 1, (.slice (some ⟨g5, 0, none⟩) (m + 1) cap5), by omega, by go_num, ?_, ?_, ?_, ?_, ?_, ?_⟩, by simp [intOf]; omega⟩
                  · rw [HZZ.out]
                  · have := HX5.out.set 1 (.slice (some ⟨g5, 0, none⟩) (m + 1) cap5); simpa using this
                  · exact Blk.but ((Turn.grown hgrow5).blk (HBX.out.2.1.alloc _) (fun e => by have := hob _ e; omega)) ((But.refl (w.heap.size + 1 + 1) w5).setCell 1 _) (by omega)
                  · rw [E1.out.2, E1.out.1]
                    have hset : Turn (· = (w.heap.size + 1 + 1)) w5 (w5.setCell ⟨(w.heap.size + 1 + 1), 1, none⟩ (.slice (some ⟨g5, 0, none⟩) (m + 1) cap5)) := (Turn.refl (· = (w.heap.size + 1 + 1)) w5).setCell (Or.inl rfl) 1 _
                    have hk5 : ∀ g, g < wr.heap.size → (w.heap.size + 1 + 1 + 1) ≤ g → v.ownBlock ≠ some g → (w5.setCell ⟨(w.heap.size + 1 + 1), 1, none⟩ (.slice (some ⟨g5, 0, none⟩) (m + 1) cap5)).heap[g]? = wr.heap[g]? := fun g hg hgR2 hne => by
                      rw [hset.block g (by have := hgrow5.size; simp at this; omega) (by omega), (Turn.grown hgrow5).block g (by simp; omega) hne]
                      exact (bnew _ _).block g hg
                    exact RowV.snoc (wr := wo) (w4 := wr) (M := w1.heap.size) (v := v) (T := T) (ys := ys) (t := ⟨nm, lim, ms, ss⟩) (hset.row hown5 (fun q hq e => by simp [Value.ownBlock] at hq; omega)) HV2.out HYK.out HV3.out HV4.out (by omega) (by omega)
                      (fun g hg hgR2 hne => (hk5 g (by omega) hgR2 hne).trans (HG2.out.2.2.2.1.block g hg))
                      (fun g hg hg4 => hk5 g hg4 (by omega) (fun e => by have := (hob _ e).2; omega))
                      ((pairs_of_row HG2.out.2.1).mono (by omega)) (fun g o ha => HM1.out g (by rw [ha]; rfl)) (pairs_of_row HG2.out.2.2.1) hgg (by omega) (by omega)
                  · exact ((bto (bto HG.out.2.2.2.1 HG2.out.2.2.2.1) (bnew _ _)).grown hgrow5 (by have := HG.out.2.2.2.1.size; have := HG2.out.2.2.2.1.size; simp; omega) (fun q hq => by have := hob q hq; omega)).setCell (by simp; omega) _
                  · exact Blk.but ((Turn.grown hgrow5).blk (HBX.out.2.2.alloc _) (fun e => by have := hob _ e; omega)) ((But.refl (w.heap.size + 1 + 1) w5).setCell 1 _) (by omega)
                · skip
                  have hob := HOB.out
                  have agv : v.ownBlock ≠ some (w.heap.size + 1 + 1) := fun e => by have := hob _ e; omega
                  go_wp2_with (at_builtin; refine wpList_append_lies _ rfl _ _ _ rfl (w.heap.size + 1 + 1 + 1) 39 i3 _ 4 72 Tryz.underlying24 HI3.out hq30 hq31 hq32 rfl (by omega) v m (flatV ys) rfl (by exact HV1.out.alloc _) ⟨wr.heap.size, 0, none⟩ 1 1 [.string nm, .int .i64 lim, .slice a1 ms.length d1, .slice a2 ss.length d2] rfl rfl (by have := World.news_of_block (cs := #[.string nm, .int .i64 lim, .slice a1 ms.length d1, .slice a2 ss.length d2]) (t := 39) (fr := (0, 0)) (heap_alloc_new wr (.cells #[.string nm, .int .i64 lim, .slice a1 ms.length d1, .slice a2 ss.length d2] 39)); simpa using this) (by simp [Value.oneCell']) (by omega) (by simp [maxLen]; omega) (by omega) (by simp; omega) (wr.heap.size + 1) (by simp) ?_; intro g5 cap5 w5 hown5 hgrow5 hat5 hlt5; have HX5 : Hid (Blk w5 (w.heap.size + 1 + 1) #[.int .i64 N, v] 26) := (Turn.grown hgrow5).blk (HBX.out.1.alloc _) agv; have s5 := HX5.out.cell 1; have f5 := HX5.out.free 1)
                  have hgg : (v.ownBlock = some g5 ∧ g5 < wo.heap.size) ∨ wr.heap.size ≤ g5 := by
                    rcases hat5 with h | h
                    · exact Or.inl ⟨h, (hob _ h).2⟩
                    · exact Or.inr (by omega)
                  have hgR : (w.heap.size + 1 + 1 + 1) ≤ g5 := by
                    rcases hgg with h | h
                    · exact (hob _ h.1).1
                    · omega
                  refine ⟨⟨k + 1, (.slice (some ⟨g5, 0, none⟩) (m + 1) cap5), by omega, by go_num, ?_, ?_, ?_, ?_, ?_, ?_⟩, by simp [intOf]; omega⟩
                  · rw [HZZ.out]
                  · have := HX5.out.set 1 (.slice (some ⟨g5, 0, none⟩) (m + 1) cap5); simpa using this
                  · exact Blk.but ((Turn.grown hgrow5).blk (HBX.out.2.1.alloc _) (fun e => by have := hob _ e; omega)) ((But.refl (w.heap.size + 1 + 1) w5).setCell 1 _) (by omega)
                  · rw [E1.out.2, E1.out.1]
                    have hset : Turn (· = (w.heap.size + 1 + 1)) w5 (w5.setCell ⟨(w.heap.size + 1 + 1), 1, none⟩ (.slice (some ⟨g5, 0, none⟩) (m + 1) cap5)) := (Turn.refl (· = (w.heap.size + 1 + 1)) w5).setCell (Or.inl rfl) 1 _
                    have hk5 : ∀ g, g < wr.heap.size → (w.heap.size + 1 + 1 + 1) ≤ g → v.ownBlock ≠ some g → (w5.setCell ⟨(w.heap.size + 1 + 1), 1, none⟩ (.slice (some ⟨g5, 0, none⟩) (m + 1) cap5)).heap[g]? = wr.heap[g]? := fun g hg hgR2 hne => by
                      rw [hset.block g (by have := hgrow5.size; simp at this; omega) (by omega), (Turn.grown hgrow5).block g (by simp; omega) hne]
                      exact (bnew _ _).block g hg
                    exact RowV.snoc (wr := wo) (w4 := wr) (M := w1.heap.size) (v := v) (T := T) (ys := ys) (t := ⟨nm, lim, ms, ss⟩) (hset.row hown5 (fun q hq e => by simp [Value.ownBlock] at hq; omega)) HV2.out HYK.out HV3.out HV4.out (by omega) (by omega)
                      (fun g hg hgR2 hne => (hk5 g (by omega) hgR2 hne).trans (HG2.out.2.2.2.1.block g hg))
                      (fun g hg hg4 => hk5 g hg4 (by omega) (fun e => by have := (hob _ e).2; omega))
                      ((pairs_of_row HG2.out.2.1).mono (by omega)) (fun g o ha => HM1.out g (by rw [ha]; rfl)) (pairs_of_row HG2.out.2.2.1) hgg (by omega) (by omega)
                  · exact ((bto (bto HG.out.2.2.2.1 HG2.out.2.2.2.1) (bnew _ _)).grown hgrow5 (by have := HG.out.2.2.2.1.size; have := HG2.out.2.2.2.1.size; simp; omega) (fun q hq => by have := hob q hq; omega)).setCell (by simp; omega) _
                  · exact Blk.but ((Turn.grown hgrow5).blk (HBX.out.2.2.alloc _) (fun e => by have := hob _ e; omega)) ((But.refl (w.heap.size + 1 + 1) w5).setCell 1 _) (by omega)
    · skip
      have hgb : ¬ k < n ∨ (k < n ∧ posV (lTs s p0 k).2 = -1) := by
        rcases Nat.lt_or_ge k n with h | h
        · have hn : (lTs s p0 k).2 = none := by
            cases hh : (lTs s p0 k).2 with
            | none => rfl
            | some b => exact absurd ⟨h, b, hh⟩ hgo
          exact Or.inr ⟨h, by rw [hn]; rfl⟩
        · exact Or.inl (by omega)
      have hLL : LL = (lTs s p0 k).1 := by
        rw [HLB.out]
        rcases Nat.lt_or_ge k n with h | h
        · have hn : (lTs s p0 k).2 = none := by
            cases hh : (lTs s p0 k).2 with
            | none => rfl
            | some b => exact absurd ⟨h, b, hh⟩ hgo
          rw [lTs_stay hn n (by omega)]
        · rw [show k = n by omega]
      rw [← hLL] at HG
      clear hgo hLL HLB
      obtain ⟨ra, rc, rfl⟩ := HG.out.2.2.1.row
      have HB0 : Hid (Blk wr (w.heap.size + 1 + 1) #[.int .i64 N, .slice ra LL.length rc] 26 ∧ Blk wr (w.heap.size + 1) #[.int .i64 0, .slice none 0 0] 26 ∧ TensOwn wr (w.heap.size + 1 + 1 + 1) ra LL ∧ Below w.heap.size w wr ∧ Blk wr w.heap.size #[.int .i64 c.w, .int .i64 c.tl, .int .i64 c.ml, .int .i64 c.sh, .int .i64 c.ha, .int .i64 c.sg] 29) := ⟨HG.out.1, HG.out.2.1, HG.out.2.2.1.own rfl, HG.out.2.2.2.1, HG.out.2.2.2.2⟩
      have x0 : wr.cell? ⟨(w.heap.size + 1 + 1), 0, none⟩ = some (.int .i64 N) := HB0.out.1.cell 0
      have x1 : wr.cell? ⟨(w.heap.size + 1 + 1), 1, none⟩ = some (.slice ra LL.length rc) := HB0.out.1.cell 1
      have y0 : wr.cell? ⟨(w.heap.size + 1), 0, none⟩ = some (.int .i64 0) := HB0.out.2.1.cell 0
      have y1 : wr.cell? ⟨(w.heap.size + 1), 1, none⟩ = some (.slice none 0 0) := HB0.out.2.1.cell 1
      have f0 := HB0.out.2.1.free 0
      have f1 := HB0.out.2.1.free 1
      have cc0 : wr.cell? ⟨w.heap.size, 0, none⟩ = some (.int .i64 c.w) := HB0.out.2.2.2.2.cell 0
      have cc1 : wr.cell? ⟨w.heap.size, 1, none⟩ = some (.int .i64 c.tl) := HB0.out.2.2.2.2.cell 1
      have cc2 : wr.cell? ⟨w.heap.size, 2, none⟩ = some (.int .i64 c.ml) := HB0.out.2.2.2.2.cell 2
      have cc3 : wr.cell? ⟨w.heap.size, 3, none⟩ = some (.int .i64 c.sh) := HB0.out.2.2.2.2.cell 3
      have cc4 : wr.cell? ⟨w.heap.size, 4, none⟩ = some (.int .i64 c.ha) := HB0.out.2.2.2.2.cell 4
      have cc5 : wr.cell? ⟨w.heap.size, 5, none⟩ = some (.int .i64 c.sg) := HB0.out.2.2.2.2.cell 5
      clear HG
      generalize posV (lTs s p0 k).2 = zz at *
      by_cases hs0 : s.size = 0
      · have E : Hid (decS c s = (0, 0, [], false)) := HNOT.out (fun h => h.1 hs0)
        have hd : (s.toList == []) = true := by rw [bemptyS]; exact decide_eq_true hs0
        have hde : s.toList.isEmpty = true := by simpa using hd
        clear hs0
        rcases hgb with hg | ⟨hg, rfl⟩
        · skip
          go_wp2
          refine bodyPost_ret (v := .tuple #[.int .i64 0, .agg #[.int .i64 0, .slice none 0 0], .bool false]) (by simp [results, Tryz.results4, go_sem, y0, y1]) rfl (HPOST.out _ _ _ E.out ⟨none, 0, rfl, Or.inl rfl, ?_⟩)
          exact (HB0.out.2.2.2.1.setCell (by simp) _).setCell (by simp) _
        · skip
          go_wp2
          refine bodyPost_ret (v := .tuple #[.int .i64 0, .agg #[.int .i64 0, .slice none 0 0], .bool false]) (by simp [results, Tryz.results4, go_sem, y0, y1]) rfl (HPOST.out _ _ _ E.out ⟨none, 0, rfl, Or.inl rfl, ?_⟩)
          exact (HB0.out.2.2.2.1.setCell (by simp) _).setCell (by simp) _
      · have hd : (s.toList == []) = false := by rw [bemptyS]; exact decide_eq_false hs0
        have hde : s.toList.isEmpty = false := by simpa using hd
        cases SB with
        | false =>
          have E : Hid (decS c s = (0, 0, [], false)) := HNOT.out (fun h => by simp at h)
          clear hs0
          rcases hgb with hg | ⟨hg, rfl⟩
          · skip
            go_wp2_with fail
            refine (HSO.out _ ra rc HB0.out.2.2.1.tens).mono ?_
            rintro e w3 ⟨rfl, hb3⟩
            have HB3 : Hid (Blk w3 (w.heap.size + 1 + 1) #[.int .i64 N, .slice ra LL.length rc] 26 ∧ Blk w3 (w.heap.size + 1) #[.int .i64 0, .slice none 0 0] 26 ∧ TensOwn w3 (w.heap.size + 1 + 1 + 1) ra LL ∧ Below w.heap.size w w3 ∧ Blk w3 w.heap.size #[.int .i64 c.w, .int .i64 c.tl, .int .i64 c.ml, .int .i64 c.sh, .int .i64 c.ha, .int .i64 c.sg] 29) := ⟨HB0.out.1.later hb3, HB0.out.2.1.later hb3, HB0.out.2.2.1.later hb3, bto HB0.out.2.2.2.1 hb3, HB0.out.2.2.2.2.later hb3⟩
            clear x0 x1 y0 y1 f0 f1 cc0 cc1 cc2 cc3 cc4 cc5 hb3
            have x0 : w3.cell? ⟨(w.heap.size + 1 + 1), 0, none⟩ = some (.int .i64 N) := HB3.out.1.cell 0
            have x1 : w3.cell? ⟨(w.heap.size + 1 + 1), 1, none⟩ = some (.slice ra LL.length rc) := HB3.out.1.cell 1
            have y0 : w3.cell? ⟨(w.heap.size + 1), 0, none⟩ = some (.int .i64 0) := HB3.out.2.1.cell 0
            have y1 : w3.cell? ⟨(w.heap.size + 1), 1, none⟩ = some (.slice none 0 0) := HB3.out.2.1.cell 1
            have f0 := HB3.out.2.1.free 0
            have f1 := HB3.out.2.1.free 1
            have cc0 : w3.cell? ⟨w.heap.size, 0, none⟩ = some (.int .i64 c.w) := HB3.out.2.2.2.2.cell 0
            have cc1 : w3.cell? ⟨w.heap.size, 1, none⟩ = some (.int .i64 c.tl) := HB3.out.2.2.2.2.cell 1
            have cc2 : w3.cell? ⟨w.heap.size, 2, none⟩ = some (.int .i64 c.ml) := HB3.out.2.2.2.2.cell 2
            have cc3 : w3.cell? ⟨w.heap.size, 3, none⟩ = some (.int .i64 c.sh) := HB3.out.2.2.2.2.cell 3
            have cc4 : w3.cell? ⟨w.heap.size, 4, none⟩ = some (.int .i64 c.ha) := HB3.out.2.2.2.2.cell 4
            have cc5 : w3.cell? ⟨w.heap.size, 5, none⟩ = some (.int .i64 c.sg) := HB3.out.2.2.2.2.cell 5
            go_wp2
            refine bodyPost_ret (v := .tuple #[.int .i64 0, .agg #[.int .i64 0, .slice none 0 0], .bool false]) (by simp [results, Tryz.results4, go_sem, y0, y1]) rfl (HPOST.out _ _ _ E.out ⟨none, 0, rfl, Or.inl rfl, ?_⟩)
            exact (HB3.out.2.2.2.1.setCell (by simp) _).setCell (by simp) _
          · skip
            go_wp2_with fail
            refine (HSO.out _ ra rc HB0.out.2.2.1.tens).mono ?_
            rintro e w3 ⟨rfl, hb3⟩
            have HB3 : Hid (Blk w3 (w.heap.size + 1 + 1) #[.int .i64 N, .slice ra LL.length rc] 26 ∧ Blk w3 (w.heap.size + 1) #[.int .i64 0, .slice none 0 0] 26 ∧ TensOwn w3 (w.heap.size + 1 + 1 + 1) ra LL ∧ Below w.heap.size w w3 ∧ Blk w3 w.heap.size #[.int .i64 c.w, .int .i64 c.tl, .int .i64 c.ml, .int .i64 c.sh, .int .i64 c.ha, .int .i64 c.sg] 29) := ⟨HB0.out.1.later hb3, HB0.out.2.1.later hb3, HB0.out.2.2.1.later hb3, bto HB0.out.2.2.2.1 hb3, HB0.out.2.2.2.2.later hb3⟩
            clear x0 x1 y0 y1 f0 f1 cc0 cc1 cc2 cc3 cc4 cc5 hb3
            have x0 : w3.cell? ⟨(w.heap.size + 1 + 1), 0, none⟩ = some (.int .i64 N) := HB3.out.1.cell 0
            have x1 : w3.cell? ⟨(w.heap.size + 1 + 1), 1, none⟩ = some (.slice ra LL.length rc) := HB3.out.1.cell 1
            have y0 : w3.cell? ⟨(w.heap.size + 1), 0, none⟩ = some (.int .i64 0) := HB3.out.2.1.cell 0
            have y1 : w3.cell? ⟨(w.heap.size + 1), 1, none⟩ = some (.slice none 0 0) := HB3.out.2.1.cell 1
            have f0 := HB3.out.2.1.free 0
            have f1 := HB3.out.2.1.free 1
            have cc0 : w3.cell? ⟨w.heap.size, 0, none⟩ = some (.int .i64 c.w) := HB3.out.2.2.2.2.cell 0
            have cc1 : w3.cell? ⟨w.heap.size, 1, none⟩ = some (.int .i64 c.tl) := HB3.out.2.2.2.2.cell 1
            have cc2 : w3.cell? ⟨w.heap.size, 2, none⟩ = some (.int .i64 c.ml) := HB3.out.2.2.2.2.cell 2
            have cc3 : w3.cell? ⟨w.heap.size, 3, none⟩ = some (.int .i64 c.sh) := HB3.out.2.2.2.2.cell 3
            have cc4 : w3.cell? ⟨w.heap.size, 4, none⟩ = some (.int .i64 c.ha) := HB3.out.2.2.2.2.cell 4
            have cc5 : w3.cell? ⟨w.heap.size, 5, none⟩ = some (.int .i64 c.sg) := HB3.out.2.2.2.2.cell 5
            go_wp2
            refine bodyPost_ret (v := .tuple #[.int .i64 0, .agg #[.int .i64 0, .slice none 0 0], .bool false]) (by simp [results, Tryz.results4, go_sem, y0, y1]) rfl (HPOST.out _ _ _ E.out ⟨none, 0, rfl, Or.inl rfl, ?_⟩)
            exact (HB3.out.2.2.2.1.setCell (by simp) _).setCell (by simp) _
        | true =>
          by_cases heq : EB = s
          · have E : Hid (decS c s = (L, N, LL, true)) := HYES.out hs0 heq rfl
            subst heq
            have hR : (EB.toList != EB.toList) = false := by simp
            clear hs0
            rcases hgb with hg | ⟨hg, rfl⟩
            · skip
              go_wp2_with fail
              refine (HSO.out _ ra rc HB0.out.2.2.1.tens).mono ?_
              rintro e w3 ⟨rfl, hb3⟩
              have HB3 : Hid (Blk w3 (w.heap.size + 1 + 1) #[.int .i64 N, .slice ra LL.length rc] 26 ∧ Blk w3 (w.heap.size + 1) #[.int .i64 0, .slice none 0 0] 26 ∧ TensOwn w3 (w.heap.size + 1 + 1 + 1) ra LL ∧ Below w.heap.size w w3 ∧ Blk w3 w.heap.size #[.int .i64 c.w, .int .i64 c.tl, .int .i64 c.ml, .int .i64 c.sh, .int .i64 c.ha, .int .i64 c.sg] 29) := ⟨HB0.out.1.later hb3, HB0.out.2.1.later hb3, HB0.out.2.2.1.later hb3, bto HB0.out.2.2.2.1 hb3, HB0.out.2.2.2.2.later hb3⟩
              clear x0 x1 y0 y1 f0 f1 cc0 cc1 cc2 cc3 cc4 cc5 hb3
              have x0 : w3.cell? ⟨(w.heap.size + 1 + 1), 0, none⟩ = some (.int .i64 N) := HB3.out.1.cell 0
              have x1 : w3.cell? ⟨(w.heap.size + 1 + 1), 1, none⟩ = some (.slice ra LL.length rc) := HB3.out.1.cell 1
              have y0 : w3.cell? ⟨(w.heap.size + 1), 0, none⟩ = some (.int .i64 0) := HB3.out.2.1.cell 0
              have y1 : w3.cell? ⟨(w.heap.size + 1), 1, none⟩ = some (.slice none 0 0) := HB3.out.2.1.cell 1
              have f0 := HB3.out.2.1.free 0
              have f1 := HB3.out.2.1.free 1
              have cc0 : w3.cell? ⟨w.heap.size, 0, none⟩ = some (.int .i64 c.w) := HB3.out.2.2.2.2.cell 0
              have cc1 : w3.cell? ⟨w.heap.size, 1, none⟩ = some (.int .i64 c.tl) := HB3.out.2.2.2.2.cell 1
              have cc2 : w3.cell? ⟨w.heap.size, 2, none⟩ = some (.int .i64 c.ml) := HB3.out.2.2.2.2.cell 2
              have cc3 : w3.cell? ⟨w.heap.size, 3, none⟩ = some (.int .i64 c.sh) := HB3.out.2.2.2.2.cell 3
              have cc4 : w3.cell? ⟨w.heap.size, 4, none⟩ = some (.int .i64 c.ha) := HB3.out.2.2.2.2.cell 4
              have cc5 : w3.cell? ⟨w.heap.size, 5, none⟩ = some (.int .i64 c.sg) := HB3.out.2.2.2.2.cell 5
              go_wp2_with fail
              refine (HEN.out _ ra rc HB3.out.2.2.1.tens).mono ?_
              rintro e w4 ⟨rfl, hb4⟩
              have HB4 : Hid (Blk w4 (w.heap.size + 1 + 1) #[.int .i64 N, .slice ra LL.length rc] 26 ∧ Blk w4 (w.heap.size + 1) #[.int .i64 0, .slice none 0 0] 26 ∧ TensOwn w4 (w.heap.size + 1 + 1 + 1) ra LL ∧ Below w.heap.size w w4 ∧ Blk w4 w.heap.size #[.int .i64 c.w, .int .i64 c.tl, .int .i64 c.ml, .int .i64 c.sh, .int .i64 c.ha, .int .i64 c.sg] 29) := ⟨HB3.out.1.later hb4, HB3.out.2.1.later hb4, HB3.out.2.2.1.later hb4, bto HB3.out.2.2.2.1 hb4, HB3.out.2.2.2.2.later hb4⟩
              clear x0 x1 y0 y1 f0 f1 cc0 cc1 cc2 cc3 cc4 cc5 hb4
              have x0 : w4.cell? ⟨(w.heap.size + 1 + 1), 0, none⟩ = some (.int .i64 N) := HB4.out.1.cell 0
              have x1 : w4.cell? ⟨(w.heap.size + 1 + 1), 1, none⟩ = some (.slice ra LL.length rc) := HB4.out.1.cell 1
              have y0 : w4.cell? ⟨(w.heap.size + 1), 0, none⟩ = some (.int .i64 0) := HB4.out.2.1.cell 0
              have y1 : w4.cell? ⟨(w.heap.size + 1), 1, none⟩ = some (.slice none 0 0) := HB4.out.2.1.cell 1
              have f0 := HB4.out.2.1.free 0
              have f1 := HB4.out.2.1.free 1
              have cc0 : w4.cell? ⟨w.heap.size, 0, none⟩ = some (.int .i64 c.w) := HB4.out.2.2.2.2.cell 0
              have cc1 : w4.cell? ⟨w.heap.size, 1, none⟩ = some (.int .i64 c.tl) := HB4.out.2.2.2.2.cell 1
              have cc2 : w4.cell? ⟨w.heap.size, 2, none⟩ = some (.int .i64 c.ml) := HB4.out.2.2.2.2.cell 2
              have cc3 : w4.cell? ⟨w.heap.size, 3, none⟩ = some (.int .i64 c.sh) := HB4.out.2.2.2.2.cell 3
              have cc4 : w4.cell? ⟨w.heap.size, 4, none⟩ = some (.int .i64 c.ha) := HB4.out.2.2.2.2.cell 4
              have cc5 : w4.cell? ⟨w.heap.size, 5, none⟩ = some (.int .i64 c.sg) := HB4.out.2.2.2.2.cell 5
              go_wp2_with fail
              go_region
              go_wp2
              refine bodyPost_ret (v := .tuple #[.int .i64 L, .agg #[.int .i64 N, .slice ra LL.length rc], .bool true]) (by simp [results, Tryz.results4, go_sem, y0, y1]) rfl (HPOST.out _ _ _ E.out ⟨ra, rc, rfl, ?_, ?_⟩)
              · exact (HB4.out.2.2.1.butD (ButDrewD (((But.refl (w.heap.size + 1) w4).setCell 0 _).setCell 1 _)) (by omega)).base (by omega)
              · exact ((HB4.out.2.2.2.1.setCell (by simp) _).setCell (by simp) _).drew
            · skip
              go_wp2_with fail
              refine (HSO.out _ ra rc HB0.out.2.2.1.tens).mono ?_
              rintro e w3 ⟨rfl, hb3⟩
              have HB3 : Hid (Blk w3 (w.heap.size + 1 + 1) #[.int .i64 N, .slice ra LL.length rc] 26 ∧ Blk w3 (w.heap.size + 1) #[.int .i64 0, .slice none 0 0] 26 ∧ TensOwn w3 (w.heap.size + 1 + 1 + 1) ra LL ∧ Below w.heap.size w w3 ∧ Blk w3 w.heap.size #[.int .i64 c.w, .int .i64 c.tl, .int .i64 c.ml, .int .i64 c.sh, .int .i64 c.ha, .int .i64 c.sg] 29) := ⟨HB0.out.1.later hb3, HB0.out.2.1.later hb3, HB0.out.2.2.1.later hb3, bto HB0.out.2.2.2.1 hb3, HB0.out.2.2.2.2.later hb3⟩
              clear x0 x1 y0 y1 f0 f1 cc0 cc1 cc2 cc3 cc4 cc5 hb3
              have x0 : w3.cell? ⟨(w.heap.size + 1 + 1), 0, none⟩ = some (.int .i64 N) := HB3.out.1.cell 0
              have x1 : w3.cell? ⟨(w.heap.size + 1 + 1), 1, none⟩ = some (.slice ra LL.length rc) := HB3.out.1.cell 1
              have y0 : w3.cell? ⟨(w.heap.size + 1), 0, none⟩ = some (.int .i64 0) := HB3.out.2.1.cell 0
              have y1 : w3.cell? ⟨(w.heap.size + 1), 1, none⟩ = some (.slice none 0 0) := HB3.out.2.1.cell 1
              have f0 := HB3.out.2.1.free 0
              have f1 := HB3.out.2.1.free 1
              have cc0 : w3.cell? ⟨w.heap.size, 0, none⟩ = some (.int .i64 c.w) := HB3.out.2.2.2.2.cell 0
              have cc1 : w3.cell? ⟨w.heap.size, 1, none⟩ = some (.int .i64 c.tl) := HB3.out.2.2.2.2.cell 1
              have cc2 : w3.cell? ⟨w.heap.size, 2, none⟩ = some (.int .i64 c.ml) := HB3.out.2.2.2.2.cell 2
              have cc3 : w3.cell? ⟨w.heap.size, 3, none⟩ = some (.int .i64 c.sh) := HB3.out.2.2.2.2.cell 3
              have cc4 : w3.cell? ⟨w.heap.size, 4, none⟩ = some (.int .i64 c.ha) := HB3.out.2.2.2.2.cell 4
              have cc5 : w3.cell? ⟨w.heap.size, 5, none⟩ = some (.int .i64 c.sg) := HB3.out.2.2.2.2.cell 5
              go_wp2_with fail
              refine (HEN.out _ ra rc HB3.out.2.2.1.tens).mono ?_
              rintro e w4 ⟨rfl, hb4⟩
              have HB4 : Hid (Blk w4 (w.heap.size + 1 + 1) #[.int .i64 N, .slice ra LL.length rc] 26 ∧ Blk w4 (w.heap.size + 1) #[.int .i64 0, .slice none 0 0] 26 ∧ TensOwn w4 (w.heap.size + 1 + 1 + 1) ra LL ∧ Below w.heap.size w w4 ∧ Blk w4 w.heap.size #[.int .i64 c.w, .int .i64 c.tl, .int .i64 c.ml, .int .i64 c.sh, .int .i64 c.ha, .int .i64 c.sg] 29) := ⟨HB3.out.1.later hb4, HB3.out.2.1.later hb4, HB3.out.2.2.1.later hb4, bto HB3.out.2.2.2.1 hb4, HB3.out.2.2.2.2.later hb4⟩
              clear x0 x1 y0 y1 f0 f1 cc0 cc1 cc2 cc3 cc4 cc5 hb4
              have x0 : w4.cell? ⟨(w.heap.size + 1 + 1), 0, none⟩ = some (.int .i64 N) := HB4.out.1.cell 0
              have x1 : w4.cell? ⟨(w.heap.size + 1 + 1), 1, none⟩ = some (.slice ra LL.length rc) := HB4.out.1.cell 1
              have y0 : w4.cell? ⟨(w.heap.size + 1), 0, none⟩ = some (.int .i64 0) := HB4.out.2.1.cell 0
              have y1 : w4.cell? ⟨(w.heap.size + 1), 1, none⟩ = some (.slice none 0 0) := HB4.out.2.1.cell 1
              have f0 := HB4.out.2.1.free 0
              have f1 := HB4.out.2.1.free 1
              have cc0 : w4.cell? ⟨w.heap.size, 0, none⟩ = some (.int .i64 c.w) := HB4.out.2.2.2.2.cell 0
              have cc1 : w4.cell? ⟨w.heap.size, 1, none⟩ = some (.int .i64 c.tl) := HB4.out.2.2.2.2.cell 1
              have cc2 : w4.cell? ⟨w.heap.size, 2, none⟩ = some (.int .i64 c.ml) := HB4.out.2.2.2.2.cell 2
              have cc3 : w4.cell? ⟨w.heap.size, 3, none⟩ = some (.int .i64 c.sh) := HB4.out.2.2.2.2.cell 3
              have cc4 : w4.cell? ⟨w.heap.size, 4, none⟩ = some (.int .i64 c.ha) := HB4.out.2.2.2.2.cell 4
              have cc5 : w4.cell? ⟨w.heap.size, 5, none⟩ = some (.int .i64 c.sg) := HB4.out.2.2.2.2.cell 5
              go_wp2_with fail
              go_region
              go_wp2
              refine bodyPost_ret (v := .tuple #[.int .i64 L, .agg #[.int .i64 N, .slice ra LL.length rc], .bool true]) (by simp [results, Tryz.results4, go_sem, y0, y1]) rfl (HPOST.out _ _ _ E.out ⟨ra, rc, rfl, ?_, ?_⟩)
              · exact (HB4.out.2.2.1.butD (ButDrewD (((But.refl (w.heap.size + 1) w4).setCell 0 _).setCell 1 _)) (by omega)).base (by omega)
              · exact ((HB4.out.2.2.2.1.setCell (by simp) _).setCell (by simp) _).drew
          · have E : Hid (decS c s = (0, 0, [], false)) := HNOT.out (fun h => heq h.2.1)
            have hR : (EB.toList == s.toList) = false := by
              apply Bool.eq_false_iff.2
              intro h
              replace h := eq_of_beq h
              apply heq
              apply bext
              rw [ByteArray.toList_eq, ByteArray.toList_eq] at h
              exact h
            clear hs0 heq
            rcases hgb with hg | ⟨hg, rfl⟩
            · skip
              go_wp2_with fail
              refine (HSO.out _ ra rc HB0.out.2.2.1.tens).mono ?_
              rintro e w3 ⟨rfl, hb3⟩
              have HB3 : Hid (Blk w3 (w.heap.size + 1 + 1) #[.int .i64 N, .slice ra LL.length rc] 26 ∧ Blk w3 (w.heap.size + 1) #[.int .i64 0, .slice none 0 0] 26 ∧ TensOwn w3 (w.heap.size + 1 + 1 + 1) ra LL ∧ Below w.heap.size w w3 ∧ Blk w3 w.heap.size #[.int .i64 c.w, .int .i64 c.tl, .int .i64 c.ml, .int .i64 c.sh, .int .i64 c.ha, .int .i64 c.sg] 29) := ⟨HB0.out.1.later hb3, HB0.out.2.1.later hb3, HB0.out.2.2.1.later hb3, bto HB0.out.2.2.2.1 hb3, HB0.out.2.2.2.2.later hb3⟩
              clear x0 x1 y0 y1 f0 f1 cc0 cc1 cc2 cc3 cc4 cc5 hb3
              have x0 : w3.cell? ⟨(w.heap.size + 1 + 1), 0, none⟩ = some (.int .i64 N) := HB3.out.1.cell 0
              have x1 : w3.cell? ⟨(w.heap.size + 1 + 1), 1, none⟩ = some (.slice ra LL.length rc) := HB3.out.1.cell 1
              have y0 : w3.cell? ⟨(w.heap.size + 1), 0, none⟩ = some (.int .i64 0) := HB3.out.2.1.cell 0
              have y1 : w3.cell? ⟨(w.heap.size + 1), 1, none⟩ = some (.slice none 0 0) := HB3.out.2.1.cell 1
              have f0 := HB3.out.2.1.free 0
              have f1 := HB3.out.2.1.free 1
              have cc0 : w3.cell? ⟨w.heap.size, 0, none⟩ = some (.int .i64 c.w) := HB3.out.2.2.2.2.cell 0
              have cc1 : w3.cell? ⟨w.heap.size, 1, none⟩ = some (.int .i64 c.tl) := HB3.out.2.2.2.2.cell 1
              have cc2 : w3.cell? ⟨w.heap.size, 2, none⟩ = some (.int .i64 c.ml) := HB3.out.2.2.2.2.cell 2
              have cc3 : w3.cell? ⟨w.heap.size, 3, none⟩ = some (.int .i64 c.sh) := HB3.out.2.2.2.2.cell 3
              have cc4 : w3.cell? ⟨w.heap.size, 4, none⟩ = some (.int .i64 c.ha) := HB3.out.2.2.2.2.cell 4
              have cc5 : w3.cell? ⟨w.heap.size, 5, none⟩ = some (.int .i64 c.sg) := HB3.out.2.2.2.2.cell 5
              go_wp2_with fail
              refine (HEN.out _ ra rc HB3.out.2.2.1.tens).mono ?_
              rintro e w4 ⟨rfl, hb4⟩
              have HB4 : Hid (Blk w4 (w.heap.size + 1 + 1) #[.int .i64 N, .slice ra LL.length rc] 26 ∧ Blk w4 (w.heap.size + 1) #[.int .i64 0, .slice none 0 0] 26 ∧ TensOwn w4 (w.heap.size + 1 + 1 + 1) ra LL ∧ Below w.heap.size w w4 ∧ Blk w4 w.heap.size #[.int .i64 c.w, .int .i64 c.tl, .int .i64 c.ml, .int .i64 c.sh, .int .i64 c.ha, .int .i64 c.sg] 29) := ⟨HB3.out.1.later hb4, HB3.out.2.1.later hb4, HB3.out.2.2.1.later hb4, bto HB3.out.2.2.2.1 hb4, HB3.out.2.2.2.2.later hb4⟩
              clear x0 x1 y0 y1 f0 f1 cc0 cc1 cc2 cc3 cc4 cc5 hb4
              have x0 : w4.cell? ⟨(w.heap.size + 1 + 1), 0, none⟩ = some (.int .i64 N) := HB4.out.1.cell 0
              have x1 : w4.cell? ⟨(w.heap.size + 1 + 1), 1, none⟩ = some (.slice ra LL.length rc) := HB4.out.1.cell 1
              have y0 : w4.cell? ⟨(w.heap.size + 1), 0, none⟩ = some (.int .i64 0) := HB4.out.2.1.cell 0
              have y1 : w4.cell? ⟨(w.heap.size + 1), 1, none⟩ = some (.slice none 0 0) := HB4.out.2.1.cell 1
              have f0 := HB4.out.2.1.free 0
              have f1 := HB4.out.2.1.free 1
              have cc0 : w4.cell? ⟨w.heap.size, 0, none⟩ = some (.int .i64 c.w) := HB4.out.2.2.2.2.cell 0
              have cc1 : w4.cell? ⟨w.heap.size, 1, none⟩ = some (.int .i64 c.tl) := HB4.out.2.2.2.2.cell 1
              have cc2 : w4.cell? ⟨w.heap.size, 2, none⟩ = some (.int .i64 c.ml) := HB4.out.2.2.2.2.cell 2
              have cc3 : w4.cell? ⟨w.heap.size, 3, none⟩ = some (.int .i64 c.sh) := HB4.out.2.2.2.2.cell 3
              have cc4 : w4.cell? ⟨w.heap.size, 4, none⟩ = some (.int .i64 c.ha) := HB4.out.2.2.2.2.cell 4
              have cc5 : w4.cell? ⟨w.heap.size, 5, none⟩ = some (.int .i64 c.sg) := HB4.out.2.2.2.2.cell 5
              go_wp2
              refine bodyPost_ret (v := .tuple #[.int .i64 0, .agg #[.int .i64 0, .slice none 0 0], .bool false]) (by simp [results, Tryz.results4, go_sem, y0, y1]) rfl (HPOST.out _ _ _ E.out ⟨none, 0, rfl, Or.inl rfl, ?_⟩)
              exact (HB4.out.2.2.2.1.setCell (by simp) _).setCell (by simp) _
            · skip
              go_wp2_with fail
              refine (HSO.out _ ra rc HB0.out.2.2.1.tens).mono ?_
              rintro e w3 ⟨rfl, hb3⟩
              have HB3 : Hid (Blk w3 (w.heap.size + 1 + 1) #[.int .i64 N, .slice ra LL.length rc] 26 ∧ Blk w3 (w.heap.size + 1) #[.int .i64 0, .slice none 0 0] 26 ∧ TensOwn w3 (w.heap.size + 1 + 1 + 1) ra LL ∧ Below w.heap.size w w3 ∧ Blk w3 w.heap.size #[.int .i64 c.w, .int .i64 c.tl, .int .i64 c.ml, .int .i64 c.sh, .int .i64 c.ha, .int .i64 c.sg] 29) := ⟨HB0.out.1.later hb3, HB0.out.2.1.later hb3, HB0.out.2.2.1.later hb3, bto HB0.out.2.2.2.1 hb3, HB0.out.2.2.2.2.later hb3⟩
              clear x0 x1 y0 y1 f0 f1 cc0 cc1 cc2 cc3 cc4 cc5 hb3
              have x0 : w3.cell? ⟨(w.heap.size + 1 + 1), 0, none⟩ = some (.int .i64 N) := HB3.out.1.cell 0
              have x1 : w3.cell? ⟨(w.heap.size + 1 + 1), 1, none⟩ = some (.slice ra LL.length rc) := HB3.out.1.cell 1
              have y0 : w3.cell? ⟨(w.heap.size + 1), 0, none⟩ = some (.int .i64 0) := HB3.out.2.1.cell 0
              have y1 : w3.cell? ⟨(w.heap.size + 1), 1, none⟩ = some (.slice none 0 0) := HB3.out.2.1.cell 1
              have f0 := HB3.out.2.1.free 0
              have f1 := HB3.out.2.1.free 1
              have cc0 : w3.cell? ⟨w.heap.size, 0, none⟩ = some (.int .i64 c.w) := HB3.out.2.2.2.2.cell 0
              have cc1 : w3.cell? ⟨w.heap.size, 1, none⟩ = some (.int .i64 c.tl) := HB3.out.2.2.2.2.cell 1
              have cc2 : w3.cell? ⟨w.heap.size, 2, none⟩ = some (.int .i64 c.ml) := HB3.out.2.2.2.2.cell 2
              have cc3 : w3.cell? ⟨w.heap.size, 3, none⟩ = some (.int .i64 c.sh) := HB3.out.2.2.2.2.cell 3
              have cc4 : w3.cell? ⟨w.heap.size, 4, none⟩ = some (.int .i64 c.ha) := HB3.out.2.2.2.2.cell 4
              have cc5 : w3.cell? ⟨w.heap.size, 5, none⟩ = some (.int .i64 c.sg) := HB3.out.2.2.2.2.cell 5
              go_wp2_with fail
              refine (HEN.out _ ra rc HB3.out.2.2.1.tens).mono ?_
              rintro e w4 ⟨rfl, hb4⟩
              have HB4 : Hid (Blk w4 (w.heap.size + 1 + 1) #[.int .i64 N, .slice ra LL.length rc] 26 ∧ Blk w4 (w.heap.size + 1) #[.int .i64 0, .slice none 0 0] 26 ∧ TensOwn w4 (w.heap.size + 1 + 1 + 1) ra LL ∧ Below w.heap.size w w4 ∧ Blk w4 w.heap.size #[.int .i64 c.w, .int .i64 c.tl, .int .i64 c.ml, .int .i64 c.sh, .int .i64 c.ha, .int .i64 c.sg] 29) := ⟨HB3.out.1.later hb4, HB3.out.2.1.later hb4, HB3.out.2.2.1.later hb4, bto HB3.out.2.2.2.1 hb4, HB3.out.2.2.2.2.later hb4⟩
              clear x0 x1 y0 y1 f0 f1 cc0 cc1 cc2 cc3 cc4 cc5 hb4
              have x0 : w4.cell? ⟨(w.heap.size + 1 + 1), 0, none⟩ = some (.int .i64 N) := HB4.out.1.cell 0
              have x1 : w4.cell? ⟨(w.heap.size + 1 + 1), 1, none⟩ = some (.slice ra LL.length rc) := HB4.out.1.cell 1
              have y0 : w4.cell? ⟨(w.heap.size + 1), 0, none⟩ = some (.int .i64 0) := HB4.out.2.1.cell 0
              have y1 : w4.cell? ⟨(w.heap.size + 1), 1, none⟩ = some (.slice none 0 0) := HB4.out.2.1.cell 1
              have f0 := HB4.out.2.1.free 0
              have f1 := HB4.out.2.1.free 1
              have cc0 : w4.cell? ⟨w.heap.size, 0, none⟩ = some (.int .i64 c.w) := HB4.out.2.2.2.2.cell 0
              have cc1 : w4.cell? ⟨w.heap.size, 1, none⟩ = some (.int .i64 c.tl) := HB4.out.2.2.2.2.cell 1
              have cc2 : w4.cell? ⟨w.heap.size, 2, none⟩ = some (.int .i64 c.ml) := HB4.out.2.2.2.2.cell 2
              have cc3 : w4.cell? ⟨w.heap.size, 3, none⟩ = some (.int .i64 c.sh) := HB4.out.2.2.2.2.cell 3
              have cc4 : w4.cell? ⟨w.heap.size, 4, none⟩ = some (.int .i64 c.ha) := HB4.out.2.2.2.2.cell 4
              have cc5 : w4.cell? ⟨w.heap.size, 5, none⟩ = some (.int .i64 c.sg) := HB4.out.2.2.2.2.cell 5
              go_wp2
              refine bodyPost_ret (v := .tuple #[.int .i64 0, .agg #[.int .i64 0, .slice none 0 0], .bool false]) (by simp [results, Tryz.results4, go_sem, y0, y1]) rfl (HPOST.out _ _ _ E.out ⟨none, 0, rfl, Or.inl rfl, ?_⟩)
              exact (HB4.out.2.2.2.1.setCell (by simp) _).setCell (by simp) _
end Go.Proofs.YtoecnlhnfhongaaGreatDoor

