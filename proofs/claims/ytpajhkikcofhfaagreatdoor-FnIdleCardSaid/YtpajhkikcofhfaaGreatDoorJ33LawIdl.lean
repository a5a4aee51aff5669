import Derived.Test.YtpajhkikcofhfaaGreatDoorProg
import Derived.Test.YtpajhkikcofhfaaGreatDoorJ27U8L
import Derived.Test.YtpajhkikcofhfaaGreatDoorJ32HPkN
import Derived.Test.YtpajhkikcofhfaaGreatDoorJ15ILim
import Derived.Deep.RegionHeld3
import Derived.Deep.DeepCutAuto
namespace Go.Proofs.YtpajhkikcofhfaaGreatDoor
open Go.RowKit

theorem step_enterI {P : Program} {w : World} {ops : Array Oper} {o : Oper} {a : Act} {K : Act → World → Prop} {Q : Exit → Act → World → Prop} {E : Prop} {f : FuncId} {args : Array Value} (hgd : o.guard = none) (hx : (execOp a.eval o).run P w = .ok (.enter f args) w)
    (h : Calls P f args w (fun e w' => ∃ v, e = .returned v ∧ K (a.put o.dst v) w')) : if Region.wanted o (yielded ops a.tmps) = true then Oper.wp P o a w K Q else E := by
  have hw : Region.wanted o (yielded ops a.tmps) = true := by simp [Region.wanted, hgd]
  rw [if_pos hw]
  unfold Oper.wp
  rw [hx]
  refine h.mono ?_
  rintro e w' ⟨v, rfl, hK⟩
  exact hK
/-- A key that FnIdle has found, or none. -/
def KeyI (s : ByteArray) : Prop := s.size ≤ 100000 ∧ (s = ⟨#[]⟩ ∨ (1 ≤ s.size ∧ keyOK s = true ∧ mnameB (metK s) = true ∧ (metK s).size ≤ 1048576))
theorem tailI_bound : ∀ {ls : List LabD}, SizL ls → (tailB ls).size ≤ ls.length * 2003
  | [], _ => by simp [tailB]
  | l :: r, h => by
    have h1 := h l (by simp)
    have h2 := tailI_bound (ls := r) (fun x hx => h x (by simp [hx]))
    rw [tailB, ByteArray.size_append, ByteArray.size_append, s8B_size, s16B_size, List.length_cons]
    omega
theorem sizI_form {ls : List LabD} (h : SizL ls) (h0 : (canonR ls).2.1 = 0) : SizL (canonR ls).1 ∧ (canonR ls).1.length ≤ ls.length := by
  obtain ⟨h1, h2, h3, h4⟩ := canon_nil h0
  rw [canon_fine h1 h2 h3 h4]
  have hp : (insAll [] ls).Perm (keptL ls) := (insAll_perm ls []).trans (by rw [List.nil_append])
  refine ⟨fun l hl => h l (List.mem_filter.1 (hp.mem_iff.1 hl)).1, ?_⟩
  show (insAll [] ls).length ≤ _
  rw [hp.length_eq]
  exact List.length_filter_le _ _
/-- What a drawn sample's labels make of the key. -/
theorem keyI_of {ls : List LabD} (h : SizL ls) (hl : ls.length ≤ 20) (h0 : (canonR ls).2.1 = 0) : KeyI (keyV (canonR ls).1) := by
  obtain ⟨hs, hn⟩ := sizI_form h h0
  have hb := tailI_bound hs
  have hz : (keyB (canonR ls).1).size ≤ 100000 := by rw [keyB, ByteArray.size_append, numS_size]; omega
  obtain ⟨hk, hm⟩ := key_metric h0
  rw [(form_key h0).1]
  refine ⟨hz, Or.inr ⟨by rw [keyB, ByteArray.size_append, numS_size]; omega, hk, hm, ?_⟩⟩
  have hd : metK (keyB (canonR ls).1) = metV (canonR ls).1 := by unfold metK; rw [(form_key h0).2]
  rw [hd]
  rcases metV_from (canonR ls).1 with e | ⟨l, hl', e⟩
  · rw [e]; decide
  · rw [e]; have := (hs l hl').2; omega

set_option maxRecDepth 100000 in
set_option maxHeartbeats 8000000 in
theorem lawFnIdle (a b : Option Addr) (n cn m cm : Nat) (w : World) (hA : U8In w w.heap.size w.heap.size a n) (hB : U8In w w.heap.size w.heap.size b m) (hn : n ≤ maxLen) (hm : m ≤ maxLen) (hT : UTab w) :
    Calls Tryz.prog 3 #[.slice a n cn, .slice b m cm] w fun e w' => e = .returned (.bool true) ∧ Below w.heap.size w w' := by
  unfold maxLen at hn hm
  have HA : Hid (U8In w w.heap.size w.heap.size a n) := hA
  have HBB : Hid (U8In w w.heap.size w.heap.size b m) := hB
  have HT : Hid (UTab w) := hT
  clear hA hB hT
  by_cases hbn : (1048576 : Int) < n
  · go_enter Tryz.func3, Tryz.ntmps3
    go_wp2
    go_ret
    exact ⟨rfl, Below.refl _ _⟩
  by_cases hbm : (1048576 : Int) < m
  · go_enter Tryz.func3, Tryz.ntmps3
    go_wp2
    go_ret
    exact ⟨rfl, Below.refl _ _⟩
  go_enter Tryz.func3, Tryz.ntmps3
  go_wp2_with fail
  refine (drawWork_any a n cn w (by omega) HA.out).mono ?_
  rintro e w1 ⟨c, qs, a1, c1, v2, ks, rfl, hdc, hql, hin, -, -, hb1⟩
  have B1 : Hid (Below w.heap.size w w1) := hb1
  have IN1 : Hid (InZ reqK w1 w.heap.size w1.heap.size a1 qs) := hin
  have HDC := hid hdc
  clear hdc hin hb1 HA
  unfold cfgV
  have hq0 : (0 : Int) ≤ (qs.length : Nat) := by omega
  go_wp2
  have C2 : Hid (Blk (w1.alloc (.cells #[.int .i64 c.w, .int .i64 c.tl, .int .i64 c.ml, .int .i64 c.sh, .int .i64 c.ha, .int .i64 c.sg] 24)) w1.heap.size #[.int .i64 c.w, .int .i64 c.tl, .int .i64 c.ml, .int .i64 c.sh, .int .i64 c.ha, .int .i64 c.sg] 24) := heap_alloc_new _ _
  have B2 : Hid (Below w.heap.size w (w1.alloc (.cells #[.int .i64 c.w, .int .i64 c.tl, .int .i64 c.ml, .int .i64 c.sh, .int .i64 c.ha, .int .i64 c.sg] 24))) := bto B1.out (bnew _ _)
  have IN2 : Hid (InZ reqK (w1.alloc (.cells #[.int .i64 c.w, .int .i64 c.tl, .int .i64 c.ml, .int .i64 c.sh, .int .i64 c.ha, .int .i64 c.sg] 24)) w.heap.size w1.heap.size a1 qs) := IN1.out.later (bnew _ _)
  generalize w1.alloc (.cells #[.int .i64 c.w, .int .i64 c.tl, .int .i64 c.ml, .int .i64 c.sh, .int .i64 c.ha, .int .i64 c.sg] 24) = W1 at *
  have HXW : Hid (w.heap.size ≤ w1.heap.size) := B1.out.size
  generalize w1.heap.size = X at *
  clear B1 IN1
  clear w1
  go_loopw [8, 45] (fun key i wr => ∃ (k : Nat) (s : ByteArray), k ≤ qs.length ∧ i = .int .i64 (k : Nat) ∧ key = .string s ∧ Hid (KeyI s) ∧ Hid (Below W1.heap.size W1 wr)) (fun _ i _ => qs.length - (intOf i).toNat)
  case atStart => exact ⟨0, ⟨#[]⟩, Nat.zero_le _, rfl, rfl, ⟨by decide, Or.inl rfl⟩, Below.refl _ _⟩
  case round =>
    obtain ⟨k, s, hk, rfl, rfl, HKY, HBW⟩ := hrel
    by_cases hlt : k < qs.length
    · have hlt' : (k : Int) < (qs.length : Nat) := by omega
      obtain ⟨g, rfl, hg, hcells, hpart⟩ := (IN2.out.later HBW.out).at hlt
      have x0 := hcells 0 (by decide)
      have x1 := hcells 1 (by decide)
      have x2 := hcells 2 (by decide)
      have x3 := hcells 3 (by decide)
      have x4 := hcells 4 (by decide)
      simp only [reqK, List.getElem?_cons_zero, List.getElem?_cons_succ, Nat.add_zero] at x0 x1 x2 x3 x4
      have hys : qs[k].ys.length ≤ 5 := hpart.2.2.2.2.2
      have HPT : Hid (InZ smpK wr w.heap.size X qs[k].a qs[k].ys) := hpart.1
      clear hcells hpart
      generalize qs[k] = q at *
      go_wp2
      have BO : Hid (Below W1.heap.size W1 (wr.alloc (.cells #[.int .i64 q.kind, .string q.tenant, .string q.metric, .int .i64 q.num, .slice q.a q.ys.length q.c] 31))) := bto HBW.out (bnew _ _)
      have PO : Hid (InZ smpK (wr.alloc (.cells #[.int .i64 q.kind, .string q.tenant, .string q.metric, .int .i64 q.num, .slice q.a q.ys.length q.c] 31)) w.heap.size X q.a q.ys) := HPT.out.later (bnew _ _)
      generalize wr.alloc (.cells #[.int .i64 q.kind, .string q.tenant, .string q.metric, .int .i64 q.num, .slice q.a q.ys.length q.c] 31) = wo at *
      generalize wr.heap.size = BX at *
      clear HBW HPT x0 x1 x2 x3 x4 hg
      clear wr
      go_loopw [8, 52] (fun key i wr => ∃ (j : Nat) (s : ByteArray), j ≤ q.ys.length ∧ i = .int .i64 (j : Nat) ∧ key = .string s ∧ Hid (KeyI s) ∧ Hid (Below wo.heap.size wo wr)) (fun _ i _ => q.ys.length - (intOf i).toNat)
      case atStart => exact ⟨0, s, Nat.zero_le _, rfl, rfl, HKY.out, Below.refl _ _⟩
      case round =>
        clear HKY
        obtain ⟨j, t, hj, rfl, rfl, HKY, HBJ⟩ := hrel
        by_cases hjt : j < q.ys.length
        · have hjt' : (j : Int) < (q.ys.length : Nat) := by omega
          obtain ⟨g1, hga, hg1, hcells, hpart⟩ := (PO.out.later HBJ.out).at hjt
          have x0 := hcells 0 (by decide)
          have x1 := hcells 1 (by decide)
          simp only [smpK, List.getElem?_cons_zero, List.getElem?_cons_succ, Nat.add_zero] at x0 x1
          obtain ⟨hlr, ⟨hl20, hlc, hsl⟩, -⟩ := hpart
          have HLI : Hid (LabsIn wr q.ys[j].a q.ys[j].x.labs) := hlr.labs
          have HSL : Hid (SizL q.ys[j].x.labs) := hsl
          clear hcells hlr hsl
          generalize q.ys[j].x.labs = ls at *
          generalize q.ys[j].x.bits = bi at *
          generalize q.ys[j].a = la at *
          generalize q.ys[j].c = lc at *
          have HBG : Hid (BigS ls) := fun i hi => by
            have := HSL.out ls[i] (List.getElem_mem hi)
            exact ⟨by omega, by omega⟩
          rw [hga]
          go_wp2_with fail
          refine (specCanon_cap la lc ls _ (HLI.out.later (bnew _ _)) HBG.out (by omega) hlc).mono ?_
          rintro e w3 ⟨a3, k3, rfl, hk3, ho3, hb3⟩
          have B3 : Hid (Below wo.heap.size wo w3) := bto (bto HBJ.out (bnew _ _)) hb3
          have L3 : Hid (LabsIn w3 a3 (canonR ls).1) := ho3.labs
          clear ho3 hb3 HBJ
          by_cases h0 : (canonR ls).2.1 = 0
          · have HKN : Hid (KeyI (keyV (canonR ls).1)) := keyI_of HSL.out hl20 h0
            have hF := sizI_form HSL.out h0
            have HBF : Hid (BigS (canonR ls).1) := fun i hi => by
              have := hF.1 (canonR ls).1[i] (List.getElem_mem hi)
              exact ⟨by omega, by omega⟩
            have hFl : (canonR ls).1.length ≤ 20 := by have := hF.2; omega
            rw [h0]
            clear hF h0 HKY
            have HKV : Hid (∀ W, LabsIn W a3 (canonR ls).1 → Calls Tryz.prog 6 #[.slice a3 (canonR ls).1.length k3] W fun e w' => e = .returned (.string (keyV (canonR ls).1)) ∧ Below W.heap.size W w') := fun W h => specKey_any a3 k3 (canonR ls).1 W h HBF.out (by omega) hk3
            generalize keyV (canonR ls).1 = kv at *
            generalize (canonR ls).1 = FL at *
            generalize (canonR ls).2.2 = ci at *
            go_wp2_with fail
            refine (HKV.out _ L3.out).mono ?_
            rintro e w4 ⟨rfl, hb4⟩
            have B4 : Hid (Below wo.heap.size wo w4) := bto B3.out hb4
            clear hb4
            go_wp2
            exact ⟨⟨j + 1, kv, by omega, by go_num, rfl, HKN.out, B4.out⟩, by simp [intOf]; omega⟩
          · have h0' : ¬ (((canonR ls).2.1 : Nat) : Int) = 0 := by omega
            generalize (canonR ls).2.1 = cc at *
            generalize (canonR ls).1 = FL at *
            generalize (canonR ls).2.2 = ci at *
            go_wp2
            exact ⟨⟨j + 1, t, by omega, by go_num, rfl, HKY.out, B3.out⟩, by simp [intOf]; omega⟩
        · have hjt' : ¬ ((j : Int) < (q.ys.length : Nat)) := by omega
          go_wp2
          exact ⟨⟨k + 1, t, by omega, by go_num, rfl, HKY.out, bto BO.out HBJ.out⟩, by simp [intOf]; omega⟩
    · have hlt' : ¬ ((k : Int) < (qs.length : Nat)) := by omega
      have CR : Hid (Blk wr X #[.int .i64 c.w, .int .i64 c.tl, .int .i64 c.ml, .int .i64 c.sh, .int .i64 c.ha, .int .i64 c.sg] 24) := C2.out.later HBW.out
      have BR : Hid (Below w.heap.size w wr) := bto B2.out HBW.out
      have hXw : w.heap.size ≤ X := HXW.out
      have hXr : X < wr.heap.size := lt_of_block CR.out
      clear C2 B2 HBW IN2
      rcases HKY.out with ⟨hz, rfl | ⟨hs1, hko, hmo, hmz⟩⟩
      · go_wp2
        go_ret
        exact ⟨rfl, BR.out⟩
      have hne : s.toList.isEmpty = false := by
        rw [ByteArray.toList_eq]
        cases hd : s.data.toList with
        | nil =>
          have : s.size = 0 := by show s.data.size = 0; rw [← Array.length_toList, hd]; rfl
          omega
        | cons x y => rfl
      clear HKY
      go_wp2_with fail
      refine (hPick_n w.heap.size w.heap.size b m cm 50 0 wr (HBB.out.below BR.out) (by omega) (by omega) (by omega) (by omega)).mono ?_
      rintro e w5 ⟨v, hv, rfl, hw5⟩
      replace hw5 := hw5.symm
      subst hw5
      have c0 := CR.out.cell 0
      have c1 := CR.out.cell 1
      have c2 := CR.out.cell 2
      have c3 := CR.out.cell 3
      have c4 := CR.out.cell 4
      have c5 := CR.out.cell 5
      have f0 := CR.out.free 0
      have f1 := CR.out.free 1
      have f2 := CR.out.free 2
      have hv' : (v : Int) < 50 := by omega
      go_wp2_with fail
      have XC : Hid (Blk (((wr.setCell ⟨X, 0, none⟩ (.int .i64 (2 + (v : Int)))).setCell ⟨X, 1, none⟩ (.int .i64 3)).setCell ⟨X, 2, none⟩ (.int .i64 3)) X #[.int .i64 (2 + (v : Int)), .int .i64 3, .int .i64 3, .int .i64 c.sh, .int .i64 c.ha, .int .i64 c.sg] 24) := hid (by have := ((CR.out.set 0 (.int .i64 (2 + (v : Int)))).set 1 (.int .i64 3)).set 2 (.int .i64 3); exact this)
      have B5 : Hid (Below w.heap.size w (((wr.setCell ⟨X, 0, none⟩ (.int .i64 (2 + (v : Int)))).setCell ⟨X, 1, none⟩ (.int .i64 3)).setCell ⟨X, 2, none⟩ (.int .i64 3))) := hid (((BR.out.setCell hXw _).setCell hXw _).setCell hXw _)
      generalize ((wr.setCell ⟨X, 0, none⟩ (.int .i64 (2 + (v : Int)))).setCell ⟨X, 1, none⟩ (.int .i64 3)).setCell ⟨X, 2, none⟩ (.int .i64 3) = w5 at *
      have hWn : (2 : Int) ≤ 2 + (v : Int) ∧ 2 + (v : Int) ≤ 51 := ⟨by omega, by omega⟩
      generalize (2 : Int) + (v : Int) = Wn at *
      have hcf := cfgI_ok hWn HDC.out.2.2.2.1 HDC.out.2.2.2.2.1 HDC.out.2.2.2.2.2
      clear c0 c1 c2 c3 c4 c5 f0 f1 f2 CR BR hv hv' HDC HBB hne
      have HN1 : Hid (∀ W, UTab W → Calls Tryz.prog 8 #[.agg #[.int .i64 Wn, .int .i64 3, .int .i64 3, .int .i64 c.sh, .int .i64 c.ha, .int .i64 c.sg], .agg #[.int .i64 0, .slice none 0 0], .string ⟨#[97, 99, 109, 101]⟩, .string s] W fun e w' => ∃ a cap, e = .returned (.tuple #[.agg #[.int .i64 0, .slice a 1 cap], .int .i64 2]) ∧ TensIn w' a [oneT s 0] ∧ Below W.heap.size W w') := fun W h => idl_new hcf hko hz W h
      refine (HN1.out _ (HT.out.later B5.out)).mono ?_
      rintro e w6 ⟨a6, k6, rfl, ht6, hb6⟩
      have XC6 : Hid (Blk w6 X #[.int .i64 Wn, .int .i64 3, .int .i64 3, .int .i64 c.sh, .int .i64 c.ha, .int .i64 c.sg] 24) := XC.out.later hb6
      have B6 : Hid (Below w.heap.size w w6) := bto B5.out hb6
      have T6 : Hid (TensIn w6 a6 [oneT s 0]) := ht6
      clear ht6 hb6 XC B5 HN1
      have c0 := XC6.out.cell 0
      have c1 := XC6.out.cell 1
      have c2 := XC6.out.cell 2
      have c3 := XC6.out.cell 3
      have c4 := XC6.out.cell 4
      have c5 := XC6.out.cell 5
      have hx6 : X < w6.heap.size := lt_of_block XC6.out
      have hy6 : ¬ (X = w6.heap.size) := by omega
      have HWr : IntKind.i64.wrap (Wn - 1) = Wn - 1 := by
        simp only [IntKind.wrap, IntKind.bits, IntKind.signed]
        simp
        omega
      go_wp2_with fail
      refine (idl_early hcf hWn hko hz a6 k6 _ (T6.out.later (bnew _ _)) (HT.out.later (bto B6.out (bnew _ _)))).mono ?_
      rintro e w7 ⟨a7, k7, rfl, ht7, hb7⟩
      have XC7 : Hid (Blk w7 X #[.int .i64 Wn, .int .i64 3, .int .i64 3, .int .i64 c.sh, .int .i64 c.ha, .int .i64 c.sg] 24) := (XC6.out.alloc _).later hb7
      have B7 : Hid (Below w.heap.size w w7) := bto (bto B6.out (bnew _ _)) hb7
      have T7 : Hid (TensIn w7 a7 [oneT s 0]) := ht7
      clear ht7 hb7 T6
      clear c0 c1 c2 c3 c4 c5 XC6 B6 hy6 hx6
      have c0 := XC7.out.cell 0
      have c1 := XC7.out.cell 1
      have c2 := XC7.out.cell 2
      have c3 := XC7.out.cell 3
      have c4 := XC7.out.cell 4
      have c5 := XC7.out.cell 5
      have hx7 : X < w7.heap.size := lt_of_block XC7.out
      have hy7 : ¬ (X = w7.heap.size) := by omega
      go_wp2_with fail
      refine (idl_count1 hcf hWn hko hz a7 k7 _ (T7.out.later (bnew _ _)) (HT.out.later (bto B7.out (bnew _ _)))).mono ?_
      rintro e w8 ⟨rfl, hb8⟩
      have XC8 : Hid (Blk w8 X #[.int .i64 Wn, .int .i64 3, .int .i64 3, .int .i64 c.sh, .int .i64 c.ha, .int .i64 c.sg] 24) := (XC7.out.alloc _).later hb8
      have B8 : Hid (Below w.heap.size w w8) := bto (bto B7.out (bnew _ _)) hb8
      have E8 : Hid (Blk w8 w7.heap.size #[.int .i64 (Wn - 1), .slice a7 1 k7] 41) := (Blk.new _ _ _).later hb8
      have T8 : Hid (TensIn w8 a7 [oneT s 0]) := (T7.out.later (bnew _ _)).later hb8
      clear hb8 T7
      clear c0 c1 c2 c3 c4 c5 XC7 B7 hy7 hx7
      have c0 := XC8.out.cell 0
      have c1 := XC8.out.cell 1
      have c2 := XC8.out.cell 2
      have c3 := XC8.out.cell 3
      have c4 := XC8.out.cell 4
      have c5 := XC8.out.cell 5
      have hx8 : X < w8.heap.size := lt_of_block XC8.out
      have hy8 : ¬ (X = w8.heap.size) := by omega
      have e0 := E8.out.cell 0
      have e1 := E8.out.cell 1
      have hE8 : w7.heap.size < w8.heap.size := lt_of_block E8.out
      have jE8 : ¬ (w7.heap.size = w8.heap.size) := by omega
      go_wp2_with fail
      refine (idl_seen hcf hWn hko hz a7 k7 _ T8.out (HT.out.later B8.out)).mono ?_
      rintro e w9 ⟨a9, k9, rfl, ht9, hb9⟩
      have XC9 : Hid (Blk w9 X #[.int .i64 Wn, .int .i64 3, .int .i64 3, .int .i64 c.sh, .int .i64 c.ha, .int .i64 c.sg] 24) := XC8.out.later hb9
      have B9 : Hid (Below w.heap.size w w9) := bto B8.out hb9
      have E9 : Hid (Blk w9 w7.heap.size #[.int .i64 (Wn - 1), .slice a7 1 k7] 41) := E8.out.later hb9
      have T9 : Hid (TensIn w9 a7 [oneT s 0]) := T8.out.later hb9
      have S9 : Hid (TensIn w9 a9 [oneT s (Wn - 1)]) := ht9
      clear ht9 hb9 T8
      clear c0 c1 c2 c3 c4 c5 XC8 B8 hy8 hx8
      clear e0 e1 E8 hE8 jE8
      have c0 := XC9.out.cell 0
      have c1 := XC9.out.cell 1
      have c2 := XC9.out.cell 2
      have c3 := XC9.out.cell 3
      have c4 := XC9.out.cell 4
      have c5 := XC9.out.cell 5
      have hx9 : X < w9.heap.size := lt_of_block XC9.out
      have hy9 : ¬ (X = w9.heap.size) := by omega
      have e0 := E9.out.cell 0
      have e1 := E9.out.cell 1
      have hE9 : w7.heap.size < w9.heap.size := lt_of_block E9.out
      have jE9 : ¬ (w7.heap.size = w9.heap.size) := by omega
      go_wp2_with fail
      refine (idl_late hcf hWn hko hz a7 k7 _ (T9.out.later (bnew _ _)) (HT.out.later (bto B9.out (bnew _ _)))).mono ?_
      rintro e w10 ⟨a10, k10, rfl, hb10⟩
      have XC10 : Hid (Blk w10 X #[.int .i64 Wn, .int .i64 3, .int .i64 3, .int .i64 c.sh, .int .i64 c.ha, .int .i64 c.sg] 24) := (XC9.out.alloc _).later hb10
      have B10 : Hid (Below w.heap.size w w10) := bto (bto B9.out (bnew _ _)) hb10
      have S10 : Hid (Blk w10 w9.heap.size #[.int .i64 (Wn - 1), .slice a9 1 k9] 41) := (Blk.new _ _ _).later hb10
      have U10 : Hid (TensIn w10 a9 [oneT s (Wn - 1)]) := (S9.out.later (bnew _ _)).later hb10
      clear hb10 T9 S9
      clear c0 c1 c2 c3 c4 c5 XC9 B9 hy9 hx9
      clear e0 e1 E9 hE9 jE9
      have c0 := XC10.out.cell 0
      have c1 := XC10.out.cell 1
      have c2 := XC10.out.cell 2
      have c3 := XC10.out.cell 3
      have c4 := XC10.out.cell 4
      have c5 := XC10.out.cell 5
      have hx10 : X < w10.heap.size := lt_of_block XC10.out
      have hy10 : ¬ (X = w10.heap.size) := by omega
      have s0 := S10.out.cell 0
      have s1 := S10.out.cell 1
      have hS10 : w9.heap.size < w10.heap.size := lt_of_block S10.out
      have jS10 : ¬ (w9.heap.size = w10.heap.size) := by omega
      go_wp2_with fail
      refine (idl_count2 hcf hWn a10 k10 _ (HT.out.later (bto B10.out (bnew _ _)))).mono ?_
      rintro e w11 ⟨rfl, hb11⟩
      have XC11 : Hid (Blk w11 X #[.int .i64 Wn, .int .i64 3, .int .i64 3, .int .i64 c.sh, .int .i64 c.ha, .int .i64 c.sg] 24) := (XC10.out.alloc _).later hb11
      have B11 : Hid (Below w.heap.size w w11) := bto (bto B10.out (bnew _ _)) hb11
      have S11 : Hid (Blk w11 w9.heap.size #[.int .i64 (Wn - 1), .slice a9 1 k9] 41) := (S10.out.alloc _).later hb11
      have L11 : Hid (Blk w11 w10.heap.size #[.int .i64 Wn, .slice a10 0 k10] 41) := (Blk.new _ _ _).later hb11
      have U11 : Hid (TensIn w11 a9 [oneT s (Wn - 1)]) := (U10.out.later (bnew _ _)).later hb11
      clear hb11 U10
      clear c0 c1 c2 c3 c4 c5 XC10 B10 hy10 hx10
      clear s0 s1 S10 hS10 jS10
      have c0 := XC11.out.cell 0
      have c1 := XC11.out.cell 1
      have c2 := XC11.out.cell 2
      have c3 := XC11.out.cell 3
      have c4 := XC11.out.cell 4
      have c5 := XC11.out.cell 5
      have hx11 : X < w11.heap.size := lt_of_block XC11.out
      have hy11 : ¬ (X = w11.heap.size) := by omega
      have s0 := S11.out.cell 0
      have s1 := S11.out.cell 1
      have hS11 : w9.heap.size < w11.heap.size := lt_of_block S11.out
      have jS11 : ¬ (w9.heap.size = w11.heap.size) := by omega
      have l0 := L11.out.cell 0
      have l1 := L11.out.cell 1
      have hL11 : w10.heap.size < w11.heap.size := lt_of_block L11.out
      have jL11 : ¬ (w10.heap.size = w11.heap.size) := by omega
      go_wp2_with fail
      refine (idl_kept hcf hWn hko hz a9 k9 _ U11.out (HT.out.later B11.out)).mono ?_
      rintro e w12 ⟨a12, k12, rfl, ht12, hb12⟩
      have XC12 : Hid (Blk w12 X #[.int .i64 Wn, .int .i64 3, .int .i64 3, .int .i64 c.sh, .int .i64 c.ha, .int .i64 c.sg] 24) := XC11.out.later hb12
      have B12 : Hid (Below w.heap.size w w12) := bto B11.out hb12
      have T12 : Hid (TensIn w12 a12 [oneT s (Wn - 1)]) := ht12
      clear ht12 hb12 U11
      clear c0 c1 c2 c3 c4 c5 XC11 B11 hy11 hx11
      clear s0 s1 S11 hS11 jS11
      clear l0 l1 L11 hL11 jL11
      have c0 := XC12.out.cell 0
      have c1 := XC12.out.cell 1
      have c2 := XC12.out.cell 2
      have c3 := XC12.out.cell 3
      have c4 := XC12.out.cell 4
      have c5 := XC12.out.cell 5
      have hx12 : X < w12.heap.size := lt_of_block XC12.out
      have hy12 : ¬ (X = w12.heap.size) := by omega
      go_wp2_with fail
      have K13 : Hid (Blk (w12.alloc (.cells #[.int .i64 (2 * Wn - 2), .slice a12 1 k12] 41)) w12.heap.size #[.int .i64 (2 * Wn - 2), .slice a12 1 k12] 41) := heap_alloc_new _ _
      have XC13 : Hid (Blk (w12.alloc (.cells #[.int .i64 (2 * Wn - 2), .slice a12 1 k12] 41)) X #[.int .i64 Wn, .int .i64 3, .int .i64 3, .int .i64 c.sh, .int .i64 c.ha, .int .i64 c.sg] 24) := XC12.out.alloc _
      have B13 : Hid (Below w.heap.size w (w12.alloc (.cells #[.int .i64 (2 * Wn - 2), .slice a12 1 k12] 41))) := bto B12.out (bnew _ _)
      have T13 : Hid (TensIn (w12.alloc (.cells #[.int .i64 (2 * Wn - 2), .slice a12 1 k12] 41)) a12 [oneT s (Wn - 1)]) := T12.out.later (bnew _ _)
      generalize (w12.alloc (.cells #[.int .i64 (2 * Wn - 2), .slice a12 1 k12] 41)) = w13 at *
      generalize w12.heap.size = KB at *
      clear c0 c1 c2 c3 c4 c5 XC12 B12 T12 hx12 hy12
      have hmz' := hmz
      have HM : Hid (∀ W, Below w13.heap.size w13 W → Calls Tryz.prog 11 #[.string s] W fun e w' => e = .returned (.string (metK s)) ∧ Below W.heap.size W w') := fun W h => implMet_any s W (by omega) (HT.out.later (bto B13.out h))
      have HC3 : Hid (∀ W, Below w13.heap.size w13 W → Calls Tryz.prog 10 #[.agg #[.int .i64 Wn, .int .i64 3, .int .i64 3, .int .i64 c.sh, .int .i64 c.ha, .int .i64 c.sg], .agg #[.int .i64 (2 * Wn - 2), .slice a12 1 k12], .string ⟨#[97, 99, 109, 101]⟩, .string (metK s)] W fun e w' => e = .returned (.tuple #[.int .i64 1, .int .i64 3]) ∧ Below W.heap.size W w') := fun W h => idl_count3 hcf hWn hko hmo hz a12 k12 W (T13.out.later h) (HT.out.later (bto B13.out h)) hmz'
      have HTG : Hid (∀ W, Below w13.heap.size w13 W → Calls Tryz.prog 9 #[.agg #[.int .i64 Wn, .int .i64 3, .int .i64 3, .int .i64 c.sh, .int .i64 c.ha, .int .i64 c.sg], .agg #[.int .i64 (2 * Wn - 2), .slice a12 1 k12], .int .i64 1] W fun e w' => ∃ a cap, e = .returned (.tuple #[.agg #[.int .i64 (2 * Wn - 1), .slice a 0 cap], .bool true]) ∧ Below W.heap.size W w') := fun W h => idl_gone hcf hWn hko hz a12 k12 W (T13.out.later h) (HT.out.later (bto B13.out h))
      clear hmz hmz' hmo hko hcf
      generalize metK s = mk at *
      have HK : Hid (∀ w', Below w13.heap.size w13 w' → w'.cell? ⟨X, 0, none⟩ = some (.int .i64 Wn) ∧ w'.cell? ⟨X, 1, none⟩ = some (.int .i64 3) ∧ w'.cell? ⟨X, 2, none⟩ = some (.int .i64 3) ∧ w'.cell? ⟨X, 3, none⟩ = some (.int .i64 c.sh) ∧ w'.cell? ⟨X, 4, none⟩ = some (.int .i64 c.ha) ∧ w'.cell? ⟨X, 5, none⟩ = some (.int .i64 c.sg) ∧ w'.cell? ⟨KB, 0, none⟩ = some (.int .i64 (2 * Wn - 2)) ∧ w'.cell? ⟨KB, 1, none⟩ = some (.slice a12 1 k12)) := fun w' h => by
        have q := XC13.out.later h
        have p := K13.out.later h
        exact ⟨q.cell 0, q.cell 1, q.cell 2, q.cell 3, q.cell 4, q.cell 5, p.cell 0, p.cell 1⟩
      obtain ⟨c0, c1, c2, c3, c4, c5, kb0, kb1⟩ := HK.out w13 (Below.refl _ _)
      have hw1 : IntKind.i64.wrap (2 * Wn) = 2 * Wn := by
        simp only [IntKind.wrap, IntKind.bits, IntKind.signed]
        simp
        omega
      have hw2 : IntKind.i64.wrap (2 * Wn - 1) = 2 * Wn - 1 := by
        simp only [IntKind.wrap, IntKind.bits, IntKind.signed]
        simp
        omega
      go_cut [20] (fun nx wx => nx = .int .i64 1 ∧ Below w13.heap.size w13 wx)
      case first =>
        go_region_held3 (fun w' => w'.cell? ⟨X, 0, none⟩ = some (.int .i64 Wn) ∧ w'.cell? ⟨X, 1, none⟩ = some (.int .i64 3) ∧ w'.cell? ⟨X, 2, none⟩ = some (.int .i64 3) ∧ w'.cell? ⟨X, 3, none⟩ = some (.int .i64 c.sh) ∧ w'.cell? ⟨X, 4, none⟩ = some (.int .i64 c.ha) ∧ w'.cell? ⟨X, 5, none⟩ = some (.int .i64 c.sg) ∧ w'.cell? ⟨KB, 0, none⟩ = some (.int .i64 (2 * Wn - 2)) ∧ w'.cell? ⟨KB, 1, none⟩ = some (.slice a12 1 k12))
          (first | go_keep | with_reducible exact HK.out _ k4 | with_reducible exact HK.out _ k3)
          (first
          | ((fail_if_success (have q := k3)); refine step_enterI (f := 11) (args := #[.string s]) (by rfl) (by go_simp) ?_; refine (HM.out _ ((Below.refl _ _).drew)).mono ?_; rintro e w3 ⟨rfl, hb3⟩; refine ⟨_, rfl, ?_⟩; have k3 : Below w13.heap.size w13 w3 := (by exact bto (Below.refl _ _).drew hb3))
          | (have q := k3; clear q; refine step_enterI (f := 10) (args := #[.agg #[.int .i64 Wn, .int .i64 3, .int .i64 3, .int .i64 c.sh, .int .i64 c.ha, .int .i64 c.sg], .agg #[.int .i64 (2 * Wn - 2), .slice a12 1 k12], .string ⟨#[97, 99, 109, 101]⟩, .string mk]) (by rfl) (by go_simp) ?_; refine (HC3.out _ k3).mono ?_; rintro e w4 ⟨rfl, hb4⟩; refine ⟨_, rfl, ?_⟩; have k4 : Below w13.heap.size w13 w4 := (by exact bto k3 hb4)))
        all_goals (go_wp2_with fail; go_meet)
        all_goals exact ⟨rfl, k4⟩
      obtain ⟨rfl, hb14⟩ := hcut
      rename World => w14
      have B14 : Hid (Below w13.heap.size w13 w14) := hb14
      clear hb14 c0 c1 c2 c3 c4 c5 kb0 kb1
      obtain ⟨c0, c1, c2, c3, c4, c5, kb0, kb1⟩ := HK.out w14 B14.out
      go_wp2_with fail
      refine (HTG.out _ B14.out).mono ?_
      rintro e w15 ⟨a15, k15, rfl, hb15⟩
      have B15 : Hid (Below w.heap.size w w15) := bto (bto B13.out B14.out) hb15
      have hx15 : X < w15.heap.size := by have := lt_of_block XC13.out; have := B14.out.size; have := hb15.size; omega
      have hy15 : ¬ (X = w15.heap.size) := by omega
      clear c0 c1 c2 c3 c4 c5 kb0 kb1
      obtain ⟨c0, c1, c2, c3, c4, c5, kb0, kb1⟩ := HK.out w15 (bto B14.out hb15)
      clear hb15
      go_wp2
      go_ret
      exact ⟨rfl, bto B15.out (bnew _ _)⟩
end Go.Proofs.YtpajhkikcofhfaaGreatDoor

