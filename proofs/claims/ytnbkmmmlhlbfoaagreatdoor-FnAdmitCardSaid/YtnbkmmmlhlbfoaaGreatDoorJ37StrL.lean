import Derived.Test.YtnbkmmmlhlbfoaaGreatDoorProg
import Derived.Test.YtnbkmmmlhlbfoaaGreatDoorJ36IAdS
import Derived.Test.YtnbkmmmlhlbfoaaGreatDoorJ29SKin
import Derived.Test.YtnbkmmmlhlbfoaaGreatDoorJ02AppA
namespace Go.Proofs.YtnbkmmmlhlbfoaaGreatDoor
open Go.RowKit Go.Maps
set_option maxRecDepth 100000 in
set_option maxHeartbeats 16000000 in
theorem ladmit_any (l m : Nat) (tenant key : ByteArray) (c : CfgD) (now : Int) (B : Nat) (ts : List TenD) (M : Nat) (w : World) (h : LedAt w B l m c now ts M) (hB : B ≤ w.heap.size) (hU : UTab w) (hn : tenant.size ≤ 1048576) (hk : key.size ≤ 1048576) (hM : 1 ≤ M) (hM2 : M ≤ 1000000000) (hsl : ∀ t ∈ ts, t.sers.length ≤ 1000000000) (hlv : ∀ t ∈ ts, ∀ y ∈ t.sers, y.n ≤ now) (hlen : ts.length ≤ 1000000000) :
    Calls Tryz.prog 26 #[.pointer (some ⟨l, 0, none⟩), .string tenant, .string key] w fun e w' => e = .returned (.int .i64 ((admL c now ts tenant key).2 : Nat)) ∧ LedAt w' B l m c now (admL c now ts tenant key).1 (M + 1) ∧ Turn (fun g => B ≤ g) w w' := by
  have HLA := hid h
  obtain ⟨T, L, h, hL⟩ := h
  have HMT : Hid (Calls Tryz.prog 8 #[.string key] w fun e w' => e = .returned (.string (metK key)) ∧ Below w.heap.size w w') := implMet_any key w (by omega) hU
  have HT : Hid (∀ W, Calls Tryz.prog 30 #[.string tenant] W fun e w' => e = .returned (.bool (tnameB tenant)) ∧ w' = W) := fun W => isTenantName_any tenant W (by unfold maxLen; omega)
  have HS : Hid (admL c now ts tenant key = if (tnameB tenant && keyOK key) = false then (ts, 5) else if (getBy (·.s) key (tenOf ts tenant).sers).isSome = true then (insBy (·.name) (addT (tenOf ts tenant) key now) ts, 1) else if (if (tenOf ts tenant).limit = -1 then c.tl else (tenOf ts tenant).limit) ≤ ((tenOf ts tenant).sers.length : Nat) ∨ ((getBy (·.name) tenant ts).isNone && decide (10000 ≤ ts.length)) = true then (ts, 3) else if metLim (tenOf ts tenant).mets (metK key) c.ml ≤ (cntM metK (tenOf ts tenant).sers (metK key) : Nat) then (ts, 4) else (insBy (·.name) (addT (tenOf ts tenant) key now) ts, 2)) := rfl
  have HKO : Hid (keyOK key = !(metK key).toList.isEmpty) := rfl
  have HADD : Hid (∀ (S : Nat → Prop) (x : Nat) (t : TenD) (M0 : Nat) (W : World), IdxAt W S x t M0 → getBy (·.s) key t.sers = none → M0 ≤ 1000000000 → t.sers.length ≤ 1000000000 → Calls Tryz.prog 54 #[.pointer (some ⟨x, 0, none⟩), .string key, .string (metK key), .int .i64 now] W fun e w' => e = .returned (.tuple #[]) ∧ IdxAt w' (fun g => S g ∨ W.heap.size ≤ g) x (addT t key now) (M0 + 1) ∧ Turn S W w') := fun S x t M0 W hi hnew hM0 hl => add_any x t key now S M0 W hi hnew (by unfold maxLen; omega) (metK_size key) hM0 hl
  have HML : Hid (∀ (S : Nat → Prop) (x : Nat) (t : TenD) (M0 : Nat) (W : World), Blk W l (ledV c now m) 87 → IdxAt W S x t M0 → Calls Tryz.prog 53 #[.pointer (some ⟨l, 0, none⟩), .pointer (some ⟨x, 0, none⟩), .string (metK key)] W fun e w' => e = .returned (.int .i64 (metLim t.mets (metK key) c.ml)) ∧ w' = W) := fun S x t M0 W hl hi => metricLimitOf_any l m x c now t S M0 (metK key) W hl hi (metK_size key)
  have HLK : Hid (∀ (W : World) (cm M0 : Nat) (D : DataW Unit) (n : Nat), W.ownsMap Tryz.prog 9 (plainElem Tryz.prog 3) cm M0 D → D.atKey (kL (metK key)) (iVal 0) = iVal n → (Instr.lookup 93 (.map (some cm)) (.string (metK key)) false).run Tryz.prog W = .ok (.int .i64 n) W) := fun W cm M0 D n hm hc => look_cnt hm hc (metK_size key)
  clear hU
  rw [HKO.out] at HS
  clear HKO
  generalize metK key = mk at *
  generalize hb1 : tnameB tenant = b1 at *
  clear hb1
  generalize hR : admL c now ts tenant key = R at *
  clear hR
  by_cases h1 : b1 = false
  · have HV : Hid (R = (ts, 5)) := by show _ = _; rw [HS.out, if_pos (by rw [h1]; rfl)]
    clear HS h HADD HML HLK
    subst h1
    go_enter Tryz.func26, Tryz.ntmps26
    go_wp2_with fail
    refine HMT.out.mono ?_
    rintro e w1 ⟨rfl, hb1⟩
    have HB1 := hid hb1
    clear hb1
    go_wp2_with fail
    refine (HT.out _).mono ?_
    rintro e wz ⟨rfl, hw⟩
    replace hw := hw.symm
    subst hw
    go_wp2
    go_ret
    exact ⟨ret_int (by rw [HV.out]; rfl), by rw [HV.out]; exact (HLA.out.later HB1.out).mono (by omega), Turn.of HB1.out⟩
  have h1' : b1 = true := by simpa using h1
  subst h1'
  clear h1
  by_cases h2 : mk.toList.isEmpty = true
  · have HV : Hid (R = (ts, 5)) := by show _ = _; rw [HS.out, if_pos (by rw [h2]; rfl)]
    clear HS h HADD HML HLK
    go_enter Tryz.func26, Tryz.ntmps26
    go_wp2_with fail
    refine HMT.out.mono ?_
    rintro e w1 ⟨rfl, hb1⟩
    have HB1 := hid hb1
    clear hb1
    go_wp2_with fail
    refine (HT.out _).mono ?_
    rintro e wz ⟨rfl, hw⟩
    replace hw := hw.symm
    subst hw
    go_wp2
    go_ret
    exact ⟨ret_int (by rw [HV.out]; rfl), by rw [HV.out]; exact (HLA.out.later HB1.out).mono (by omega), Turn.of HB1.out⟩
  have h2' : mk.toList.isEmpty = false := by simpa using h2
  have HS2 : Hid (R = if (getBy (·.s) key (tenOf ts tenant).sers).isSome = true then (insBy (·.name) (addT (tenOf ts tenant) key now) ts, 1) else if (if (tenOf ts tenant).limit = -1 then c.tl else (tenOf ts tenant).limit) ≤ ((tenOf ts tenant).sers.length : Nat) ∨ ((getBy (·.name) tenant ts).isNone && decide (10000 ≤ ts.length)) = true then (ts, 3) else if metLim (tenOf ts tenant).mets mk c.ml ≤ (cntM metK (tenOf ts tenant).sers mk : Nat) then (ts, 4) else (insBy (·.name) (addT (tenOf ts tenant) key now) ts, 2)) := by show _ = _; rw [HS.out, if_neg (by rw [h2']; simp)]
  have HK : Hid (keyOf Tryz.prog 9 (.string tenant) = some (kL tenant)) := key_mk (by unfold maxLen; omega)
  have hsub := hL
  subst hsub
  have hln : (L.map (·.1)).length = L.length := List.length_map _
  have hlL : L.length ≤ 1000000000 := by omega
  have HGB : Hid (getBy (·.name) tenant (L.map (·.1)) = (getBy (fun p : TenD × Nat => p.1.name) tenant L).map (·.1)) := isNone_led
  have HTO : Hid (tenOf (L.map (·.1)) tenant = (((getBy (fun p : TenD × Nat => p.1.name) tenant L).map (·.1)).getD ⟨tenant, -1, [], []⟩)) := by
    show _ = _
    unfold tenOf
    rw [HGB.out]
  have HF : Hid (∀ W, LedS W B T l m c now L M → Calls Tryz.prog 50 #[.pointer (some ⟨l, 0, none⟩), .string tenant] W fun e w' => FindOut L tenant W e w') := fun W hW => find_any l m tenant c now B T L M W hW (by unfold maxLen; omega)
  unfold FindOut at HF
  have HH := hid h
  have HMB : Hid (B ≤ m ∧ B ≤ l) := ⟨h.mB, h.lB⟩
  clear h HS hL h2
  go_enter Tryz.func26, Tryz.ntmps26
  go_wp2_with fail
  refine HMT.out.mono ?_
  rintro e w1 ⟨rfl, hb1⟩
  have HB1 := hid hb1
  have H1 : Hid (LedS w1 B T l m c now L M) := HH.out.keep fun g hg _ => hb1.block g hg
  have hs1 := hb1.size
  clear hb1 HMT
  go_wp2_with fail
  refine (HT.out _).mono ?_
  rintro e wz ⟨rfl, hw⟩
  replace hw := hw.symm
  subst hw
  clear HT
  go_wp2_with fail
  refine (HF.out _ H1.out).mono ?_
  intro e w3 hfo
  have HFO := hid hfo
  clear hfo
  rcases HFO.out with ⟨p, hg, rfl, hw⟩ | ⟨hg, x, rfl, hx, hi, hb3⟩
  · replace hw := hw.symm
    subst hw
    obtain ⟨hp, hpn⟩ := getBy_mem hg
    have HTE : Hid (tenOf (L.map (·.1)) tenant = p.1) := by show _ = _; rw [HTO.out, hg]; rfl
    have HGS : Hid (getBy (·.name) tenant (L.map (·.1)) = some p.1) := by show _ = _; rw [HGB.out, hg]; rfl
    rw [HTE.out, HGS.out] at HS2
    have hpl : p.1.sers.length ≤ 1000000000 := hsl p.1 (List.mem_map_of_mem hp)
    have HNW : Hid (∀ y ∈ p.1.sers, y.n ≤ now) := hlv p.1 (List.mem_map_of_mem hp)
    have HP : Hid (p ∈ L ∧ p.1.name = tenant) := ⟨hp, hpn⟩
    have HIX : Hid (IdxAt w1 (fun g => B ≤ g ∧ T g = some p.2) p.2 p.1 M) := H1.out.idx p hp
    have HLB : Hid (Blk w1 l (ledV c now m) 87) := H1.out.blk
    have HBW : Hid (Below w.heap.size w w1) := HB1.out
    have HL1 := H1
    clear HFO hg hp hpn HTO HGB HTE HGS HF
    generalize ht : p.1 = t at *
    obtain ⟨lm, sm, cm, iv, Q, hs, D, hi⟩ := HIX.out
    have HI := hid hi
    have HQ1 : Hid (Q.map (·.1) = t.sers) := hi.q1
    have x2 : w1.cell? ⟨p.2, 2, none⟩ = some (.map (some sm)) := hi.blk.cell 2
    have x6 : w1.cell? ⟨l, 6, none⟩ = some (.int .i64 now) := HLB.out.cell 6
    have HLO : Hid (Calls Tryz.prog 51 #[.pointer (some ⟨l, 0, none⟩), .pointer (some ⟨p.2, 0, none⟩)] w1 fun e w' => e = .returned (.int .i64 (if t.limit = -1 then c.tl else t.limit)) ∧ w' = w1) := limitOf_any l m p.2 c now t (fun g => B ≤ g ∧ T g = some p.2) M w1 HLB.out HIX.out
    have l2 := hi.sers.len Tryz.underlying94 3
    rw [size_by] at l2
    have hqn : Q.length = t.sers.length := by rw [← hi.q1, List.length_map]
    rw [hqn] at l2
    have HGQ : Hid (getBy (·.s) key t.sers = (getBy (fun q : PairD × Nat => q.1.s) key Q).map (·.1)) := by
      show _ = _
      rw [← hi.q1]
      exact getBy_map (key := fun q : PairD × Nat => q.1.s) (key' := fun p : PairD => p.s) (fun q => q.1) (fun _ => rfl) key Q
    have HLS := hid (look_serA hi.sers (key := key) (by unfold maxLen; omega))
    have HMLY : Hid (∀ y : Later w1, Calls Tryz.prog 53 #[.pointer (some ⟨l, 0, none⟩), .pointer (some ⟨p.2, 0, none⟩), .string mk] y.w' fun e w' => e = .returned (.int .i64 (metLim t.mets mk c.ml)) ∧ w' = y.w') := fun y => HML.out _ p.2 t M y.w' (HLB.out.later y.h) (HIX.out.later y.h)
    have c3 : w1.cell? ⟨p.2, 3, none⟩ = some (.map (some cm)) := hi.blk.cell 3
    have d3 := Later.cells c3
    have HC : Hid (∀ y : Later w1, ∃ cm, y.w'.cell? ⟨p.2, 3, none⟩ = some (.map (some cm)) ∧ (Instr.lookup 93 (.map (some cm)) (.string mk) false).run Tryz.prog y.w' = .ok (.int .i64 (cntM metK t.sers mk)) y.w') := fun y => by
      obtain ⟨lm, sm, cm, iv, Q, hs, D, hi⟩ := HIX.out.later y.h
      exact ⟨cm, hi.blk.cell 3, HLK.out _ cm M D _ hi.cnts (hi.cnt mk)⟩
    have HCR : Hid (∀ y : Later w1, (Instr.lookup 93 (.map (some cm)) (.string mk) false).run Tryz.prog y.w' = .ok (.int .i64 (cntM metK t.sers mk)) y.w') := fun y => by
      obtain ⟨cm', h1, h2⟩ := HC.out y
      rw [d3 y] at h1
      cases h1
      exact h2
    have HNL : Hid (t.sers.length ≤ 1000000000) := hpl
    clear HML HLK HC hi c3 hpl hqn
    rcases HLS.out with ⟨q, hq, hrun⟩ | ⟨hq, hrun⟩
    · have HGK : Hid (getBy (·.s) key t.sers = some q.1) := by show _ = _; rw [HGQ.out, hq]; rfl
      have HV : Hid (R = (insBy (·.name) (addT t key now) (L.map (·.1)), 1)) := by show _ = _; rw [HS2.out, if_pos (by rw [HGK.out]; rfl)]
      obtain ⟨hqm, hqk⟩ := getBy_mem hq
      have hqb := HI.out.cells q hqm
      have HQB := hid hqb
      have y1 : w1.cell? ⟨q.2, 1, none⟩ = some (.int .i64 q.1.n) := hqb.cell 1
      have fy1 := hqb.free 1
      have ht1 : Turn (· = q.2) w1 (w1.setCell ⟨q.2, 1, none⟩ (.int .i64 now)) := (Turn.refl (· = q.2) w1).setCell (Or.inl rfl) 1 _
      have hbq : Blk (w1.setCell ⟨q.2, 1, none⟩ (.int .i64 now)) q.2 #[.string q.1.s, .int .i64 now] 50 := by have := hqb.set 1 (.int .i64 now); simpa using this
      have hin : IdxAt (w1.setCell ⟨q.2, 1, none⟩ (.int .i64 now)) (fun g => B ≤ g ∧ T g = some p.2) p.2 (addT t key now) M := by
        have := HI.out.seen hqm (HNW.out q.1 (by rw [← HQ1.out]; exact List.mem_map_of_mem hqm)) ht1 hbq
        rw [hqk] at this
        exact this
      have hts : Turn (fun g => B ≤ g ∧ T g = some p.2) w1 (w1.setCell ⟨q.2, 1, none⟩ (.int .i64 now)) := ht1.mono fun i _ e => by subst e; exact HI.out.sq q hqm
      have HL6 : Hid (LedAt (w1.setCell ⟨q.2, 1, none⟩ (.int .i64 now)) B l m c now (insBy (·.name) (addT t key now) (L.map (·.1))) (M + 1)) := by
        refine hid ?_
        have := led_turn (p := p) (t' := addT t key now) (M' := M) HL1.out (by omega) HP.out.1 (by rw [ht]; rfl) hts (hin.keep fun g _ hs => ⟨rfl, Or.inl hs⟩) (Nat.le_refl _)
        rw [insBy_map (key' := fun t : TenD => t.name) (fun p : TenD × Nat => p.1) (fun _ => rfl)] at this
        exact this.mono (by omega)
      have HT6 : Hid (Turn (fun g => B ≤ g) w (w1.setCell ⟨q.2, 1, none⟩ (.int .i64 now))) := (Turn.of HBW.out).trans' (hts.mono fun i _ e => e.1)
      clear hqb ht1 hbq hin hts hqm hqk hq HI HLS HQB l2
      go_wp2
      go_ret
      exact ⟨ret_int (by rw [HV.out]; rfl), by rw [HV.out]; exact HL6.out, HT6.out⟩
    · have HGK : Hid (getBy (·.s) key t.sers = none) := by show _ = _; rw [HGQ.out, hq]; rfl
      rw [HGK.out] at HS2
      have HADY : Hid (∀ W, Below w1.heap.size w1 W → Calls Tryz.prog 54 #[.pointer (some ⟨p.2, 0, none⟩), .string key, .string mk, .int .i64 now] W fun e w' => e = .returned (.tuple #[]) ∧ IdxAt w' (fun g => (fun g => B ≤ g ∧ T g = some p.2) g ∨ W.heap.size ≤ g) p.2 (addT t key now) (M + 1) ∧ Turn (fun g => B ≤ g ∧ T g = some p.2) W w') := fun W hW => HADD.out _ p.2 t M W (HIX.out.later hW) HGK.out (by omega) HNL.out
      clear HADD
      have HS3 : Hid (R = if (if t.limit = -1 then c.tl else t.limit) ≤ (t.sers.length : Nat) ∨ ((some t).isNone && decide (10000 ≤ (L.map (·.1)).length)) = true then (L.map (·.1), 3) else if metLim t.mets mk c.ml ≤ (cntM metK t.sers mk : Nat) then (L.map (·.1), 4) else (insBy (·.name) (addT t key now) (L.map (·.1)), 2)) := by show _ = _; rw [HS2.out, if_neg (by simp)]
      clear HS2 hq HLS HGQ
      generalize (if t.limit = -1 then c.tl else t.limit) = LM at *
      generalize hNS : t.sers.length = NS at *
      clear hNS
      by_cases hge : LM ≤ (NS : Int)
      · have HV : Hid (R = (L.map (·.1), 3)) := by show _ = _; rw [HS3.out, if_pos (Or.inl hge)]
        clear HS3
        go_wp2_with fail
        refine HLO.out.mono ?_
        rintro e wz ⟨rfl, hw⟩
        replace hw := hw.symm
        subst hw
        go_wp2
        go_ret
        exact ⟨ret_int (by rw [HV.out]; rfl), by rw [HV.out]; exact (show LedAt w1 B l m c now (L.map (·.1)) (M + 1) from LedAt.mono ⟨T, L, HL1.out, rfl⟩ (by omega)), Turn.of HBW.out⟩
      have HS4 : Hid (R = if metLim t.mets mk c.ml ≤ (cntM metK t.sers mk : Nat) then (L.map (·.1), 4) else (insBy (·.name) (addT t key now) (L.map (·.1)), 2)) := by show _ = _; rw [HS3.out, if_neg (by intro e; rcases e with e | e; exact hge e; simp at e)]
      clear HS3
      go_wp2_with fail
      refine HLO.out.mono ?_
      rintro e wz ⟨rfl, hw⟩
      replace hw := hw.symm
      subst hw
      have hrun : ∀ y : Later w1, (Instr.lookup 93 (.map (some cm)) (.string mk) false).run Tryz.prog y.w' = .ok (.int .i64 (cntM metK t.sers mk)) y.w' := HCR.out
      have hnel := Later.there w1
      clear HLO HCR l2 x2 HI
      generalize hNC : cntM metK t.sers mk = NC at *
      generalize hNL : metLim t.mets mk c.ml = NL at *
      clear hNC hNL
      by_cases hme2 : NL ≤ (NC : Int)
      · have HV : Hid (R = (L.map (·.1), 4)) := by show _ = _; rw [HS4.out, if_pos hme2]
        clear HS4
        go_wp2_with fail
        refine wp_region_later (by kernel_rfl) (by kernel_rfl) ?_
        repeat (go_big_quiet_step (first | (go_at_call 53; exact calls_later_same (HMLY.out _)) | fail))
        refine wpQuiet_nil ?_
        rintro _ ⟨y, rfl⟩
        go_wp2
        go_ret
        exact ⟨ret_int (by rw [HV.out]; rfl), by rw [HV.out]; exact (show LedAt y.w' B l m c now (L.map (·.1)) (M + 1) from LedAt.mono ⟨T, L, (HL1.out.keep fun g hg _ => y.h.block g hg), rfl⟩ (by omega)), Turn.of (bto HBW.out y.h)⟩
      · have HV : Hid (R = (insBy (·.name) (addT t key now) (L.map (·.1)), 2)) := by show _ = _; rw [HS4.out, if_neg hme2]
        clear HS4
        go_wp2_with fail
        refine wp_region_later (by kernel_rfl) (by kernel_rfl) ?_
        repeat (go_big_quiet_step (first | (go_at_call 53; exact calls_later_same (HMLY.out _)) | fail))
        refine wpQuiet_nil ?_
        rintro _ ⟨y, rfl⟩
        have HY : Hid (Below w1.heap.size w1 y.w') := y.h
        clear hrun d3 hnel HMLY x6
        generalize y.w' = W2 at *
        clear y
        have x6 : W2.cell? ⟨l, 6, none⟩ = some (.int .i64 now) := (HLB.out.later HY.out).cell 6
        have H2 : Hid (LedS W2 B T l m c now L M) := HL1.out.keep fun g hg _ => HY.out.block g hg
        have hs2 := HY.out.size
        go_wp2_with fail
        refine (HADY.out W2 HY.out).mono ?_
        rintro e w4 ⟨rfl, hi4, ht4⟩
        have HI4 := hid hi4
        have HT4 := hid ht4
        have hs4 := ht4.size
        have HTEN : Hid (w4.ownsMap Tryz.prog 9 ptrElem m L.length (mapOf (L.map fun p => (p.1.name, pVal p.2)))) := ht4.map H2.out.ten (fun e => by rw [H2.out.tm] at e; cases e.2)
        have x7 : w4.cell? ⟨l, 7, none⟩ = some (.map (some m)) := (ht4.blk H2.out.blk (fun e => by rw [H2.out.tl] at e; cases e.2)).cell 7
        have HTW : Hid (Turn (fun g => B ≤ g) w w4) := ((Turn.of HBW.out).trans' (Turn.of HY.out)).trans' (ht4.mono fun i _ e => e.1)
        clear hi4 ht4 HADY
        obtain ⟨w6, run6, own6, tn6⟩ := HTEN.out.store keyed Tryz.underlying85 (by unfold maxLen; omega) HK.out (ptrElem_mk p.2)
        have ht6 := Turn.mapped tn6
        have HL6 : Hid (LedAt w6 B l m c now (insBy (·.name) (addT t key now) (L.map (·.1))) (M + 1)) := by
          refine hid ?_
          have hnm : (addT t key now).name = p.1.name := by rw [ht]; rfl
          have own7 := own6
          rw [← HP.out.2] at own7
          have := led_put (p := p) (t' := addT t key now) (M' := M + 1) H2.out (by omega) HP.out.1 hnm HT4.out HI4.out (by omega) ht6 own7
          rw [insBy_map (key' := fun t : TenD => t.name) (fun p : TenD × Nat => p.1) (fun _ => rfl)] at this
          exact this
        have HT6 : Hid (Turn (fun g => B ≤ g) w w6) := HTW.out.trans' (ht6.mono fun i _ e => by have := HMB.out; omega)
        clear own6 tn6 ht6
        go_wp2
        go_ret
        exact ⟨ret_int (by rw [HV.out]; rfl), by rw [HV.out]; exact HL6.out, HT6.out⟩
  · have HTE : Hid (tenOf (L.map (·.1)) tenant = ⟨tenant, -1, [], []⟩) := by show _ = _; rw [HTO.out, hg]; rfl
    have HGS : Hid (getBy (·.name) tenant (L.map (·.1)) = none) := by show _ = _; rw [HGB.out, hg]; rfl
    rw [HTE.out, HGS.out] at HS2
    have HIX : Hid (IdxAt w3 (fun g => w1.heap.size ≤ g) x ⟨tenant, -1, [], []⟩ 0) := hi
    have HLB : Hid (Blk w3 l (ledV c now m) 87) := H1.out.blk.later hb3
    have HBW : Hid (Below w.heap.size w w3) := bto HB1.out hb3
    have HL1 : Hid (LedS w3 B T l m c now L M) := H1.out.keep fun g hg _ => hb3.block g hg
    have HG := hid hg
    have B3 := hid hb3
    have hs3 := hb3.size
    have hpl : (⟨tenant, -1, [], []⟩ : TenD).sers.length ≤ 1000000000 := by simp
    have HTN : Hid ((⟨tenant, -1, [], []⟩ : TenD).name = tenant) := rfl
    have HTS : Hid ((⟨tenant, -1, [], []⟩ : TenD).sers = []) := rfl
    clear HFO hg hi hb3 HTO HGB HTE HGS HF
    generalize (⟨tenant, -1, [], []⟩ : TenD) = t at *
    obtain ⟨lm, sm, cm, iv, Q, hs, D, hi⟩ := HIX.out
    have HI := hid hi
    have HQ1 : Hid (Q.map (·.1) = t.sers) := hi.q1
    have x2 : w3.cell? ⟨x, 2, none⟩ = some (.map (some sm)) := hi.blk.cell 2
    have x6 : w3.cell? ⟨l, 6, none⟩ = some (.int .i64 now) := HLB.out.cell 6
    have HLO : Hid (Calls Tryz.prog 51 #[.pointer (some ⟨l, 0, none⟩), .pointer (some ⟨x, 0, none⟩)] w3 fun e w' => e = .returned (.int .i64 (if t.limit = -1 then c.tl else t.limit)) ∧ w' = w3) := limitOf_any l m x c now t (fun g => w1.heap.size ≤ g) 0 w3 HLB.out HIX.out
    have l2 := hi.sers.len Tryz.underlying94 3
    rw [size_by] at l2
    have hqn : Q.length = t.sers.length := by rw [← hi.q1, List.length_map]
    rw [hqn] at l2
    have HGQ : Hid (getBy (·.s) key t.sers = (getBy (fun q : PairD × Nat => q.1.s) key Q).map (·.1)) := by
      show _ = _
      rw [← hi.q1]
      exact getBy_map (key := fun q : PairD × Nat => q.1.s) (key' := fun p : PairD => p.s) (fun q => q.1) (fun _ => rfl) key Q
    have HLS := hid (look_serA hi.sers (key := key) (by unfold maxLen; omega))
    have HMLY : Hid (∀ y : Later w3, Calls Tryz.prog 53 #[.pointer (some ⟨l, 0, none⟩), .pointer (some ⟨x, 0, none⟩), .string mk] y.w' fun e w' => e = .returned (.int .i64 (metLim t.mets mk c.ml)) ∧ w' = y.w') := fun y => HML.out _ x t 0 y.w' (HLB.out.later y.h) (HIX.out.later y.h)
    have c3 : w3.cell? ⟨x, 3, none⟩ = some (.map (some cm)) := hi.blk.cell 3
    have d3 := Later.cells c3
    have HC : Hid (∀ y : Later w3, ∃ cm, y.w'.cell? ⟨x, 3, none⟩ = some (.map (some cm)) ∧ (Instr.lookup 93 (.map (some cm)) (.string mk) false).run Tryz.prog y.w' = .ok (.int .i64 (cntM metK t.sers mk)) y.w') := fun y => by
      obtain ⟨lm, sm, cm, iv, Q, hs, D, hi⟩ := HIX.out.later y.h
      exact ⟨cm, hi.blk.cell 3, HLK.out _ cm 0 D _ hi.cnts (hi.cnt mk)⟩
    have HCR : Hid (∀ y : Later w3, (Instr.lookup 93 (.map (some cm)) (.string mk) false).run Tryz.prog y.w' = .ok (.int .i64 (cntM metK t.sers mk)) y.w') := fun y => by
      obtain ⟨cm', h1, h2⟩ := HC.out y
      rw [d3 y] at h1
      cases h1
      exact h2
    have HNL : Hid (t.sers.length ≤ 1000000000) := hpl
    clear HML HLK HC hi c3 hpl hqn
    have hq0 : Q = [] := by have := HQ1.out; rw [HTS.out] at this; simpa using this
    rcases HLS.out with ⟨q, hq, hrun⟩ | ⟨hq, hrun⟩
    · rw [hq0] at hq
      cases hq
    · clear hq0
      have HGK : Hid (getBy (·.s) key t.sers = none) := by show _ = _; rw [HGQ.out, hq]; rfl
      rw [HGK.out] at HS2
      have HADY : Hid (∀ W, Below w3.heap.size w3 W → Calls Tryz.prog 54 #[.pointer (some ⟨x, 0, none⟩), .string key, .string mk, .int .i64 now] W fun e w' => e = .returned (.tuple #[]) ∧ IdxAt w' (fun g => (fun g => w1.heap.size ≤ g) g ∨ W.heap.size ≤ g) x (addT t key now) (0 + 1) ∧ Turn (fun g => w1.heap.size ≤ g) W w') := fun W hW => HADD.out _ x t 0 W (HIX.out.later hW) HGK.out (by omega) HNL.out
      clear HADD
      have HS3 : Hid (R = if (if t.limit = -1 then c.tl else t.limit) ≤ (t.sers.length : Nat) ∨ (((none : Option TenD)).isNone && decide (10000 ≤ (L.map (·.1)).length)) = true then (L.map (·.1), 3) else if metLim t.mets mk c.ml ≤ (cntM metK t.sers mk : Nat) then (L.map (·.1), 4) else (insBy (·.name) (addT t key now) (L.map (·.1)), 2)) := by show _ = _; rw [HS2.out, if_neg (by simp)]
      clear HS2 hq HLS HGQ
      generalize (if t.limit = -1 then c.tl else t.limit) = LM at *
      generalize hNS : t.sers.length = NS at *
      clear hNS
      by_cases hge : LM ≤ (NS : Int)
      · have HV : Hid (R = (L.map (·.1), 3)) := by show _ = _; rw [HS3.out, if_pos (Or.inl hge)]
        clear HS3
        go_wp2_with fail
        refine HLO.out.mono ?_
        rintro e wz ⟨rfl, hw⟩
        replace hw := hw.symm
        subst hw
        go_wp2
        go_ret
        exact ⟨ret_int (by rw [HV.out]; rfl), by rw [HV.out]; exact (show LedAt w3 B l m c now (L.map (·.1)) (M + 1) from LedAt.mono ⟨T, L, HL1.out, rfl⟩ (by omega)), Turn.of HBW.out⟩
      have HFU : Hid (Calls Tryz.prog 52 #[.pointer (some ⟨l, 0, none⟩)] w3 fun e w' => e = .returned (.bool (decide (10000 ≤ L.length))) ∧ w' = w3) := full_any l m c now B T L M w3 HL1.out
      by_cases hfl : 10000 ≤ L.length
      · have HV : Hid (R = (L.map (·.1), 3)) := by show _ = _; rw [HS3.out, if_pos (Or.inr (by rw [hln]; simpa using hfl))]
        have hfd : decide (10000 ≤ L.length) = true := by simpa using hfl
        rw [hfd] at HFU
        clear HS3 hfd hfl
        go_wp2_with fail
        refine HLO.out.mono ?_
        rintro e wz ⟨rfl, hw⟩
        replace hw := hw.symm
        subst hw
        go_wp2_with fail
        refine HFU.out.mono ?_
        rintro e wz ⟨rfl, hw⟩
        replace hw := hw.symm
        subst hw
        go_wp2
        go_ret
        exact ⟨ret_int (by rw [HV.out]; rfl), by rw [HV.out]; exact (show LedAt w3 B l m c now (L.map (·.1)) (M + 1) from LedAt.mono ⟨T, L, HL1.out, rfl⟩ (by omega)), Turn.of HBW.out⟩
      have hfd : decide (10000 ≤ L.length) = false := by simpa using hfl
      rw [hfd] at HFU
      have HS4 : Hid (R = if metLim t.mets mk c.ml ≤ (cntM metK t.sers mk : Nat) then (L.map (·.1), 4) else (insBy (·.name) (addT t key now) (L.map (·.1)), 2)) := by show _ = _; rw [HS3.out, if_neg (by intro e; rcases e with e | e; exact hge e; rw [hln, hfd] at e; simp at e)]
      clear HS3 hfd
      go_wp2_with fail
      refine HLO.out.mono ?_
      rintro e wz ⟨rfl, hw⟩
      replace hw := hw.symm
      subst hw
      go_wp2_with fail
      refine HFU.out.mono ?_
      rintro e wz ⟨rfl, hw⟩
      replace hw := hw.symm
      subst hw
      have hrun : ∀ y : Later w3, (Instr.lookup 93 (.map (some cm)) (.string mk) false).run Tryz.prog y.w' = .ok (.int .i64 (cntM metK t.sers mk)) y.w' := HCR.out
      have hnel := Later.there w3
      clear HLO HCR l2 x2 HI
      generalize hNC : cntM metK t.sers mk = NC at *
      generalize hNL : metLim t.mets mk c.ml = NL at *
      clear hNC hNL
      by_cases hme2 : NL ≤ (NC : Int)
      · have HV : Hid (R = (L.map (·.1), 4)) := by show _ = _; rw [HS4.out, if_pos hme2]
        clear HS4
        go_wp2_with fail
        refine wp_region_later (by kernel_rfl) (by kernel_rfl) ?_
        repeat (go_big_quiet_step (first | (go_at_call 53; exact calls_later_same (HMLY.out _)) | fail))
        refine wpQuiet_nil ?_
        rintro _ ⟨y, rfl⟩
        go_wp2
        go_ret
        exact ⟨ret_int (by rw [HV.out]; rfl), by rw [HV.out]; exact (show LedAt y.w' B l m c now (L.map (·.1)) (M + 1) from LedAt.mono ⟨T, L, (HL1.out.keep fun g hg _ => y.h.block g hg), rfl⟩ (by omega)), Turn.of (bto HBW.out y.h)⟩
      · have HV : Hid (R = (insBy (·.name) (addT t key now) (L.map (·.1)), 2)) := by show _ = _; rw [HS4.out, if_neg hme2]
        clear HS4
        go_wp2_with fail
        refine wp_region_later (by kernel_rfl) (by kernel_rfl) ?_
        repeat (go_big_quiet_step (first | (go_at_call 53; exact calls_later_same (HMLY.out _)) | fail))
        refine wpQuiet_nil ?_
        rintro _ ⟨y, rfl⟩
        have HY : Hid (Below w3.heap.size w3 y.w') := y.h
        clear hrun d3 hnel HMLY x6
        generalize y.w' = W2 at *
        clear y
        have x6 : W2.cell? ⟨l, 6, none⟩ = some (.int .i64 now) := (HLB.out.later HY.out).cell 6
        have H2 : Hid (LedS W2 B T l m c now L M) := HL1.out.keep fun g hg _ => HY.out.block g hg
        have hs2 := HY.out.size
        go_wp2_with fail
        refine (HADY.out W2 HY.out).mono ?_
        rintro e w4 ⟨rfl, hi4, ht4⟩
        have HI4 := hid hi4
        have HT4 := hid ht4
        have hs4 := ht4.size
        have BB : Hid (Below w1.heap.size w1 w4) := (bto B3.out HY.out).trans (ht4.below (by omega) fun i hi e => by omega)
        have H4 : Hid (LedS w4 B T l m c now L M) := H1.out.keep fun g hg _ => BB.out.block g hg
        have HTEN := hid H4.out.ten
        have x7 : w4.cell? ⟨l, 7, none⟩ = some (.map (some m)) := H4.out.blk.cell 7
        have HTW : Hid (Turn (fun g => B ≤ g) w w4) := (Turn.of HB1.out).trans' (Turn.of BB.out)
        clear hi4 ht4 HADY
        obtain ⟨w6, run6, own6, tn6⟩ := HTEN.out.store keyed Tryz.underlying85 (by unfold maxLen; omega) HK.out (ptrElem_mk x)
        have ht6 := Turn.mapped tn6
        have HL6 : Hid (LedAt w6 B l m c now (insBy (·.name) (addT t key now) (L.map (·.1))) (M + 1)) := by
          refine hid ?_
          have own7 := own6
          rw [← HTN.out] at own7
          have := (load_end (x := x) (t := addT t key now) (M' := 1) H1.out (by omega) (by show getBy (fun p : TenD × Nat => p.1.name) t.name L = none; rw [HTN.out]; exact HG.out) (Below.refl _ _) BB.out hx ht6 own7 (Turn.refl _ w6) (HI4.out.keep fun g hg hs => ⟨ht6.block g hg (fun e => by have := H1.out.ten.lt; rcases hs with hs | hs <;> omega), by rcases hs with hs | hs <;> omega⟩) hM).mono (show M ≤ M + 1 by omega)
          rw [insBy_map (key' := fun t : TenD => t.name) (fun p : TenD × Nat => p.1) (fun _ => rfl)] at this
          exact this
        have HT6 : Hid (Turn (fun g => B ≤ g) w w6) := HTW.out.trans' (ht6.mono fun i _ e => by have := HMB.out; omega)
        clear own6 tn6 ht6
        go_wp2
        go_ret
        exact ⟨ret_int (by rw [HV.out]; rfl), by rw [HV.out]; exact HL6.out, HT6.out⟩
end Go.Proofs.YtnbkmmmlhlbfoaaGreatDoor
namespace Go.Proofs.YtnbkmmmlhlbfoaaGreatDoor
open Go.RowKit Go.Maps
def AdOut (V : Int × List TenD × Nat) (w : World) (e : Ending) (w' : World) : Prop :=
  ∃ a cap, e = .returned (.tuple #[.agg #[.int .i64 V.1, .slice a V.2.1.length cap], .int .i64 (V.2.2 : Nat)]) ∧ TensOwn w' w.heap.size a V.2.1 ∧ Below w.heap.size w w'
theorem addT_fit {t : TenD} {key : ByteArray} {now : Int} (h : t.name.size ≤ 1048576 ∧ (∀ p ∈ t.mets, p.s.size ≤ 1048576) ∧ (∀ p ∈ t.sers, p.s.size ≤ 1048576) ∧ t.mets.length ≤ 1048576 ∧ t.sers.length ≤ 1048576) (hk : key.size ≤ 1048576) : FitS (addT t key now) := by
  obtain ⟨h1, h2, h3, h4, h5⟩ := h
  refine ⟨h1, h2, fun p hp => ?_, Nat.le_succ_of_le h4, ?_⟩
  · rcases insBy_mem (show p ∈ insBy (·.s) ⟨key, now⟩ t.sers from hp) with rfl | hp
    · exact hk
    · exact h3 p hp
  · have := insBy_len_le (key := fun p : PairD => p.s) (a := ⟨key, now⟩) t.sers
    show (insBy (·.s) (⟨key, now⟩ : PairD) t.sers).length ≤ _
    omega
theorem admL_fit {ts : List TenD} (h : ∀ x ∈ ts, x.name.size ≤ 1048576 ∧ (∀ p ∈ x.mets, p.s.size ≤ 1048576) ∧ (∀ p ∈ x.sers, p.s.size ≤ 1048576) ∧ x.mets.length ≤ 1048576 ∧ x.sers.length ≤ 1048576) {c : CfgD} {now : Int} {tenant key : ByteArray} (hn : tenant.size ≤ 1048576) (hk : key.size ≤ 1048576) :
    (∀ x ∈ (admL c now ts tenant key).1, FitS x) ∧ (admL c now ts tenant key).1.length ≤ ts.length + 1 := by
  have h0 : ∀ x ∈ ts, FitS x := fun x hx => by
    obtain ⟨h1, h2, h3, h4, h5⟩ := h x hx
    exact ⟨h1, h2, h3, by omega, by omega⟩
  have hi : (∀ x ∈ insBy (·.name) (addT (tenOf ts tenant) key now) ts, FitS x) ∧ (insBy (·.name) (addT (tenOf ts tenant) key now) ts).length ≤ ts.length + 1 := by
    refine ⟨fun x hx => ?_, insBy_len_le _⟩
    rcases insBy_mem hx with rfl | hx
    · exact addT_fit (tenOf_fit h hn) hk
    · exact h0 x hx
  have hs : (∀ x ∈ ts, FitS x) ∧ ts.length ≤ ts.length + 1 := ⟨h0, Nat.le_succ _⟩
  unfold admL
  split
  · exact hs
  · split
    · exact hi
    · generalize (if (tenOf ts tenant).limit = -1 then c.tl else (tenOf ts tenant).limit) = LM
      split
      · exact hs
      · split
        · exact hs
        · exact hi
set_option maxRecDepth 100000 in
set_option maxHeartbeats 4000000 in
theorem implAdmit_any (c : CfgD) (now : Int) (a : Option Addr) (cap : Nat) (ts : List TenD) (tenant key : ByteArray) (w : World) (hf : TensIn w a ts) (hbk : ts.length + tensBulk ts ≤ 1048576) (hU : UTab w) (hn : tenant.size ≤ 1048576) (hk : key.size ≤ 1048576) :
    Calls Tryz.prog 6 #[cfgV c, .agg #[.int .i64 now, .slice a ts.length cap], .string tenant, .string key] w fun e w' => AdOut (admitV c now ts tenant key) w e w' := by
  obtain ⟨f1, f2, f3, f4⟩ := fit_of hbk
  have hfs := fitS_of hbk
  obtain ⟨hfl, hsl⟩ := admL_fit hfs (c := c) (now := now) hn hk
  have HO : Hid (∀ W, Below w.heap.size w W → Calls Tryz.prog 25 #[cfgV c, .agg #[.int .i64 now, .slice a ts.length cap]] W fun e w' => OpenOut c now ts 1048576 W e w') := fun W hW => open_any c now a cap ts 1048576 W (hf.later hW) f1 (by omega) (hU.later hW)
  have HSL : Hid (∀ l m B W, stateB c now ts = true → Below w.heap.size w W → B ≤ W.heap.size → LedAt W B l m c now ts 1048576 → Calls Tryz.prog 26 #[.pointer (some ⟨l, 0, none⟩), .string tenant, .string key] W fun e w' => e = .returned (.int .i64 ((admL c now ts tenant key).2 : Nat)) ∧ LedAt w' B l m c now (admL c now ts tenant key).1 (1048576 + 1) ∧ Turn (fun g => B ≤ g) W w') := fun l m B W hs hW hB h => ladmit_any l m tenant key c now B ts 1048576 W h hB (hU.later hW) hn hk (by omega) (by omega) (fun t ht => by have := (hfs t ht).2.2.2.2; omega) (fun t ht y hy => (sers_at (ten_parts (tens_at (tens_of hs).2.2.2.2 t ht)).2.2.1 y hy).2.2) (by omega)
  have HTL : Hid (∀ l m B W, LedAt W B l m c now (admL c now ts tenant key).1 (1048576 + 1) → Calls Tryz.prog 27 #[.pointer (some ⟨l, 0, none⟩)] W fun e w' => ∃ a cap, e = .returned (.agg #[.int .i64 now, .slice a (admL c now ts tenant key).1.length cap]) ∧ TensOwn w' W.heap.size a (admL c now ts tenant key).1 ∧ Below W.heap.size W w') := fun l m B W h => ltell_any l m c now B _ (1048576 + 1) W h (fitL_of hfl) (by omega)
  have HV0 : Hid (stateB c now ts = false → admitV c now ts tenant key = (0, [], 5)) := fun h => by unfold admitV; rw [if_pos h]
  have HV1 : Hid (stateB c now ts = true → admitV c now ts tenant key = (now, (admL c now ts tenant key).1, (admL c now ts tenant key).2)) := fun h => admL_eq h tenant key
  clear hf f1 f2 f3 f4 hfs hfl hU
  unfold OpenOut at HO
  unfold AdOut
  generalize admitV c now ts tenant key = V at *
  generalize admL c now ts tenant key = R at *
  unfold cfgV at *
  go_enter Tryz.func6, Tryz.ntmps6
  have B1 : Hid (Below w.heap.size w (((w.alloc (.cells #[.int .i64 c.w, .int .i64 c.tl, .int .i64 c.ml, .int .i64 c.sh, .int .i64 c.ha, .int .i64 c.sg] 24)).alloc (.cells #[.int .i64 now, .slice a ts.length cap] 27)).alloc (.cells #[.int .i64 0, .slice none 0 0] 27))) := bto (bto (bnew _ _) (bnew _ _)) (bnew _ _)
  have R1 : Hid (Blk (((w.alloc (.cells #[.int .i64 c.w, .int .i64 c.tl, .int .i64 c.ml, .int .i64 c.sh, .int .i64 c.ha, .int .i64 c.sg] 24)).alloc (.cells #[.int .i64 now, .slice a ts.length cap] 27)).alloc (.cells #[.int .i64 0, .slice none 0 0] 27)) (w.heap.size + 1 + 1) #[.int .i64 0, .slice none 0 0] 27) := hid (by have := Blk.new ((w.alloc (.cells #[.int .i64 c.w, .int .i64 c.tl, .int .i64 c.ml, .int .i64 c.sh, .int .i64 c.ha, .int .i64 c.sg] 24)).alloc (.cells #[.int .i64 now, .slice a ts.length cap] 27)) #[.int .i64 0, .slice none 0 0] 27; simpa using this)
  go_wp2_with fail
  refine (HO.out _ B1.out).mono ?_
  intro e w1 hx
  have HX := hid hx
  clear hx
  rcases HX.out with ⟨hs, rfl, hb⟩ | ⟨hs, l, m, rfl, hlo, hled, hb⟩
  · have HB : Hid (Below w.heap.size w w1) := bto B1.out hb
    have RB : Hid (Blk w1 (w.heap.size + 1 + 1) #[.int .i64 0, .slice none 0 0] 27) := R1.out.later hb
    have HV : Hid (V = (0, [], 5)) := HV0.out hs
    have y0 : w1.cell? ⟨w.heap.size + 1 + 1, 0, none⟩ = some (.int .i64 0) := RB.out.cell 0
    have y1 : w1.cell? ⟨w.heap.size + 1 + 1, 1, none⟩ = some (.slice none 0 0) := RB.out.cell 1
    have f0 := RB.out.free 0
    have f1 := RB.out.free 1
    have hwl : w.heap.size + 1 + 1 < w1.heap.size := lt_of_block RB.out
    clear HX hb hs
    go_wp2
    refine bodyPost_ret (v := .tuple #[.agg #[.int .i64 0, .slice none 0 0], .int .i64 5]) (by simp [results, Tryz.results6, go_sem, y0, y1]) rfl ?_
    rw [HV.out]
    refine ⟨none, 0, rfl, Or.inl rfl, ?_⟩
    first
      | exact (HB.out.setCell (by show w.heap.size ≤ w.heap.size + 1 + 1; omega) _).setCell (by show w.heap.size ≤ w.heap.size + 1 + 1; omega) _
      | exact HB.out
  · have HB : Hid (Below w.heap.size w w1) := bto B1.out hb
    have RB : Hid (Blk w1 (w.heap.size + 1 + 1) #[.int .i64 0, .slice none 0 0] 27) := R1.out.later hb
    have HV : Hid (V = (now, R.1, R.2)) := HV1.out hs
    have HSB := hid hs
    have HL := hid hled
    have hs1 := hb.size
    have hs0 : w.heap.size + 1 + 1 < (((w.alloc (.cells #[.int .i64 c.w, .int .i64 c.tl, .int .i64 c.ml, .int .i64 c.sh, .int .i64 c.ha, .int .i64 c.sg] 24)).alloc (.cells #[.int .i64 now, .slice a ts.length cap] 27)).alloc (.cells #[.int .i64 0, .slice none 0 0] 27)).heap.size := lt_of_block R1.out
    generalize (((w.alloc (.cells #[.int .i64 c.w, .int .i64 c.tl, .int .i64 c.ml, .int .i64 c.sh, .int .i64 c.ha, .int .i64 c.sg] 24)).alloc (.cells #[.int .i64 now, .slice a ts.length cap] 27)).alloc (.cells #[.int .i64 0, .slice none 0 0] 27)) = w0 at *
    clear HX hb hs hled HO HV0 HV1
    go_wp2_with fail
    refine (HSL.out l m _ _ HSB.out HB.out hs1 HL.out).mono ?_
    rintro e w2 ⟨rfl, hl2, ht2⟩
    have HL2 := hid hl2
    have R2 : Hid (Blk w2 (w.heap.size + 1 + 1) #[.int .i64 0, .slice none 0 0] 27) := ht2.blk RB.out (by omega)
    have B2 : Hid (Below w.heap.size w w2) := HB.out.trans (ht2.below (by omega) fun i hi e => by omega)
    clear hl2 ht2 HSL
    go_wp2_with fail
    refine (HTL.out l m _ _ HL2.out).mono ?_
    rintro e w3 ⟨ra, rc, rfl, ho3, hb3⟩
    have HO3 : Hid (TensOwn w3 w2.heap.size ra R.1) := ho3
    have R3 : Hid (Blk w3 (w.heap.size + 1 + 1) #[.int .i64 0, .slice none 0 0] 27) := R2.out.later hb3
    have B3 : Hid (Below w.heap.size w w3) := bto B2.out hb3
    have y0 : w3.cell? ⟨w.heap.size + 1 + 1, 0, none⟩ = some (.int .i64 0) := R3.out.cell 0
    have y1 : w3.cell? ⟨w.heap.size + 1 + 1, 1, none⟩ = some (.slice none 0 0) := R3.out.cell 1
    have f0 := R3.out.free 0
    have f1 := R3.out.free 1
    have hwl : w.heap.size + 1 + 1 < w3.heap.size := lt_of_block R3.out
    have hw2 : w.heap.size + 1 + 1 < w2.heap.size := lt_of_block R2.out
    clear ho3 hb3
    go_wp2
    have HTE : Turn (· = w.heap.size + 1 + 1) w3 ((w3.setCell ⟨w.heap.size + 1 + 1, 0, none⟩ (.int .i64 now)).setCell ⟨w.heap.size + 1 + 1, 1, none⟩ (.slice ra R.1.length rc)) := ((Turn.refl (· = w.heap.size + 1 + 1) w3).setCell (Or.inl rfl) 0 _).setCell (Or.inl rfl) 1 _
    refine bodyPost_ret (v := .tuple #[.agg #[.int .i64 now, .slice ra R.1.length rc], .int .i64 (R.2 : Nat)]) (by simp [results, Tryz.results6, go_sem, y0, y1]) rfl ?_
    rw [HV.out]
    have ho : TensOwn ((w3.setCell ⟨w.heap.size + 1 + 1, 0, none⟩ (.int .i64 now)).setCell ⟨w.heap.size + 1 + 1, 1, none⟩ (.slice ra R.1.length rc)) w.heap.size ra R.1 := (TensOwn.turned HO3.out HTE (fun g h1 h2 e => by omega)).mono (by omega)
    have hbe : Below w.heap.size w ((w3.setCell ⟨w.heap.size + 1 + 1, 0, none⟩ (.int .i64 now)).setCell ⟨w.heap.size + 1 + 1, 1, none⟩ (.slice ra R.1.length rc)) := ((Turn.of (S := fun i => w.heap.size ≤ i) B3.out).trans' (HTE.mono fun i _ e => by omega)).below (Nat.le_refl _) fun i hi h => by omega
    first
      | exact ⟨ra, ⟨rc, rfl⟩, ho, hbe⟩
      | exact ⟨ra, rc, rfl, ho, hbe⟩
end Go.Proofs.YtnbkmmmlhlbfoaaGreatDoor
namespace Go.Proofs.YtnbkmmmlhlbfoaaGreatDoor
open Go.RowKit
theorem str_nil {x : ByteArray} : x.toList.isEmpty = true ↔ x = ByteArray.empty := by
  rw [List.isEmpty_iff]
  constructor
  · intro h
    exact toList_inj (by rw [h, ByteArray.toList_eq]; rfl)
  · intro h
    rw [h, ByteArray.toList_eq]; rfl
theorem str_some {x : ByteArray} : x.toList.isEmpty = false ↔ x ≠ ByteArray.empty := by rw [← Bool.not_eq_true, str_nil]
end Go.Proofs.YtnbkmmmlhlbfoaaGreatDoor
