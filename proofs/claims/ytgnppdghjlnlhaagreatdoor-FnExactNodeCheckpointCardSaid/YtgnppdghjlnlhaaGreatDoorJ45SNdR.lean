import Derived.Test.YtgnppdghjlnlhaaGreatDoorProg
import Derived.Test.YtgnppdghjlnlhaaGreatDoorJ42SNdC
import Derived.Test.YtgnppdghjlnlhaaGreatDoorJ43SNdF
import Derived.Test.YtgnppdghjlnlhaaGreatDoorJ44SSeg
import Derived.Deep.Cut
namespace Go.Proofs.YtgnppdghjlnlhaaGreatDoor
open Go.RowKit
theorem log_in {L : LogD} (h : logB L = true) : 1 ≤ L.first ∧ L.first ≤ L.last ∧ L.last ≤ 999999 := by
  simp only [logB, btwB, Bool.and_eq_true, decide_eq_true_eq] at h
  omega
set_option maxRecDepth 100000 in
set_option maxHeartbeats 8000000 in
theorem specCk_run (c : CfgD) (a b : Option Addr) (ca cb : Nat) (N : NodeD) (w : World) (h : SpIn w a b N) (hF : Fit N.d.fs) (hc : cfgB c = true) (hup : upB N = true) (hlg : logB N.l = true) (h9 : ¬ N.l.last = 999999) (hte : ¬ staB N.lsn N.now N.ts = ⟨#[]⟩) (hsz : (staB N.lsn N.now N.ts).size ≤ 200000000) :
    Calls Tryz.prog 5 #[cfgV c, .agg #[.slice a N.d.fs.length ca, .int .i64 N.d.c, .int .i64 N.d.k, .int .i64 N.d.cr, .int .i64 N.d.fl, .bool N.d.dn, .int .i64 N.l.first, .int .i64 N.l.last, .int .i64 N.l.size, .int .i64 N.now, .slice b N.ts.length cb, .int .i64 N.lsn, .bool N.deg, .bool N.up]] w fun e w' => SpOut c N w e w' := by
  have HCF := hid (fun W => specCfg_any c W)
  have hb := h.bulk
  have HCP := hid (fun W (hW : Below w.heap.size w W) => l5Copy_any a b ca cb N W (h.files.later hW) h.len (h.tens.later hW) (by omega) (ten_fitS h.bulk))
  obtain ⟨e1, _, _, e4⟩ := est_fit h.bulk
  have HES := hid (fun W (hW : Below w.heap.size w W) => specEst_any N.lsn N.now b cb N.ts W (h.tens.later hW) e1 h.rng h.lsn h.now (by omega) e4)
  have HLG := hid (fun W => specLogOK_any N.l W)
  have HFL := hid (fun W a' ca' K (hW : Below w.heap.size w W) => l5Failed_any a b a' ca cb ca' N K N.l W (h.files.later hW) h.len (h.tens.later hW) (by omega) (ten_fitS h.bulk))
  have HFD := hid (fun W (hW : Below w.heap.size w W) => l1Find_any a ca N.d.fs N.d.c N.d.k N.d.cr N.d.fl N.d.dn tmpN W (h.files.later hW) (by have := h.len; unfold maxLen; omega))
  have HFI := hid (fun W (hW : Below w.heap.size w W) => h.files.later hW)
  have hu : N.up = true ∧ N.deg = false := by simpa [upB] using hup
  have H1 := hid hu.1
  have H2 := hid hu.2
  obtain ⟨text, htx⟩ : ∃ t, t = staB N.lsn N.now N.ts := ⟨_, rfl⟩
  obtain ⟨hl1, hl2, hl3⟩ := log_in hlg
  have h9l : N.l.last < 999999 := by omega
  have EOK := hid (fun K (hK : runD N.d (ckOps N.d N.l text) = (K, 0)) => ck_ok hc hup hlg h9 htx (by rw [htx]; exact hte) hK)
  have EBD := hid (fun K x (hK : runD N.d (ckOps N.d N.l text) = (K, x)) (hx : ¬ x = 0) => ck_bad hc hup hlg h9 htx (by rw [htx]; exact hte) hK hx)
  have HFIT := hid (ckOps_fit (K := N.d) (L := N.l) (show text.size ≤ 200000000 by rw [htx]; exact hsz))
  have HF0 := hid hF
  have hE : text.toList.isEmpty = false := by
    rw [Bool.eq_false_iff]
    exact fun h => hte (by rw [← htx]; exact toList_inj (by rw [List.isEmpty_iff.1 h, ByteArray.toList_eq]))
  have h9b : (N.l.last == 999999) = false := by simpa using h9
  rw [hc] at HCF
  rw [hlg] at HLG
  rw [← htx] at HES
  rw [hu.1, hu.2] at HCP
  simp only [hu.1, hu.2, forall_const] at HFL
  clear h hF hc hup hlg h9 hte hsz hu htx hb e1 e4
  unfold cfgV at HCF ⊢
  go_enter Tryz.func5, Tryz.ntmps5
  go_wp2_with fail
  refine (HCF.out _).mono ?_
  rintro e w1 ⟨rfl, hb1⟩
  have B1 := hid (bto (bto (bto (bnew _ _) (bnew _ _)) (bnew _ _)) hb1)
  have P1 := hid (((Blk.new (w.alloc _) _ _).alloc _).later hb1)
  have R1 := hid ((Blk.new ((w.alloc _).alloc _) _ _).later hb1)
  have hz1 := hb1.size
  simp only [World.size_alloc] at P1 R1 hz1
  obtain ⟨o0, o1, o2, o3, o4, o5, o6, o7, o8, o9, o10, o11, o12, o13⟩ := P1.out.n14
  rw [H1.out] at o13
  rw [H2.out] at o12
  clear hb1 HCF
  go_wp2_with fail
  refine (HLG.out _).mono ?_
  rintro e w2 ⟨rfl, hb2⟩
  have P2 := hid (P1.out.later hb2)
  have R2 := hid (R1.out.later hb2)
  have B2 := hid (bto B1.out hb2)
  have hz2 := hb2.size
  clear hb2 P1 R1 B1 HLG o0 o1 o2 o3 o4 o5 o6 o7 o8 o9 o10 o11 o12 o13
  obtain ⟨o0, o1, o2, o3, o4, o5, o6, o7, o8, o9, o10, o11, o12, o13⟩ := P2.out.n14
  go_wp2_with fail
  refine (HES.out _ B2.out).mono ?_
  rintro e w3 ⟨rfl, hb3⟩
  have P3 := hid (P2.out.later hb3)
  have R3 := hid (R2.out.later hb3)
  have B3 := hid (bto B2.out hb3)
  have hz3 := hb3.size
  clear hb3 P2 R2 B2 HES h9b o0 o1 o2 o3 o4 o5 o6 o7 o8 o9 o10 o11 o12 o13
  obtain ⟨o0, o1, o2, o3, o4, o5, o6, o7, o8, o9, o10, o11, o12, o13⟩ := P3.out.n14
  have hn0 : w.heap.size + 1 < w3.heap.size := by omega
  have hn1 : ¬ w.heap.size + 1 = w3.heap.size := by omega
  go_wp2_with fail
  refine (HFD.out _ (bto B3.out (bnew _ _))).mono ?_
  rintro e w4 ⟨rfl, hb4⟩
  have hr := hid ((OpsR.new w3).later hb4)
  have BW := hid (bto (bnew _ _) hb4)
  have hzz := hb4.size
  simp only [World.size_alloc] at hzz
  clear hb4 HFD hE o0 o1 o2 o3 o4 o5 o6 o7 o8 o9 o10 o11 o12 o13 hn0 hn1
  have hwl : IntKind.i64.wrap (N.l.last + 1) = N.l.last + 1 := by rw [IntKind.wrap_i64]; omega
  have o7 : w4.cell? ⟨w.heap.size + 1, 7, none⟩ = some (.int .i64 N.l.last) := (P3.out.later BW.out).cell 7
  have HSG := hid (fun n W => specSeg_any n W)
  have hfo : (0 ≤ findFrom tmpN N.d.fs 0 ∧ firstO N.d.fs = [opTmp]) ∨ (¬ 0 ≤ findFrom tmpN N.d.fs 0 ∧ firstO N.d.fs = []) := by
    by_cases hfd : 0 ≤ findFrom tmpN N.d.fs 0
    · exact Or.inl ⟨hfd, if_pos hfd⟩
    · exact Or.inr ⟨hfd, if_neg hfd⟩
  rcases hfo with ⟨hfd, hfo⟩ | ⟨hfd, hfo⟩
  all_goals (
    have HFO := hid hfo
    clear hfo
    go_wp2_with (at_builtin; refine wpList_op rfl _ _ rfl w3.heap.size _ _ _ _ _ _ _ _ rfl (by assumption) rfl (by omega) (by omega) ?_; intro g cap wx hr hbw; have hzz := hbw.size; have BW := hid (BW.out.trans hbw); have o7 : wx.cell? ⟨w.heap.size + 1, 7, none⟩ = some (.int .i64 N.l.last) := (P3.out.later BW.out).cell 7; have o6 : wx.cell? ⟨w.heap.size + 1, 6, none⟩ = some (.int .i64 N.l.first) := (P3.out.later BW.out).cell 6; clear hbw)
    refine (HSG.out _ _).mono ?_
    rintro e w5 ⟨rfl, hb5⟩
    have hr5 := hid (hr.out.later hb5)
    have BW5 := hid (BW.out.trans (hb5.mono (by omega)))
    have hz5 := hb5.size
    clear hb5 hr BW o7 hfd
    have BW := BW5
    go_wp2_with (at_builtin; refine wpList_op rfl _ _ rfl w3.heap.size _ _ _ _ _ _ _ _ rfl (by assumption) rfl (by omega) (by omega) ?_; intro g cap wx hr hbw; have hzz := hbw.size; have BW := hid (BW.out.trans hbw); have o7 : wx.cell? ⟨w.heap.size + 1, 7, none⟩ = some (.int .i64 N.l.last) := (P3.out.later BW.out).cell 7; have o6 : wx.cell? ⟨w.heap.size + 1, 6, none⟩ = some (.int .i64 N.l.first) := (P3.out.later BW.out).cell 6; clear hbw)
    obtain ⟨L0, hL0⟩ : ∃ l, l = firstO N.d.fs ++ fiveO N.l.last text := ⟨_, rfl⟩
    have hn0 : L0.length ≤ 6 := by rw [hL0, HFO.out]; simp [fiveO]
    have EL := hid (show ckOps N.d N.l text = L0 ++ delsO N.l.first (N.l.last + 1 - N.l.first).toNat by rw [hL0, ckOps, List.append_assoc])
    obtain ⟨cnt, hcnt⟩ : ∃ cnt : Nat, (cnt : Int) = N.l.last + 1 - N.l.first := ⟨(N.l.last + 1 - N.l.first).toNat, by omega⟩
    have hc2 : (N.l.last + 1 - N.l.first).toNat = cnt := by omega
    rw [hc2] at EL
    have HBX := hid BW.out
    have HL0 := hid hL0
    clear hc2 hL0
    go_loopw [7, 8] (fun al i wz => ∃ (k : Nat), k ≤ cnt ∧ i = .int .i64 (N.l.first + k) ∧ Hid (OpsR wz w3.heap.size al (L0.length + k) (L0 ++ delsO N.l.first k)) ∧ Hid (Below w3.heap.size w3 wz)) (fun _ i _ => (N.l.last + 1 - RowKit.intOf i).toNat)
    case atStart =>
      refine ⟨0, Nat.zero_le _, by simp, ?_, HBX.out⟩
      show OpsR _ _ _ _ _
      rw [show delsO N.l.first 0 = [] from rfl, List.append_nil, HL0.out, HFO.out]
      exact hr.out
    case round =>
      obtain ⟨k, hk, rfl, hrk, hbk⟩ := hrel
      have o7 : wr.cell? ⟨w.heap.size + 1, 7, none⟩ = some (.int .i64 N.l.last) := (P3.out.later hbk.out).cell 7
      have hzk := hbk.out.size
      by_cases hlt : k < cnt
      · have hle : N.l.first + (k : Int) ≤ N.l.last := by omega
        have hwk : IntKind.i64.wrap (N.l.first + (k : Int) + 1) = N.l.first + (k : Int) + 1 := by rw [IntKind.wrap_i64]; omega
        go_wp2_with fail
        refine (HSG.out _ _).mono ?_
        rintro e w6 ⟨rfl, hb6⟩
        have hr6 := hid (hrk.out.later hb6)
        have B6 := hid (hbk.out.trans (hb6.mono hzk))
        have hz6 := hb6.size
        clear hb6 o7
        go_wp2_with (at_builtin; refine wpList_op rfl _ _ rfl w3.heap.size _ u7 _ _ _ _ _ _ rfl hr6 rfl (by omega) (by omega) ?_; intro g7 cap7 w7 hr7 hb7)
        refine ⟨⟨k + 1, by omega, by go_num, ?_, B6.out.trans hb7⟩, by simp [RowKit.intOf]; omega⟩
        show OpsR _ _ _ _ _
        rw [delsO_succ, ← List.append_assoc]
        exact hr7.out
      · obtain rfl : k = cnt := by omega
        have hle : ¬ N.l.first + (k : Int) ≤ N.l.last := by omega
        obtain ⟨o0, o1, o2, o3, o4, o5, _, _, _, _, _, _, _, _⟩ := (P3.out.later hbk.out).n14
        obtain ⟨al, ac, hal⟩ := row_formW hrk.out
        have HRK := hid hrk.out
        rw [hal] at HRK
        subst hal
        obtain ⟨G, rfl, hG, hcells⟩ := opsR_cells HRK.out (by omega)
        have HCL := hid hcells
        have hLL : (L0 ++ delsO N.l.first k).length = L0.length + k := by simp [delsO]
        obtain ⟨LL, hLLd⟩ : ∃ l, l = L0 ++ delsO N.l.first k := ⟨_, rfl⟩
        rw [← hLLd] at EL HCL hLL
        have HLL := hid hLL
        have hnn : L0.length + k ≤ 2000000 := by omega
        generalize L0.length + k = n at *
        have BR := hid (bto B3.out hbk.out)
        clear hrk o7 hcells hLL hLLd HRK
        go_wp2
        refine at_one (C := fun W => Code.wp Tryz.prog _ _ _ W) ?_
        intro w7 hb7 G7 hz7
        have FI7 := hid (HFI.out w7 (bto BR.out hb7))
        have BZ := hid (bto BR.out hb7)
        have PZ := hid (P3.out.later (bto hbk.out hb7))
        have RZ := hid (R3.out.later (bto hbk.out hb7))
        have CZ := hid (fun j u (hu : (flatO LL)[j]? = some u) => (World.cell?_of_block (hb7.block G hG)).trans (HCL.out j u hu))
        have HZ7 := hid hz7
        have G7 := hid G7
        have hzr : wr.heap.size ≤ w7.heap.size := by omega
        clear hb7 HCL o0 o1 o2 o3 o4 o5 hz7
        generalize wr.heap.size = Dd at *
        go_loopw [103] (fun i wz => ∃ (j : Nat) (Kj : DiskD) (aj : Option Addr) (cj : Nat), j ≤ n ∧ i = .int .i64 j ∧ Hid (runD N.d (LL.take j) = (Kj, 0)) ∧ Hid (Blk wz Dd #[.slice aj Kj.fs.length cj, .int .i64 Kj.c, .int .i64 Kj.k, .int .i64 Kj.cr, .int .i64 Kj.fl, .bool Kj.dn] 37) ∧ Hid (FilesIn wz aj Kj.fs) ∧ Hid (Turn (· = Dd) w7 wz)) (fun i _ => n - (RowKit.intOf i).toNat)
        case atStart => exact ⟨0, N.d, a, ca, Nat.zero_le _, rfl, rfl, G7.out, FI7.out, Turn.refl _ _⟩
        case round =>
          obtain ⟨j, Kj, aj, cj, hj, rfl, hrun, hdd, hfj, htz⟩ := hrel
          by_cases hlt2 : j < n
          · have hjl : j < LL.length := by rw [HLL.out]; exact hlt2
            have hgk := htz.out.block G (by omega) (by omega)
            obtain ⟨q0, q1, q2, q3, q4⟩ := opAt (fun i u hu => (World.cell?_of_block hgk).trans (CZ.out i u hu)) j hjl
            obtain ⟨op, hop⟩ : ∃ op, op = LL[j] := ⟨_, rfl⟩
            have hof := HFIT.out op (by rw [EL.out, hop]; exact List.getElem_mem hjl)
            have HE := hid (show LL.take (j + 1) = LL.take j ++ [op] by rw [hop, List.take_succ_eq_append_getElem hjl])
            have HX := hid (show LL = LL.take j ++ op :: LL.drop (j + 1) by
              conv => lhs; rw [← List.take_append_drop j LL, List.drop_eq_getElem_cons hjl, ← hop])
            have hfit : Fit Kj.fs := by
              have := fit_run (LL.take j) N.d HF0.out (fun o ho => HFIT.out o (by rw [EL.out]; exact List.mem_of_mem_take ho))
              rw [hrun.out] at this
              exact this
            have HST := hid (stepTo hfit hof.1 hof.2.1 hof.2.2)
            obtain ⟨⟨K1, y1⟩, hS1⟩ : ∃ R, stepD Kj op = R := ⟨_, rfl⟩
            have HS1 := hid hS1
            rw [hS1] at HST
            rw [← hop] at q0 q1 q2 q3 q4
            clear hop hof hfit hS1 hgk hjl
            go_upto_region 28 with fail
            refine at_one (C := fun W => Code.wp Tryz.prog _ _ _ W) ?_
            intro w8 hb8 X8 _
            obtain ⟨d0, d1, d2, d3, d4, d5⟩ := (hdd.out.later hb8).six
            have x0 : w8.cell? ⟨wr.heap.size, 0, none⟩ = some (.int .i64 op.kind) := X8.cell 0
            have x1 : w8.cell? ⟨wr.heap.size, 1, none⟩ = some (.string op.name) := X8.cell 1
            have x2 : w8.cell? ⟨wr.heap.size, 2, none⟩ = some (.string op.to) := X8.cell 2
            have x3 : w8.cell? ⟨wr.heap.size, 3, none⟩ = some (.string op.data) := X8.cell 3
            have x4 : w8.cell? ⟨wr.heap.size, 4, none⟩ = some (.int .i64 op.size) := X8.cell 4
            have B8 := hid hb8
            clear q0 q1 q2 q3 q4 X8 hb8
            go_wp2_with fail
            refine (HST.out _ _ _ (hfj.out.later B8.out)).mono ?_
            rintro e w9 ⟨a9, c9, rfl, hf9, hb9⟩
            have D9 := hid ((hdd.out.later B8.out).later hb9)
            have B9 := hid (bto B8.out hb9)
            have F9 := hid hf9
            clear d0 d1 d2 d3 d4 d5 x0 x1 x2 x3 x4 hf9 hb9 HST B8
            go_upto_region 29 with fail
            refine at_one (C := fun W => Code.wp Tryz.prog _ _ _ W) ?_
            intro wa hba Aa _
            obtain ⟨d0, d1, d2, d3, d4, d5⟩ := Aa.six
            have Da := hid (D9.out.later hba)
            obtain ⟨f0, f1, f2, f3, f4, f5, _⟩ := Da.out.frees
            obtain ⟨e0, e1, e2, e3, e4, e5⟩ := Da.out.six
            have Fa := hid (F9.out.later hba)
            have Ba := hid (bto B9.out hba)
            clear hba Aa D9 F9 B9
            go_upto_region 30 with fail
            refine at_box6 (C := fun W => Code.wp Tryz.prog _ _ _ W) Da.out ?_
            intro wb Db Tb
            have Fb := hid (Fa.out.store Da.out (no_str6 (by simp)) Tb)
            have Tz := hid ((htz.out.trans' (Turn.of Ba.out)).trans' Tb)
            replace Db := hid Db
            clear d0 d1 d2 d3 d4 d5 f0 f1 f2 f3 f4 f5 e0 e1 e2 e3 e4 e5 Tb Da Fa Ba
            by_cases hy : y1 = 0
            · subst hy
              go_wp2
              refine ⟨⟨j + 1, K1, a9, c9, by omega, by go_num, ?_, Db.out, Fb.out, Tz.out⟩, by simp [RowKit.intOf]; omega⟩
              show _ = _
              rw [HE.out, runD_snoc op (by rw [hrun.out]), hrun.out]
              exact HS1.out
            · have E := hid (EBD.out K1 y1 (by rw [EL.out, HX.out, runD_stop op (by rw [hrun.out]) (by rw [hrun.out]; show (stepD Kj op).2 ≠ 0; rw [HS1.out]; exact hy), hrun.out]; exact HS1.out) hy)
              have hyb : ((y1 : Int) == 0) = false := by simpa using hy
              have Bw := hid (BZ.out.trans (Tz.out.below BZ.out.size (fun k hk e => by omega)))
              have Rw := hid (Tz.out.blk RZ.out (by omega))
              obtain ⟨o0, o1, o2, o3, o4, o5, o6, o7, o8, o9, o10, o11, o12, o13⟩ := (Tz.out.blk PZ.out (by omega)).n14
              rw [H1.out] at o13
              rw [H2.out] at o12
              obtain ⟨d0, d1, d2, d3, d4, d5⟩ := Db.out.six
              go_wp2_with fail
              refine (HFL.out _ a9 c9 K1 Bw.out).mono ?_
              rintro e wc ⟨b', cb', rfl, htc, hbc⟩
              have hzb := Tz.out.size
              have Tc := hid (htc.mono (A' := fun x => w.heap.size + 1 + 1 < x) (fun x hx => by omega))
              have Fc := hid (Fb.out.later hbc)
              have Bc := hid (bto Bw.out hbc)
              have Rc := hid (Rw.out.later hbc)
              obtain ⟨r0, r1, r2, r3, r4, r5, r6, r7, r8, r9, r10, r11, r12, r13⟩ := Rc.out.n14
              obtain ⟨g0, g1, g2, g3, g4, g5, g6, g7, g8, g9, g10, g11, g12, g13⟩ := Rc.out.frees
              clear o0 o1 o2 o3 o4 o5 o6 o7 o8 o9 o10 o11 o12 o13 d0 d1 d2 d3 d4 d5 htc hbc Bw Rw Db Fb HCP HFL HFI
              go_wp2
              exact bodyPost_ret (v := .tuple #[.agg #[.slice a9 K1.fs.length c9, .int .i64 K1.c, .int .i64 K1.k, .int .i64 K1.cr, .int .i64 K1.fl, .bool K1.dn, .int .i64 N.l.first, .int .i64 N.l.last, .int .i64 N.l.size, .int .i64 N.now, .slice b' N.ts.length cb', .int .i64 N.lsn, .bool true, .bool (!K1.dn)], .int .i64 (y1 : Int)]) (by simp [results, Tryz.results5, go_sem, r0, r1, r2, r3, r4, r5, r6, r7, r8, r9, r10, r11, r12, r13]) rfl (sp_endR (w9 := wc) E.out Fc.out Tc.out Rc.out (no_str14 (by simp) (by simp)) Bc.out (by
                repeat (with_reducible first | exact Turn.refl _ _ | refine Turn.setCell ?_ (Or.inl (by exact rfl)) _ _)))
          · obtain rfl : j = n := by omega
            have hrn := hrun.out
            rw [List.take_of_length_le (by rw [HLL.out]; exact Nat.le_refl _), ← EL.out] at hrn
            have E := hid (EOK.out Kj hrn)
            have Bw := hid (BZ.out.trans (htz.out.below BZ.out.size (fun k hk e => by omega)))
            have Rw := hid (htz.out.blk RZ.out (by omega))
            have Pw := hid (htz.out.blk PZ.out (by omega))
            obtain ⟨o0, o1, o2, o3, o4, o5, o6, o7, o8, o9, o10, o11, o12, o13⟩ := Pw.out.n14
            rw [H1.out] at o13
            rw [H2.out] at o12
            clear hrn hrun
            go_wp2_with fail
            refine (HCP.out _ Bw.out).mono ?_
            rintro e w8 ⟨a', ca', b', cb', rfl, _, ht8, hb8⟩
            have hzw := htz.out.size
            have T8 := hid (ht8.mono (A' := fun x => w.heap.size + 1 + 1 < x) (fun x hx => by omega))
            have P8 := hid (Pw.out.later hb8)
            have R8 := hid (Rw.out.later hb8)
            have D8 := hid (hdd.out.later hb8)
            have F8 := hid (hfj.out.later hb8)
            have B8 := hid (bto Bw.out hb8)
            clear o0 o1 o2 o3 o4 o5 o6 o7 o8 o9 o10 o11 o12 o13 ht8 hb8 HCP HFL HFI HFIT Pw Rw Bw hdd hfj
            obtain ⟨o0, o1, o2, o3, o4, o5, o6, o7, o8, o9, o10, o11, o12, o13⟩ := P8.out.n14
            obtain ⟨f0, f1, f2, f3, f4, f5, f6, f7, f8, f9, f10, f11, f12, f13⟩ := P8.out.frees
            go_upto_region 34 with fail
            refine at_node14 (C := fun W => Code.wp Tryz.prog _ _ _ W) P8.out ?_
            intro w9 P9 U9
            have T9 := hid (T8.out.turned U9 (fun x hx _ e => by omega))
            have R9 := hid (U9.blk R8.out (by omega))
            have D9 := hid (U9.blk D8.out (by omega))
            have F9 := hid (F8.out.store P8.out (no_str14 (by simp) (by simp)) U9)
            have B9 := hid (B8.out.trans (U9.below B8.out.size (fun k hk e => by omega)))
            replace P9 := hid P9
            clear o0 o1 o2 o3 o4 o5 o6 o7 o8 o9 o10 o11 o12 o13 f0 f1 f2 f3 f4 f5 f6 f7 f8 f9 f10 f11 f12 f13 U9 T8 R8 D8 F8 B8 P8
            obtain ⟨o0, o1, o2, o3, o4, o5, o6, o7, o8, o9, o10, o11, o12, o13⟩ := P9.out.n14
            obtain ⟨f0, f1, f2, f3, f4, f5, f6, f7, f8, f9, f10, f11, f12, f13⟩ := P9.out.frees
            obtain ⟨d0, d1, d2, d3, d4, d5⟩ := D9.out.six
            go_upto_region 36 with fail
            refine at_node9 (C := fun W => Code.wp Tryz.prog _ _ _ W) P9.out ?_
            intro wa Pa Ua
            have Ta := hid (T9.out.turned Ua (fun x hx _ e => by omega))
            have Ra := hid (Ua.blk R9.out (by omega))
            have Fa := hid (F9.out.store P9.out (no_str14 (by simp) (by simp)) Ua)
            have Ba := hid (B9.out.trans (Ua.below B9.out.size (fun k hk e => by omega)))
            clear o0 o1 o2 o3 o4 o5 o6 o7 o8 o9 o10 o11 o12 o13 f0 f1 f2 f3 f4 f5 f6 f7 f8 f9 f10 f11 f12 f13 d0 d1 d2 d3 d4 d5 Ua T9 R9 D9 F9 B9 P9
            obtain ⟨o0, o1, o2, o3, o4, o5, o6, o7, o8, o9, o10, o11, o12, o13⟩ := Pa.n14
            obtain ⟨r0, r1, r2, r3, r4, r5, r6, r7, r8, r9, r10, r11, r12, r13⟩ := Ra.out.n14
            obtain ⟨g0, g1, g2, g3, g4, g5, g6, g7, g8, g9, g10, g11, g12, g13⟩ := Ra.out.frees
            clear Pa
            go_wp2
            exact bodyPost_ret (v := .tuple #[.agg #[.slice aj Kj.fs.length cj, .int .i64 Kj.c, .int .i64 Kj.k, .int .i64 Kj.cr, .int .i64 Kj.fl, .bool Kj.dn, .int .i64 (N.l.last + 1), .int .i64 (N.l.last + 1), .int .i64 0, .int .i64 N.now, .slice b' N.ts.length cb', .int .i64 N.lsn, .bool N.deg, .bool N.up], .int .i64 0]) (by simp [results, Tryz.results5, go_sem, r0, r1, r2, r3, r4, r5, r6, r7, r8, r9, r10, r11, r12, r13, H1.out, H2.out]) rfl (sp_endR (w9 := wa) E.out Fa.out Ta.out Ra.out (no_str14 (by simp) (by simp)) Ba.out (by
              repeat (with_reducible first | exact Turn.refl _ _ | refine Turn.setCell ?_ (Or.inl (by exact rfl)) _ _))))
end Go.Proofs.YtgnppdghjlnlhaaGreatDoor
