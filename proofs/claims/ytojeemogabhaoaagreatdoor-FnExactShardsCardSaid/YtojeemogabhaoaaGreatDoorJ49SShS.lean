import Derived.Test.YtojeemogabhaoaaGreatDoorProg
import Derived.Test.YtojeemogabhaoaaGreatDoorJ29SCnt
import Derived.Test.YtojeemogabhaoaaGreatDoorJ22SSta
import Derived.Test.YtojeemogabhaoaaGreatDoorJ48Uns
import Derived.Deep.AppendLies
namespace Go.Proofs.YtojeemogabhaoaaGreatDoor
open Go.RowKit
theorem info_ssS : (Tryz.prog.info? 76).map (fun i => (i.zero, i.size, i.bytes)) = some (some (.slice none 0 0), 1, 24) := by kernel_rfl
theorem filt_take (p : ByteArray → Bool) (ks : List ByteArray) (j : Nat) (h : j < ks.length) : (ks.take (j + 1)).filter p = (ks.take j).filter p ++ if p ks[j] = true then [ks[j]] else [] := by
  rw [List.take_succ_eq_append_getElem h, List.filter_append]
  congr 1
  by_cases e : p ks[j] = true
  · rw [if_pos e, List.filter_cons_of_pos e]; rfl
  · rw [if_neg e, List.filter_cons_of_neg e]; rfl
theorem filt_le (p : ByteArray → Bool) (ks : List ByteArray) (j : Nat) : ((ks.take j).filter p).length ≤ ks.length := by
  have h1 := List.length_filter_le p (ks.take j)
  rw [List.length_take] at h1
  omega
theorem field_sers (a b d e : Value) (W : World) : (Instr.field 55 (.agg #[a, b, d, e]) 3).run Tryz.prog W = .ok e W := by kernel_rfl
set_option maxRecDepth 100000 in
set_option maxHeartbeats 8000000 in
theorem specShards_any (c : CfgD) (now : Int) (a : Option Addr) (cap : Nat) (ts : List TenD) (tenant : ByteArray) (w : World) (hf : TensIn w a ts) (hbig : BigT ts) (hlen : ts.length ≤ 1000000000) (hn : tenant.size ≤ 1048576) (hks : (tenOf ts tenant).sers.length ≤ 1048576) (hkz : ∀ i (h : i < (tenOf ts tenant).sers.length), (tenOf ts tenant).sers[i].s.size ≤ maxLen) :
    Calls Tryz.prog 19 #[cfgV c, .agg #[.int .i64 now, .slice a ts.length cap], .string tenant] w fun e w' => ∃ a' cap', e = .returned (.slice a' (shardsV c now ts tenant).length cap') ∧ SSIn w' a' (shardsV c now ts tenant) ∧ Below w.heap.size w w' := by
  have HO : Hid (∀ W, Below w.heap.size w W → Calls Tryz.prog 8 #[cfgV c, .agg #[.int .i64 now, .slice a ts.length cap]] W fun e w' => e = .returned (.bool (stateB c now ts)) ∧ Below W.heap.size W w') := fun W hW => specState_any c now a cap ts W (hf.later hW) hbig hlen
  have HT : Hid (∀ W, Calls Tryz.prog 27 #[.string tenant] W fun e w' => e = .returned (.bool (tnameB tenant)) ∧ w' = W) := fun W => l4TenantName_any tenant W (by unfold maxLen; omega)
  have HTE : Hid (∀ W, Below w.heap.size w W → Calls Tryz.prog 35 #[.agg #[.int .i64 now, .slice a ts.length cap], .string tenant] W fun e w' => TenV w' e (tenOf ts tenant) ∧ Below W.heap.size W w') := fun W hW => l4Tenant_any now a cap ts tenant W (hf.later hW) hlen
  have HV : Hid (shardsV c now ts tenant = if (stateB c now ts && tnameB tenant) = true then dealL (shN c) c.sh.toNat ((tenOf ts tenant).sers.map (·.s)) else []) := rfl
  have HKZ := hid hkz
  have HCS : Hid (stateB c now ts = true → 1 ≤ c.sh ∧ c.sh ≤ 64 ∧ 0 ≤ c.ha ∧ c.ha ≤ 2) := shs_in
  clear hf hbig hkz
  unfold TenV at HTE
  unfold cfgV at *
  generalize tnameB tenant = b1 at *
  generalize stateB c now ts = b0 at *
  generalize tenOf ts tenant = t at *
  generalize shardsV c now ts tenant = RES at *
  go_enter Tryz.func19, Tryz.ntmps19
  have HB0 : Hid (Below w.heap.size w (((w.alloc (.cells #[.int .i64 c.w, .int .i64 c.tl, .int .i64 c.ml, .int .i64 c.sh, .int .i64 c.ha, .int .i64 c.sg] 29)).alloc (.cells #[.int .i64 now, .slice a ts.length cap] 33)).alloc (.cells #[] 76))) := bto (bto (bnew _ _) (bnew _ _)) (bnew _ _)
  go_wp2_with fail
  refine (HO.out _ HB0.out).mono ?_
  rintro e w1 ⟨rfl, hb1⟩
  have B1 : Hid (Below w.heap.size w w1) := bto HB0.out hb1
  have A1 : Hid (Blk w1 w.heap.size #[.int .i64 c.w, .int .i64 c.tl, .int .i64 c.ml, .int .i64 c.sh, .int .i64 c.ha, .int .i64 c.sg] 29) := hid ((((Blk.new _ _ _).alloc _).alloc _).later hb1)
  have S1 : Hid (Blk w1 (w.heap.size + 1) #[.int .i64 now, .slice a ts.length cap] 33) := hid (by have := ((Blk.new (w.alloc (.cells #[.int .i64 c.w, .int .i64 c.tl, .int .i64 c.ml, .int .i64 c.sh, .int .i64 c.ha, .int .i64 c.sg] 29)) #[.int .i64 now, .slice a ts.length cap] 33).alloc (.cells #[] 76)).later hb1; simpa using this)
  have L1 : Hid (w1.ownsRow (w.heap.size + 2) 76 1 (.slice (some ⟨w.heap.size + 1 + 1, 0, none⟩) 0 0) 0 []) := by
    refine hid (row_later ?_ hb1)
    have := World.ownsRow_made (e := 76) (size := 1) (base := w.heap.size + 2) (((w.alloc (.cells #[.int .i64 c.w, .int .i64 c.tl, .int .i64 c.ml, .int .i64 c.sh, .int .i64 c.ha, .int .i64 c.sg] 29)).alloc (.cells #[.int .i64 now, .slice a ts.length cap] 33))) #[] 0 (by simp) (by simp [maxLen]) (by simp)
    simpa using this
  clear hb1 HO HB0
  by_cases h0 : b0 = false
  · have HV2 : Hid (RES = []) := by show _ = _; rw [HV.out, h0]; rfl
    subst h0
    clear HV
    go_wp2
    refine bodyPost_ret (v := .slice (some ⟨w.heap.size + 1 + 1, 0, none⟩) 0 0) (by simp [results, Tryz.results19, go_sem]) rfl ⟨_, _, by rw [HV2.out]; rfl, Or.inl HV2.out, B1.out⟩
  have h0' : b0 = true := by simpa using h0
  subst h0'
  clear h0
  by_cases h1 : b1 = false
  · have HV2 : Hid (RES = []) := by show _ = _; rw [HV.out, h1]; simp
    subst h1
    clear HV
    go_wp2_with fail
    refine (HT.out _).mono ?_
    rintro e w2 ⟨rfl, hw⟩
    replace hw := hw.symm
    subst hw
    go_wp2
    refine bodyPost_ret (v := .slice (some ⟨w.heap.size + 1 + 1, 0, none⟩) 0 0) (by simp [results, Tryz.results19, go_sem]) rfl ⟨_, _, by rw [HV2.out]; rfl, Or.inl HV2.out, B1.out⟩
  have h1' : b1 = true := by simpa using h1
  subst h1'
  clear h1
  obtain ⟨s1, s2, s3, s4⟩ := HCS.out rfl
  have HV2 : Hid (RES = dealL (shN c) c.sh.toNat (t.sers.map (·.s))) := by show _ = _; rw [HV.out]; rfl
  clear HV HCS
  go_wp2_with fail
  refine (HT.out _).mono ?_
  rintro e w2 ⟨rfl, hw⟩
  replace hw := hw.symm
  subst hw
  clear HT
  obtain ⟨ti, hti, hz0, hz1, hz2⟩ := info_str
  have HI : Hid (Tryz.prog.info? 9 = some ti) := hti
  clear hti
  obtain ⟨tj, htj, hy0, hy1, hy2⟩ := info_parts info_ssS
  have HJ : Hid (Tryz.prog.info? 76 = some tj) := htj
  clear htj
  have HSI : Hid (∀ s : ByteArray, ((shN c s : Nat) : Int) = shardV c s) := fun s => shN_int s s1
  obtain ⟨N, hN⟩ : ∃ N, N = c.sh.toNat := ⟨_, rfl⟩
  rw [← hN] at HV2
  have HNE : Hid (c.sh = ((N : Nat) : Int)) := by show _ = _; omega
  have hN64 : N ≤ 64 := by omega
  have hN1 : 1 ≤ N := by omega
  clear hN
  go_wp2
  go_loopw [7, 8, 9, 11, 12] (fun ls i _ _ _ wr => ∃ (k : Nat) (v : Value) (vs : List Value) (T : Nat → Nat), k ≤ N ∧ i = .int .i64 k ∧ ls = v ∧ Hid (RowsG wr (w.heap.size + 2) T v vs (dealL (shN c) k (t.sers.map (·.s)))) ∧ Hid (Below (w.heap.size + 2) w1 wr)) (fun _ i _ _ _ _ => N - (intOf i).toNat)
  case atStart => exact ⟨0, _, [], fun _ => 0, Nat.zero_le _, rfl, rfl, ⟨L1.out, fun _ _ => rfl, fun i h => absurd h (by simp [dealL])⟩, Below.refl _ _⟩
  case round =>
    obtain ⟨k, v, vs, T, hk, rfl, rfl, HR, HBL⟩ := hrel
    have A2 : Hid (Blk wr w.heap.size #[.int .i64 c.w, .int .i64 c.tl, .int .i64 c.ml, .int .i64 c.sh, .int .i64 c.ha, .int .i64 c.sg] 29) := (HBL.out.block w.heap.size (by omega)).trans A1.out
    have S2 : Hid (Blk wr (w.heap.size + 1) #[.int .i64 now, .slice a ts.length cap] 33) := (HBL.out.block (w.heap.size + 1) (by omega)).trans S1.out
    have BW : Hid (Below w.heap.size w wr) := B1.out.trans (HBL.out.mono (by omega))
    have hsW : w.heap.size + 1 < wr.heap.size := lt_of_block S2.out
    have x3 : wr.cell? ⟨w.heap.size, 3, none⟩ = some (.int .i64 ((N : Nat) : Int)) := by rw [← HNE.out]; exact A2.out.cell 3
    obtain ⟨va, vc, rfl⟩ := row_shape HR.out.1
    by_cases hlt : k < N
    · have y0 : (wr.alloc (.cells #[] 9)).cell? ⟨w.heap.size + 1, 0, none⟩ = some (.int .i64 now) := (S2.out.alloc _).cell 0
      have y1 : (wr.alloc (.cells #[] 9)).cell? ⟨w.heap.size + 1, 1, none⟩ = some (.slice a ts.length cap) := (S2.out.alloc _).cell 1
      go_wp2_with fail
      refine (HTE.out _ (bto BW.out (bnew _ _))).mono ?_
      rintro e w3 ⟨⟨a1, c1, a2, c2, rfl, p1, p2⟩, hb3⟩
      have LL3 : Hid (w3.ownsRow wr.heap.size 9 1 (.slice (some ⟨wr.heap.size, 0, none⟩) 0 0) 0 []) := hid (row_later (World.ownsRow_made wr #[] 0 (Nat.le_refl _) (by simp [maxLen]) (by simp)) hb3)
      have NB : Hid (∀ (h : 0 < t.sers.length), ∃ b o, a2 = some ⟨b, o, none⟩ ∧ b ≠ wr.heap.size ∧ b < w3.heap.size ∧ ∀ i (h : i < t.sers.length), w3.cell? ⟨b, o + i * 2, none⟩ = some (.string t.sers[i].s) ∧ w3.cell? ⟨b, o + i * 2 + 1, none⟩ = some (.int .i64 t.sers[i].n)) := fun h => by
        have hBE : Blk w3 wr.heap.size #[] 9 := (Blk.new _ _ _).later hb3
        obtain ⟨b, o, e, hlb, q0, q1⟩ := p2.at h
        refine ⟨b, o, e, ?_, hlb, fun i hi => ?_⟩
        · rintro rfl
          rw [hBE.cell] at q0
          simp at q0
        · obtain ⟨b', o', e', _, r0, r1⟩ := p2.at hi
          rw [e] at e'
          cases e'
          exact ⟨r0, r1⟩
      have A3 : Hid (Blk w3 w.heap.size #[.int .i64 c.w, .int .i64 c.tl, .int .i64 c.ml, .int .i64 c.sh, .int .i64 c.ha, .int .i64 c.sg] 29) := (A2.out.alloc _).later hb3
      have S3 : Hid (Blk w3 (w.heap.size + 1) #[.int .i64 now, .slice a ts.length cap] 33) := (S2.out.alloc _).later hb3
      have BO3 : Hid (Below wr.heap.size wr w3) := bto (bnew _ _) hb3
      have h3 : wr.heap.size < w3.heap.size := by have := hb3.size; simp at this; omega
      clear p1 p2 hb3 y0 y1 x3 HTE A2 S2
      generalize hwo : wr = wo at *
      clear hwo
      have hfd := field_sers (.string t.name) (.int .i64 t.limit) (.slice a1 t.mets.length c1) (.slice a2 t.sers.length c2)
      go_wp2
      clear hfd
      go_loopw [9, 11, 12, 36] (fun ls _ _ i wr => ∃ (j : Nat) (av : Option Addr) (cv : Nat), j ≤ t.sers.length ∧ i = .int .i64 j ∧ ls = .slice av (((t.sers.map (·.s)).take j).filter fun x => shN c x == k).length cv ∧ Hid (wr.ownsRow wo.heap.size 9 1 (.slice av (((t.sers.map (·.s)).take j).filter fun x => shN c x == k).length cv) (((t.sers.map (·.s)).take j).filter fun x => shN c x == k).length ((((t.sers.map (·.s)).take j).filter fun x => shN c x == k).map Value.string)) ∧ Hid (∀ q, (Value.slice av (((t.sers.map (·.s)).take j).filter fun x => shN c x == k).length cv).ownBlock = some q → q = wo.heap.size ∨ w3.heap.size ≤ q) ∧ Hid (Turn (· = wo.heap.size) w3 wr)) (fun _ _ _ i _ => t.sers.length - (intOf i).toNat)
      case atStart => exact ⟨0, _, _, Nat.zero_le _, rfl, rfl, LL3.out, fun q hq => by simp [Value.ownBlock] at hq; exact Or.inl hq.symm, Turn.refl _ _⟩
      case round =>
        obtain ⟨j, av, cv, hj, rfl, rfl, HRW, HOB, HTU⟩ := hrel
        have A4 : Hid (Blk wr w.heap.size #[.int .i64 c.w, .int .i64 c.tl, .int .i64 c.ml, .int .i64 c.sh, .int .i64 c.ha, .int .i64 c.sg] 29) := HTU.out.blk A3.out (by omega)
        have hs3 : w3.heap.size ≤ wr.heap.size := HTU.out.size
        by_cases hj2 : j < t.sers.length
        · obtain ⟨pb, po, rfl, hpn, hpl, hpc⟩ := NB.out (by omega)
          have z0 : wr.cell? ⟨pb, po + j * 2, none⟩ = some (.string t.sers[j].s) := (World.cell?_of_block (HTU.out.block pb hpl hpn)).trans (hpc j hj2).1
          have z1 : wr.cell? ⟨pb, po + j * 2 + 1, none⟩ = some (.int .i64 t.sers[j].n) := (World.cell?_of_block (HTU.out.block pb hpl hpn)).trans (hpc j hj2).2
          have hj3 : j < (t.sers.map (·.s)).length := by simpa using hj2
          have HYS : Hid (((t.sers.map (·.s)).take (j + 1)).filter (fun x => shN c x == k) = ((t.sers.map (·.s)).take j).filter (fun x => shN c x == k) ++ if (shN c t.sers[j].s == k) = true then [t.sers[j].s] else []) := by
            show _ = _
            rw [filt_take _ _ _ hj3]
            simp
          have hyl : (((t.sers.map (·.s)).take j).filter fun x => shN c x == k).length ≤ 1048576 := by
            have := filt_le (fun x => shN c x == k) (t.sers.map (·.s)) j
            rw [List.length_map] at this
            omega
          have hpz := HKZ.out j hj2
          have HSP := hid (HSI.out t.sers[j].s)
          clear hpc hj3
          obtain ⟨ys', hys'⟩ : ∃ y, y = ((t.sers.map fun p : PairD => p.s).take (j + 1)).filter (fun x => shN c x == k) := ⟨_, rfl⟩
          rw [← hys'] at HYS
          have HYE : Hid (((t.sers.map fun p : PairD => p.s).take (j + 1)).filter (fun x => shN c x == k) = ys') := hys'.symm
          clear hys'
          generalize ((t.sers.map (·.s)).take j).filter (fun x => shN c x == k) = ys at *
          generalize t.sers[j] = P at *
          have x4 : (wr.alloc (.cells #[.string P.s, .int .i64 P.n] 61)).cell? ⟨w.heap.size, 4, none⟩ = some (.int .i64 c.ha) := (A4.out.alloc _).cell 4
          have x3 : (wr.alloc (.cells #[.string P.s, .int .i64 P.n] 61)).cell? ⟨w.heap.size, 3, none⟩ = some (.int .i64 ((N : Nat) : Int)) := by rw [← HNE.out]; exact (A4.out.alloc _).cell 3
          have u0 : (wr.alloc (.cells #[.string P.s, .int .i64 P.n] 61)).cell? ⟨wr.heap.size, 0, none⟩ = some (.string P.s) := (Blk.new _ _ _).cell 0
          have hwlt : w.heap.size < wr.heap.size := by omega
          by_cases e0 : c.ha = 0
          · have HSV : Hid (((hashL P.s.data.toList : Nat) : Int) % (N : Int) = ((shN c P.s : Nat) : Int)) := by
              show _ = _
              rw [HSP.out, ← HNE.out]
              unfold shardV
              rw [if_neg (by omega), if_neg (by omega)]
            have HH : Hid (∀ W, Calls Tryz.prog 47 #[.string P.s] W fun e w' => e = .returned (.int .i64 (w64 (hashL P.s.data.toList))) ∧ w' = W) := fun W => specHash_any P.s W hpz
            have HUN : Hid (∀ W, Calls Tryz.prog 46 #[.int .i64 (w64 (hashL P.s.data.toList)), .int .i64 (N : Int)] W fun e w' => e = .returned (.int .i64 ((shN c P.s : Nat) : Int)) ∧ Below W.heap.size W w') := fun W => by
              rw [← HSV.out]
              exact unsigned_any _ _ W (hashL_lt _) (by omega) (by omega)
            rw [e0] at x4
            clear e0
            generalize shN c P.s = J at *
            generalize w64 (hashL P.s.data.toList) = HX at *
            have d3 := Later.cells x3
            have d0 := Later.cells u0
            have hnel := Later.there (wr.alloc (.cells #[.string P.s, .int .i64 P.n] 61))
            go_wp2_with fail
            refine wp_region_later (by kernel_rfl) (by kernel_rfl) ?_
            repeat (go_big_quiet_step (first | (go_at_call 47; exact calls_later_same (HH.out _)) | (go_at_call 46; exact calls_later (HUN.out _)) | fail))
            refine wpQuiet_nil ?_
            rintro _ ⟨y, rfl⟩
            have HB5 : Hid (Below wr.heap.size wr y.w') := bto (bnew _ _) y.h
            have u5 : y.w'.cell? ⟨wr.heap.size, 0, none⟩ = some (.string P.s) := ((Blk.new _ _ _).later y.h).cell 0
            have HR5 : Hid (y.w'.ownsRow wo.heap.size 9 1 (.slice av ys.length cv) ys.length (ys.map Value.string)) := row_later HRW.out HB5.out
            have T5 : Hid (Turn (· = wo.heap.size) w3 y.w') := HTU.out.trans (Turn.of HB5.out)
            have hs5 : wr.heap.size ≤ y.w'.heap.size := HB5.out.size
            clear d3 d0 hnel x3 x4 u0 HH HUN HB5 z0 z1
            generalize y.w' = w5 at *
            clear y
            by_cases hjk : J = k
            · have HY : Hid (ys' = ys ++ [P.s]) := by show _ = _; rw [HYS.out, if_pos (by simpa using hjk)]
              have hjk2 : (((J : Nat) : Int) = ((k : Nat) : Int)) = True := eq_true (by omega)
              go_wp2_with (at_builtin; refine wpList_append_lies _ rfl _ _ _ rfl wo.heap.size 9 ti _ 1 16 Tryz.underlying76 HI.out hz0 hz1 hz2 rfl (by omega) (.slice av ys.length cv) ys.length (ys.map Value.string) rfl (by exact row_later HR5.out (bnew _ _)) ⟨w5.heap.size, 0, none⟩ 1 1 [.string P.s] rfl rfl (by exact World.news_of_block (heap_alloc_new _ _)) (by simp [Value.oneCell']) (by omega) (by simp [maxLen]; omega) (by omega) (by simp; omega) (w5.heap.size + 1) (by simp) ?_; intro gg cap6 w6 hown6 hgrow6 hat6 hlt6)
              have HT6 : Hid (Turn (· = wo.heap.size) w3 w6) := (T5.out.trans (Turn.of (bnew _ _))).trans ((Turn.grown hgrow6).mono fun i _ e => by have := HOB.out i e; omega)
              have HOB6 : Hid (∀ q, (Value.slice (some ⟨gg, 0, none⟩) (ys.length + 1) cap6).ownBlock = some q → q = wo.heap.size ∨ w3.heap.size ≤ q) := fun q hq => by
                simp only [Value.ownBlock, Option.some.injEq] at hq
                rcases hat6 with h | h
                · exact HOB.out q (by rw [h, hq])
                · have h5 := T5.out.size
                  omega
              have HR6 : Hid (w6.ownsRow wo.heap.size 9 1 (.slice (some ⟨gg, 0, none⟩) ys'.length cap6) ys'.length (ys'.map Value.string)) := by
                refine hid ?_
                rw [HY.out]
                simpa using hown6
              have HLY : Hid (ys.length + 1 = ys'.length) := by show _ = _; rw [HY.out]; simp
              clear hown6 hgrow6 hat6 hlt6
              rw [HLY.out] at HOB6
              refine ⟨⟨j + 1, some ⟨gg, 0, none⟩, cap6, by omega, by go_num, ?_, ?_, ?_, HT6.out⟩, by simp [intOf]; omega⟩
              · rw [HYE.out, ← HLY.out]
              · rw [HYE.out]; exact HR6
              · rw [HYE.out]; exact HOB6
            · have HY : Hid (ys' = ys) := by show _ = _; rw [HYS.out, if_neg (by simpa using hjk), List.append_nil]
              have hjk2 : ((J : Nat) : Int) ≠ ((k : Nat) : Int) := by omega
              go_wp2
              refine ⟨⟨j + 1, av, cv, by omega, by go_num, ?_, ?_, ?_, T5.out⟩, by simp [intOf]; omega⟩
              · rw [HYE.out, HY.out]
              · rw [HYE.out, HY.out]; exact HR5
              · rw [HYE.out, HY.out]; exact HOB
          by_cases e1 : c.ha = 1
          · have HSV : Hid (shN c P.s = 0) := by
              show _ = _
              have := HSP.out
              unfold shardV at this
              rw [if_pos e1] at this
              omega
            rw [e1] at x4
            clear e1 e0
            generalize shN c P.s = J at *
            go_upto_region 17 with fail
            have HB5 : Hid (Below wr.heap.size wr (wr.alloc (.cells #[.string P.s, .int .i64 P.n] 61))) := bnew _ _
            have u5 : (wr.alloc (.cells #[.string P.s, .int .i64 P.n] 61)).cell? ⟨wr.heap.size, 0, none⟩ = some (.string P.s) := (Blk.new _ _ _).cell 0
            have HR5 : Hid ((wr.alloc (.cells #[.string P.s, .int .i64 P.n] 61)).ownsRow wo.heap.size 9 1 (.slice av ys.length cv) ys.length (ys.map Value.string)) := row_later HRW.out HB5.out
            have T5 : Hid (Turn (· = wo.heap.size) w3 (wr.alloc (.cells #[.string P.s, .int .i64 P.n] 61))) := HTU.out.trans (Turn.of HB5.out)
            have hs5 : wr.heap.size ≤ (wr.alloc (.cells #[.string P.s, .int .i64 P.n] 61)).heap.size := HB5.out.size
            clear x3 x4 u0 HB5 z0 z1
            generalize wr.alloc (.cells #[.string P.s, .int .i64 P.n] 61) = w5 at *
            by_cases hjk : J = k
            · have HY : Hid (ys' = ys ++ [P.s]) := by show _ = _; rw [HYS.out, if_pos (by simpa using hjk)]
              have hjk2 : ((0 : Int) == ((k : Nat) : Int)) = true := beq_iff_eq.2 (by have := HSV.out; omega)
              go_wp2_with (at_builtin; refine wpList_append_lies _ rfl _ _ _ rfl wo.heap.size 9 ti _ 1 16 Tryz.underlying76 HI.out hz0 hz1 hz2 rfl (by omega) (.slice av ys.length cv) ys.length (ys.map Value.string) rfl (by exact row_later HR5.out (bnew _ _)) ⟨w5.heap.size, 0, none⟩ 1 1 [.string P.s] rfl rfl (by exact World.news_of_block (heap_alloc_new _ _)) (by simp [Value.oneCell']) (by omega) (by simp [maxLen]; omega) (by omega) (by simp; omega) (w5.heap.size + 1) (by simp) ?_; intro gg cap6 w6 hown6 hgrow6 hat6 hlt6)
              have HT6 : Hid (Turn (· = wo.heap.size) w3 w6) := (T5.out.trans (Turn.of (bnew _ _))).trans ((Turn.grown hgrow6).mono fun i _ e => by have := HOB.out i e; omega)
              have HOB6 : Hid (∀ q, (Value.slice (some ⟨gg, 0, none⟩) (ys.length + 1) cap6).ownBlock = some q → q = wo.heap.size ∨ w3.heap.size ≤ q) := fun q hq => by
                simp only [Value.ownBlock, Option.some.injEq] at hq
                rcases hat6 with h | h
                · exact HOB.out q (by rw [h, hq])
                · have h5 := T5.out.size
                  omega
              have HR6 : Hid (w6.ownsRow wo.heap.size 9 1 (.slice (some ⟨gg, 0, none⟩) ys'.length cap6) ys'.length (ys'.map Value.string)) := by
                refine hid ?_
                rw [HY.out]
                simpa using hown6
              have HLY : Hid (ys.length + 1 = ys'.length) := by show _ = _; rw [HY.out]; simp
              clear hown6 hgrow6 hat6 hlt6
              rw [HLY.out] at HOB6
              refine ⟨⟨j + 1, some ⟨gg, 0, none⟩, cap6, by omega, by go_num, ?_, ?_, ?_, HT6.out⟩, by simp [intOf]; omega⟩
              · rw [HYE.out, ← HLY.out]
              · rw [HYE.out]; exact HR6
              · rw [HYE.out]; exact HOB6
            · have HY : Hid (ys' = ys) := by show _ = _; rw [HYS.out, if_neg (by simpa using hjk), List.append_nil]
              have hjk2 : ¬ ((0 : Int) = ((k : Nat) : Int)) := by have := HSV.out; omega
              go_wp2
              refine ⟨⟨j + 1, av, cv, by omega, by go_num, ?_, ?_, ?_, T5.out⟩, by simp [intOf]; omega⟩
              · rw [HYE.out, HY.out]
              · rw [HYE.out, HY.out]; exact HR5
              · rw [HYE.out, HY.out]; exact HOB
          · have HSV : Hid ((P.s.size : Int) % (N : Int) = ((shN c P.s : Nat) : Int)) := by
              show _ = _
              rw [HSP.out, ← HNE.out]
              unfold shardV
              rw [if_neg e1, if_pos (by omega)]
            have e2 : c.ha = 2 := by omega
            rw [e2] at x4
            clear e2 e1 e0
            generalize shN c P.s = J at *
            have hmod := HSV.out
            have hNz : ¬ ((N : Nat) : Int) = 0 := by omega
            go_upto_region 17 with fail
            have HB5 : Hid (Below wr.heap.size wr (wr.alloc (.cells #[.string P.s, .int .i64 P.n] 61))) := bnew _ _
            have u5 : (wr.alloc (.cells #[.string P.s, .int .i64 P.n] 61)).cell? ⟨wr.heap.size, 0, none⟩ = some (.string P.s) := (Blk.new _ _ _).cell 0
            have HR5 : Hid ((wr.alloc (.cells #[.string P.s, .int .i64 P.n] 61)).ownsRow wo.heap.size 9 1 (.slice av ys.length cv) ys.length (ys.map Value.string)) := row_later HRW.out HB5.out
            have T5 : Hid (Turn (· = wo.heap.size) w3 (wr.alloc (.cells #[.string P.s, .int .i64 P.n] 61))) := HTU.out.trans (Turn.of HB5.out)
            have hs5 : wr.heap.size ≤ (wr.alloc (.cells #[.string P.s, .int .i64 P.n] 61)).heap.size := HB5.out.size
            clear x3 x4 u0 HB5 z0 z1
            generalize wr.alloc (.cells #[.string P.s, .int .i64 P.n] 61) = w5 at *
            by_cases hjk : J = k
            · have HY : Hid (ys' = ys ++ [P.s]) := by show _ = _; rw [HYS.out, if_pos (by simpa using hjk)]
              have hjk2 : (((J : Nat) : Int) = ((k : Nat) : Int)) = True := eq_true (by omega)
              go_wp2_with (at_builtin; refine wpList_append_lies _ rfl _ _ _ rfl wo.heap.size 9 ti _ 1 16 Tryz.underlying76 HI.out hz0 hz1 hz2 rfl (by omega) (.slice av ys.length cv) ys.length (ys.map Value.string) rfl (by exact row_later HR5.out (bnew _ _)) ⟨w5.heap.size, 0, none⟩ 1 1 [.string P.s] rfl rfl (by exact World.news_of_block (heap_alloc_new _ _)) (by simp [Value.oneCell']) (by omega) (by simp [maxLen]; omega) (by omega) (by simp; omega) (w5.heap.size + 1) (by simp) ?_; intro gg cap6 w6 hown6 hgrow6 hat6 hlt6)
              have HT6 : Hid (Turn (· = wo.heap.size) w3 w6) := (T5.out.trans (Turn.of (bnew _ _))).trans ((Turn.grown hgrow6).mono fun i _ e => by have := HOB.out i e; omega)
              have HOB6 : Hid (∀ q, (Value.slice (some ⟨gg, 0, none⟩) (ys.length + 1) cap6).ownBlock = some q → q = wo.heap.size ∨ w3.heap.size ≤ q) := fun q hq => by
                simp only [Value.ownBlock, Option.some.injEq] at hq
                rcases hat6 with h | h
                · exact HOB.out q (by rw [h, hq])
                · have h5 := T5.out.size
                  omega
              have HR6 : Hid (w6.ownsRow wo.heap.size 9 1 (.slice (some ⟨gg, 0, none⟩) ys'.length cap6) ys'.length (ys'.map Value.string)) := by
                refine hid ?_
                rw [HY.out]
                simpa using hown6
              have HLY : Hid (ys.length + 1 = ys'.length) := by show _ = _; rw [HY.out]; simp
              clear hown6 hgrow6 hat6 hlt6
              rw [HLY.out] at HOB6
              refine ⟨⟨j + 1, some ⟨gg, 0, none⟩, cap6, by omega, by go_num, ?_, ?_, ?_, HT6.out⟩, by simp [intOf]; omega⟩
              · rw [HYE.out, ← HLY.out]
              · rw [HYE.out]; exact HR6
              · rw [HYE.out]; exact HOB6
            · have HY : Hid (ys' = ys) := by show _ = _; rw [HYS.out, if_neg (by simpa using hjk), List.append_nil]
              have hjk2 : ((J : Nat) : Int) ≠ ((k : Nat) : Int) := by omega
              go_wp2
              refine ⟨⟨j + 1, av, cv, by omega, by go_num, ?_, ?_, ?_, T5.out⟩, by simp [intOf]; omega⟩
              · rw [HYE.out, HY.out]
              · rw [HYE.out, HY.out]; exact HR5
              · rw [HYE.out, HY.out]; exact HOB
        · have ej : (t.sers.map (·.s)).take j = t.sers.map (·.s) := List.take_of_length_le (by rw [List.length_map]; omega)
          rw [ej] at HRW HOB ⊢
          have HDL : Hid (dealL (shN c) (k + 1) (t.sers.map (·.s)) = dealL (shN c) k (t.sers.map (·.s)) ++ [(t.sers.map (·.s)).filter fun x => shN c x == k]) := dealL_succ _ _ _
          have hdk : (dealL (shN c) k (t.sers.map (·.s))).length = k := dealL_length _ _ _
          have HSO : Hid (StrsOwn wr wo.heap.size av ((t.sers.map (·.s)).filter fun x => shN c x == k)) := strs_of_row HRW.out
          have HBO : Hid (Below wo.heap.size wo wr) := BO3.out.trans (HTU.out.below (by omega) fun i hi e => by omega)
          generalize dealL (shN c) k (t.sers.map (·.s)) = XS at *
          generalize (t.sers.map (·.s)).filter (fun x => shN c x == k) = l at *
          have HR2 : Hid (RowsG wr (w.heap.size + 2) T (.slice va XS.length vc) vs XS) := HR.out.later HBO.out
          have HOL : Hid (∀ q, (Value.slice va XS.length vc).ownBlock = some q → q < wo.heap.size) := fun q hq => (HR.out.1.lt q hq).2
          have hXl : XS.length ≤ 64 := by omega
          clear hdk
          clear HRW HOB ej
          go_wp2_with (at_builtin; refine wpList_append_lies _ rfl _ _ _ rfl (w.heap.size + 2) 76 tj _ 1 24 Tryz.underlying44 HJ.out hy0 hy1 hy2 rfl (by omega) (.slice va XS.length vc) XS.length vs rfl (by exact row_later HR2.out.1 (bnew _ _)) ⟨wr.heap.size, 0, none⟩ 1 1 [.slice av l.length cv] rfl rfl (by exact World.news_of_block (heap_alloc_new _ _)) (by simp [Value.oneCell']) (by omega) (by simp [maxLen]; omega) (by omega) (by simp; omega) (wr.heap.size + 1) (by simp) ?_; intro gg cap6 w6 hown6 hgrow6 hat6 hlt6)
          obtain ⟨T', hsn⟩ := RowsG.snoc (H := wr.heap.size + 1) HR.out (bto HBO.out (bnew wr (.cells #[.slice av l.length cv] 76))) (by omega) (HSO.out.later (bnew _ _)) (Turn.grown hgrow6) (by simp) hat6 hown6
          have HSN : Hid (RowsG w6 (w.heap.size + 2) T' (.slice (some ⟨gg, 0, none⟩) (XS.length + 1) cap6) (vs ++ [.slice av l.length cv]) (dealL (shN c) (k + 1) (t.sers.map (·.s)))) := by
            refine hid ?_
            rw [HDL.out]
            exact hsn
          have HB6 : Hid (Below (w.heap.size + 2) w1 w6) := HBL.out.trans (((bto HBO.out (bnew wr (.cells #[.slice av l.length cv] 76))).mono (by omega)).trans ((Turn.grown hgrow6).below (by simp; omega) fun i hi e => by have := (HR.out.1.lt i e).1; omega))
          clear hown6 hgrow6 hat6 hlt6 hsn
          exact ⟨⟨k + 1, _, _, T', by omega, by go_num, rfl, HSN.out, HB6.out⟩, by simp [intOf]; omega⟩
    · have ek : k = N := by omega
      have HEN : Hid (RES = dealL (shN c) k (t.sers.map (·.s))) := by show _ = _; rw [HV2.out, ek]
      have HSS : Hid (SSIn wr va RES) := by
        refine hid ?_
        rw [HEN.out]
        exact HR.out.ss
      have HLN : Hid ((dealL (shN c) k (t.sers.map (·.s))).length = RES.length) := by show _ = _; rw [HEN.out]
      generalize (dealL (shN c) k (t.sers.map (·.s))).length = XL at *
      go_wp2
      refine bodyPost_ret (v := .slice va XL vc) (by simp [results, Tryz.results19, go_sem]) rfl ⟨_, _, by rw [HLN.out], HSS.out, BW.out⟩
end Go.Proofs.YtojeemogabhaoaaGreatDoor
