import Derived.Test.YtiajififiophgaaGreatDoorProg
import Derived.Test.YtiajififiophgaaGreatDoorJ17CntI
import Derived.Test.YtiajififiophgaaGreatDoorJ20ITell
import Derived.Test.YtiajififiophgaaGreatDoorJ22ShV
import Derived.Deep.AppendLies
namespace Go.Proofs.YtiajififiophgaaGreatDoor
open Go.RowKit Go.Maps

theorem info_ss : (Tryz.prog.info? 99).map (fun i => (i.zero, i.size, i.bytes)) = some (some (.slice none 0 0), 1, 24) := by kernel_rfl
theorem make_ss (n : Int) (h0 : 0 ≤ n) (hn : n ≤ 1000) (w : World) :
    (Instr.makeSlice 44 (.int .i64 n) (.int .i64 n)).run Tryz.prog w = .ok (.slice (some ⟨w.heap.size, 0, none⟩) n.toNat n.toNat) (w.alloc (.cells (madeCells #[.slice none 0 0] n.toNat) 99)) := by
  obtain ⟨i, hi, hzz⟩ := Option.map_eq_some_iff.1 info_ss
  simp only [Prod.mk.injEq] at hzz
  obtain ⟨hz, hs, hb⟩ := hzz
  have hr := run_make (P := Tryz.prog) w 44 99 i _ Tryz.underlying44 hi hz .i64 .i64 n n (by omega) (Int.le_refl _) (by rw [hb]; omega) (by omega)
  simp only [hs, Nat.mul_one] at hr
  exact hr
theorem rows_start (w : World) (B n : Nat) (T : Nat → Nat) : RowsT w B T (madeCells #[.slice none 0 0] n) (List.replicate n []) := by
  refine ⟨by rw [size_madeCells, List.length_replicate], fun i hi => ?_⟩
  have hi' : i < n := by simpa using hi
  refine ⟨.slice none 0 0, ?_, ?_, fun g hg => by simp [Value.ownBlock] at hg⟩
  · rw [← Array.getElem?_toList, toList_madeCells_one, List.getElem?_replicate, if_pos hi']
  · simpa using World.ownsRow_nil w B 9 1

set_option maxRecDepth 100000 in
set_option maxHeartbeats 8000000 in
theorem implShards_any (c : CfgD) (now : Int) (a : Option Addr) (cap : Nat) (ts : List TenD) (tenant : ByteArray) (M : Nat) (w : World) (hf : TensIn w a ts) (hfit : FitT ts M) (hlen : ts.length ≤ 1000000000) (hU : UTab w) (hn : tenant.size ≤ 1048576) (hks : (tenOf ts tenant).sers.length ≤ 1048576) (hkz : ∀ i (h : i < (tenOf ts tenant).sers.length), (tenOf ts tenant).sers[i].s.size ≤ maxLen) :
    Calls Tryz.prog 22 #[cfgV c, .agg #[.int .i64 now, .slice a ts.length cap], .string tenant] w fun e w' => ShOut c now ts tenant w e w' := by
  have HO : Hid (∀ W, Below w.heap.size w W → Calls Tryz.prog 39 #[cfgV c, .agg #[.int .i64 now, .slice a ts.length cap]] W fun e w' => OpenOut c now ts M W e w') := fun W hW => open_any c now a cap ts M W (hf.later hW) hfit hlen (hU.later hW)
  have HT : Hid (∀ W, Calls Tryz.prog 58 #[.string tenant] W fun e w' => e = .returned (.bool (tnameB tenant)) ∧ w' = W) := fun W => isTenantName_any tenant W (by unfold maxLen; omega)
  have HFI : Hid (∀ l m B W, LedAt W B l m c now ts M → Calls Tryz.prog 59 #[.pointer (some ⟨l, 0, none⟩), .string tenant] W fun e w' => TenOut c now ts l m tenant W e w') := fun l m B W h => find_ten l m tenant c now B ts M W h (by unfold maxLen; omega)
  have HKY : Hid (∀ x S M' W, IdxAt W S x (tenOf ts tenant) M' → Calls Tryz.prog 60 #[.pointer (some ⟨x, 0, none⟩)] W fun e w' => ∃ v, e = .returned v ∧ w'.ownsRow W.heap.size 9 1 v (tenOf ts tenant).sers.length ((tenOf ts tenant).sers.map fun p => .string p.s) ∧ Below W.heap.size W w') := fun x S M' W h => keys_any x _ S M' W h (by omega)
  have HV : Hid (shardsV c now ts tenant = if (stateB c now ts && tnameB tenant) = true then dealL (shN c) c.sh.toNat ((tenOf ts tenant).sers.map (·.s)) else []) := rfl
  have HKZ := hid hkz
  clear hf hfit hU hkz
  unfold OpenOut at HO
  unfold TenOut at HFI
  unfold ShOut
  generalize tenOf ts tenant = t at *
  generalize shardsV c now ts tenant = RES at *
  generalize tnameB tenant = b1 at *
  obtain ⟨ti, hti, hz0, hz1, hz2⟩ := info_str
  have HI : Hid (Tryz.prog.info? 9 = some ti) := hti
  clear hti
  unfold cfgV at HO
  have HSH : Hid (∀ W s, s.size ≤ maxLen → 1 ≤ c.sh → c.sh ≤ 64 → Calls Tryz.prog 61 #[.agg #[.int .i64 c.w, .int .i64 c.tl, .int .i64 c.ml, .int .i64 c.sh, .int .i64 c.ha, .int .i64 c.sg], .string s] W fun e w' => e = .returned (.int .i64 (shN c s : Nat)) ∧ Below W.heap.size W w') := fun W s hs h1 h2 => by
    rw [shN_int s h1]
    exact shardOf_any c s W hs h1 (by omega)
  unfold cfgV
  go_enter Tryz.func22, Tryz.ntmps22
  go_wp2_with fail
  refine (HO.out _ (bto (bnew _ _) (bnew _ _))).mono ?_
  intro e w1 hx
  have HX := hid hx
  clear hx
  rcases HX.out with ⟨hs, rfl, hb⟩ | ⟨hs, l, m, rfl, _, hled, hb⟩
  · have HB : Hid (Below w.heap.size w w1) := bto (bto (bnew _ _) (bnew _ _)) hb
    have HV2 : Hid (RES = []) := by show _ = _; rw [HV.out, hs]; rfl
    clear HX hb hs
    go_wp2
    refine bodyPost_ret (v := .slice none 0 0) (by simp [results, Tryz.results22, go_sem]) rfl ⟨none, 0, by rw [HV2.out]; rfl, Or.inl HV2.out, HB.out⟩
  have HB : Hid (Below w.heap.size w w1) := bto (bto (bnew _ _) (bnew _ _)) hb
  have A1 : Hid (Blk w1 w.heap.size #[.int .i64 c.w, .int .i64 c.tl, .int .i64 c.ml, .int .i64 c.sh, .int .i64 c.ha, .int .i64 c.sg] 33) := hid (((Blk.new _ _ _).alloc _).later hb)
  have HL := hid hled
  by_cases h1 : b1 = false
  · have HV2 : Hid (RES = []) := by show _ = _; rw [HV.out, h1]; simp
    subst h1
    clear HX hb hs hled HO
    go_wp2_with fail
    refine (HT.out _).mono ?_
    rintro e w2 ⟨rfl, hw⟩
    replace hw := hw.symm
    subst hw
    go_wp2
    refine bodyPost_ret (v := .slice none 0 0) (by simp [results, Tryz.results22, go_sem]) rfl ⟨none, 0, by rw [HV2.out]; rfl, Or.inl HV2.out, HB.out⟩
  have h1' : b1 = true := by simpa using h1
  subst h1'
  clear h1
  have hcs := shs_in hs
  have HV2 : Hid (RES = dealL (shN c) c.sh.toNat (t.sers.map (·.s))) := by show _ = _; rw [HV.out, hs]; rfl
  clear HX hb hs hled HO HV
  obtain ⟨s1, s2, s3, s4⟩ := hcs
  clear s3 s4
  go_wp2_with fail
  refine (HT.out _).mono ?_
  rintro e w2 ⟨rfl, hw⟩
  replace hw := hw.symm
  subst hw
  go_wp2_with fail
  refine (HFI.out l m _ _ HL.out).mono ?_
  rintro e w2 ⟨x, b, S, M', rfl, hi, _, hb2⟩
  have HI2 := hid hi
  have B2 : Hid (Below w.heap.size w w2) := bto HB.out hb2
  have A2 : Hid (Blk w2 w.heap.size #[.int .i64 c.w, .int .i64 c.tl, .int .i64 c.ml, .int .i64 c.sh, .int .i64 c.ha, .int .i64 c.sg] 33) := A1.out.later hb2
  have c3 : w2.cell? ⟨w.heap.size, 3, none⟩ = some (.int .i64 c.sh) := A2.out.cell 3
  have hmk : ∀ W : World, (Instr.makeSlice 44 (.int .i64 c.sh) (.int .i64 c.sh)).run Tryz.prog W = .ok (.slice (some ⟨W.heap.size, 0, none⟩) c.sh.toNat c.sh.toNat) (W.alloc (.cells (madeCells #[.slice none 0 0] c.sh.toNat) 99)) := fun W => make_ss c.sh (by omega) (by omega) W
  clear hi hb2 HB A1 HL HFI HT
  go_wp2_with fail
  refine (HKY.out x S M' _ (HI2.out.later (bnew _ _))).mono ?_
  rintro e w4 ⟨kv, rfl, hrow, hb4⟩
  obtain ⟨ka, kc, rfl⟩ := row_form hrow
  have hso : StrsOwn w4 (w2.heap.size + 1) ka (t.sers.map (·.s)) := by
    have h0 : w4.ownsRow (w2.heap.size + 1) 9 1 (.slice ka (t.sers.map (·.s)).length kc) (t.sers.map (·.s)).length ((t.sers.map (·.s)).map Value.string) := by
      have e0 : (t.sers.map fun p : PairD => p.s).map Value.string = t.sers.map fun p => .string p.s := by rw [List.map_map]; rfl
      rw [e0, List.length_map]
      simpa using hrow
    exact strs_of_row h0
  have HSO := hid hso
  have HG : Hid (Blk w4 w2.heap.size (madeCells #[.slice none 0 0] c.sh.toNat) 99) := (Blk.new _ _ _).later hb4
  have A4 : Hid (Blk w4 w.heap.size #[.int .i64 c.w, .int .i64 c.tl, .int .i64 c.ml, .int .i64 c.sh, .int .i64 c.ha, .int .i64 c.sg] 33) := (A2.out.alloc _).later hb4
  have B4 : Hid (Below w.heap.size w w4) := bto (bto B2.out (bnew _ _)) hb4
  have HGL : Hid (w.heap.size < w2.heap.size ∧ w2.heap.size < w4.heap.size) := ⟨lt_of_block A2.out, lt_of_block HG.out⟩
  have hkz2 : ∀ i (h : i < (t.sers.map fun p : PairD => p.s).length), (t.sers.map fun p : PairD => p.s)[i].size ≤ maxLen := fun i h => by simpa using HKZ.out i (by simpa using h)
  have HKZ2 := hid hkz2
  have hkl : (t.sers.map (·.s)).length ≤ 1048576 := by simpa using hks
  have hel : t.sers.length = (t.sers.map (·.s)).length := by simp
  rw [hel]
  clear hrow hb4 hso hkz2 HKZ hks hel HI2 HKY c3 hmk A2 B2
  generalize t.sers.map (·.s) = ks at *
  have hsn : ((c.sh.toNat : Nat) : Int) = c.sh := by omega
  obtain ⟨N, hN⟩ : ∃ N, N = c.sh.toNat := ⟨_, rfl⟩
  rw [← hN] at HG HV2 ⊢
  have HNE : Hid (((N : Nat) : Int) = c.sh) := by show _ = _; rw [hN]; exact hsn
  have hN64 : N ≤ 64 := by omega
  have HLT : Hid (∀ s, shN c s < N) := fun s => by rw [hN]; exact shN_lt s s1
  have HSH2 : Hid (∀ W s, s.size ≤ maxLen → Calls Tryz.prog 61 #[.agg #[.int .i64 c.w, .int .i64 c.tl, .int .i64 c.ml, .int .i64 c.sh, .int .i64 c.ha, .int .i64 c.sg], .string s] W fun e w' => e = .returned (.int .i64 (shN c s : Nat)) ∧ Below W.heap.size W w') := fun W s hs => HSH.out W s hs s1 s2
  clear HSH s1 s2 hsn hN
  generalize shN c = sh at *
  generalize w2.heap.size = G at *
  go_wp2
  go_loopw [13, 14, 40] (fun _ _ i wr => ∃ (k : Nat) (cc : Array Value) (T : Nat → Nat), k ≤ ks.length ∧ i = .int .i64 k ∧ Hid (Blk wr G cc 99) ∧ Hid (T G = 0) ∧ Hid (RowsT wr w4.heap.size T cc (dealL sh N (ks.take k))) ∧ Hid (Turn (· = G) w4 wr)) (fun _ _ i _ => ks.length - (intOf i).toNat)
  case atStart => exact ⟨0, _, fun _ => 0, Nat.zero_le _, rfl, HG.out, rfl, by show RowsT _ _ _ _ _; rw [List.take_zero, dealL_nil]; exact rows_start _ _ _ _, Turn.refl _ _⟩
  case round =>
    obtain ⟨k, cc, T, hk, rfl, HBK, HTG, HR, HTU⟩ := hrel
    have A5 : Hid (Blk wr w.heap.size #[.int .i64 c.w, .int .i64 c.tl, .int .i64 c.ml, .int .i64 c.sh, .int .i64 c.ha, .int .i64 c.sg] 33) := HTU.out.blk A4.out (by have := HGL.out; omega)
    by_cases hlt : k < ks.length
    · have hso : ∃ g o, ka = some ⟨g, o, none⟩ ∧ G + 1 ≤ g ∧ g < w4.heap.size ∧ w4.cell? ⟨g, o + k, none⟩ = some (.string ks[k]) := by
        rcases HSO.out with h0 | ⟨g, o, cur, ty, e, hB, hg, hc⟩
        · rw [h0] at hlt; exact absurd hlt (by simp)
        · exact ⟨g, o, e, hB, lt_of_block hg, hc k hlt⟩
      obtain ⟨g, o, rfl, hg1, hg2, hgc⟩ := hso
      have hkey : wr.cell? ⟨g, o + k, none⟩ = some (.string ks[k]) := (World.cell?_of_block (HTU.out.block g hg2 (by omega))).trans hgc
      have x0 : wr.cell? ⟨w.heap.size, 0, none⟩ = some (.int .i64 c.w) := A5.out.cell 0
      have x1 : wr.cell? ⟨w.heap.size, 1, none⟩ = some (.int .i64 c.tl) := A5.out.cell 1
      have x2 : wr.cell? ⟨w.heap.size, 2, none⟩ = some (.int .i64 c.ml) := A5.out.cell 2
      have x3 : wr.cell? ⟨w.heap.size, 3, none⟩ = some (.int .i64 c.sh) := A5.out.cell 3
      have x4 : wr.cell? ⟨w.heap.size, 4, none⟩ = some (.int .i64 c.ha) := A5.out.cell 4
      have x5 : wr.cell? ⟨w.heap.size, 5, none⟩ = some (.int .i64 c.sg) := A5.out.cell 5
      have HD : Hid (ks.take (k + 1) = ks.take k ++ [ks[k]]) := List.take_succ_eq_append_getElem hlt
      have hkzz := HKZ2.out k hlt
      have hshlt := HLT.out ks[k]
      have hsz4 : w4.heap.size ≤ wr.heap.size := HTU.out.size
      clear hgc
      generalize ks[k] = key at *
      have HSK : Hid (Calls Tryz.prog 61 #[.agg #[.int .i64 c.w, .int .i64 c.tl, .int .i64 c.ml, .int .i64 c.sh, .int .i64 c.ha, .int .i64 c.sg], .string key] wr fun e w' => e = .returned (.int .i64 (sh key : Nat)) ∧ Below wr.heap.size wr w') := HSH2.out wr key hkzz
      have hnl : (dealL sh N (ks.take k)).length = N := dealL_length _ _ _
      have HDS : Hid (dealL sh N (ks.take (k + 1)) = (dealL sh N (ks.take k)).set (sh key) (((dealL sh N (ks.take k))[sh key]'(by rw [hnl]; exact hshlt)) ++ [key])) := by
        show _ = _
        rw [HD.out]
        exact dealL_snoc sh N _ key hshlt
      have HZL : Hid (((dealL sh N (ks.take k))[sh key]'(by rw [hnl]; exact hshlt)).length ≤ 1048576) := by
        have := deal_at_le sh N (ks.take k) (sh key) (by rw [hnl]; exact hshlt)
        have h2 : (ks.take k).length ≤ ks.length := by rw [List.length_take]; omega
        show _ ≤ _
        omega
      clear HD
      generalize dealL sh N (ks.take k) = XS at *
      generalize sh key = J at *
      have hJX : J < XS.length := by omega
      obtain ⟨v, hv1, hv2, hv3⟩ := HR.out.at hJX
      have HV1 := hid hv1
      have HVO := hid hv2
      have HV3 := hid hv3
      have hzl : XS[J].length ≤ 1048576 := HZL.out
      obtain ⟨va, vc, rfl⟩ := row_form hv2
      have hJc : J < cc.size := by rw [HR.out.1]; omega
      clear hv1 hv2 hv3 HZL
      go_wp2_with fail
      refine HSK.out.mono ?_
      rintro e w5 ⟨rfl, hb5⟩
      have hsz5 := hb5.size
      have BK5 : Hid (Blk w5 G cc 99) := HBK.out.later hb5
      have c5 : w5.cell? ⟨G, J, none⟩ = some (.slice va XS[J].length vc) := (BK5.out.cell J).trans HV1.out
      have R5 : Hid (RowsT w5 w4.heap.size T cc XS) := HR.out.turn (Turn.of (S := fun _ => False) hb5) fun _ _ _ _ e => e
      have O5 : Hid (w5.ownsRow w4.heap.size 9 1 (.slice va XS[J].length vc) XS[J].length (XS[J].map Value.string)) := (Turn.of (S := fun _ => False) hb5).row HVO.out (fun _ _ e => e)
      have T5 : Hid (Turn (· = G) w4 w5) := HTU.out.trans (Turn.of hb5)
      have hGw : G < w4.heap.size := HGL.out.2
      clear hb5 x0 x1 x2 x3 x4 x5 hkey HR HVO HTU HBK A5 HSK
      go_wp2_with (at_builtin; refine wpList_append_lies _ rfl _ _ _ rfl w4.heap.size 9 ti _ 1 16 Tryz.underlying99 HI.out hz0 hz1 hz2 rfl (by omega) (.slice va XS[J].length vc) XS[J].length (XS[J].map Value.string) rfl (by exact row_later O5.out (bnew _ _)) ⟨w5.heap.size, 0, none⟩ 1 1 [.string key] rfl rfl (by exact World.news_of_block (heap_alloc_new _ _)) (by simp [Value.oneCell']) (by omega) (by simp [maxLen]; omega) (by omega) (by simp; omega) (w5.heap.size + 1) (by simp) ?_; intro gg cap6 w6 hown6 hgrow6 hat6 hlt6; have hag : (Value.slice va XS[J].length vc).ownBlock ≠ some G := (fun e => by have := (O5.out.lt G e).1; omega); have BK6 : Hid (Blk w6 G cc 99) := (Turn.grown hgrow6).blk (BK5.out.alloc _) hag; have s6 := (BK6.out.cell J).trans HV1.out; have f6 := BK6.out.free J; have HO6 := hid hown6; have HGR6 := hid hgrow6; have HAT6 := hid hat6; have HAG := hid hag; clear hown6 hgrow6 hat6 hlt6 hag)
      have hgg : w4.heap.size ≤ gg := by
        rcases HAT6.out with h | h
        · exact (O5.out.lt gg h).1
        · omega
      have hset : Turn (· = G) w6 (w6.setCell ⟨G, J, none⟩ (.slice (some ⟨gg, 0, none⟩) (XS[J].length + 1) cap6)) := (Turn.refl (· = G) w6).setCell (Or.inl rfl) J _
      have HSN := RowsT.snoc (H := w5.heap.size + 1) (R5.out.turn (Turn.of (S := fun _ => False) (bnew w5 (.cells #[.string key] 9))) fun _ _ _ _ e => e) hJX HV3.out (Turn.grown HGR6.out) (by simp) HAT6.out HO6.out
      have hTG : (if G = gg then J + 1 else T G) = 0 := by rw [if_neg (by omega)]; exact HTG.out
      refine ⟨⟨k + 1, _, fun b => if b = gg then J + 1 else T b, by omega, by go_num, BK6.out.set J _, hTG, ?_, ?_⟩, by simp [intOf]; omega⟩
      · show RowsT _ _ _ _ (dealL sh N (ks.take (k + 1)))
        rw [HDS.out]
        exact HSN.turn hset fun g _ _ h e => h (by rw [e]; exact hTG)
      · exact ((T5.out.trans (Turn.of (bnew _ _))).trans ((Turn.grown HGR6.out).mono fun i _ e => Or.inr (O5.out.lt i e).1)).trans' hset
    · have ek : k = ks.length := by omega
      have HEN : Hid (RES = dealL sh N (ks.take k)) := by show _ = _; rw [HV2.out, ek, List.take_length]
      have HLN : Hid (N = RES.length) := by show _ = _; rw [HV2.out, dealL_length]
      have HB : Hid (Below w.heap.size w wr) := ((Turn.of (S := fun i => w.heap.size ≤ i) B4.out).trans' (HTU.out.mono fun i _ e => by have := HGL.out; omega)).below (Nat.le_refl _) fun i hi h => by omega
      have HOW : Hid (SSOwn wr w.heap.size (some ⟨G, 0, none⟩) RES) := by
        show SSOwn _ _ _ _
        rw [HEN.out]
        exact (HR.out.base (by have := HGL.out; omega)).own HBK.out (by have := HGL.out; omega) HTG.out
      go_wp2
      refine bodyPost_ret (v := .slice (some ⟨G, 0, none⟩) N N) (by simp [results, Tryz.results22, go_sem]) rfl ⟨some ⟨G, 0, none⟩, N, by rw [← HLN.out], HOW.out, HB.out⟩
end Go.Proofs.YtiajififiophgaaGreatDoor

