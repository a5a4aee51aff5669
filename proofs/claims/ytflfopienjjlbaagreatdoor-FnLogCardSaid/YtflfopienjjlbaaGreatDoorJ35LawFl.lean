import Derived.Test.YtflfopienjjlbaaGreatDoorProg
import Derived.Test.YtflfopienjjlbaaGreatDoorJ32FlL
import Derived.Test.YtflfopienjjlbaaGreatDoorJ33Prop
import Derived.Test.YtflfopienjjlbaaGreatDoorJ11IFrames
import Derived.Test.YtflfopienjjlbaaGreatDoorJ34IStep
import Derived.Deep.RegionHeld3
import Derived.Deep.DeepCutAuto
import Derived.Deep.RegionLaw
import Derived.Great.BuildSlice
namespace Go.Proofs.YtflfopienjjlbaaGreatDoor
open Go.RowKit

set_option maxRecDepth 100000 in
set_option maxHeartbeats 16000000 in
theorem lawFnLog (a b : Option Addr) (n cn m cm : Nat) (w : World) (hA : U8In w w.heap.size w.heap.size a n) (hB : U8In w w.heap.size w.heap.size b m) (hn : n ≤ maxLen) (hm : m ≤ maxLen) (hpow : PowTab w) (hert : ErrTab w) :
    Calls Tryz.prog 4 #[.slice a n cn, .slice b m cm] w fun e w' => e = .returned (.bool true) ∧ Below w.heap.size w w' := by
  unfold maxLen at hn hm
  have HA : Hid (U8In w w.heap.size w.heap.size a n) := hA
  have HBB : Hid (U8In w w.heap.size w.heap.size b m) := hB
  have HT : Hid (PowTab w ∧ ErrTab w) := ⟨hpow, hert⟩
  clear hA hB hpow hert
  by_cases h1 : 1048576 < n
  · go_enter Tryz.func4, Tryz.ntmps4
    go_wp2
    go_ret
    exact ⟨rfl, Below.refl _ _⟩
  by_cases h2 : 1048576 < m
  · go_enter Tryz.func4, Tryz.ntmps4
    go_wp2
    go_ret
    exact ⟨rfl, Below.refl _ _⟩
  obtain ⟨K0, L0, hO, hI0⟩ := inv_zero
  have HI0 := hid hI0
  have HLO : Hid (∀ W, Below w.heap.size w W → Calls Tryz.prog 8 #[.agg #[.slice none 0 0, .int .i64 1000000, .int .i64 0, .int .i64 0, .int .i64 0, .bool false]] W fun e w' => OpenOut W (K0, L0, [], 0) e w') := fun W hW => by
    rw [← hO]
    exact implOpen_any none 0 ⟨[], 1000000, 0, 0, 0, false⟩ W (HT.out.1.later hW) (HT.out.2.later hW) (Or.inl rfl) fit_nil
  clear hO hI0
  go_enter Tryz.func4, Tryz.ntmps4
  go_upto_region 5 with fail
  go_cut [7, 8, 9, 10] (fun s7 s8 _ s10 wx => ∃ (P Q : Nat) (a0 : Option Addr) (cap0 : Nat), s7 = .pointer (some ⟨P, 0, none⟩) ∧ s8 = .pointer (some ⟨Q, 0, none⟩) ∧ s10 = .int .i64 0 ∧ FlAt w wx P Q K0 L0 a0 cap0 (.slice (some ⟨w.heap.size, 0, none⟩) 0 0) [])
  case first => as_aux_lemma =>
    go_wp2_with fail
    refine (HLO.out _ (bnew _ _)).mono ?_
    rintro e w1 ⟨a1, cap1, sa, sc, rfl, how, _, _, hb1⟩
    have hF := hid how.files
    have HR := hid (World.ownsRow_made (e := 9) (size := 1) w #[] 0 (Nat.le_refl _) (by simp [maxLen]) (by simp))
    have HAP := hid (ap_new HR.out how)
    have HB1 := hid hb1
    clear how hb1
    go_wp2_with fail
    go_meet
    exact ⟨w1.heap.size, w1.heap.size + 1, a1, cap1, rfl, rfl, rfl, FlAt.new hF.out (row_later HR.out HB1.out) (bto (bnew _ _) HB1.out) HAP.out⟩
  obtain ⟨P, Q, a0, cap0, rfl, rfl, rfl, hat0⟩ := hcut
  rename World => w2
  have HAT0 := hid hat0
  have hw2 := hat0.be.size
  have HU : Hid (∀ W, Below w.heap.size w W → U8In W w.heap.size w.heap.size a n) := fun W hW => HA.out.below hW
  clear hat0 HLO
  have HP0 := hid (hPick_n w.heap.size w.heap.size a n cn 12 0 w2 (HU.out w2 HAT0.out.be) (by omega) (by omega) (by omega) (by omega))
  obtain ⟨ti, hi, hz0, hz1, hz2⟩ := info_str
  have HI := hid hi
  clear hi
  go_wp2_with fail
  refine HP0.out.mono ?_
  rintro e w' ⟨v, hv, rfl, hw'⟩
  rw [hw']
  clear HP0 hw' w'
  go_wp2_with fail
  go_loopw [5, 6, 10, 12, 13, 14, 15] (fun pv dv _ iv _ _ _ wr => ∃ (j : Nat) (ps : List ByteArray) (K : DiskD) (L : LogD) (ak : Option Addr) (ck : Nat) (av : Option Addr) (cv : Nat), j ≤ v + 1 ∧ iv = .int .i64 (j : Nat) ∧ dv = .string (joinF ps) ∧ pv = .slice av ps.length cv ∧ FlAt w wr P Q K L ak ck pv ps ∧ Inv j K L ps) (fun _ _ _ iv _ _ _ _ => v + 1 - (intOf iv).toNat)
  case atStart => exact ⟨0, [], K0, L0, a0, cap0, _, _, Nat.zero_le _, rfl, rfl, rfl, HAT0.out, HI0.out⟩
  case round =>
    obtain ⟨j, ps, K, L, ak, ck, av, cv, hj, rfl, rfl, rfl, hat, hinv⟩ := hrel
    have HAT := hid hat
    have HINV := hid hinv
    have hwr := hat.be.size
    clear hat hinv
    obtain ⟨W, hW⟩ : ∃ W, W = wr := ⟨_, rfl⟩
    subst hW
    by_cases hlt : j < v + 1
    · have HP1 : Hid (Calls Tryz.prog 16 #[.slice a n cn, .int .i64 ((j : Int) + 1), .int .i64 30] W fun e w' => ∃ v : Nat, v < 30 ∧ e = .returned (.int .i64 (v : Nat)) ∧ w' = W) := by
        have := hPick_n w.heap.size w.heap.size a n cn 30 (j + 1) W (HU.out W HAT.out.be) (by omega) (by omega) (by omega) (by omega)
        show Calls _ _ _ _ _
        simpa using this
      go_wp2_with fail
      refine HP1.out.mono ?_
      rintro e w' ⟨v2, hv2, rfl, hw'⟩
      rw [hw']
      clear HP1 hw' w'
      go_wp2_with fail
      go_loopw [13, 15] (fun pv2 jv wr => ∃ (t : Nat) (p : ByteArray), t ≤ v2 ∧ jv = .int .i64 (t : Nat) ∧ pv2 = .string p ∧ 1 ≤ p.size ∧ p.size ≤ t + 1 ∧ Below W.heap.size W wr) (fun _ jv _ => v2 - (intOf jv).toNat)
      case atStart => exact ⟨0, ⟨#[112]⟩, Nat.zero_le _, rfl, rfl, by decide, by decide, Below.refl _ _⟩
      case round =>
        obtain ⟨t, p, ht, rfl, rfl, hp1, hp2, hbt⟩ := hrel
        have HBT := hid hbt
        clear hbt
        by_cases hlt2 : t < v2
        · have HP2 : Hid (Calls Tryz.prog 16 #[.slice a n cn, .int .i64 ((j : Int) + (t : Int)), .int .i64 256] wr fun e w' => ∃ v : Nat, v < 256 ∧ e = .returned (.int .i64 (v : Nat)) ∧ w' = wr) := by
            have := hPick_n w.heap.size w.heap.size a n cn 256 (j + t) wr (HU.out wr (bto HAT.out.be HBT.out)) (by omega) (by omega) (by omega) (by omega)
            show Calls _ _ _ _ _
            simpa using this
          have hcv := fun z => conv_one wr z
          go_wp2_with fail
          refine HP2.out.mono ?_
          rintro e w' ⟨v3, hv3, rfl, hw'⟩
          rw [hw']
          clear HP2 hw' w'
          go_wp2
          have h1z : (⟨#[UInt8.ofNat v3]⟩ : ByteArray).size = 1 := rfl
          exact ⟨⟨t + 1, p ++ ⟨#[UInt8.ofNat v3]⟩, by omega, by go_num, rfl, by rw [ByteArray.size_append]; omega, by rw [ByteArray.size_append]; omega, bto HBT.out (bnew _ _)⟩, by simp [intOf]; omega⟩
        · have hpz : p.size ≤ 30 := by omega
          have HPO : Hid (PayOK p) := ⟨hp1, by omega⟩
          obtain ⟨K', L', hstep, hinv'⟩ := HINV.out.step HPO.out hpz (by omega)
          have HSTEP := hid hstep
          have HINV' := hid hinv'
          have HLEN : Hid (ps.length = j) := HINV.out.len
          have hpl : ps.length ≤ 12 := by have := HLEN.out; omega
          have hdz : (joinF ps).size ≤ 500 := by have := HINV.out.size; omega
          have hfz : (frameS p).size ≤ 40 := by rw [frameS_size HPO.out]; omega
          have HJ : Hid (joinF (ps ++ [p]) = joinF ps ++ frameS p) := joinF_snoc p ps
          have HATX := hid ((HAT.out.later HBT.out).later (bnew wr (.cells #[.string p] 9)))
          have hwx := hid HATX.out.be.size
          clear hstep hinv'
          go_wp2_with (at_builtin; refine wpList_append_lies _ rfl _ _ _ rfl w.heap.size 9 ti _ 1 16 Tryz.underlying31 HI.out hz0 hz1 hz2 rfl (by omega) (.slice av ps.length cv) ps.length (ps.map Value.string) rfl HATX.out.row ⟨wr.heap.size, 0, none⟩ 1 1 [.string p] rfl rfl (by exact World.news_of_block (heap_alloc_new _ _)) (by simp [Value.oneCell']) (by omega) (by simp [maxLen]; omega) (by omega) hwx.out (wr.heap.size + 1) (by simp) ?_; intro g5 cap5 w5 hown5 hgrow5 hat5 hlt5)
          have HAT5 := hid (HATX.out.app hown5 hgrow5 (by simpa using hat5))
          clear hown5 hgrow5 hat5 hlt5
          go_wp2_with fail
          refine (implFrame_any p w5 (by unfold maxLen; omega)).mono ?_
          rintro e w6 ⟨rfl, hb6⟩
          have HAT6 := hid (HAT5.out.later hb6)
          clear hb6 HAT5
          have HLA : Hid (∀ W4 ak4 ck4, Below w.heap.size w W4 → FilesIn W4 ak4 K.fs → Calls Tryz.prog 18 #[.agg #[.slice ak4 K.fs.length ck4, .int .i64 K.c, .int .i64 K.k, .int .i64 K.cr, .int .i64 K.fl, .bool K.dn], .agg #[.int .i64 L.first, .int .i64 L.last, .int .i64 L.size], .string p, .int .i64 60] W4 fun e w' =>
              ∃ a' cap', e = .returned (.tuple #[.agg #[.slice a' K'.fs.length cap', .int .i64 K'.c, .int .i64 K'.k, .int .i64 K'.cr, .int .i64 K'.fl, .bool K'.dn], .agg #[.int .i64 L'.first, .int .i64 L'.last, .int .i64 L'.size], .int .i64 0]) ∧ Owned w' W4.heap.size a' K'.fs ∧ Below W4.heap.size W4 w') := fun W4 ak4 ck4 hb hf => by
            have := implApp_any ak4 ck4 K L p 60 W4 (HT.out.1.later hb) hf (HINV.out.fit (by omega)) (by omega)
            rw [HSTEP.out] at this
            exact this
          go_upto_region 20 with fail
          go_cut [10] (fun s10 wx => s10 = .int .i64 0 ∧ ∃ (ak' : Option Addr) (ck' : Nat), FlAt w wx P Q K' L' ak' ck' (.slice (some ⟨g5, 0, none⟩) (ps ++ [p]).length cap5) (ps ++ [p]))
          case first => as_aux_lemma =>
            obtain ⟨x0, x1, x2, x3, x4, x5⟩ := HAT6.out.dk.six
            obtain ⟨y0, y1, y2⟩ := HAT6.out.lg.three
            go_wp2_with fail
            refine (HLA.out _ _ _ HAT6.out.be HAT6.out.fi).mono ?_
            rintro e w7 ⟨ak', ck', rfl, how, hb7⟩
            have HAT7 := hid (HAT6.out.later hb7)
            have HF7 := hid how.files
            have HAP := hid (ap_new HAT6.out.row how)
            clear how hb7 x0 x1 x2 x3 x4 x5 y0 y1 y2
            have HTP : Hid (w7.there P 0 (#[.slice ak' K'.fs.length ck', .int .i64 K'.c, .int .i64 K'.k, .int .i64 K'.cr, .int .i64 K'.fl, .bool K'.dn] : Array Value).size) := HAT7.out.thereP
            have HTQ : Hid ((w7.setCells P 0 (#[.slice ak' K'.fs.length ck', .int .i64 K'.c, .int .i64 K'.k, .int .i64 K'.cr, .int .i64 K'.fl, .bool K'.dn] : Array Value).toList).there Q 0 (#[.int .i64 L'.first, .int .i64 L'.last, .int .i64 L'.size] : Array Value).size) := HAT7.out.thereQ _ _ _ _ _ _
            go_wp2_with (with_reducible show wpList _ _ _ (_ :: _) _ _; first | (refine wpList_store_mid rfl 28 _ _ rfl P 0 #[.slice ak' K'.fs.length ck', .int .i64 K'.c, .int .i64 K'.k, .int .i64 K'.cr, .int .i64 K'.fl, .bool K'.dn] rfl rfl ?_ ?_ ?_ ?_; exact HTP.out; kernel_rfl; simp [Value.oneCell']) | (refine wpList_store_mid rfl 30 _ _ rfl Q 0 #[.int .i64 L'.first, .int .i64 L'.last, .int .i64 L'.size] rfl rfl ?_ ?_ ?_ ?_; exact HTQ.out; kernel_rfl; simp [Value.oneCell']))
            go_meet
            exact ⟨rfl, ak', ck', HAT7.out.takeS HF7.out HAP.out⟩
          obtain ⟨rfl, ak', ck', hat8⟩ := hcut
          rename World => w8
          have HAT8 := hid hat8
          clear hat8 HAT6 HLA
          have HAT9 : Hid (FlAt w w8 P Q K' L' ak' ck' (.slice (some ⟨g5, 0, none⟩) (ps.length + 1) cap5) (ps ++ [p])) := by
            have h := HAT8.out
            rw [show (ps ++ [p]).length = ps.length + 1 by simp] at h
            exact h
          go_wp2
          exact ⟨⟨j + 1, ps ++ [p], K', L', ak', ck', some ⟨g5, 0, none⟩, cap5, by omega, by go_num, by rw [HJ.out], by simp, HAT9.out, HINV'.out⟩, by simp [intOf]; omega⟩
    · have HN : Hid (1 ≤ j ∧ j ≤ 12) := ⟨by omega, by omega⟩
      have HLEN : Hid (ps.length = j) := HINV.out.len
      have hpl : ps.length ≤ 12 := by have := HLEN.out; have := HN.out; omega
      have hdz : (joinF ps).size ≤ 500 := by have := HINV.out.size; have := HN.out; omega
      obtain ⟨TN, hTN⟩ : ∃ TN, frameS ⟨#[115, 111, 109, 101, 32, 109, 111, 114, 101]⟩ = TN := ⟨_, rfl⟩
      have HMO : Hid (PayOK ⟨#[115, 111, 109, 101, 32, 109, 111, 114, 101]⟩) := ⟨by decide, by decide⟩
      have HF0 : Hid (∀ W, Calls Tryz.prog 17 #[.string ⟨#[115, 111, 109, 101, 32, 109, 111, 114, 101]⟩] W fun e w' => e = .returned (.string TN) ∧ Below W.heap.size W w') := fun W => by
        rw [← hTN]
        exact implFrame_any _ W (by unfold maxLen; decide)
      have hTz : TN.size = 17 := by rw [← hTN, frameS_size HMO.out]; rfl
      have HTN := hid hTN
      clear hTN
      go_wp2_with fail
      refine (HF0.out _).mono ?_
      rintro e w9 ⟨rfl, hb9⟩
      have HAT9 := hid (HAT.out.later hb9)
      clear hb9 HF0
      have HL1 : Hid (1 ≤ L.last) := (HINV.out.end (t := ByteArray.empty) HN.out.1 HN.out.2 none_no (by simp)).1
      have hL1 : ¬ L.last < 1 := by have := HL1.out; omega
      obtain ⟨y0, y1, y2⟩ := HAT9.out.lg.three
      have HP3 := hid (hPick_n w.heap.size w.heap.size b m cm 17 0 w9 (HBB.out.below HAT9.out.be) (by omega) (by omega) (by omega) (by omega))
      go_wp2_with fail
      refine HP3.out.mono ?_
      rintro e w' ⟨v4, hv4, rfl, hw'⟩
      rw [hw']
      clear HP3 hw' w'
      have hv17 : v4 ≤ 17 := by omega
      obtain ⟨t, hte⟩ : ∃ t, TN.extract 0 v4 = t := ⟨_, rfl⟩
      have htz : t.size ≤ 17 := by rw [← hte, ByteArray.size_extract]; omega
      have HNF : Hid (¬ FrameAt t) := by
        show ¬ FrameAt t
        rw [← hte, ← HTN.out]
        exact torn_no HMO.out (show v4 < 17 by omega)
      have HSC : Hid (∀ W, Calls Tryz.prog 19 #[.string (joinF ps ++ t)] W fun e w' => ∃ a cap, e = .returned (.tuple #[.slice a ps.length cap, .int .i64 ((joinF ps).size : Nat)]) ∧ StrsOwn w' W.heap.size a ps ∧ Below W.heap.size W w') := fun W => by
        have h := implScan_any (joinF ps ++ t) W (by rw [ByteArray.size_append]; omega)
        rw [scanV_join HNF.out HINV.out.pays] at h
        exact h
      obtain ⟨hl1', hfit, K1, hs1, hfit1, K2, hc2, hv1, e1, e2, e3, e4, e5, hfit2, K3, ho3, hfit3, K4, ho4⟩ := HINV.out.end (t := t) HN.out.1 HN.out.2 HNF.out (by omega)
      have HO3 : Hid (∀ W ak ck, Below w.heap.size w W → FilesIn W ak K2.fs → Calls Tryz.prog 8 #[.agg #[.slice ak K2.fs.length ck, .int .i64 K2.c, .int .i64 K2.k, .int .i64 K2.cr, .int .i64 K2.fl, .bool K2.dn]] W fun e w' => OpenOut W (K3, L, ps, 0) e w') := fun W ak ck hb hf => by
        have h := implOpen_any ak ck K2 W (HT.out.1.later hb) (HT.out.2.later hb) hf hfit2
        rw [ho3] at h
        exact h
      have HO4 : Hid (∀ W ak ck, Below w.heap.size w W → FilesIn W ak K3.fs → Calls Tryz.prog 8 #[.agg #[.slice ak K3.fs.length ck, .int .i64 K3.c, .int .i64 K3.k, .int .i64 K3.cr, .int .i64 K3.fl, .bool K3.dn]] W fun e w' => OpenOut W (K4, L, ps, 0) e w') := fun W ak ck hb hf => by
        have h := implOpen_any ak ck K3 W (HT.out.1.later hb) (HT.out.2.later hb) hf hfit3
        rw [ho4] at h
        exact h
      have HCR : Hid (∀ W ak ck az cz, FilesIn W ak K1.fs → IntsIn W az nines → Calls Tryz.prog 23 #[.agg #[.slice ak K1.fs.length ck, .int .i64 K1.c, .int .i64 K1.k, .int .i64 K1.cr, .int .i64 K1.fl, .bool K1.dn], .slice az 12 cz] W fun e w' => ∃ a' c', e = .returned (.agg #[.slice a' K2.fs.length c', .int .i64 K2.c, .int .i64 K2.k, .int .i64 K2.cr, .int .i64 K2.fl, .bool K2.dn]) ∧ Owned w' W.heap.size a' K2.fs ∧ Below W.heap.size W w') := fun W ak ck az cz hf hz => by
        have h := implCrash_any ak az ck cz K1.fs nines K1.c K1.k K1.cr K1.fl K1.dn W hf hz hfit1.short (by have := hfit1.len; unfold maxLen; omega) hfit1.sum
        rw [hc2, hv1] at h
        simp only [pick0, if_true] at h
        rw [e1, e2, e3, e4, e5]
        exact h
      have HST : Hid (∀ W ak ck, FilesIn W ak K.fs → Calls Tryz.prog 21 #[.agg #[.slice ak K.fs.length ck, .int .i64 K.c, .int .i64 K.k, .int .i64 K.cr, .int .i64 K.fl, .bool K.dn], .agg #[.int .i64 2, .string (segS L.last), .string ⟨#[]⟩, .string t, .int .i64 0]] W fun e w' => ∃ a' c', e = .returned (.tuple #[.agg #[.slice a' K1.fs.length c', .int .i64 K1.c, .int .i64 K1.k, .int .i64 K1.cr, .int .i64 K1.fl, .bool K1.dn], .int .i64 0]) ∧ Owned w' W.heap.size a' K1.fs ∧ Below W.heap.size W w') := fun W ak ck hf => by
        have hz := segS_size L.last
        have h := implStep_any ak ck K.fs K.c K.k K.cr K.fl K.dn (opAppend L.last t) W hf hfit.short (by have := hfit.len; unfold maxLen; omega) hfit.sum (by show (segS L.last).size ≤ maxLen; unfold maxLen; omega) (by show (ByteArray.mk #[]).size ≤ maxLen; unfold maxLen; decide)
        obtain rfl : (stepD K (opAppend L.last t)).1 = K1 := by rw [hs1]
        have h2 : (outR K.fs K.c K.k K.cr K.fl K.dn (opAppend L.last t)).1 = 0 := congrArg Prod.snd hs1
        refine h.mono ?_
        rintro e w' ⟨a', c', rfl, how, hb⟩
        refine ⟨a', c', ?_, how, hb⟩
        unfold outV
        rw [h2]
        rfl
      clear hs1 hc2 hv1 e1 e2 e3 e4 e5 ho3 ho4 hfit hfit1 hfit2 hfit3 hl1'
      clear hlt
      go_wp2_with fail
      refine (HSC.out _).mono ?_
      rintro e w10 ⟨la, lc, rfl, hls, hb10⟩
      have HAT10 := hid (HAT9.out.later hb10)
      have HLS := hid hls.strs
      have HPS := hid (strs_of_row HAT10.out.row).strs
      clear hb10 hls HSC HAT9 y0 y1 y2
      go_wp2_with fail
      refine (hStrings_same la av lc cv ps w10 HLS.out HPS.out (by unfold maxLen; omega)).mono ?_
      rintro e w11 ⟨rfl, hb11⟩
      have HAT11 := hid (HAT10.out.later hb11)
      clear hb11 HLS HPS HAT10
      go_upto_region 30 with fail
      go_cut [10] (fun s10 wx => s10 = .int .i64 0 ∧ ∃ (a1 : Option Addr) (c1 : Nat), FlAt w wx P Q K1 L a1 c1 (.slice av ps.length cv) ps)
      case first => as_aux_lemma =>
        have HK : Hid (∀ w', Below w11.heap.size w11 w' → w'.cell? ⟨P, 0, none⟩ = some (.slice ak K.fs.length ck) ∧ w'.cell? ⟨P, 1, none⟩ = some (.int .i64 K.c) ∧ w'.cell? ⟨P, 2, none⟩ = some (.int .i64 K.k) ∧ w'.cell? ⟨P, 3, none⟩ = some (.int .i64 K.cr) ∧ w'.cell? ⟨P, 4, none⟩ = some (.int .i64 K.fl) ∧ w'.cell? ⟨P, 5, none⟩ = some (.bool K.dn) ∧ w'.cell? ⟨Q, 1, none⟩ = some (.int .i64 L.last)) := fun w' h => by
          obtain ⟨a0, a1, a2, a3, a4, a5⟩ := (HAT11.out.later h).dk.six
          obtain ⟨_, b1, _⟩ := (HAT11.out.later h).lg.three
          exact ⟨a0, a1, a2, a3, a4, a5, b1⟩
        have HAP : Hid (∀ (W w' : World) (a' : Option Addr), w11.heap.size ≤ W.heap.size → Owned w' W.heap.size a' K1.fs → ∀ q, (Value.slice av ps.length cv).ownBlock = some q → Apart a' K1.fs q) := fun W w' a' hs ho => ap_old HAT11.out.row hs ho
        obtain ⟨x0, x1, x2, x3, x4, x5, y1⟩ := HK.out w11 (Below.refl _ _)
        go_region_law
          (first
          | ((fail_if_success (have q := hb2)); refine step_enterF (f := 22) (args := #[.int .i64 L.last]) rfl (by go_simp) ?_; refine (implSeg_any _ _ (HT.out.1.later (bto HAT11.out.be (by repeat (first | with_reducible exact Below.refl _ _ | with_reducible refine bto ?_ (bnew _ _) | with_reducible refine Below.drew ?_ | exact (Below.refl _ _).drew | refine bto ?_ (by assumption)))))).mono ?_; rintro e v2 ⟨rfl, hb2⟩; obtain ⟨z0, z1, z2, z3, z4, z5, _⟩ := HK.out v2 (by repeat (first | with_reducible exact Below.refl _ _ | with_reducible refine bto ?_ (bnew _ _) | with_reducible refine Below.drew ?_ | exact (Below.refl _ _).drew | refine bto ?_ (by assumption))); refine ⟨_, rfl, ?_⟩)
          | (have q := hb2; clear q; refine step_enterF (f := 21) (args := #[.agg #[.slice ak K.fs.length ck, .int .i64 K.c, .int .i64 K.k, .int .i64 K.cr, .int .i64 K.fl, .bool K.dn], .agg #[.int .i64 2, .string (segS L.last), .string ⟨#[]⟩, .string t, .int .i64 0]]) rfl (by go_simp) ?_; refine (HST.out _ _ _ (HAT11.out.fi.later (by repeat (first | with_reducible exact Below.refl _ _ | with_reducible refine bto ?_ (bnew _ _) | with_reducible refine Below.drew ?_ | exact (Below.refl _ _).drew | refine bto ?_ (by assumption))))).mono ?_; rintro e v3 ⟨a2, cap2, rfl, how, hb3⟩; have HA3 := hid (HAT11.out.later (show Below w11.heap.size w11 v3 from (by repeat (first | with_reducible exact Below.refl _ _ | with_reducible refine bto ?_ (bnew _ _) | with_reducible refine Below.drew ?_ | exact (Below.refl _ _).drew | refine bto ?_ (by assumption))))); have HP3 := hid (HAP.out _ _ _ (Below.size (show Below w11.heap.size w11 v2 from (by repeat (first | with_reducible exact Below.refl _ _ | with_reducible refine bto ?_ (bnew _ _) | with_reducible refine Below.drew ?_ | exact (Below.refl _ _).drew | refine bto ?_ (by assumption))))) how); have HF3 := hid how.files; clear how; obtain ⟨q0, q1, q2, q3, q4, q5⟩ := HA3.out.dk.six; have f0 := HA3.out.dk.free 0; have f1 := HA3.out.dk.free 1; have f2 := HA3.out.dk.free 2; have f3 := HA3.out.dk.free 3; have f4 := HA3.out.dk.free 4; have f5 := HA3.out.dk.free 5; refine ⟨_, rfl, ?_⟩))
        all_goals (go_wp2_with fail; go_meet; exact ⟨rfl, a2, cap2, HA3.out.six HF3.out HP3.out⟩)
      obtain ⟨rfl, a1, c1, hat12⟩ := hcut
      rename World => w12
      have HAT12 := hid hat12
      clear hat12 HAT11 HST
      go_upto_region 33 with fail
      go_cut [] (fun wx => ∃ (a1 : Option Addr) (c1 : Nat), FlAt w wx P Q K2 L a1 c1 (.slice av ps.length cv) ps)
      case first =>
        obtain ⟨x0, x1, x2, x3, x4, x5⟩ := HAT12.out.dk.six
        go_wp2_with (with_reducible show wpList _ _ _ (_ :: _) _ _; (refine wpList_buildFlat rfl 54 3 12 _ rfl .i64 nines Tryz.underlying54 ?_ ?_ ?_ ?_ ?_ ?_ ?_; kernel_rfl; kernel_rfl; exact rfl; decide; decide; exact rfl))
        refine (HCR.out _ _ _ _ _ (HAT12.out.fi.later (bnew _ _)) (nines_inL w12)).mono ?_
        rintro e w13 ⟨a2, c2, rfl, how, hb13⟩
        have HA13 := hid ((HAT12.out.later (bnew _ _)).later hb13)
        have HP13 := hid (ap_new (row_later HAT12.out.row (bnew _ _)) how)
        have HF13 := hid how.files
        clear how hb13 x0 x1 x2 x3 x4 x5
        have HTP : Hid (w13.there P 0 (#[.slice a2 K2.fs.length c2, .int .i64 K2.c, .int .i64 K2.k, .int .i64 K2.cr, .int .i64 K2.fl, .bool K2.dn] : Array Value).size) := HA13.out.thereP
        go_wp2_with (with_reducible show wpList _ _ _ (_ :: _) _ _; (refine wpList_store_mid rfl 28 _ _ rfl P 0 #[.slice a2 K2.fs.length c2, .int .i64 K2.c, .int .i64 K2.k, .int .i64 K2.cr, .int .i64 K2.fl, .bool K2.dn] rfl rfl ?_ ?_ ?_ ?_; exact HTP.out; kernel_rfl; simp [Value.oneCell']))
        go_meet
        exact ⟨a2, c2, HA13.out.sixS HF13.out HP13.out⟩
      obtain ⟨a2, c2, hat13⟩ := hcut
      rename World => w13
      have HAT13 := hid hat13
      clear hat13 HAT12 HCR
      go_upto_region 34 with fail
      go_cut [10, 19, 20, 21] (fun s10 s19 s20 s21 wx => ∃ (P2 Q2 : Nat) (a3 : Option Addr) (c3 : Nat) (sa : Option Addr) (sc : Nat), s19 = .pointer (some ⟨P2, 0, none⟩) ∧ s20 = .pointer (some ⟨Q2, 0, none⟩) ∧ s21 = .slice sa ps.length sc ∧ s10 = .int .i64 0 ∧ FlAt w wx P Q K2 L a2 c2 (.slice av ps.length cv) ps ∧ FlAt w wx P2 Q2 K3 L a3 c3 (.slice av ps.length cv) ps ∧ StrsIn wx sa ps)
      case first => as_aux_lemma =>
        obtain ⟨x0, x1, x2, x3, x4, x5⟩ := HAT13.out.dk.six
        go_wp2_with fail
        refine (HO3.out _ _ _ HAT13.out.be HAT13.out.fi).mono ?_
        rintro e w14 ⟨a3, c3, sa, sc, rfl, how, hst, _, hb14⟩
        have HA14 := hid (HAT13.out.later hb14)
        have HP14 := hid (ap_new HAT13.out.row how)
        have HF14 := hid how.files
        have HS14 := hid hst.strs
        clear how hst hb14 x0 x1 x2 x3 x4 x5
        go_wp2_with fail
        go_meet
        exact ⟨w14.heap.size, w14.heap.size + 1, a3, c3, sa, sc, rfl, rfl, rfl, rfl, (HA14.out.later (bnew _ _)).later (bnew _ _), FlAt.new HF14.out HA14.out.row HA14.out.be HP14.out, (HS14.out.later (bnew _ _)).later (bnew _ _)⟩
      obtain ⟨P2, Q2, a3, c3, sa, sc, rfl, rfl, rfl, rfl, hat15, hbt15, hst15⟩ := hcut
      rename World => w15
      have HAT15 := hid hat15
      have HBT15 := hid hbt15
      have HS15 := hid hst15
      have HPS15 := hid (strs_of_row hat15.row).strs
      clear hat15 hbt15 hst15 HAT13 HO3
      go_wp2_with fail
      refine (hStrings_same sa av sc cv ps w15 HS15.out HPS15.out (by unfold maxLen; omega)).mono ?_
      rintro e w16 ⟨rfl, hb16⟩
      have HAT16 := hid (HAT15.out.later hb16)
      have HBT16 := hid (HBT15.out.later hb16)
      clear hb16 HAT15 HBT15 HS15 HPS15
      obtain ⟨y0, y1, y2⟩ := HAT16.out.lg.three
      obtain ⟨z0, z1, z2⟩ := HBT16.out.lg.three
      go_upto_region 37 with fail
      go_cut [10, 21, 22, 23] (fun s10 s21 _ s23 wx => ∃ (P3 Q3 : Nat) (a4 : Option Addr) (c4 : Nat) (sb : Option Addr) (sd : Nat), s23 = .pointer (some ⟨Q3, 0, none⟩) ∧ s21 = .slice sb ps.length sd ∧ s10 = .int .i64 0 ∧ FlAt w wx P Q K2 L a2 c2 (.slice av ps.length cv) ps ∧ FlAt w wx P3 Q3 K4 L a4 c4 (.slice av ps.length cv) ps ∧ StrsIn wx sb ps)
      case first => as_aux_lemma =>
        clear y0 y1 y2 z0 z1 z2
        obtain ⟨x0, x1, x2, x3, x4, x5⟩ := HBT16.out.dk.six
        go_wp2_with fail
        refine (HO4.out _ _ _ HBT16.out.be HBT16.out.fi).mono ?_
        rintro e w17 ⟨a4, c4, sb, sd, rfl, how, hst, _, hb17⟩
        have HA17 := hid (HAT16.out.later hb17)
        have HP17 := hid (ap_new HAT16.out.row how)
        have HF17 := hid how.files
        have HS17 := hid hst.strs
        clear how hst hb17 x0 x1 x2 x3 x4 x5
        go_wp2_with fail
        go_meet
        exact ⟨w17.heap.size, w17.heap.size + 1, a4, c4, sb, sd, rfl, rfl, rfl, (HA17.out.later (bnew _ _)).later (bnew _ _), FlAt.new HF17.out HA17.out.row HA17.out.be HP17.out, (HS17.out.later (bnew _ _)).later (bnew _ _)⟩
      obtain ⟨P3, Q3, a4, c4, sb, sd, rfl, rfl, rfl, hat18, hbt18, hst18⟩ := hcut
      rename World => w18
      have HAT18 := hid hat18
      have HBT18 := hid hbt18
      have HS18 := hid hst18
      have HPS18 := hid (strs_of_row hat18.row).strs
      clear hat18 hbt18 hst18 HAT16 HBT16 HO4 y0 y1 y2 z0 z1 z2
      go_wp2_with fail
      refine (hStrings_same sb av sd cv ps w18 HS18.out HPS18.out (by unfold maxLen; omega)).mono ?_
      rintro e w19 ⟨rfl, hb19⟩
      have HAT19 := hid (HAT18.out.later hb19)
      have HBT19 := hid (HBT18.out.later hb19)
      clear hb19 HAT18 HBT18 HS18 HPS18
      obtain ⟨y0, y1, y2⟩ := HAT19.out.lg.three
      obtain ⟨z0, z1, z2⟩ := HBT19.out.lg.three
      go_wp2
      go_ret
      exact ⟨rfl, HAT19.out.be⟩
end Go.Proofs.YtflfopienjjlbaaGreatDoor

