import Derived.Test.YtkmdbpaeeagccaaGreatDoorProg
import Derived.Test.YtkmdbpaeeagccaaGreatDoorJ34IAps
import Derived.Test.YtkmdbpaeeagccaaGreatDoorJ42SApl
import Derived.Test.YtkmdbpaeeagccaaGreatDoorJ28CpyS
import Derived.Test.YtkmdbpaeeagccaaGreatDoorJ44RecMk
import Derived.Deep.RegionHeld3
import Derived.Deep.DeepCutAuto
namespace Go.Proofs.YtkmdbpaeeagccaaGreatDoor
open Go.RowKit
theorem RecsOwn.turned {S : Nat → Prop} {w w' : World} {B : Nat} {a : Option Addr} {ls : List RecD} (h : RecsOwn w B a ls) (ht : Turn S w w') (hS : ∀ g,B ≤ g → g < w.heap.size → ¬ S g) : RecsOwn w' B a ls:=by
  rcases h with h | ⟨g,o,cur,t,rfl,hB,hg,h⟩
  · exact Or.inl h
  · have hlt:=lt_of_block hg
    have hb:=ht.block g hlt (hS g hB hlt)
    have hk : ∀ j,w'.cell? ⟨g,j,none⟩ = w.cell? ⟨g,j,none⟩:=fun j=>World.cell?_of_block hb
    exact Or.inr ⟨g,o,cur,t,rfl,hB,hb.trans hg,fun i hi=>by simp only [hk]; exact h i hi⟩
theorem smallT_of {ts : List TenD} (h : ts.length + tensBulk ts ≤ 1048576) : SmallT ts:=fun i hi=>by
  have h1:=tenBulk_at ts i hi
  unfold tenBulk at h1
  omega
theorem applyV_small {c : CfgD} {now : Int} {ts : List TenD} {rs : List RecD} (hbk : ts.length + tensBulk ts + rs.length + recBulk rs ≤ 1048576) : (applyV c now ts rs).2.1.length + tensBulk (applyV c now ts rs).2.1 ≤ 1100000:=by
  unfold applyV
  split
  · exact Nat.zero_le _
  · rename_i h0
    split
    · show ts.length + tensBulk ts ≤ _; omega
    · split
      · have hs : stateB c now ts = true:=by simpa using h0
        have:=runV_bulk (rs:=rs) hs
        omega
      · show ts.length + tensBulk ts ≤ _; omega
set_option maxRecDepth 100000 in
set_option maxHeartbeats 16000000 in
theorem lawApplyRecs (c : CfgD) (now : Int) (a : Option Addr) (cap : Nat) (ts : List TenD) (ar : Option Addr) (capr : Nat) (rs : List RecD) (w : World) (hf : TensIn w a ts) (hs : ShortT ts) (hlen : ts.length ≤ maxLen) (hr : RecsIn w ar rs) (hsr : ShortR rs) (hlr : rs.length ≤ maxLen) (hU : UTab w) :
    Calls Tryz.prog 3 #[cfgV c,.agg #[.int .i64 now,.slice a ts.length cap],.slice ar rs.length capr] w fun e w'=>e = .returned (.bool true) ∧ Below w.heap.size w w':=by
  have HSZ : Hid (∀ W,Below w.heap.size w W → Calls Tryz.prog 4 #[.agg #[.int .i64 now,.slice a ts.length cap],.int .i64 1048576] W fun e w'=>e = .returned (.int .i64 (szTens 1048576 ts)) ∧ Below W.heap.size W w'):=fun W hW=>szState_any a cap ts now 1048576 W (by omega) (by omega) (hf.later hW) hs hlen
  by_cases hbig : (ts.length + tensBulk ts : Int) ≤ 1048576
  · have e : szTens 1048576 ts = 1048576 - ts.length - tensBulk ts:=by unfold szTens; rw [if_pos hbig]
    rw [e] at HSZ
    have HSR : Hid (∀ W,Below w.heap.size w W → Calls Tryz.prog 5 #[.slice ar rs.length capr,.int .i64 ((1048576 : Int) - ts.length - tensBulk ts)] W fun e w'=>e = .returned (.int .i64 (szRecs ((1048576 : Int) - ts.length - tensBulk ts) rs)) ∧ Below W.heap.size W w'):=fun W hW=>szRecS_any ar capr rs _ W (by omega) (by omega) (hr.later hW) hsr hlr
    by_cases hbig2 : (rs.length + recBulk rs : Int) ≤ (1048576 : Int) - ts.length - tensBulk ts
    rotate_left
    · have e2 : szRecs ((1048576 : Int) - ts.length - tensBulk ts) rs = -1:=by unfold szRecs; rw [if_neg hbig2]
      rw [e2] at HSR
      have h0 : ¬ ((1048576 : Int) - ts.length - tensBulk ts < 0):=by omega
      generalize (1048576 : Int) - ts.length - tensBulk ts = left at *
      clear hf hs hlen hU hbig e hr hsr hlr hbig2 e2
      unfold cfgV at *
      go_enter Tryz.func3,Tryz.ntmps3
      go_wp2_with fail
      refine (HSZ.out _ (bto (bnew _ _) (bnew _ _))).mono ?_
      rintro e w1 ⟨rfl,hb1⟩
      have B1 : Hid (Below w.heap.size w w1):=bto (bto (bnew _ _) (bnew _ _)) hb1
      clear hb1
      go_wp2_with fail
      refine (HSR.out _ B1.out).mono ?_
      rintro e w2 ⟨rfl,hb2⟩
      have B2 : Hid (Below w.heap.size w w2):=bto B1.out hb2
      clear hb2
      go_wp2
      go_ret
      exact ⟨rfl,B2.out⟩
    have e2 : szRecs ((1048576 : Int) - ts.length - tensBulk ts) rs = (1048576 : Int) - ts.length - tensBulk ts - rs.length - recBulk rs:=by unfold szRecs; rw [if_pos hbig2]
    rw [e2] at HSR
    have h02 : ¬ ((1048576 : Int) - ts.length - tensBulk ts - rs.length - recBulk rs < 0):=by omega
    have h0 : ¬ ((1048576 : Int) - ts.length - tensBulk ts < 0):=by omega
    have hbk : ts.length + tensBulk ts + rs.length + recBulk rs ≤ 1048576:=by omega
    have hbt : ts.length + tensBulk ts ≤ 1100000:=by omega
    obtain ⟨f1,f2,-,f4⟩:=fit_of hbt
    have f3s:=smallT_of (ts:=ts) (by omega)
    have hvs:=applyV_small (c:=c) (now:=now) hbk
    obtain ⟨-,-,-,y3⟩:=fit_of hvs
    have y1:=tensLen_small hvs
    have y2 : (applyV c now ts rs).2.1.length ≤ 2000000:=by omega
    have hl : ts.length ≤ 1048576:=by omega
    have htl:=tensLen_small hbt
    have hlm : rs.length ≤ 1048576:=by omega
    have HTC : Hid (∀ W,Calls Tryz.prog 7 #[cfgV c] W fun e w'=>e = .returned (cfgV c) ∧ Below W.heap.size W w'):=fun W=>toConfig_any _ _ _ _ _ _ W
    have HTS : Hid (∀ W,Below w.heap.size w W → Calls Tryz.prog 8 #[.agg #[.int .i64 now,.slice a ts.length cap]] W fun e w'=>∃ g,e = .returned (.agg #[.int .i64 now,.slice (some ⟨g,0,none⟩) ts.length ts.length]) ∧ W.heap.size ≤ g ∧ g < w'.heap.size ∧ TensOwn w' W.heap.size (some ⟨g,0,none⟩) ts ∧ Below W.heap.size W w'):=fun W hW=>toState_any now a cap ts W (hf.later hW) hl f3s
    have HTR : Hid (∀ W,Below w.heap.size w W → Calls Tryz.prog 9 #[.slice ar rs.length capr] W fun e w'=>∃ gr,e = .returned (.slice (some ⟨gr,0,none⟩) rs.length rs.length) ∧ W.heap.size ≤ gr ∧ gr < w'.heap.size ∧ RecsOwn w' W.heap.size (some ⟨gr,0,none⟩) rs ∧ Below W.heap.size W w'):=fun W hW=>(toRecS_any ar capr rs W (hr.later hW) hlm).mono fun e w' ⟨h1,h2,h3,h4⟩=>⟨W.heap.size,h1,Nat.le_refl _,h4,h2,h3⟩
    have HER : Hid (∀ W gr gr',RecsIn W (some ⟨gr,0,none⟩) rs → RecsIn W (some ⟨gr',0,none⟩) rs → Calls Tryz.prog 12 #[.slice (some ⟨gr,0,none⟩) rs.length rs.length,.slice (some ⟨gr',0,none⟩) rs.length rs.length] W fun e w'=>e = .returned (.bool true) ∧ Below W.heap.size W w'):=fun W gr gr' h h'=>eqRecS_same _ _ _ _ rs W h h' hlr
    have HMR : Hid (∀ W B gr,RecsOwn W B (some ⟨gr,0,none⟩) rs → Calls Tryz.prog 14 #[.slice (some ⟨gr,0,none⟩) rs.length rs.length,.int .i64 ((1 + tensLen ts : Nat) : Int)] W fun e w'=>e = .returned (.int .i64 ((1 + tensLen ts + 4 * rs.length : Nat) : Int)) ∧ Turn (· = gr) W w'):=fun W B gr h=>(markRecS_any _ _ rs (1 + tensLen ts) B W (by omega) (by omega) h).mono fun e w' ⟨h1,h2,_⟩=>⟨h1,by
      rcases h2 with ⟨_,hb⟩ | ⟨_,g,o,hg,_,hb⟩
      · exact Turn.of hb
      · simp only [Option.some.injEq,Addr.mk.injEq,and_true] at hg
        rw [hg.1]
        exact Turn.but hb⟩
    have HSP : Hid (∀ W g gr,TensIn W (some ⟨g,0,none⟩) ts → RecsIn W (some ⟨gr,0,none⟩) rs → Calls Tryz.prog 6 #[cfgV c,.agg #[.int .i64 now,.slice (some ⟨g,0,none⟩) ts.length ts.length],.slice (some ⟨gr,0,none⟩) rs.length rs.length] W fun e w'=>StOut (applyV c now ts rs) W e w'):=fun W g gr h h'=>specApply_any c now _ _ ts _ _ rs W h h' hbk
    have HIM : Hid (∀ W g gr,TensIn W (some ⟨g,0,none⟩) ts → RecsIn W (some ⟨gr,0,none⟩) rs → UTab W → Calls Tryz.prog 10 #[cfgV c,.agg #[.int .i64 now,.slice (some ⟨g,0,none⟩) ts.length ts.length],.slice (some ⟨gr,0,none⟩) rs.length rs.length] W fun e w'=>StOut (applyV c now ts rs) W e w'):=fun W g gr h h' hu=>implApply_any c now _ _ ts _ _ rs W h h' (by omega) hbk hu
    unfold StOut at HSP HIM
    have HEQ : Hid (∀ W g g',TensIn W (some ⟨g,0,none⟩) ts → TensIn W (some ⟨g',0,none⟩) ts → Calls Tryz.prog 11 #[.agg #[.int .i64 now,.slice (some ⟨g,0,none⟩) ts.length ts.length],.agg #[.int .i64 now,.slice (some ⟨g',0,none⟩) ts.length ts.length]] W fun e w'=>e = .returned (.bool true) ∧ Below W.heap.size W w'):=fun W g g' h h'=>eqState_same now _ _ _ _ ts W h h' (by unfold maxLen; omega) f4
    have HEV : Hid (∀ W b b' d d',TensIn W b (applyV c now ts rs).2.1 → TensIn W b' (applyV c now ts rs).2.1 → Calls Tryz.prog 11 #[.agg #[.int .i64 (applyV c now ts rs).1,.slice b (applyV c now ts rs).2.1.length d],.agg #[.int .i64 (applyV c now ts rs).1,.slice b' (applyV c now ts rs).2.1.length d']] W fun e w'=>e = .returned (.bool true) ∧ Below W.heap.size W w'):=fun W b b' d d' h h'=>eqState_same _ b b' d d' _ W h h' (by unfold maxLen; omega) y3
    have HMK : Hid (∀ W0 W B g,TensOwn W0 B (some ⟨g,0,none⟩) ts → Below W0.heap.size W0 W → Calls Tryz.prog 13 #[.agg #[.int .i64 now,.slice (some ⟨g,0,none⟩) ts.length ts.length],.int .i64 1] W fun e w'=>e = .returned (.int .i64 ((1 + tensLen ts : Nat) : Int)) ∧ Turn (fun g=>B ≤ g ∧ g < W0.heap.size) W w' ∧ TensOwn w' B (some ⟨g,0,none⟩) (markTens 1 ts)):=fun W0 W B g h hb=>markState_any _ _ _ _ 1 B W0 W (by omega) (by omega) h hb
    have HMV : Hid (∀ W B X b d,TensX W B X b (applyV c now ts rs).2.1 → Calls Tryz.prog 13 #[.agg #[.int .i64 (applyV c now ts rs).1,.slice b (applyV c now ts rs).2.1.length d],.int .i64 1] W fun e w'=>e = .returned (.int .i64 ((1 + tensLen (applyV c now ts rs).2.1 : Nat) : Int)) ∧ Turn (fun g=>B ≤ g ∧ g ≠ X) W w' ∧ TensIn w' b (markTens 1 (applyV c now ts rs).2.1)):=fun W B X b d h=>markStateX _ b d _ 1 B X W (by omega) (by omega) h
    have HHV : Hid (∀ W b d,TensIn W b (markTens 1 (applyV c now ts rs).2.1) → Calls Tryz.prog 15 #[.agg #[.int .i64 (applyV c now ts rs).1,.slice b (applyV c now ts rs).2.1.length d],.int .i64 1] W fun e w'=>e = .returned (.int .i64 ((1 + tensLen (applyV c now ts rs).2.1 : Nat) : Int)) ∧ Below W.heap.size W w'):=fun W b d h=>heldState_any _ b d _ 1 W (by omega) (by omega) h
    have HU : Hid (UTab w):=hU
    have hm0 : ¬ (((1 + tensLen ts + 4 * rs.length : Nat) : Int) < 0):=by omega
    have hq0 : ¬ (((1 + tensLen (applyV c now ts rs).2.1 : Nat) : Int) < 0):=by omega
    have hqq : (((1 + tensLen (applyV c now ts rs).2.1 : Nat) : Int) != ((1 + tensLen (applyV c now ts rs).2.1 : Nat) : Int)) = false:=by simp
    generalize ((1 + tensLen ts + 4 * rs.length : Nat) : Int) = KR at *
    generalize ((1 + tensLen ts : Nat) : Int) = KM at *
    generalize ((1 + tensLen (applyV c now ts rs).2.1 : Nat) : Int) = QM at *
    clear y1 y2 y3 htl hbk hbt hvs hbig2 e2
    generalize hRL : (applyV c now ts rs).2.1.length = NV at *
    clear hRL
    generalize (applyV c now ts rs).2.2 = VB at *
    generalize (applyV c now ts rs).2.1 = VL at *
    generalize (applyV c now ts rs).1 = VN at *
    have hvb : (VB != VB) = false:=by simp
    generalize markTens 1 VL = MV at *
    generalize markTens 1 ts = MT at *
    generalize (1048576 : Int) - ts.length - tensBulk ts - rs.length - recBulk rs = left2 at *
    generalize (1048576 : Int) - ts.length - tensBulk ts = left at *
    generalize ts.length = n at *
    generalize rs.length = m at *
    unfold cfgV at *
    clear hf hs hlen hU e hbig f1 f2 f3s f4 hl hr hsr hlr hlm
    go_enter Tryz.func3,Tryz.ntmps3
    go_wp2_with fail
    refine (HSZ.out _ (bto (bnew _ _) (bnew _ _))).mono ?_
    rintro e wz ⟨rfl,hbz⟩
    have BZ : Hid (Below w.heap.size w wz):=bto (bto (bnew _ _) (bnew _ _)) hbz
    have AZ : Hid (Blk wz w.heap.size #[.int .i64 c.w,.int .i64 c.tl,.int .i64 c.ml,.int .i64 c.sh,.int .i64 c.ha,.int .i64 c.sg] 23):=hid (((Blk.new _ _ _).alloc _).later hbz)
    have SZ : Hid (Blk wz (w.heap.size + 1) #[.int .i64 now,.slice a n cap] 26):=hid (by have:=(Blk.new (w.alloc (.cells #[.int .i64 c.w,.int .i64 c.tl,.int .i64 c.ml,.int .i64 c.sh,.int .i64 c.ha,.int .i64 c.sg] 23)) #[.int .i64 now,.slice a n cap] 26).later hbz; simpa using this)
    clear hbz HSZ
    go_wp2_with fail
    refine (HSR.out _ BZ.out).mono ?_
    rintro e w1 ⟨rfl,hb1⟩
    have B1w : Hid (Below w.heap.size w w1):=bto BZ.out hb1
    have A1 : Hid (Blk w1 w.heap.size #[.int .i64 c.w,.int .i64 c.tl,.int .i64 c.ml,.int .i64 c.sh,.int .i64 c.ha,.int .i64 c.sg] 23):=AZ.out.later hb1
    have S1 : Hid (Blk w1 (w.heap.size + 1) #[.int .i64 now,.slice a n cap] 26):=SZ.out.later hb1
    have HK1 : Hid (∀ w',Below w1.heap.size w1 w' → w'.cell? ⟨w.heap.size,0,none⟩ = some (.int .i64 c.w) ∧ w'.cell? ⟨w.heap.size,1,none⟩ = some (.int .i64 c.tl) ∧ w'.cell? ⟨w.heap.size,2,none⟩ = some (.int .i64 c.ml) ∧ w'.cell? ⟨w.heap.size,3,none⟩ = some (.int .i64 c.sh) ∧ w'.cell? ⟨w.heap.size,4,none⟩ = some (.int .i64 c.ha) ∧ w'.cell? ⟨w.heap.size,5,none⟩ = some (.int .i64 c.sg) ∧ w'.cell? ⟨w.heap.size + 1,0,none⟩ = some (.int .i64 now) ∧ w'.cell? ⟨w.heap.size + 1,1,none⟩ = some (.slice a n cap)):=fun w' h=>by
      have q:=A1.out.later h
      have p:=S1.out.later h
      exact ⟨q.cell 0,q.cell 1,q.cell 2,q.cell 3,q.cell 4,q.cell 5,p.cell 0,p.cell 1⟩
    obtain ⟨x0,x1,x2,x3,x4,x5,y0,y1⟩:=HK1.out w1 (Below.refl _ _)
    clear hb1 HSR AZ SZ BZ
    go_upto_region 8 with fail
    go_cut [8,9] (fun p ok wx=>∃ X,p = .pointer (some ⟨X,0,none⟩) ∧ ok = .bool VB ∧ StX w1 X VN VL NV wx)
    case first =>
      go_region_held3 (fun w'=>w'.cell? ⟨w.heap.size,0,none⟩ = some (.int .i64 c.w) ∧ w'.cell? ⟨w.heap.size,1,none⟩ = some (.int .i64 c.tl) ∧ w'.cell? ⟨w.heap.size,2,none⟩ = some (.int .i64 c.ml) ∧ w'.cell? ⟨w.heap.size,3,none⟩ = some (.int .i64 c.sh) ∧ w'.cell? ⟨w.heap.size,4,none⟩ = some (.int .i64 c.ha) ∧ w'.cell? ⟨w.heap.size,5,none⟩ = some (.int .i64 c.sg) ∧ w'.cell? ⟨w.heap.size + 1,0,none⟩ = some (.int .i64 now) ∧ w'.cell? ⟨w.heap.size + 1,1,none⟩ = some (.slice a n cap))
        (first | go_keep | with_reducible exact HK1.out _ kf | with_reducible exact HK1.out _ kcc | with_reducible exact HK1.out _ ks | with_reducible exact HK1.out _ kr | with_reducible exact HK1.out _ (bto kr (bnew _ _)) | with_reducible exact HK1.out _ (set2 kf hxf) | with_reducible exact HK1.out _ (set2 kf kz) | with_reducible exact HK1.out _ (bto kcc (bnew _ _)) | with_reducible exact HK1.out _ (bto ks (bnew _ _)) | with_reducible exact HK1.out _ (bto kf (bnew _ _)) | with_reducible exact HK1.out _ ((bnew _ _).drew))
        (first
        | ((fail_if_success (have q:=kcc)); refine step_enterC (f:=7) (args:=#[.agg #[.int .i64 c.w,.int .i64 c.tl,.int .i64 c.ml,.int .i64 c.sh,.int .i64 c.ha,.int .i64 c.sg]]) (by rfl) (by go_simp) ?_; refine (HTC.out _).mono ?_; rintro e wc ⟨rfl,hbc⟩; refine ⟨_,rfl,?_⟩; have kcc : Below w1.heap.size w1 wc:=(by with_reducible exact bto (Below.refl _ _).drew hbc); have cc1:=HK1.out _ kcc)
        | ((fail_if_success (have q:=kcc)); refine step_enterC (f:=7) (args:=#[.agg #[.int .i64 c.w,.int .i64 c.tl,.int .i64 c.ml,.int .i64 c.sh,.int .i64 c.ha,.int .i64 c.sg]]) (by rfl) (by go_simp) ?_; refine (HTC.out _).mono ?_; rintro e wc ⟨rfl,hbc⟩; refine ⟨_,rfl,?_⟩; have kcc : Below w1.heap.size w1 wc:=(by with_reducible exact bto ((bnew _ _).drew) hbc); have cc1:=HK1.out _ kcc; have hzc : Blk wc w1.heap.size #[.int .i64 0,.slice none 0 0] 32:=blk_drewB hbc; have hxc : w1.heap.size ≤ w1.heap.size:=Nat.le_refl _)
        | (have q:=kcc; clear q; (fail_if_success (have q:=ks)); refine step_enterC (f:=8) (args:=#[.agg #[.int .i64 now,.slice a n cap]]) (by rfl) (by go_simp) ?_; refine (HTS.out _ (by with_reducible exact bto B1w.out kcc)).mono ?_; rintro e ws ⟨g,rfl,hg1,hg2,ho,hbs⟩; refine ⟨_,rfl,?_⟩; have ks : Below w1.heap.size w1 ws:=(by with_reducible exact bto kcc hbs); have cs1:=HK1.out _ ks; have os:=ho.tens; try (have hzs:=hzc.later hbs; have hxs:=hxc))
        | (have q:=kcc; clear q; (fail_if_success (have q:=ks)); refine step_enterC (f:=8) (args:=#[.agg #[.int .i64 now,.slice a n cap]]) (by rfl) (by go_simp) ?_; refine (HTS.out _ (by with_reducible exact bto (bto B1w.out kcc) (bnew _ _))).mono ?_; rintro e ws ⟨g,rfl,hg1,hg2,ho,hbs⟩; refine ⟨_,rfl,?_⟩; have ks : Below w1.heap.size w1 ws:=(by with_reducible exact bto (bto kcc (bnew _ _)) hbs); have cs1:=HK1.out _ ks; have os:=ho.tens; have hzs:=blk_allocB hbs; have hxs:=kcc.size)
        | (have q:=ks; clear q; (fail_if_success (have q:=kr)); refine step_enterC (f:=9) (args:=#[.slice ar m capr]) (by rfl) (by go_simp) ?_; refine (HTR.out _ (by with_reducible exact bto B1w.out ks)).mono ?_; rintro e wq ⟨gr,rfl,hg3,hg4,hor,hbr⟩; refine ⟨_,rfl,?_⟩; have kr : Below w1.heap.size w1 wq:=(by with_reducible exact bto ks hbr); have cr1:=HK1.out _ kr; have ot:=os.later hbr; have oq:=hor.recs; try (have hzr:=hzs.later hbr; have hxr:=hxs))
        | (have q:=ks; clear q; (fail_if_success (have q:=kr)); refine step_enterC (f:=9) (args:=#[.slice ar m capr]) (by rfl) (by go_simp) ?_; refine (HTR.out _ (by with_reducible exact bto (bto B1w.out ks) (bnew _ _))).mono ?_; rintro e wq ⟨gr,rfl,hg3,hg4,hor,hbr⟩; refine ⟨_,rfl,?_⟩; have kr : Below w1.heap.size w1 wq:=(by with_reducible exact bto (bto ks (bnew _ _)) hbr); have cr1:=HK1.out _ kr; have ot:=os.later (bto (bnew _ _) hbr); have oq:=hor.recs; have hzr:=blk_allocB hbr; have hxr:=ks.size)
        | (have q:=kr; clear q; have q:=hzr; clear q; refine step_enterC (f:=6) (args:=#[.agg #[.int .i64 c.w,.int .i64 c.tl,.int .i64 c.ml,.int .i64 c.sh,.int .i64 c.ha,.int .i64 c.sg],.agg #[.int .i64 now,.slice (some ⟨g,0,none⟩) n n],.slice (some ⟨gr,0,none⟩) m m]) (by rfl) (by go_simp) ?_; refine (HSP.out _ g gr (by with_reducible exact ot) (by with_reducible exact oq)).mono ?_; rintro e wf ⟨b,d,rfl,hoF,hbf⟩; refine ⟨_,rfl,?_⟩; have kf : Below w1.heap.size w1 wf:=(by with_reducible exact bto kr hbf); have cf1:=HK1.out _ kf; have hzf:=hzr.later hbf; have hxf:=hxr; have hxl:=lt_of_block hzr; have s0:=hzf.cell 0; have s1:=hzf.cell 1; have f0:=hzf.free 0; have f1:=hzf.free 1)
        | (have q:=kr; clear q; (fail_if_success (have q:=hzr)); refine step_enterC (f:=6) (args:=#[.agg #[.int .i64 c.w,.int .i64 c.tl,.int .i64 c.ml,.int .i64 c.sh,.int .i64 c.ha,.int .i64 c.sg],.agg #[.int .i64 now,.slice (some ⟨g,0,none⟩) n n],.slice (some ⟨gr,0,none⟩) m m]) (by rfl) (by go_simp) ?_; refine (HSP.out _ g gr (by with_reducible exact ot) (by with_reducible exact oq)).mono ?_; rintro e wf ⟨b,d,rfl,hoF,hbf⟩; refine ⟨_,rfl,?_⟩; have kf : Below w1.heap.size w1 wf:=(by with_reducible exact bto kr hbf); have cf1:=HK1.out _ kf; have kz:=kr.size)
        | (have q:=kr; clear q; refine step_enterC (f:=6) (args:=#[.agg #[.int .i64 c.w,.int .i64 c.tl,.int .i64 c.ml,.int .i64 c.sh,.int .i64 c.ha,.int .i64 c.sg],.agg #[.int .i64 now,.slice (some ⟨g,0,none⟩) n n],.slice (some ⟨gr,0,none⟩) m m]) (by rfl) (by go_simp) ?_; refine (HSP.out _ g gr (by with_reducible exact ot.later (bnew _ _)) (by with_reducible exact oq.later (bnew _ _))).mono ?_; rintro e wf ⟨b,d,rfl,hoF,hbf⟩; refine ⟨_,rfl,?_⟩; have kf : Below w1.heap.size w1 wf:=(by with_reducible exact bto (bto kr (bnew _ _)) hbf); have cf1:=HK1.out _ kf; have hzn:=blk_allocB hbf; have kz:=kr.size; have s0:=hzn.cell 0; have s1:=hzn.cell 1; have f0:=hzn.free 0; have f1:=hzn.free 1))
      all_goals (go_wp2_with fail; go_meet)
      all_goals first
        | with_reducible exact ⟨_,rfl,rfl,stX_new hoF kz kf⟩
        | exact ⟨_,rfl,rfl,stX_old hoF hxl hxf hzf kf⟩
        | exact ⟨_,rfl,rfl,stX_old hoF (by simp) kz hzn kf⟩
    obtain ⟨X0,rfl,rfl,b0,d0,BB0,hbx0,htx0,hB0,hX0,hb4⟩:=hcut
    rename World=>w4
    have XB0:=hid hbx0
    have TI0 : Hid (TensIn w4 b0 VL):=htx0.tens
    have B4w : Hid (Below w.heap.size w w4):=bto B1w.out hb4
    have A4 : Hid (Blk w4 w.heap.size #[.int .i64 c.w,.int .i64 c.tl,.int .i64 c.ml,.int .i64 c.sh,.int .i64 c.ha,.int .i64 c.sg] 23):=A1.out.later hb4
    have S4 : Hid (Blk w4 (w.heap.size + 1) #[.int .i64 now,.slice a n cap] 26):=S1.out.later hb4
    have z0 : w4.cell? ⟨w.heap.size + 1,0,none⟩ = some (.int .i64 now):=S4.out.cell 0
    have z1 : w4.cell? ⟨w.heap.size + 1,1,none⟩ = some (.slice a n cap):=S4.out.cell 1
    have hs4 : w.heap.size + 1 < w4.heap.size:=lt_of_block S4.out
    have hX04 : X0 < w4.heap.size:=lt_of_block hbx0
    have h1w : w.heap.size + 1 < w1.heap.size:=lt_of_block S1.out
    clear hbx0 htx0 hB0 hb4 HK1 x0 x1 x2 x3 x4 x5 y0 y1 A1 S1 HSP
    go_wp2_with fail
    refine (HTS.out _ B4w.out).mono ?_
    rintro e w5 ⟨g1,rfl,hg1,hg2,ho5,hb5⟩
    have B45 : Hid (Below w4.heap.size w4 w5):=hb5
    have O5 : Hid (TensOwn w5 w4.heap.size (some ⟨g1,0,none⟩) ts):=ho5
    have h45 : w4.heap.size ≤ w5.heap.size:=hb5.size
    clear ho5 hb5 z0 z1
    go_upto_region 10 with fail
    have X5 : Hid (Blk (w5.alloc (.cells #[.int .i64 now,.slice (some ⟨g1,0,none⟩) n n] 32)) w5.heap.size #[.int .i64 now,.slice (some ⟨g1,0,none⟩) n n] 32):=Blk.new _ _ _
    have B55 : Hid (Below w5.heap.size w5 (w5.alloc (.cells #[.int .i64 now,.slice (some ⟨g1,0,none⟩) n n] 32))):=bnew _ _
    have h55 : (w5.alloc (.cells #[.int .i64 now,.slice (some ⟨g1,0,none⟩) n n] 32)).heap.size = w5.heap.size + 1:=by simp
    generalize w5.alloc (.cells #[.int .i64 now,.slice (some ⟨g1,0,none⟩) n n] 32) = wb at *
    go_wp2_with fail
    refine (HTR.out _ (bto (bto B4w.out B45.out) B55.out)).mono ?_
    rintro e w6 ⟨gr1,rfl,hgr1,hgr2,hor6,hbr6⟩
    have X6 : Hid (Blk w6 w5.heap.size #[.int .i64 now,.slice (some ⟨g1,0,none⟩) n n] 32):=X5.out.later hbr6
    have B56 : Hid (Below w5.heap.size w5 w6):=bto B55.out hbr6
    have h56 : w5.heap.size < w6.heap.size:=by have:=hbr6.size; omega
    have OR6 : Hid (RecsOwn w6 (w5.heap.size + 1) (some ⟨gr1,0,none⟩) rs):=hid (by rw [← h55]; exact hor6)
    have OQ6 : Hid (RecsIn w6 (some ⟨gr1,0,none⟩) rs):=hid hor6.recs
    have hgr0 : w5.heap.size < gr1:=by omega
    clear X5 B55 hor6 hbr6 hgr1 h55
    have A6 : Hid (Blk w6 w.heap.size #[.int .i64 c.w,.int .i64 c.tl,.int .i64 c.ml,.int .i64 c.sh,.int .i64 c.ha,.int .i64 c.sg] 23):=(A4.out.later B45.out).later B56.out
    have S6 : Hid (Blk w6 (w.heap.size + 1) #[.int .i64 now,.slice a n cap] 26):=(S4.out.later B45.out).later B56.out
    have B6w : Hid (Below w.heap.size w w6):=bto (bto B4w.out B45.out) B56.out
    have O6 : Hid (TensIn w6 (some ⟨g1,0,none⟩) ts):=O5.out.tens.later B56.out
    have HXS : Hid (∃ X,X = w5.heap.size):=⟨_,rfl⟩
    obtain ⟨X,hX⟩:=HXS.out
    rw [← hX] at X6 h56 h45 hgr0 ⊢
    have HX:=hid hX
    clear hX HXS
    have HK6 : Hid (∀ w',Below w6.heap.size w6 w' → w'.cell? ⟨w.heap.size,0,none⟩ = some (.int .i64 c.w) ∧ w'.cell? ⟨w.heap.size,1,none⟩ = some (.int .i64 c.tl) ∧ w'.cell? ⟨w.heap.size,2,none⟩ = some (.int .i64 c.ml) ∧ w'.cell? ⟨w.heap.size,3,none⟩ = some (.int .i64 c.sh) ∧ w'.cell? ⟨w.heap.size,4,none⟩ = some (.int .i64 c.ha) ∧ w'.cell? ⟨w.heap.size,5,none⟩ = some (.int .i64 c.sg) ∧ w'.cell? ⟨w.heap.size + 1,0,none⟩ = some (.int .i64 now) ∧ w'.cell? ⟨w.heap.size + 1,1,none⟩ = some (.slice a n cap) ∧ w'.cell? ⟨X,0,none⟩ = some (.int .i64 now) ∧ w'.cell? ⟨X,1,none⟩ = some (.slice (some ⟨g1,0,none⟩) n n)):=fun w' h=>by
      have q:=A6.out.later h
      have p:=S6.out.later h
      have r:=X6.out.later h
      exact ⟨q.cell 0,q.cell 1,q.cell 2,q.cell 3,q.cell 4,q.cell 5,p.cell 0,p.cell 1,r.cell 0,r.cell 1⟩
    have HKC : Hid (∀ w',Below w6.heap.size w6 w' → w'.cell? ⟨w.heap.size,0,none⟩ = some (.int .i64 c.w) ∧ w'.cell? ⟨w.heap.size,1,none⟩ = some (.int .i64 c.tl) ∧ w'.cell? ⟨w.heap.size,2,none⟩ = some (.int .i64 c.ml) ∧ w'.cell? ⟨w.heap.size,3,none⟩ = some (.int .i64 c.sh) ∧ w'.cell? ⟨w.heap.size,4,none⟩ = some (.int .i64 c.ha) ∧ w'.cell? ⟨w.heap.size,5,none⟩ = some (.int .i64 c.sg) ∧ w'.cell? ⟨X,0,none⟩ = some (.int .i64 now) ∧ w'.cell? ⟨X,1,none⟩ = some (.slice (some ⟨g1,0,none⟩) n n)):=fun w' h=>by
      obtain ⟨b0,b1,b2,b3,b4,b5,_,_,b6,b7⟩:=HK6.out w' h
      exact ⟨b0,b1,b2,b3,b4,b5,b6,b7⟩
    obtain ⟨x0,x1,x2,x3,x4,x5,y0,y1,u0,u1⟩:=HK6.out w6 (Below.refl _ _)
    go_upto_region 11 with fail
    go_cut [12,13] (fun p ok wx=>∃ X,p = .pointer (some ⟨X,0,none⟩) ∧ ok = .bool VB ∧ StX w6 X VN VL NV wx)
    case first =>
      go_region_held3 (fun w'=>w'.cell? ⟨w.heap.size,0,none⟩ = some (.int .i64 c.w) ∧ w'.cell? ⟨w.heap.size,1,none⟩ = some (.int .i64 c.tl) ∧ w'.cell? ⟨w.heap.size,2,none⟩ = some (.int .i64 c.ml) ∧ w'.cell? ⟨w.heap.size,3,none⟩ = some (.int .i64 c.sh) ∧ w'.cell? ⟨w.heap.size,4,none⟩ = some (.int .i64 c.ha) ∧ w'.cell? ⟨w.heap.size,5,none⟩ = some (.int .i64 c.sg) ∧ w'.cell? ⟨X,0,none⟩ = some (.int .i64 now) ∧ w'.cell? ⟨X,1,none⟩ = some (.slice (some ⟨g1,0,none⟩) n n))
        (first | go_keep | with_reducible exact HKC.out _ kf | with_reducible exact HKC.out _ kcc | with_reducible exact HKC.out _ ks | with_reducible exact HKC.out _ kr | with_reducible exact HKC.out _ (bto kr (bnew _ _)) | with_reducible exact HKC.out _ (set2 kf hxf) | with_reducible exact HKC.out _ (set2 kf kz) | with_reducible exact HKC.out _ (bto kcc (bnew _ _)) | with_reducible exact HKC.out _ (bto ks (bnew _ _)) | with_reducible exact HKC.out _ (bto kf (bnew _ _)) | with_reducible exact HKC.out _ ((bnew _ _).drew))
        (first
        | ((fail_if_success (have q:=kcc)); refine step_enterC (f:=7) (args:=#[.agg #[.int .i64 c.w,.int .i64 c.tl,.int .i64 c.ml,.int .i64 c.sh,.int .i64 c.ha,.int .i64 c.sg]]) (by rfl) (by go_simp) ?_; refine (HTC.out _).mono ?_; rintro e wc ⟨rfl,hbc⟩; refine ⟨_,rfl,?_⟩; have kcc : Below w6.heap.size w6 wc:=(by with_reducible exact bto (Below.refl _ _).drew hbc); have cc1:=HKC.out _ kcc)
        | ((fail_if_success (have q:=kcc)); refine step_enterC (f:=7) (args:=#[.agg #[.int .i64 c.w,.int .i64 c.tl,.int .i64 c.ml,.int .i64 c.sh,.int .i64 c.ha,.int .i64 c.sg]]) (by rfl) (by go_simp) ?_; refine (HTC.out _).mono ?_; rintro e wc ⟨rfl,hbc⟩; refine ⟨_,rfl,?_⟩; have kcc : Below w6.heap.size w6 wc:=(by with_reducible exact bto ((bnew _ _).drew) hbc); have cc1:=HKC.out _ kcc; have hzc : Blk wc w6.heap.size #[.int .i64 0,.slice none 0 0] 32:=blk_drewB hbc; have hxc : w6.heap.size ≤ w6.heap.size:=Nat.le_refl _)
        | (have q:=kcc; clear q; have q:=hzc; clear q; refine step_enterC (f:=10) (args:=#[.agg #[.int .i64 c.w,.int .i64 c.tl,.int .i64 c.ml,.int .i64 c.sh,.int .i64 c.ha,.int .i64 c.sg],.agg #[.int .i64 now,.slice (some ⟨g1,0,none⟩) n n],.slice (some ⟨gr1,0,none⟩) m m]) (by rfl) (by go_simp) ?_; refine (HIM.out _ g1 gr1 (by with_reducible exact O6.out.later kcc) (by with_reducible exact OQ6.out.later kcc) (HU.out.later (by with_reducible exact bto B6w.out kcc))).mono ?_; rintro e wf ⟨b,d,rfl,hoF,hbf⟩; refine ⟨_,rfl,?_⟩; have kf : Below w6.heap.size w6 wf:=(by with_reducible exact bto kcc hbf); have cf1:=HKC.out _ kf; have hzf:=hzc.later hbf; have hxf:=hxc; have hxl:=lt_of_block hzc; have s0:=hzf.cell 0; have s1:=hzf.cell 1; have f0:=hzf.free 0; have f1:=hzf.free 1)
        | (have q:=kcc; clear q; (fail_if_success (have q:=hzc)); refine step_enterC (f:=10) (args:=#[.agg #[.int .i64 c.w,.int .i64 c.tl,.int .i64 c.ml,.int .i64 c.sh,.int .i64 c.ha,.int .i64 c.sg],.agg #[.int .i64 now,.slice (some ⟨g1,0,none⟩) n n],.slice (some ⟨gr1,0,none⟩) m m]) (by rfl) (by go_simp) ?_; refine (HIM.out _ g1 gr1 (by with_reducible exact O6.out.later kcc) (by with_reducible exact OQ6.out.later kcc) (HU.out.later (by with_reducible exact bto B6w.out kcc))).mono ?_; rintro e wf ⟨b,d,rfl,hoF,hbf⟩; refine ⟨_,rfl,?_⟩; have kf : Below w6.heap.size w6 wf:=(by with_reducible exact bto kcc hbf); have cf1:=HKC.out _ kf; have kz:=kcc.size)
        | (have q:=kcc; clear q; refine step_enterC (f:=10) (args:=#[.agg #[.int .i64 c.w,.int .i64 c.tl,.int .i64 c.ml,.int .i64 c.sh,.int .i64 c.ha,.int .i64 c.sg],.agg #[.int .i64 now,.slice (some ⟨g1,0,none⟩) n n],.slice (some ⟨gr1,0,none⟩) m m]) (by rfl) (by go_simp) ?_; refine (HIM.out _ g1 gr1 (by with_reducible exact O6.out.later (bto kcc (bnew _ _))) (by with_reducible exact OQ6.out.later (bto kcc (bnew _ _))) (HU.out.later (by with_reducible exact bto (bto B6w.out kcc) (bnew _ _)))).mono ?_; rintro e wf ⟨b,d,rfl,hoF,hbf⟩; refine ⟨_,rfl,?_⟩; have kf : Below w6.heap.size w6 wf:=(by with_reducible exact bto (bto kcc (bnew _ _)) hbf); have cf1:=HKC.out _ kf; have hzn:=blk_allocB hbf; have kz:=kcc.size; have s0:=hzn.cell 0; have s1:=hzn.cell 1; have f0:=hzn.free 0; have f1:=hzn.free 1))
      all_goals (go_wp2_with fail; go_meet)
      all_goals first
        | with_reducible exact ⟨_,rfl,rfl,stX_new hoF kz kf⟩
        | exact ⟨_,rfl,rfl,stX_old hoF hxl hxf hzf kf⟩
        | exact ⟨_,rfl,rfl,stX_old hoF (by simp) kz hzn kf⟩
    obtain ⟨XG,rfl,rfl,b1,d1,BB1,hbx1,htx1,hB1,hX1,hb7⟩:=hcut
    rename World=>w7
    have XB1:=hid hbx1
    have TX7:=hid htx1
    have B67 : Hid (Below w6.heap.size w6 w7):=hb7
    have B47 : Hid (Below w4.heap.size w4 w7):=bto (bto B45.out B56.out) hb7
    have XB07 : Hid (Blk w7 X0 #[.int .i64 VN,.slice b0 NV d0] 32):=XB0.out.later B47.out
    have c0 : w7.cell? ⟨XG,0,none⟩ = some (.int .i64 VN):=XB1.out.cell 0
    have c1 : w7.cell? ⟨XG,1,none⟩ = some (.slice b1 NV d1):=XB1.out.cell 1
    have e0 : w7.cell? ⟨X0,0,none⟩ = some (.int .i64 VN):=XB07.out.cell 0
    have e1 : w7.cell? ⟨X0,1,none⟩ = some (.slice b0 NV d0):=XB07.out.cell 1
    clear hbx1 htx1 hb7 HKC x0 x1 x2 x3 x4 x5 y0 y1 u0 u1
    go_wp2_with fail
    refine (HEV.out _ _ _ _ _ TX7.out.tens (TI0.out.later B47.out)).mono ?_
    rintro e w8 ⟨rfl,hb8⟩
    have B68 : Hid (Below w6.heap.size w6 w8):=bto B67.out hb8
    have B48 : Hid (Below w4.heap.size w4 w8):=bto B47.out hb8
    have TX8 : Hid (TensX w8 BB1 XG b1 VL):=TX7.out.later hb8
    have XB18 : Hid (Blk w8 XG #[.int .i64 VN,.slice b1 NV d1] 32):=XB1.out.later hb8
    have HK8 : Hid (∀ w',Below w8.heap.size w8 w' → w'.cell? ⟨w.heap.size + 1,0,none⟩ = some (.int .i64 now) ∧ w'.cell? ⟨w.heap.size + 1,1,none⟩ = some (.slice a n cap) ∧ w'.cell? ⟨X,0,none⟩ = some (.int .i64 now) ∧ w'.cell? ⟨X,1,none⟩ = some (.slice (some ⟨g1,0,none⟩) n n)):=fun w' h=>by
      obtain ⟨_,_,_,_,_,_,b6,b7,b8,b9⟩:=HK6.out w' (bto B68.out h)
      exact ⟨b6,b7,b8,b9⟩
    obtain ⟨y2,y3,u2,u3⟩:=HK8.out w8 (Below.refl _ _)
    clear hb8 TX7 B67 B47 XB07 XB1 c0 c1 e0 e1
    go_upto_region 14 with fail
    go_cut [64] (fun s wx=>s = .bool false ∧ Below w8.heap.size w8 wx)
    case first =>
      go_region_held3 (fun w'=>w'.cell? ⟨w.heap.size + 1,0,none⟩ = some (.int .i64 now) ∧ w'.cell? ⟨w.heap.size + 1,1,none⟩ = some (.slice a n cap) ∧ w'.cell? ⟨X,0,none⟩ = some (.int .i64 now) ∧ w'.cell? ⟨X,1,none⟩ = some (.slice (some ⟨g1,0,none⟩) n n))
        (first | go_keep | exact HK8.out _ k4 | exact HK8.out _ k3)
        (first
          | (go_at_call 8; refine (HTS.out _ ((bto B6w.out B68.out).drew)).mono ?_; rintro e w3 ⟨g,rfl,hg3,hg4,ho3,hb3⟩; have k3 : Below w8.heap.size w8 w3:=(by exact bto (Below.refl _ _).drew hb3))
          | (go_at_call 11; refine (HEQ.out _ g1 g (O6.out.later (bto B68.out k3)) ho3.tens).mono ?_; rintro e w4 ⟨rfl,hb4⟩; have k4 : Below w8.heap.size w8 w4:=(by exact bto k3 hb4)))
      all_goals (go_wp2_with fail; go_meet)
      all_goals exact ⟨rfl,k4⟩
    obtain ⟨rfl,hb9x⟩:=hcut
    rename World=>wx9
    have B9x : Hid (Below w8.heap.size w8 wx9):=hb9x
    clear hb9x y2 y3 u2 u3
    go_wp2_with fail
    refine (HTR.out _ (bto (bto B6w.out B68.out) B9x.out)).mono ?_
    rintro e wy9 ⟨gr2,rfl,hgx,hgy,hor9,hbr9⟩
    have B9y : Hid (Below w8.heap.size w8 wy9):=bto B9x.out hbr9
    have OQ9 : Hid (RecsIn wy9 (some ⟨gr2,0,none⟩) rs):=hid hor9.recs
    clear hor9 hbr9 hgx hgy
    go_wp2_with fail
    refine (HER.out _ gr1 gr2 (OQ6.out.later (bto B68.out B9y.out)) OQ9.out).mono ?_
    rintro e w9 ⟨rfl,hb9z⟩
    have hb9 : Below w8.heap.size w8 w9:=bto B9y.out hb9z
    clear hb9z B9x B9y OQ9
    have B69 : Hid (Below w6.heap.size w6 w9):=bto B68.out hb9
    have B49 : Hid (Below w4.heap.size w4 w9):=bto B48.out hb9
    have TX9 : Hid (TensX w9 BB1 XG b1 VL):=TX8.out.later hb9
    have XB19 : Hid (Blk w9 XG #[.int .i64 VN,.slice b1 NV d1] 32):=XB18.out.later hb9
    have h69 : w6.heap.size ≤ w9.heap.size:=B69.out.size
    clear hb9 B68 B48 TX8 XB18 HK8 HEQ HER
    obtain ⟨-,-,-,-,-,-,-,-,u0,u1⟩:=HK6.out w9 B69.out
    go_wp2_with fail
    refine (HMK.out w5 _ w4.heap.size g1 O5.out (bto B56.out B69.out)).mono ?_
    rintro e wm ⟨rfl,htm,-⟩
    have OM : Hid (RecsOwn wm (X + 1) (some ⟨gr1,0,none⟩) rs):=hid ((by have:=OR6.out; rw [← HX.out] at this; exact this : RecsOwn w6 (X + 1) (some ⟨gr1,0,none⟩) rs).later B69.out |>.turned htm (fun g h1 h2 e=>by have:=HX.out; omega))
    have TM:=hid htm
    clear htm u0 u1
    go_wp2_with fail
    refine (HMR.out _ _ gr1 OM.out).mono ?_
    rintro e w10 ⟨rfl,htr⟩
    have ht10 : Turn (fun g=>(w4.heap.size ≤ g ∧ g < w5.heap.size) ∨ g = gr1) w9 w10:=(TM.out.mono fun i _ e=>Or.inl e).trans' (htr.mono fun i _ e=>Or.inr e)
    clear htr OM TM
    have B410 : Hid (Below w4.heap.size w4 w10):=B49.out.trans (ht10.below (by omega) fun i hi e=>by have:=HX.out; omega)
    have TX10 : Hid (TensX w10 BB1 XG b1 VL):=TX9.out.turned ht10 (fun g h1 h2 _ h3=>by have:=HX.out; omega)
    have XB110 : Hid (Blk w10 XG #[.int .i64 VN,.slice b1 NV d1] 32):=ht10.blk XB19.out (by have:=HX.out; omega)
    have XB010 : Hid (Blk w10 X0 #[.int .i64 VN,.slice b0 NV d0] 32):=XB0.out.later B410.out
    have A10 : Hid (Blk w10 w.heap.size #[.int .i64 c.w,.int .i64 c.tl,.int .i64 c.ml,.int .i64 c.sh,.int .i64 c.ha,.int .i64 c.sg] 23):=A4.out.later B410.out
    have S10 : Hid (Blk w10 (w.heap.size + 1) #[.int .i64 now,.slice a n cap] 26):=S4.out.later B410.out
    have h10 : w6.heap.size ≤ w10.heap.size:=by have:=ht10.size; omega
    have c0 : w10.cell? ⟨XG,0,none⟩ = some (.int .i64 VN):=XB110.out.cell 0
    have c1 : w10.cell? ⟨XG,1,none⟩ = some (.slice b1 NV d1):=XB110.out.cell 1
    have e0 : w10.cell? ⟨X0,0,none⟩ = some (.int .i64 VN):=XB010.out.cell 0
    have e1 : w10.cell? ⟨X0,1,none⟩ = some (.slice b0 NV d0):=XB010.out.cell 1
    clear ht10 B69 B49 TX9 XB19 HK6 A6 S6 X6 O5 O6 OR6 OQ6 HMK HMR
    go_wp2_with fail
    refine (HEV.out _ _ _ _ _ TX10.out.tens (TI0.out.later B410.out)).mono ?_
    rintro e w11 ⟨rfl,hb11⟩
    have B411 : Hid (Below w4.heap.size w4 w11):=bto B410.out hb11
    have TX11 : Hid (TensX w11 BB1 XG b1 VL):=TX10.out.later hb11
    have XB111 : Hid (Blk w11 XG #[.int .i64 VN,.slice b1 NV d1] 32):=XB110.out.later hb11
    have h11 : w6.heap.size ≤ w11.heap.size:=by have:=hb11.size; omega
    clear hb11 B410 TX10 XB110 XB010 A10 S10 c0 c1 e0 e1
    have c0 : w11.cell? ⟨XG,0,none⟩ = some (.int .i64 VN):=XB111.out.cell 0
    have c1 : w11.cell? ⟨XG,1,none⟩ = some (.slice b1 NV d1):=XB111.out.cell 1
    go_wp2_with fail
    refine (HMV.out _ _ _ _ _ TX11.out).mono ?_
    rintro e w12 ⟨rfl,ht12,hsi12⟩
    have SI12:=hid hsi12
    have B412 : Hid (Below w4.heap.size w4 w12):=B411.out.trans (ht12.below (by omega) fun i hi e=>by omega)
    have XB112 : Hid (Blk w12 XG #[.int .i64 VN,.slice b1 NV d1] 32):=ht12.blk XB111.out (fun e=>e.2 rfl)
    clear ht12 hsi12 B411 TX11 XB111 HMV c0 c1
    have c0 : w12.cell? ⟨XG,0,none⟩ = some (.int .i64 VN):=XB112.out.cell 0
    have c1 : w12.cell? ⟨XG,1,none⟩ = some (.slice b1 NV d1):=XB112.out.cell 1
    go_wp2_with fail
    refine (HHV.out _ _ _ SI12.out).mono ?_
    rintro e w13 ⟨rfl,hb13⟩
    have B413 : Hid (Below w4.heap.size w4 w13):=bto B412.out hb13
    have A13 : Hid (Blk w13 w.heap.size #[.int .i64 c.w,.int .i64 c.tl,.int .i64 c.ml,.int .i64 c.sh,.int .i64 c.ha,.int .i64 c.sg] 23):=A4.out.later B413.out
    have S13 : Hid (Blk w13 (w.heap.size + 1) #[.int .i64 now,.slice a n cap] 26):=S4.out.later B413.out
    have B13w : Hid (Below w.heap.size w w13):=bto B4w.out B413.out
    have XB013 : Hid (Blk w13 X0 #[.int .i64 VN,.slice b0 NV d0] 32):=XB0.out.later B413.out
    have TI13 : Hid (TensIn w13 b0 VL):=TI0.out.later B413.out
    clear hb13 B412 B413 XB112 SI12 HHV TI0 XB0 A4 S4 B4w c0 c1
    have HK13 : Hid (∀ w',Below w13.heap.size w13 w' → w'.cell? ⟨w.heap.size,0,none⟩ = some (.int .i64 c.w) ∧ w'.cell? ⟨w.heap.size,1,none⟩ = some (.int .i64 c.tl) ∧ w'.cell? ⟨w.heap.size,2,none⟩ = some (.int .i64 c.ml) ∧ w'.cell? ⟨w.heap.size,3,none⟩ = some (.int .i64 c.sh) ∧ w'.cell? ⟨w.heap.size,4,none⟩ = some (.int .i64 c.ha) ∧ w'.cell? ⟨w.heap.size,5,none⟩ = some (.int .i64 c.sg) ∧ w'.cell? ⟨w.heap.size + 1,0,none⟩ = some (.int .i64 now) ∧ w'.cell? ⟨w.heap.size + 1,1,none⟩ = some (.slice a n cap)):=fun w' h=>by
      have q:=A13.out.later h
      have p:=S13.out.later h
      exact ⟨q.cell 0,q.cell 1,q.cell 2,q.cell 3,q.cell 4,q.cell 5,p.cell 0,p.cell 1⟩
    obtain ⟨x0,x1,x2,x3,x4,x5,y0,y1⟩:=HK13.out w13 (Below.refl _ _)
    go_upto_region 31 with fail
    try clear B45
    try clear B56
    try clear B6w
    try clear HX
    try clear hg1
    try clear hg2
    try clear hs4
    try clear hX04
    try clear h1w
    try clear h45
    try clear h56
    try clear hgr0
    try clear hgr2
    try clear hm0
    try clear hq0
    try clear hqq
    try clear h0
    try clear h02
    try clear h69
    try clear h10
    try clear h11
    try clear hB1
    try clear hX1
    try clear hX0
    try clear A13
    try clear S13
    try clear B49
    try clear B4w
    try clear HK6
    try clear HTX
    try clear hX
    try clear MV
    try clear MT
    go_cut [17,18] (fun p ok wx=>∃ X,p = .pointer (some ⟨X,0,none⟩) ∧ ok = .bool VB ∧ StX w13 X VN VL NV wx)
    case first =>
      go_region_held3 (fun w'=>w'.cell? ⟨w.heap.size,0,none⟩ = some (.int .i64 c.w) ∧ w'.cell? ⟨w.heap.size,1,none⟩ = some (.int .i64 c.tl) ∧ w'.cell? ⟨w.heap.size,2,none⟩ = some (.int .i64 c.ml) ∧ w'.cell? ⟨w.heap.size,3,none⟩ = some (.int .i64 c.sh) ∧ w'.cell? ⟨w.heap.size,4,none⟩ = some (.int .i64 c.ha) ∧ w'.cell? ⟨w.heap.size,5,none⟩ = some (.int .i64 c.sg) ∧ w'.cell? ⟨w.heap.size + 1,0,none⟩ = some (.int .i64 now) ∧ w'.cell? ⟨w.heap.size + 1,1,none⟩ = some (.slice a n cap))
        (first | go_keep | with_reducible exact HK13.out _ kf | with_reducible exact HK13.out _ kcc | with_reducible exact HK13.out _ ks | with_reducible exact HK13.out _ kr | with_reducible exact HK13.out _ (bto kr (bnew _ _)) | with_reducible exact HK13.out _ (set2 kf hxf) | with_reducible exact HK13.out _ (set2 kf kz) | with_reducible exact HK13.out _ (bto kcc (bnew _ _)) | with_reducible exact HK13.out _ (bto ks (bnew _ _)) | with_reducible exact HK13.out _ (bto kf (bnew _ _)) | with_reducible exact HK13.out _ ((bnew _ _).drew))
        (first
        | ((fail_if_success (have q:=kcc)); refine step_enterC (f:=7) (args:=#[.agg #[.int .i64 c.w,.int .i64 c.tl,.int .i64 c.ml,.int .i64 c.sh,.int .i64 c.ha,.int .i64 c.sg]]) (by rfl) (by go_simp) ?_; refine (HTC.out _).mono ?_; rintro e wc ⟨rfl,hbc⟩; refine ⟨_,rfl,?_⟩; have kcc : Below w13.heap.size w13 wc:=(by with_reducible exact bto (Below.refl _ _).drew hbc); have cc1:=HK13.out _ kcc)
        | ((fail_if_success (have q:=kcc)); refine step_enterC (f:=7) (args:=#[.agg #[.int .i64 c.w,.int .i64 c.tl,.int .i64 c.ml,.int .i64 c.sh,.int .i64 c.ha,.int .i64 c.sg]]) (by rfl) (by go_simp) ?_; refine (HTC.out _).mono ?_; rintro e wc ⟨rfl,hbc⟩; refine ⟨_,rfl,?_⟩; have kcc : Below w13.heap.size w13 wc:=(by with_reducible exact bto ((bnew _ _).drew) hbc); have cc1:=HK13.out _ kcc; have hzc : Blk wc w13.heap.size #[.int .i64 0,.slice none 0 0] 32:=blk_drewB hbc; have hxc : w13.heap.size ≤ w13.heap.size:=Nat.le_refl _)
        | (have q:=kcc; clear q; (fail_if_success (have q:=ks)); refine step_enterC (f:=8) (args:=#[.agg #[.int .i64 now,.slice a n cap]]) (by rfl) (by go_simp) ?_; refine (HTS.out _ (by with_reducible exact bto B13w.out kcc)).mono ?_; rintro e ws ⟨g,rfl,hg1,hg2,ho,hbs⟩; refine ⟨_,rfl,?_⟩; have ks : Below w13.heap.size w13 ws:=(by with_reducible exact bto kcc hbs); have cs1:=HK13.out _ ks; have os:=ho.tens; try (have hzs:=hzc.later hbs; have hxs:=hxc))
        | (have q:=kcc; clear q; (fail_if_success (have q:=ks)); refine step_enterC (f:=8) (args:=#[.agg #[.int .i64 now,.slice a n cap]]) (by rfl) (by go_simp) ?_; refine (HTS.out _ (by with_reducible exact bto (bto B13w.out kcc) (bnew _ _))).mono ?_; rintro e ws ⟨g,rfl,hg1,hg2,ho,hbs⟩; refine ⟨_,rfl,?_⟩; have ks : Below w13.heap.size w13 ws:=(by with_reducible exact bto (bto kcc (bnew _ _)) hbs); have cs1:=HK13.out _ ks; have os:=ho.tens; have hzs:=blk_allocB hbs; have hxs:=kcc.size)
        | (have q:=ks; clear q; (fail_if_success (have q:=kr)); refine step_enterC (f:=9) (args:=#[.slice ar m capr]) (by rfl) (by go_simp) ?_; refine (HTR.out _ (by with_reducible exact bto B13w.out ks)).mono ?_; rintro e wq ⟨gr,rfl,hg3,hg4,hor,hbr⟩; refine ⟨_,rfl,?_⟩; have kr : Below w13.heap.size w13 wq:=(by with_reducible exact bto ks hbr); have cr1:=HK13.out _ kr; have ot:=os.later hbr; have oq:=hor.recs; try (have hzr:=hzs.later hbr; have hxr:=hxs))
        | (have q:=ks; clear q; (fail_if_success (have q:=kr)); refine step_enterC (f:=9) (args:=#[.slice ar m capr]) (by rfl) (by go_simp) ?_; refine (HTR.out _ (by with_reducible exact bto (bto B13w.out ks) (bnew _ _))).mono ?_; rintro e wq ⟨gr,rfl,hg3,hg4,hor,hbr⟩; refine ⟨_,rfl,?_⟩; have kr : Below w13.heap.size w13 wq:=(by with_reducible exact bto (bto ks (bnew _ _)) hbr); have cr1:=HK13.out _ kr; have ot:=os.later (bto (bnew _ _) hbr); have oq:=hor.recs; have hzr:=blk_allocB hbr; have hxr:=ks.size)
        | (have q:=kr; clear q; have q:=hzr; clear q; refine step_enterC (f:=10) (args:=#[.agg #[.int .i64 c.w,.int .i64 c.tl,.int .i64 c.ml,.int .i64 c.sh,.int .i64 c.ha,.int .i64 c.sg],.agg #[.int .i64 now,.slice (some ⟨g,0,none⟩) n n],.slice (some ⟨gr,0,none⟩) m m]) (by rfl) (by go_simp) ?_; refine (HIM.out _ g gr (by with_reducible exact ot) (by with_reducible exact oq) (HU.out.later (by with_reducible exact bto B13w.out kr))).mono ?_; rintro e wf ⟨b,d,rfl,hoF,hbf⟩; refine ⟨_,rfl,?_⟩; have kf : Below w13.heap.size w13 wf:=(by with_reducible exact bto kr hbf); have cf1:=HK13.out _ kf; have hzf:=hzr.later hbf; have hxf:=hxr; have hxl:=lt_of_block hzr; have s0:=hzf.cell 0; have s1:=hzf.cell 1; have f0:=hzf.free 0; have f1:=hzf.free 1)
        | (have q:=kr; clear q; (fail_if_success (have q:=hzr)); refine step_enterC (f:=10) (args:=#[.agg #[.int .i64 c.w,.int .i64 c.tl,.int .i64 c.ml,.int .i64 c.sh,.int .i64 c.ha,.int .i64 c.sg],.agg #[.int .i64 now,.slice (some ⟨g,0,none⟩) n n],.slice (some ⟨gr,0,none⟩) m m]) (by rfl) (by go_simp) ?_; refine (HIM.out _ g gr (by with_reducible exact ot) (by with_reducible exact oq) (HU.out.later (by with_reducible exact bto B13w.out kr))).mono ?_; rintro e wf ⟨b,d,rfl,hoF,hbf⟩; refine ⟨_,rfl,?_⟩; have kf : Below w13.heap.size w13 wf:=(by with_reducible exact bto kr hbf); have cf1:=HK13.out _ kf; have kz:=kr.size)
        | (have q:=kr; clear q; refine step_enterC (f:=10) (args:=#[.agg #[.int .i64 c.w,.int .i64 c.tl,.int .i64 c.ml,.int .i64 c.sh,.int .i64 c.ha,.int .i64 c.sg],.agg #[.int .i64 now,.slice (some ⟨g,0,none⟩) n n],.slice (some ⟨gr,0,none⟩) m m]) (by rfl) (by go_simp) ?_; refine (HIM.out _ g gr (by with_reducible exact ot.later (bnew _ _)) (by with_reducible exact oq.later (bnew _ _)) (HU.out.later (by with_reducible exact bto (bto B13w.out kr) (bnew _ _)))).mono ?_; rintro e wf ⟨b,d,rfl,hoF,hbf⟩; refine ⟨_,rfl,?_⟩; have kf : Below w13.heap.size w13 wf:=(by with_reducible exact bto (bto kr (bnew _ _)) hbf); have cf1:=HK13.out _ kf; have hzn:=blk_allocB hbf; have kz:=kr.size; have s0:=hzn.cell 0; have s1:=hzn.cell 1; have f0:=hzn.free 0; have f1:=hzn.free 1))
      all_goals (go_wp2_with fail; go_meet)
      all_goals first
        | with_reducible exact ⟨_,rfl,rfl,stX_new hoF kz kf⟩
        | exact ⟨_,rfl,rfl,stX_old hoF hxl hxf hzf kf⟩
        | exact ⟨_,rfl,rfl,stX_old hoF (by simp) kz hzn kf⟩
    obtain ⟨XH,rfl,rfl,b2,d2,BB2,hbx2,htx2,hB2,hX2,hb14⟩:=hcut
    rename World=>w14
    have TI14 : Hid (TensIn w14 b2 VL):=htx2.tens
    have B14 : Hid (Below w13.heap.size w13 w14):=hb14
    have XB014 : Hid (Blk w14 X0 #[.int .i64 VN,.slice b0 NV d0] 32):=XB013.out.later hb14
    have c0 : w14.cell? ⟨XH,0,none⟩ = some (.int .i64 VN):=hbx2.cell 0
    have c1 : w14.cell? ⟨XH,1,none⟩ = some (.slice b2 NV d2):=hbx2.cell 1
    have e0 : w14.cell? ⟨X0,0,none⟩ = some (.int .i64 VN):=XB014.out.cell 0
    have e1 : w14.cell? ⟨X0,1,none⟩ = some (.slice b0 NV d0):=XB014.out.cell 1
    clear hbx2 htx2 hb14 HK13 x0 x1 x2 x3 x4 x5 y0 y1
    go_wp2_with fail
    refine (HEV.out _ _ _ _ _ TI14.out (TI13.out.later B14.out)).mono ?_
    rintro e w15 ⟨rfl,hb15⟩
    have B15 : Hid (Below w.heap.size w w15):=bto (bto B13w.out B14.out) hb15
    clear hb15
    go_wp2
    go_ret
    exact ⟨rfl,B15.out⟩
  · have e : szTens 1048576 ts = -1:=by unfold szTens; rw [if_neg hbig]
    rw [e] at HSZ
    clear hf hs hlen hU hbig e hr hsr hlr
    unfold cfgV at *
    go_enter Tryz.func3,Tryz.ntmps3
    go_wp2_with fail
    refine (HSZ.out _ (bto (bnew _ _) (bnew _ _))).mono ?_
    rintro e w1 ⟨rfl,hb1⟩
    have B1 : Hid (Below w.heap.size w w1):=bto (bto (bnew _ _) (bnew _ _)) hb1
    clear hb1
    go_wp2
    go_ret
    exact ⟨rfl,B1.out⟩
end Go.Proofs.YtkmdbpaeeagccaaGreatDoor
