import Derived.Test.YtkmdbpaeeagccaaGreatDoorProg
import Derived.Test.YtkmdbpaeeagccaaGreatDoorJ35StrL
import Derived.Test.YtkmdbpaeeagccaaGreatDoorJ29SSta
import Derived.Test.YtkmdbpaeeagccaaGreatDoorJ19IAdm
import Derived.Test.YtkmdbpaeeagccaaGreatDoorJ12SIns
import Derived.Test.YtkmdbpaeeagccaaGreatDoorJ33SlmV
namespace Go.Proofs.YtkmdbpaeeagccaaGreatDoor
open Go.RowKit
theorem tick_all {c : CfgD} {now now' : Int} {ts : List TenD} (h : stateB c now ts = true) : keptTs c.w now' (wAll ⟨⟨#[]⟩,0,[],[]⟩ true ts) = keptTs c.w now' ts:=by
  rw [wAll_placed (t:=⟨⟨#[]⟩,0,[],[]⟩) (names_ne h)]
set_option maxRecDepth 100000 in
set_option maxHeartbeats 8000000 in
theorem specTick_any (c : CfgD) (now : Int) (a : Option Addr) (cap : Nat) (ts : List TenD) (by_ : Int) (w : World) (hf : TensIn w a ts) (hbk : ts.length + tensBulk ts ≤ 1100000) :
    Calls Tryz.prog 21 #[cfgV c,.agg #[.int .i64 now,.slice a ts.length cap],.int .i64 by_] w fun e w'=>StOut (tickV c now ts by_) w e w':=by
  obtain ⟨f1,f2,f3,f4⟩:=fit_of hbk
  have HO : Hid (∀ W,Below w.heap.size w W → Calls Tryz.prog 18 #[cfgV c,.agg #[.int .i64 now,.slice a ts.length cap]] W fun e w'=>e = .returned (.bool (stateB c now ts)) ∧ Below W.heap.size W w'):=fun W hW=>specState_any c now a cap ts W (hf.later hW) f2 (by omega)
  have HV : Hid (tickV c now ts by_ = if stateB c now ts = false then (0,[],false) else if by_ < 1 ∨ 1000000000000 - now < by_ then (now,ts,false) else (now + by_,keptTs c.w (now + by_) ts,true)):=rfl
  unfold StOut
  by_cases h0 : stateB c now ts = false
  · have HV2 : Hid (tickV c now ts by_ = (0,[],false)):=by show _ = _; rw [HV.out,if_pos h0]
    rw [h0] at HO
    clear hf HV h0 f1 f2 f3 f4
    generalize tickV c now ts by_ = V at *
    unfold cfgV at *
    go_enter Tryz.func21,Tryz.ntmps21
    have B0 : Hid (Below w.heap.size w (((w.alloc (.cells #[.int .i64 c.w,.int .i64 c.tl,.int .i64 c.ml,.int .i64 c.sh,.int .i64 c.ha,.int .i64 c.sg] 35)).alloc (.cells #[.int .i64 now,.slice a ts.length cap] 32)).alloc (.cells #[.int .i64 0,.slice none 0 0] 32))):=bto (bto (bnew _ _) (bnew _ _)) (bnew _ _)
    have R0 : Hid (Blk (((w.alloc (.cells #[.int .i64 c.w,.int .i64 c.tl,.int .i64 c.ml,.int .i64 c.sh,.int .i64 c.ha,.int .i64 c.sg] 35)).alloc (.cells #[.int .i64 now,.slice a ts.length cap] 32)).alloc (.cells #[.int .i64 0,.slice none 0 0] 32)) (w.heap.size + 1 + 1) #[.int .i64 0,.slice none 0 0] 32):=hid (by have:=Blk.new ((w.alloc (.cells #[.int .i64 c.w,.int .i64 c.tl,.int .i64 c.ml,.int .i64 c.sh,.int .i64 c.ha,.int .i64 c.sg] 35)).alloc (.cells #[.int .i64 now,.slice a ts.length cap] 32)) #[.int .i64 0,.slice none 0 0] 32; simpa using this)
    go_wp2_with fail
    refine (HO.out _ B0.out).mono ?_
    rintro e w1 ⟨rfl,hb⟩
    have HB : Hid (Below w.heap.size w w1):=bto B0.out hb
    have RB : Hid (Blk w1 (w.heap.size + 1 + 1) #[.int .i64 0,.slice none 0 0] 32):=R0.out.later hb
    have y0 : w1.cell? ⟨w.heap.size + 1 + 1,0,none⟩ = some (.int .i64 0):=RB.out.cell 0
    have y1 : w1.cell? ⟨w.heap.size + 1 + 1,1,none⟩ = some (.slice none 0 0):=RB.out.cell 1
    have f0:=RB.out.free 0
    have f1:=RB.out.free 1
    have hwl : w.heap.size + 1 + 1 < w1.heap.size:=lt_of_block RB.out
    clear hb
    go_wp2
    refine bodyPost_ret (v:=.tuple #[.agg #[.int .i64 0,.slice none 0 0],.bool false]) (by simp [results,Tryz.results21,go_sem,y0,y1]) rfl ?_
    rw [HV2.out]
    refine ⟨none,0,rfl,Or.inl rfl,?_⟩
    first
      | exact (HB.out.setCell (by show w.heap.size ≤ w.heap.size + 1 + 1; omega) _).setCell (by show w.heap.size ≤ w.heap.size + 1 + 1; omega) _
      | exact HB.out
  have h0' : stateB c now ts = true:=by simpa using h0
  obtain ⟨hcf,hn0,hn1,hlen,htens⟩:=tens_of h0'
  have HSM : Hid (∀ W,Below w.heap.size w W → Calls Tryz.prog 19 #[cfgV c,.agg #[.int .i64 now,.slice a ts.length cap]] W fun e w'=>∃ a' cap',e = .returned (.agg #[.int .i64 now,.slice a' ts.length cap']) ∧ TensOwn w' W.heap.size a' ts ∧ Below W.heap.size W w'):=fun W hW=>l4Same_any c now a cap ts W (hf.later hW) h0' hbk
  have HWI : Hid (∀ W now',Below w.heap.size w W → 0 ≤ now' → now' ≤ 1000000000000 → Calls Tryz.prog 41 #[cfgV c,.agg #[.int .i64 now,.slice a ts.length cap],.int .i64 now',.agg #[.string ⟨#[]⟩,.int .i64 0,.slice none 0 0,.slice none 0 0]] W fun e w'=>∃ a' cap',e = .returned (.agg #[.int .i64 now',.slice a' (keptTs c.w now' ts).length cap']) ∧ TensOwn w' W.heap.size a' (keptTs c.w now' ts) ∧ Below W.heap.size W w'):=fun W now' hW q0 q1=>by
    have:=l4With_any c now now' a cap ts ⟨⟨#[]⟩,0,[],[]⟩ none none 0 0 W (hf.later hW) (Or.inl rfl) (Or.inl rfl) (by omega) (fun x hx=>by
      rcases hx with rfl | hx
      · exact ⟨Nat.zero_le _,Nat.zero_le _,fun i h=>absurd h (by simp)⟩
      · exact fitW_of h0' hbk x hx) q0 (by omega)
    have e : (⟨⟨#[]⟩,0,[],[]⟩ : TenD).name.toList.isEmpty = true:=by kernel_rfl
    rw [e,tick_all h0'] at this
    exact this
  have HV1 : Hid (tickV c now ts by_ = if by_ < 1 ∨ 1000000000000 - now < by_ then (now,ts,false) else (now + by_,keptTs c.w (now + by_) ts,true)):=by show _ = _; rw [HV.out,if_neg h0]
  rw [h0'] at HO
  clear hf HV h0 h0' f1 f2 f3 f4 hcf hlen htens
  generalize tickV c now ts by_ = V at *
  unfold cfgV at *
  by_cases h1 : by_ < 1
  · have HV2 : Hid (V = (now,ts,false)):=by show _ = _; rw [HV1.out,if_pos (Or.inl h1)]
    clear HV1 HWI
    go_enter Tryz.func21,Tryz.ntmps21
    have B0 : Hid (Below w.heap.size w (((w.alloc (.cells #[.int .i64 c.w,.int .i64 c.tl,.int .i64 c.ml,.int .i64 c.sh,.int .i64 c.ha,.int .i64 c.sg] 35)).alloc (.cells #[.int .i64 now,.slice a ts.length cap] 32)).alloc (.cells #[.int .i64 0,.slice none 0 0] 32))):=bto (bto (bnew _ _) (bnew _ _)) (bnew _ _)
    have C0 : Hid (Blk (((w.alloc (.cells #[.int .i64 c.w,.int .i64 c.tl,.int .i64 c.ml,.int .i64 c.sh,.int .i64 c.ha,.int .i64 c.sg] 35)).alloc (.cells #[.int .i64 now,.slice a ts.length cap] 32)).alloc (.cells #[.int .i64 0,.slice none 0 0] 32)) w.heap.size #[.int .i64 c.w,.int .i64 c.tl,.int .i64 c.ml,.int .i64 c.sh,.int .i64 c.ha,.int .i64 c.sg] 35):=(((Blk.new _ _ _).alloc _).alloc _)
    have S0 : Hid (Blk (((w.alloc (.cells #[.int .i64 c.w,.int .i64 c.tl,.int .i64 c.ml,.int .i64 c.sh,.int .i64 c.ha,.int .i64 c.sg] 35)).alloc (.cells #[.int .i64 now,.slice a ts.length cap] 32)).alloc (.cells #[.int .i64 0,.slice none 0 0] 32)) (w.heap.size + 1) #[.int .i64 now,.slice a ts.length cap] 32):=hid (by have:=(Blk.new (w.alloc (.cells #[.int .i64 c.w,.int .i64 c.tl,.int .i64 c.ml,.int .i64 c.sh,.int .i64 c.ha,.int .i64 c.sg] 35)) #[.int .i64 now,.slice a ts.length cap] 32).alloc (.cells #[.int .i64 0,.slice none 0 0] 32); simpa using this)
    have R0 : Hid (Blk (((w.alloc (.cells #[.int .i64 c.w,.int .i64 c.tl,.int .i64 c.ml,.int .i64 c.sh,.int .i64 c.ha,.int .i64 c.sg] 35)).alloc (.cells #[.int .i64 now,.slice a ts.length cap] 32)).alloc (.cells #[.int .i64 0,.slice none 0 0] 32)) (w.heap.size + 1 + 1) #[.int .i64 0,.slice none 0 0] 32):=hid (by have:=Blk.new ((w.alloc (.cells #[.int .i64 c.w,.int .i64 c.tl,.int .i64 c.ml,.int .i64 c.sh,.int .i64 c.ha,.int .i64 c.sg] 35)).alloc (.cells #[.int .i64 now,.slice a ts.length cap] 32)) #[.int .i64 0,.slice none 0 0] 32; simpa using this)
    go_wp2_with fail
    refine (HO.out _ B0.out).mono ?_
    rintro e wv ⟨rfl,hb1⟩
    have Cv : Hid (Blk wv w.heap.size #[.int .i64 c.w,.int .i64 c.tl,.int .i64 c.ml,.int .i64 c.sh,.int .i64 c.ha,.int .i64 c.sg] 35):=C0.out.later hb1
    have Sv : Hid (Blk wv (w.heap.size + 1) #[.int .i64 now,.slice a ts.length cap] 32):=S0.out.later hb1
    have Rv : Hid (Blk wv (w.heap.size + 1 + 1) #[.int .i64 0,.slice none 0 0] 32):=R0.out.later hb1
    have Bv : Hid (Below w.heap.size w wv):=bto B0.out hb1
    clear hb1 HO C0 S0 R0 B0
    have bvx0 : wv.cell? ⟨w.heap.size,0,none⟩ = some (.int .i64 c.w):=Cv.out.cell 0
    have bvx1 : wv.cell? ⟨w.heap.size,1,none⟩ = some (.int .i64 c.tl):=Cv.out.cell 1
    have bvx2 : wv.cell? ⟨w.heap.size,2,none⟩ = some (.int .i64 c.ml):=Cv.out.cell 2
    have bvx3 : wv.cell? ⟨w.heap.size,3,none⟩ = some (.int .i64 c.sh):=Cv.out.cell 3
    have bvx4 : wv.cell? ⟨w.heap.size,4,none⟩ = some (.int .i64 c.ha):=Cv.out.cell 4
    have bvx5 : wv.cell? ⟨w.heap.size,5,none⟩ = some (.int .i64 c.sg):=Cv.out.cell 5
    have bvy0 : wv.cell? ⟨w.heap.size + 1,0,none⟩ = some (.int .i64 now):=Sv.out.cell 0
    have bvy1 : wv.cell? ⟨w.heap.size + 1,1,none⟩ = some (.slice a ts.length cap):=Sv.out.cell 1
    go_wp2_with fail
    refine (HSM.out _ Bv.out).mono ?_
    rintro e w9 ⟨ra,rc,rfl,ho9,hb9⟩
    have HO9 : Hid (TensOwn w9 wv.heap.size ra ts):=ho9
    have R9 : Hid (Blk w9 (w.heap.size + 1 + 1) #[.int .i64 0,.slice none 0 0] 32):=Rv.out.later hb9
    have B9 : Hid (Below w.heap.size w w9):=bto Bv.out hb9
    have hwv : w.heap.size + 1 + 1 < wv.heap.size:=lt_of_block Rv.out
    clear ho9 hb9
    have z0 : w9.cell? ⟨w.heap.size + 1 + 1,0,none⟩ = some (.int .i64 0):=R9.out.cell 0
    have z1 : w9.cell? ⟨w.heap.size + 1 + 1,1,none⟩ = some (.slice none 0 0):=R9.out.cell 1
    have f0:=R9.out.free 0
    have f1:=R9.out.free 1
    have hwl : w.heap.size + 1 + 1 < w9.heap.size:=lt_of_block R9.out
    go_wp2
    have HTE9 : Turn (· = w.heap.size + 1 + 1) w9 ((w9.setCell ⟨w.heap.size + 1 + 1,0,none⟩ (.int .i64 now)).setCell ⟨w.heap.size + 1 + 1,1,none⟩ (.slice ra ts.length rc)):=((Turn.refl (· = w.heap.size + 1 + 1) w9).setCell (Or.inl rfl) 0 _).setCell (Or.inl rfl) 1 _
    refine bodyPost_ret (v:=.tuple #[.agg #[.int .i64 now,.slice ra ts.length rc],.bool false]) (by simp [results,Tryz.results21,go_sem,z0,z1]) rfl ?_
    rw [HV2.out]
    have ho : TensOwn ((w9.setCell ⟨w.heap.size + 1 + 1,0,none⟩ (.int .i64 now)).setCell ⟨w.heap.size + 1 + 1,1,none⟩ (.slice ra ts.length rc)) w.heap.size ra ts:=(TensOwn.turned HO9.out HTE9 (fun g h1 h2 e=>by omega)).mono (by omega)
    have hbe : Below w.heap.size w ((w9.setCell ⟨w.heap.size + 1 + 1,0,none⟩ (.int .i64 now)).setCell ⟨w.heap.size + 1 + 1,1,none⟩ (.slice ra ts.length rc)):=((Turn.of (S:=fun i=>w.heap.size ≤ i) B9.out).trans' (HTE9.mono fun i _ e=>by omega)).below (Nat.le_refl _) fun i hi h=>by omega
    first
      | exact ⟨ra,⟨rc,rfl⟩,ho,hbe⟩
      | exact ⟨ra,rc,rfl,ho,hbe⟩
  by_cases h2 : 1000000000000 - now < by_
  · have HV2 : Hid (V = (now,ts,false)):=by show _ = _; rw [HV1.out,if_pos (Or.inr h2)]
    clear HV1 HWI
    go_enter Tryz.func21,Tryz.ntmps21
    have B0 : Hid (Below w.heap.size w (((w.alloc (.cells #[.int .i64 c.w,.int .i64 c.tl,.int .i64 c.ml,.int .i64 c.sh,.int .i64 c.ha,.int .i64 c.sg] 35)).alloc (.cells #[.int .i64 now,.slice a ts.length cap] 32)).alloc (.cells #[.int .i64 0,.slice none 0 0] 32))):=bto (bto (bnew _ _) (bnew _ _)) (bnew _ _)
    have C0 : Hid (Blk (((w.alloc (.cells #[.int .i64 c.w,.int .i64 c.tl,.int .i64 c.ml,.int .i64 c.sh,.int .i64 c.ha,.int .i64 c.sg] 35)).alloc (.cells #[.int .i64 now,.slice a ts.length cap] 32)).alloc (.cells #[.int .i64 0,.slice none 0 0] 32)) w.heap.size #[.int .i64 c.w,.int .i64 c.tl,.int .i64 c.ml,.int .i64 c.sh,.int .i64 c.ha,.int .i64 c.sg] 35):=(((Blk.new _ _ _).alloc _).alloc _)
    have S0 : Hid (Blk (((w.alloc (.cells #[.int .i64 c.w,.int .i64 c.tl,.int .i64 c.ml,.int .i64 c.sh,.int .i64 c.ha,.int .i64 c.sg] 35)).alloc (.cells #[.int .i64 now,.slice a ts.length cap] 32)).alloc (.cells #[.int .i64 0,.slice none 0 0] 32)) (w.heap.size + 1) #[.int .i64 now,.slice a ts.length cap] 32):=hid (by have:=(Blk.new (w.alloc (.cells #[.int .i64 c.w,.int .i64 c.tl,.int .i64 c.ml,.int .i64 c.sh,.int .i64 c.ha,.int .i64 c.sg] 35)) #[.int .i64 now,.slice a ts.length cap] 32).alloc (.cells #[.int .i64 0,.slice none 0 0] 32); simpa using this)
    have R0 : Hid (Blk (((w.alloc (.cells #[.int .i64 c.w,.int .i64 c.tl,.int .i64 c.ml,.int .i64 c.sh,.int .i64 c.ha,.int .i64 c.sg] 35)).alloc (.cells #[.int .i64 now,.slice a ts.length cap] 32)).alloc (.cells #[.int .i64 0,.slice none 0 0] 32)) (w.heap.size + 1 + 1) #[.int .i64 0,.slice none 0 0] 32):=hid (by have:=Blk.new ((w.alloc (.cells #[.int .i64 c.w,.int .i64 c.tl,.int .i64 c.ml,.int .i64 c.sh,.int .i64 c.ha,.int .i64 c.sg] 35)).alloc (.cells #[.int .i64 now,.slice a ts.length cap] 32)) #[.int .i64 0,.slice none 0 0] 32; simpa using this)
    go_wp2_with fail
    refine (HO.out _ B0.out).mono ?_
    rintro e wv ⟨rfl,hb1⟩
    have Cv : Hid (Blk wv w.heap.size #[.int .i64 c.w,.int .i64 c.tl,.int .i64 c.ml,.int .i64 c.sh,.int .i64 c.ha,.int .i64 c.sg] 35):=C0.out.later hb1
    have Sv : Hid (Blk wv (w.heap.size + 1) #[.int .i64 now,.slice a ts.length cap] 32):=S0.out.later hb1
    have Rv : Hid (Blk wv (w.heap.size + 1 + 1) #[.int .i64 0,.slice none 0 0] 32):=R0.out.later hb1
    have Bv : Hid (Below w.heap.size w wv):=bto B0.out hb1
    clear hb1 HO C0 S0 R0 B0
    have bvx0 : wv.cell? ⟨w.heap.size,0,none⟩ = some (.int .i64 c.w):=Cv.out.cell 0
    have bvx1 : wv.cell? ⟨w.heap.size,1,none⟩ = some (.int .i64 c.tl):=Cv.out.cell 1
    have bvx2 : wv.cell? ⟨w.heap.size,2,none⟩ = some (.int .i64 c.ml):=Cv.out.cell 2
    have bvx3 : wv.cell? ⟨w.heap.size,3,none⟩ = some (.int .i64 c.sh):=Cv.out.cell 3
    have bvx4 : wv.cell? ⟨w.heap.size,4,none⟩ = some (.int .i64 c.ha):=Cv.out.cell 4
    have bvx5 : wv.cell? ⟨w.heap.size,5,none⟩ = some (.int .i64 c.sg):=Cv.out.cell 5
    have bvy0 : wv.cell? ⟨w.heap.size + 1,0,none⟩ = some (.int .i64 now):=Sv.out.cell 0
    have bvy1 : wv.cell? ⟨w.heap.size + 1,1,none⟩ = some (.slice a ts.length cap):=Sv.out.cell 1
    go_wp2_with fail
    refine (HSM.out _ Bv.out).mono ?_
    rintro e w9 ⟨ra,rc,rfl,ho9,hb9⟩
    have HO9 : Hid (TensOwn w9 wv.heap.size ra ts):=ho9
    have R9 : Hid (Blk w9 (w.heap.size + 1 + 1) #[.int .i64 0,.slice none 0 0] 32):=Rv.out.later hb9
    have B9 : Hid (Below w.heap.size w w9):=bto Bv.out hb9
    have hwv : w.heap.size + 1 + 1 < wv.heap.size:=lt_of_block Rv.out
    clear ho9 hb9
    have z0 : w9.cell? ⟨w.heap.size + 1 + 1,0,none⟩ = some (.int .i64 0):=R9.out.cell 0
    have z1 : w9.cell? ⟨w.heap.size + 1 + 1,1,none⟩ = some (.slice none 0 0):=R9.out.cell 1
    have f0:=R9.out.free 0
    have f1:=R9.out.free 1
    have hwl : w.heap.size + 1 + 1 < w9.heap.size:=lt_of_block R9.out
    go_wp2
    have HTE9 : Turn (· = w.heap.size + 1 + 1) w9 ((w9.setCell ⟨w.heap.size + 1 + 1,0,none⟩ (.int .i64 now)).setCell ⟨w.heap.size + 1 + 1,1,none⟩ (.slice ra ts.length rc)):=((Turn.refl (· = w.heap.size + 1 + 1) w9).setCell (Or.inl rfl) 0 _).setCell (Or.inl rfl) 1 _
    refine bodyPost_ret (v:=.tuple #[.agg #[.int .i64 now,.slice ra ts.length rc],.bool false]) (by simp [results,Tryz.results21,go_sem,z0,z1]) rfl ?_
    rw [HV2.out]
    have ho : TensOwn ((w9.setCell ⟨w.heap.size + 1 + 1,0,none⟩ (.int .i64 now)).setCell ⟨w.heap.size + 1 + 1,1,none⟩ (.slice ra ts.length rc)) w.heap.size ra ts:=(TensOwn.turned HO9.out HTE9 (fun g h1 h2 e=>by omega)).mono (by omega)
    have hbe : Below w.heap.size w ((w9.setCell ⟨w.heap.size + 1 + 1,0,none⟩ (.int .i64 now)).setCell ⟨w.heap.size + 1 + 1,1,none⟩ (.slice ra ts.length rc)):=((Turn.of (S:=fun i=>w.heap.size ≤ i) B9.out).trans' (HTE9.mono fun i _ e=>by omega)).below (Nat.le_refl _) fun i hi h=>by omega
    first
      | exact ⟨ra,⟨rc,rfl⟩,ho,hbe⟩
      | exact ⟨ra,rc,rfl,ho,hbe⟩
  have HV2 : Hid (V = (now + by_,keptTs c.w (now + by_) ts,true)):=by show _ = _; rw [HV1.out,if_neg (fun e=>by rcases e with e | e; exact h1 e; exact h2 e)]
  have hwr : IntKind.i64.wrap (now + by_) = now + by_:=by
    simp only [IntKind.wrap,IntKind.bits,IntKind.signed]
    simp
    omega
  have HW2:=hid (fun W hW=>HWI.out W (now + by_) hW (by omega) (by omega))
  clear HV1 HSM HWI
  generalize keptTs c.w (now + by_) ts = RL at *
  generalize hnb : now + by_ = now' at *
  go_enter Tryz.func21,Tryz.ntmps21
  have B0 : Hid (Below w.heap.size w (((w.alloc (.cells #[.int .i64 c.w,.int .i64 c.tl,.int .i64 c.ml,.int .i64 c.sh,.int .i64 c.ha,.int .i64 c.sg] 35)).alloc (.cells #[.int .i64 now,.slice a ts.length cap] 32)).alloc (.cells #[.int .i64 0,.slice none 0 0] 32))):=bto (bto (bnew _ _) (bnew _ _)) (bnew _ _)
  have C0 : Hid (Blk (((w.alloc (.cells #[.int .i64 c.w,.int .i64 c.tl,.int .i64 c.ml,.int .i64 c.sh,.int .i64 c.ha,.int .i64 c.sg] 35)).alloc (.cells #[.int .i64 now,.slice a ts.length cap] 32)).alloc (.cells #[.int .i64 0,.slice none 0 0] 32)) w.heap.size #[.int .i64 c.w,.int .i64 c.tl,.int .i64 c.ml,.int .i64 c.sh,.int .i64 c.ha,.int .i64 c.sg] 35):=(((Blk.new _ _ _).alloc _).alloc _)
  have S0 : Hid (Blk (((w.alloc (.cells #[.int .i64 c.w,.int .i64 c.tl,.int .i64 c.ml,.int .i64 c.sh,.int .i64 c.ha,.int .i64 c.sg] 35)).alloc (.cells #[.int .i64 now,.slice a ts.length cap] 32)).alloc (.cells #[.int .i64 0,.slice none 0 0] 32)) (w.heap.size + 1) #[.int .i64 now,.slice a ts.length cap] 32):=hid (by have:=(Blk.new (w.alloc (.cells #[.int .i64 c.w,.int .i64 c.tl,.int .i64 c.ml,.int .i64 c.sh,.int .i64 c.ha,.int .i64 c.sg] 35)) #[.int .i64 now,.slice a ts.length cap] 32).alloc (.cells #[.int .i64 0,.slice none 0 0] 32); simpa using this)
  have R0 : Hid (Blk (((w.alloc (.cells #[.int .i64 c.w,.int .i64 c.tl,.int .i64 c.ml,.int .i64 c.sh,.int .i64 c.ha,.int .i64 c.sg] 35)).alloc (.cells #[.int .i64 now,.slice a ts.length cap] 32)).alloc (.cells #[.int .i64 0,.slice none 0 0] 32)) (w.heap.size + 1 + 1) #[.int .i64 0,.slice none 0 0] 32):=hid (by have:=Blk.new ((w.alloc (.cells #[.int .i64 c.w,.int .i64 c.tl,.int .i64 c.ml,.int .i64 c.sh,.int .i64 c.ha,.int .i64 c.sg] 35)).alloc (.cells #[.int .i64 now,.slice a ts.length cap] 32)) #[.int .i64 0,.slice none 0 0] 32; simpa using this)
  go_wp2_with fail
  refine (HO.out _ B0.out).mono ?_
  rintro e wv ⟨rfl,hb1⟩
  have Cv : Hid (Blk wv w.heap.size #[.int .i64 c.w,.int .i64 c.tl,.int .i64 c.ml,.int .i64 c.sh,.int .i64 c.ha,.int .i64 c.sg] 35):=C0.out.later hb1
  have Sv : Hid (Blk wv (w.heap.size + 1) #[.int .i64 now,.slice a ts.length cap] 32):=S0.out.later hb1
  have Rv : Hid (Blk wv (w.heap.size + 1 + 1) #[.int .i64 0,.slice none 0 0] 32):=R0.out.later hb1
  have Bv : Hid (Below w.heap.size w wv):=bto B0.out hb1
  clear hb1 HO C0 S0 R0 B0
  have bvx0 : wv.cell? ⟨w.heap.size,0,none⟩ = some (.int .i64 c.w):=Cv.out.cell 0
  have bvx1 : wv.cell? ⟨w.heap.size,1,none⟩ = some (.int .i64 c.tl):=Cv.out.cell 1
  have bvx2 : wv.cell? ⟨w.heap.size,2,none⟩ = some (.int .i64 c.ml):=Cv.out.cell 2
  have bvx3 : wv.cell? ⟨w.heap.size,3,none⟩ = some (.int .i64 c.sh):=Cv.out.cell 3
  have bvx4 : wv.cell? ⟨w.heap.size,4,none⟩ = some (.int .i64 c.ha):=Cv.out.cell 4
  have bvx5 : wv.cell? ⟨w.heap.size,5,none⟩ = some (.int .i64 c.sg):=Cv.out.cell 5
  have bvy0 : wv.cell? ⟨w.heap.size + 1,0,none⟩ = some (.int .i64 now):=Sv.out.cell 0
  have bvy1 : wv.cell? ⟨w.heap.size + 1,1,none⟩ = some (.slice a ts.length cap):=Sv.out.cell 1
  go_wp2_with fail
  refine (HW2.out _ Bv.out).mono ?_
  rintro e w9 ⟨ra,rc,rfl,ho9,hb9⟩
  have HO9 : Hid (TensOwn w9 wv.heap.size ra RL):=ho9
  have R9 : Hid (Blk w9 (w.heap.size + 1 + 1) #[.int .i64 0,.slice none 0 0] 32):=Rv.out.later hb9
  have B9 : Hid (Below w.heap.size w w9):=bto Bv.out hb9
  have hwv : w.heap.size + 1 + 1 < wv.heap.size:=lt_of_block Rv.out
  clear ho9 hb9
  have z0 : w9.cell? ⟨w.heap.size + 1 + 1,0,none⟩ = some (.int .i64 0):=R9.out.cell 0
  have z1 : w9.cell? ⟨w.heap.size + 1 + 1,1,none⟩ = some (.slice none 0 0):=R9.out.cell 1
  have f0:=R9.out.free 0
  have f1:=R9.out.free 1
  have hwl : w.heap.size + 1 + 1 < w9.heap.size:=lt_of_block R9.out
  go_wp2
  have HTE9 : Turn (· = w.heap.size + 1 + 1) w9 ((w9.setCell ⟨w.heap.size + 1 + 1,0,none⟩ (.int .i64 now')).setCell ⟨w.heap.size + 1 + 1,1,none⟩ (.slice ra RL.length rc)):=((Turn.refl (· = w.heap.size + 1 + 1) w9).setCell (Or.inl rfl) 0 _).setCell (Or.inl rfl) 1 _
  refine bodyPost_ret (v:=.tuple #[.agg #[.int .i64 now',.slice ra RL.length rc],.bool true]) (by simp [results,Tryz.results21,go_sem,z0,z1]) rfl ?_
  rw [HV2.out]
  have ho : TensOwn ((w9.setCell ⟨w.heap.size + 1 + 1,0,none⟩ (.int .i64 now')).setCell ⟨w.heap.size + 1 + 1,1,none⟩ (.slice ra RL.length rc)) w.heap.size ra RL:=(TensOwn.turned HO9.out HTE9 (fun g h1 h2 e=>by omega)).mono (by omega)
  have hbe : Below w.heap.size w ((w9.setCell ⟨w.heap.size + 1 + 1,0,none⟩ (.int .i64 now')).setCell ⟨w.heap.size + 1 + 1,1,none⟩ (.slice ra RL.length rc)):=((Turn.of (S:=fun i=>w.heap.size ≤ i) B9.out).trans' (HTE9.mono fun i _ e=>by omega)).below (Nat.le_refl _) fun i hi h=>by omega
  first
    | exact ⟨ra,⟨rc,rfl⟩,ho,hbe⟩
    | exact ⟨ra,rc,rfl,ho,hbe⟩
end Go.Proofs.YtkmdbpaeeagccaaGreatDoor
namespace Go.Proofs.YtkmdbpaeeagccaaGreatDoor
open Go.RowKit
def KXR (w2 : World) (X : Nat) (K : TenD) (wx : World) : Prop :=
  ∃ M q1 e1 q2 e2,Blk wx X #[.string K.name,.int .i64 K.limit,.slice q1 K.mets.length e1,.slice q2 K.sers.length e2] 78 ∧ PairsOwn wx w2.heap.size q1 K.mets ∧ (∀ g o,q1 = some ⟨g,o,none⟩ → g < M) ∧ wx.ownsRow M 84 2 (.slice q2 K.sers.length e2) K.sers.length (flatK K.sers) ∧ (∀ q,(Value.slice q2 K.sers.length e2).ownBlock = some q → q ≠ X) ∧ (∀ g o,q1 = some ⟨g,o,none⟩ → K.mets ≠ [] → g ≠ X) ∧ w2.heap.size ≤ X ∧ w2.heap.size ≤ M ∧ Below w2.heap.size w2 wx
theorem kxr_new {w2 w4 : World} {K : TenD} {B M : Nat} {q1 q2 : Option Addr} {e1 e2 : Nat} (hB : w2.heap.size ≤ B) (h1 : PairsOwn w4 B q1 K.mets) (h1M : ∀ g o,q1 = some ⟨g,o,none⟩ → g < M) (h2 : w4.ownsRow M 84 2 (.slice q2 K.sers.length e2) K.sers.length (flatK K.sers)) (hM : B ≤ M) (hb : Below w2.heap.size w2 w4) :
    KXR w2 w4.heap.size K (w4.alloc (.cells #[.string K.name,.int .i64 K.limit,.slice q1 K.mets.length e1,.slice q2 K.sers.length e2] 78)):=by
  refine ⟨M,q1,e1,q2,e2,Blk.new _ _ _,(h1.mono hB).later (bnew _ _),h1M,row_later h2 (bnew _ _),fun q hq e=>?_,fun g o e hne e'=>?_,hb.size,by omega,bto hb (bnew _ _)⟩
  · have:=(h2.lt q hq).2; omega
  · rcases h1 with h | ⟨g',o',cur,t,e1,_,hg,_⟩
    · exact hne h
    · rw [e1] at e
      simp only [Option.some.injEq,Addr.mk.injEq,and_true] at e
      have:=lt_of_block hg
      omega
theorem kxr_old {w2 w4 : World} {K : TenD} {B M X : Nat} {q1 q2 : Option Addr} {e1 e2 : Nat} (h1 : PairsOwn w4 B q1 K.mets) (h1M : ∀ g o,q1 = some ⟨g,o,none⟩ → g < M) (h2 : w4.ownsRow M 84 2 (.slice q2 K.sers.length e2) K.sers.length (flatK K.sers)) (hX : X < B) (hM : B ≤ M) (hx : w2.heap.size ≤ X) (hbx : Blk w4 X #[.string ⟨#[]⟩,.int .i64 0,.slice none 0 0,.slice none 0 0] 78) (hb : Below w2.heap.size w2 w4) :
    KXR w2 X K ((((w4.setCell ⟨X,0,none⟩ (.string K.name)).setCell ⟨X,1,none⟩ (.int .i64 K.limit)).setCell ⟨X,2,none⟩ (.slice q1 K.mets.length e1)).setCell ⟨X,3,none⟩ (.slice q2 K.sers.length e2)):=by
  have ht : Turn (· = X) w4 ((((w4.setCell ⟨X,0,none⟩ (.string K.name)).setCell ⟨X,1,none⟩ (.int .i64 K.limit)).setCell ⟨X,2,none⟩ (.slice q1 K.mets.length e1)).setCell ⟨X,3,none⟩ (.slice q2 K.sers.length e2)):=((((Turn.refl (· = X) w4).setCell (Or.inl rfl) 0 _).setCell (Or.inl rfl) 1 _).setCell (Or.inl rfl) 2 _).setCell (Or.inl rfl) 3 _
  refine ⟨M,q1,e1,q2,e2,?_,?_,h1M,ht.row h2 (fun q hq e=>by have:=(h2.lt q hq).1; omega),fun q hq e=>by have:=(h2.lt q hq).1; omega,fun g o e hne e'=>?_,hx,by omega,set4 hb hx⟩
  · have:=(((hbx.set 0 (.string K.name)).set 1 (.int .i64 K.limit)).set 2 (.slice q1 K.mets.length e1)).set 3 (.slice q2 K.sers.length e2)
    simpa using this
  · rcases h1 with h | ⟨g,o,cur,t,rfl,hB',hg,h⟩
    · exact Or.inl h
    · have hk:=ht.block g (lt_of_block hg) (by omega)
      have hc : ∀ j,((((w4.setCell ⟨X,0,none⟩ (.string K.name)).setCell ⟨X,1,none⟩ (.int .i64 K.limit)).setCell ⟨X,2,none⟩ (.slice (some ⟨g,o,none⟩) K.mets.length e1)).setCell ⟨X,3,none⟩ (.slice q2 K.sers.length e2)).cell? ⟨g,j,none⟩ = w4.cell? ⟨g,j,none⟩:=fun j=>World.cell?_of_block hk
      exact Or.inr ⟨g,o,cur,t,rfl,by omega,hk.trans hg,fun i hi=>by simp only [hc]; exact h i hi⟩
  · rcases h1 with h | ⟨g',o',cur,t,e1,hB',hg,_⟩
    · exact hne h
    · rw [e1] at e
      simp only [Option.some.injEq,Addr.mk.injEq,and_true] at e
      omega
theorem own_keep {S : Nat → Prop} {w W : World} {B : Nat} {q : Option Addr} {ps : List PairD} (h : PairsOwn w B q ps) (ht : Turn S w W) (hS : ∀ g o,q = some ⟨g,o,none⟩ → ps ≠ [] → ¬ S g) : PairsIn W q ps:=by
  rcases h with h | ⟨g,o,cur,t,rfl,hB,hg,h⟩
  · exact Or.inl h
  · by_cases hn : ps = []
    · exact Or.inl hn
    · have hk:=ht.block g (lt_of_block hg) (hS g o rfl hn)
      have hc : ∀ j,W.cell? ⟨g,j,none⟩ = w.cell? ⟨g,j,none⟩:=fun j=>World.cell?_of_block hk
      exact Or.inr ⟨g,o,rfl,by have:=ht.size; have:=lt_of_block hg; omega,fun i hi=>by simp only [hc]; exact h i hi⟩
theorem insBy_at {l : List PairD} (hr : RiseBy (·.s) l) {k : ByteArray} {n : Int} {i : Nat} (hi : i < l.length) (h : l[i].s = k) : insBy (·.s) ⟨k,n⟩ l = l.set i ⟨k,n⟩:=by
  induction l generalizing i with
  | nil=>simp at hi
  | cons p r ih =>
    cases i with
    | zero =>
      have hp : p.s = k:=h
      rw [insBy,if_neg (by show ¬ blt p.s k = true; rw [hp,blt_irrefl]; simp),if_pos (by exact (same_iff _ _).2 hp)]
      rfl
    | succ i =>
      have hi' : i < r.length:=by simpa using hi
      have hk : r[i].s = k:=by simpa using h
      have hb : blt p.s k = true:=by rw [← hk]; exact hr.head _ (List.getElem_mem hi')
      rw [insBy,if_pos hb,ih hr.tail hi' hk]
      rfl
theorem flatK_set (l : List PairD) (i : Nat) (hi : i < l.length) (n : Int) : flatK (l.set i ⟨l[i].s,n⟩) = (flatK l).set (i * 2 + 1) (.int .i64 n):=by
  induction l generalizing i with
  | nil=>simp at hi
  | cons p r ih =>
    cases i with
    | zero=>rfl
    | succ i =>
      have hi' : i < r.length:=by simpa using hi
      have:=ih i hi'
      simp only [flatK,List.set_cons_succ,List.flatMap_cons,List.getElem_cons_succ] at this ⊢
      rw [this]
      have e : (i + 1) * 2 + 1 = (i * 2 + 1) + 2:=by omega
      rw [e]
      rfl
theorem row_set1 {w : World} {M g n cap : Nat} {xs : List Value} {j : Nat} {v : Value} (h : w.ownsRow M 84 2 (.slice (some ⟨g,0,none⟩) n cap) n xs) : (w.setCell ⟨g,j,none⟩ v).ownsRow M 84 2 (.slice (some ⟨g,0,none⟩) n cap) n (xs.set j v):=by
  refine ⟨by rw [List.length_set]; exact h.1,?_⟩
  rcases h.2 with ⟨e,_⟩ | ⟨g',cap',cur,e,hB,hb,h1,h2,h3,h4⟩
  · cases e
  · simp only [Value.slice.injEq,Option.some.injEq,Addr.mk.injEq,and_true] at e
    obtain ⟨rfl,_,rfl⟩:=e
    have hb' : Blk w g cur 84:=hb
    refine Or.inr ⟨g,cap,cur.setIfInBounds j v,rfl,hB,hb'.set j v,h1,h2,by simp [h3],?_⟩
    have hl:=h.1
    rw [Array.toList_setIfInBounds,List.take_set,h4]
theorem row_addr {w : World} {M n cap : Nat} {a : Option Addr} {xs : List Value} (h : w.ownsRow M 84 2 (.slice a n cap) n xs) (hn : 0 < n) : ∃ g,a = some ⟨g,0,none⟩:=by
  rcases h.2 with ⟨_,e⟩ | ⟨g,cap',cur,e,_⟩
  · omega
  · simp only [Value.slice.injEq] at e
    exact ⟨g,e.1⟩
theorem row_or {w : World} {M n cap : Nat} {a : Option Addr} {xs : List Value} (h : w.ownsRow M 84 2 (.slice a n cap) n xs) : (a = none ∧ cap = 0 ∧ n = 0) ∨ ∃ g,a = some ⟨g,0,none⟩:=by
  rcases h.2 with ⟨e,e2⟩ | ⟨g,cap',cur,e,_⟩
  · simp only [Value.slice.injEq] at e
    exact Or.inl ⟨e.1,e.2.2,e2⟩
  · simp only [Value.slice.injEq] at e
    exact Or.inr ⟨g,e.1⟩
theorem row_cap {w : World} {M n cap g : Nat} {xs : List Value} (h : w.ownsRow M 84 2 (.slice (some ⟨g,0,none⟩) n cap) n xs) : n ≤ cap:=by
  rcases h.2 with ⟨e,_⟩ | ⟨g',cap',cur,e,_,_,h1,_⟩
  · cases e
  · simp only [Value.slice.injEq] at e
    rw [e.2.2]; exact h1
theorem src_two {w : World} {M g cap j : Nat} {l : List PairD} (h : w.ownsRow M 84 2 (.slice (some ⟨g,0,none⟩) l.length cap) l.length (flatK l)) (hj : j ≤ l.length) : SrcAt w (some ⟨g,0,none⟩) j (flatK (l.take j)) ∧ SrcAt w (some ⟨g,j * 2,none⟩) (l.length - j) (flatK (l.drop j)):=by
  have hp:=pairs_of_row h
  by_cases hn : l = []
  · subst hn
    exact ⟨Or.inl (by simpa using hj),Or.inl (by simp)⟩
  rcases hp with h0 | ⟨g',o,cur,t,e,_,_,hc⟩
  · exact absurd h0 hn
  simp only [Option.some.injEq,Addr.mk.injEq,and_true] at e
  obtain ⟨rfl,rfl⟩:=e
  refine ⟨Or.inr ⟨_,rfl,pairs_news fun i hi=>?_⟩,Or.inr ⟨_,rfl,pairs_news fun i hi=>?_⟩⟩
  · rw [List.length_take] at hi
    have:=hc i (by omega)
    simpa [List.getElem_take] using this
  · rw [List.length_drop] at hi
    have:=hc (j + i) (by omega)
    have e1 : 0 + (j + i) * 2 = j * 2 + i * 2:=by omega
    rw [e1] at this
    simpa [List.getElem_drop] using this
theorem wpList_append_anyS {P : Program} (w : World) {ops : Array Oper} {rest : List Oper} {o : Oper} {a : Act} {Q : Exit → Act → World → Prop} (hgd : o.guard = none) (s x : Operand) (t : TypeId)
    (ho : o.op = .call { callee:=.builtin .append,args:=#[s,x],argTypes:=#[t,t] })
    (base : Nat) (e : TypeId) (i : TypeInfo) (z : Value) (size bytes : Nat) (ht : P.underlying t = some (.slice e)) (hi : P.info? e = some i) (hz : i.zero = some z)
    (hsize : i.size = size) (hby : i.bytes = bytes) (hzs : z.cells.size = size) (hsz : 0 < size)
    (g0 n c0 : Nat) (xs : List Value) (hs : a.eval s = .slice (some ⟨g0,0,none⟩) n c0) (hown : w.ownsRow base e size (.slice (some ⟨g0,0,none⟩) n c0) n xs)
    (ad : Option Addr) (m c : Nat) (news : List Value) (hx : a.eval x = .slice ad m c) (hl : news.length = m * size) (hsrc : SrcAt w ad m news) (h1 : ∀ u ∈ news,u.oneCell' = true)
    (h63 : n + m ≤ maxLen) (hbytes : (n + m) * bytes ≤ 140737488355328) (hbase : base ≤ w.heap.size)
    (h : ∀ g cap w',w'.ownsRow base e size (.slice (some ⟨g,0,none⟩) (n + m) cap) (n + m) (xs ++ news) → Below base w w' → (∀ k,k < w.heap.size → k ≠ g0 → w'.heap[k]? = w.heap[k]?) → base ≤ g → (g = g0 ∨ g = w.heap.size) → g < w'.heap.size → wpList P ops Q rest (a.put o.dst (.slice (some ⟨g,0,none⟩) (n + m) cap)) w') : wpList P ops Q (o :: rest) a w :=
  wpList_plain hgd fun _ hK=>wp_append_any w hgd s x t ho base e i z size bytes ht hi hz hsize hby hzs hsz g0 n c0 xs hs hown ad m c news hx hl hsrc h1 h63 hbytes hbase fun g cap w' h2 h3 h4 h5 h6 h7=>hK _ _ (h g cap w' h2 h3 h4 h5 h6 h7)
end Go.Proofs.YtkmdbpaeeagccaaGreatDoor
namespace Go.Proofs.YtkmdbpaeeagccaaGreatDoor
open Go.RowKit Go.Maps
def AdOut (V : Int × List TenD × Nat) (w : World) (e : Ending) (w' : World) : Prop :=
  ∃ a cap,e = .returned (.tuple #[.agg #[.int .i64 V.1,.slice a V.2.1.length cap],.int .i64 (V.2.2 : Nat)]) ∧ TensOwn w' w.heap.size a V.2.1 ∧ Below w.heap.size w w'
end Go.Proofs.YtkmdbpaeeagccaaGreatDoor
