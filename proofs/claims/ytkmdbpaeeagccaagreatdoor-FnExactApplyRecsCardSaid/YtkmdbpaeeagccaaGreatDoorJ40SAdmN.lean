import Derived.Test.YtkmdbpaeeagccaaGreatDoorProg
import Derived.Test.YtkmdbpaeeagccaaGreatDoorJ37AdO
import Derived.Test.YtkmdbpaeeagccaaGreatDoorJ35StrL
import Derived.Test.YtkmdbpaeeagccaaGreatDoorJ29SSta
import Derived.Test.YtkmdbpaeeagccaaGreatDoorJ38SAdm0
import Derived.Deep.RegionHeld3
import Derived.Deep.DeepCutAuto
namespace Go.Proofs.YtkmdbpaeeagccaaGreatDoor
open Go.RowKit
set_option maxRecDepth 100000 in
set_option maxHeartbeats 32000000 in
theorem specAdmit_new (c : CfgD) (now : Int) (a : Option Addr) (cap : Nat) (ts : List TenD) (tenant key : ByteArray) (w : World) (hf : TensIn w a ts) (hbk : ts.length + tensBulk ts ≤ 1100000) (hn : tenant.size ≤ 1100000) (hk : key.size ≤ 1100000) (h0' : stateB c now ts = true) (hbn : (tnameB tenant && keyOK key) = true) (hkn : getBy (·.s) key (tenOf ts tenant).sers = none) :
    Calls Tryz.prog 20 #[cfgV c,.agg #[.int .i64 now,.slice a ts.length cap],.string tenant,.string key] w fun e w'=>AdOut (admitV c now ts tenant key) w e w':=by
  obtain ⟨f1,f2,f3,f4⟩:=fit_of hbk
  have HO : Hid (∀ W,Below w.heap.size w W → Calls Tryz.prog 18 #[cfgV c,.agg #[.int .i64 now,.slice a ts.length cap]] W fun e w'=>e = .returned (.bool (stateB c now ts)) ∧ Below W.heap.size W w'):=fun W hW=>specState_any c now a cap ts W (hf.later hW) f2 (by omega)
  have HTN : Hid (∀ W,Calls Tryz.prog 37 #[.string tenant] W fun e w'=>e = .returned (.bool (tnameB tenant)) ∧ w' = W):=fun W=>l4TenantName_any tenant W (by unfold maxLen; omega)
  have HKY : Hid (∀ W,Calls Tryz.prog 40 #[.string key] W fun e w'=>e = .returned (.bool (keyOK key)) ∧ Below W.heap.size W w'):=fun W=>l4Key_any key W (by omega)
  have HV : Hid (admitV c now ts tenant key = if stateB c now ts = false then (0,[],5) else if (tnameB tenant && keyOK key) = false then (now,ts,5) else if (getBy (·.s) key (tenOf ts tenant).sers).isSome = true then (now,insBy (·.name) (addT (tenOf ts tenant) key now) ts,1) else if (countV c (tenOf ts tenant) ByteArray.empty).2 ≤ (countV c (tenOf ts tenant) ByteArray.empty).1 ∨ (idleB (tenOf ts tenant) = true ∧ ts.length = 10000) then (now,ts,3) else if (countV c (tenOf ts tenant) (metK key)).2 ≤ (countV c (tenOf ts tenant) (metK key)).1 then (now,ts,4) else (now,insBy (·.name) (addT (tenOf ts tenant) key now) ts,2)):=rfl
  have HTE : Hid (∀ W,Below w.heap.size w W → Calls Tryz.prog 43 #[.agg #[.int .i64 now,.slice a ts.length cap],.string tenant] W fun e w'=>TenV w' e (tenOf ts tenant) ∧ Below W.heap.size W w'):=fun W hW=>l4Tenant_any now a cap ts tenant W (hf.later hW) (by omega)
  unfold TenV at HTE
  unfold AdOut
  obtain ⟨hcf,hn0,hn1,hlen,htens⟩:=tens_of h0'
  have hfs:=fitS_of hbk
  have HSM : Hid (∀ W,Below w.heap.size w W → Calls Tryz.prog 19 #[cfgV c,.agg #[.int .i64 now,.slice a ts.length cap]] W fun e w'=>∃ a' cap',e = .returned (.agg #[.int .i64 now,.slice a' ts.length cap']) ∧ TensOwn w' W.heap.size a' ts ∧ Below W.heap.size W w'):=fun W hW=>l4Same_any c now a cap ts W (hf.later hW) h0' hbk
  obtain ⟨_,_,hf3,hf4,hf5⟩:=tenOf_fit hfs hn
  have hlv : ∀ x ∈ (tenOf ts tenant).sers,now - x.n < c.w:=tenOf_live htens
  have hfw : FitW (tenOf ts tenant):=by
    rcases tenOf_in (ts:=ts) (name:=tenant) with ⟨hmm,_⟩ | ⟨e,_⟩
    · exact fitW_of h0' hbk _ hmm
    · rw [e]; exact ⟨Nat.zero_le _,Nat.zero_le _,fun i h=>absurd h (by simp)⟩
  have hrs : RiseBy (·.s) (tenOf ts tenant).sers:=by
    rcases tenOf_in (ts:=ts) (name:=tenant) with ⟨hmm,_⟩ | ⟨e,_⟩
    · have h1:=(ten_parts (tens_at htens _ hmm)).2.2.1
      have:=sers_rise (n:=(tenOf ts tenant).sers.length) h1 (Nat.le_refl _)
      rwa [List.take_length] at this
    · rw [e]; exact List.Pairwise.nil
  have hcw : 1 ≤ c.w:=by
    simp only [cfgB,Bool.and_eq_true] at hcf
    exact (btw_in hcf.1.1.1.1.1).1
  have HKA : Hid (keptTs c.w now (insBy (·.name) ⟨(tenOf ts tenant).name,(tenOf ts tenant).limit,(tenOf ts tenant).mets,insBy (·.s) ⟨key,now⟩ (tenOf ts tenant).sers⟩ ts) = insBy (·.name) (addT (tenOf ts tenant) key now) ts):=keptTs_add htens (tens_up htens) hcw
  have HFI : Hid (FitW ⟨(tenOf ts tenant).name,(tenOf ts tenant).limit,(tenOf ts tenant).mets,insBy (·.s) ⟨key,now⟩ (tenOf ts tenant).sers⟩):=by
    have hil:=insBy_len_le (key:=fun p : PairD=>p.s) (a:=⟨key,now⟩) (tenOf ts tenant).sers
    refine hid ⟨hfw.1,by show (insBy (·.s) (⟨key,now⟩ : PairD) (tenOf ts tenant).sers).length ≤ _; omega,fun i h=>?_⟩
    rcases insBy_mem (List.getElem_mem h) with e | e
    · show 0 ≤ ((insBy (·.s) (⟨key,now⟩ : PairD) (tenOf ts tenant).sers)[i]'h).n ∧ _
      rw [e]
      exact ⟨hn0,by show now ≤ _; omega⟩
    · obtain ⟨j,hj,e'⟩:=List.getElem_of_mem e
      have:=hfw.2.2 j hj
      rw [e'] at this
      exact this
  have HCT : Hid (∀ W m a1 a2 c1 c2,PairsIn W a1 (tenOf ts tenant).mets → PairsIn W a2 (tenOf ts tenant).sers → Calls Tryz.prog 44 #[cfgV c,.agg #[.string (tenOf ts tenant).name,.int .i64 (tenOf ts tenant).limit,.slice a1 (tenOf ts tenant).mets.length c1,.slice a2 (tenOf ts tenant).sers.length c2],.string m] W fun e w'=>e = .returned (.tuple #[.int .i64 (countV c (tenOf ts tenant) m).1,.int .i64 (countV c (tenOf ts tenant) m).2]) ∧ Below W.heap.size W w'):=fun W m a1 a2 c1 c2 p1 p2=>l4Count_any c _ a1 a2 c1 c2 m W p1 p2 (fun i h=>by have:=hf3 _ (List.getElem_mem h); omega) (by omega) (by omega)
  have HID : Hid (∀ W a1 a2 c1 c2,Calls Tryz.prog 38 #[.agg #[.string (tenOf ts tenant).name,.int .i64 (tenOf ts tenant).limit,.slice a1 (tenOf ts tenant).mets.length c1,.slice a2 (tenOf ts tenant).sers.length c2]] W fun e w'=>e = .returned (.bool (idleB (tenOf ts tenant))) ∧ Below W.heap.size W w'):=fun W a1 a2 c1 c2=>l4Idle_any _ a1 a2 c1 c2 W
  have HMX : ∀ W,Calls Tryz.prog 45 #[.string key] W fun e w'=>e = .returned (.string (metK key)) ∧ Below W.heap.size W w':=fun W=>specMet_any key W (by omega)
  have HKP : Hid (∀ W a1 a2 c1 c2,PairsIn W a1 (tenOf ts tenant).mets → PairsIn W a2 (tenOf ts tenant).sers → Calls Tryz.prog 42 #[.agg #[.string (tenOf ts tenant).name,.int .i64 (tenOf ts tenant).limit,.slice a1 (tenOf ts tenant).mets.length c1,.slice a2 (tenOf ts tenant).sers.length c2],.int .i64 now,.int .i64 c.w] W fun e w'=>TelOutR W (tenOf ts tenant).name (tenOf ts tenant) e w'):=fun W a1 a2 c1 c2 p1 p2=>by
    have:=l4KeptR_any (tenOf ts tenant) a1 a2 c1 c2 now c.w W p1 p2 (by omega) (by omega) hn0 (by omega) hfw.2.2
    rw [kept_same hlv] at this
    exact this
  unfold TelOutR at HKP
  have HWI : Hid (∀ W nm L ms ss q1 q2 e1 e2,Below w.heap.size w W → PairsIn W q1 ms → PairsIn W q2 ss → (FitW ⟨nm,L,ms,ss⟩ ∧ nm = tenant ∧ tenant.toList.isEmpty = false) → Calls Tryz.prog 41 #[cfgV c,.agg #[.int .i64 now,.slice a ts.length cap],.int .i64 now,.agg #[.string nm,.int .i64 L,.slice q1 ms.length e1,.slice q2 ss.length e2]] W fun e w'=>∃ a' cap',e = .returned (.agg #[.int .i64 now,.slice a' (keptTs c.w now (insBy (·.name) ⟨nm,L,ms,ss⟩ ts)).length cap']) ∧ TensOwn w' W.heap.size a' (keptTs c.w now (insBy (·.name) ⟨nm,L,ms,ss⟩ ts)) ∧ Below W.heap.size W w'):=fun W nm L ms ss q1 q2 e1 e2 hW p1 p2 hft=>by
    have:=l4With_any c now now a cap ts ⟨nm,L,ms,ss⟩ q1 q2 e1 e2 W (hf.later hW) p1 p2 (by omega) (fun x hx=>by
      rcases hx with rfl | hx
      · exact hft.1
      · exact fitW_of h0' hbk x hx) hn0 (by omega)
    have e : (⟨nm,L,ms,ss⟩ : TenD).name.toList.isEmpty = false:=by show nm.toList.isEmpty = false; rw [hft.2.1]; exact hft.2.2
    rw [e,wAll_ins (tens_up htens)] at this
    exact this
  have HNM : Hid ((tenOf ts tenant).name = tenant):=tenOf_name
  have HRS:=hid hrs
  have HFS : Hid ((tenOf ts tenant).sers.length ≤ 1100000):=hf5
  have HV0 : Hid (admitV c now ts tenant key = if (tnameB tenant && keyOK key) = false then (now,ts,5) else if (getBy (·.s) key (tenOf ts tenant).sers).isSome = true then (now,insBy (·.name) (addT (tenOf ts tenant) key now) ts,1) else if (countV c (tenOf ts tenant) ByteArray.empty).2 ≤ (countV c (tenOf ts tenant) ByteArray.empty).1 ∨ (idleB (tenOf ts tenant) = true ∧ ts.length = 10000) then (now,ts,3) else if (countV c (tenOf ts tenant) (metK key)).2 ≤ (countV c (tenOf ts tenant) (metK key)).1 then (now,ts,4) else (now,insBy (·.name) (addT (tenOf ts tenant) key now) ts,2)):=by show _ = _; rw [HV.out,if_neg (by rw [h0']; simp)]
  have HNE : Hid (tnameB tenant = true → tenant.toList.isEmpty = false):=tname_someA
  rw [h0'] at HO
  clear hf HV h0' f1 f2 f3 f4 hcf hlen htens hfs hf3 hf4 hf5 hlv hfw hrs hcw
  generalize admitV c now ts tenant key = V at *
  generalize tenOf ts tenant = tn at *
  obtain ⟨ti,hti,hz0,hz1,hz2⟩:=info_parts info_srK
  have HI : Hid (Tryz.prog.info? 84 = some ti):=hti
  clear hti
  unfold cfgV at *
  generalize hb1 : tnameB tenant = b1 at *
  generalize hb2 : keyOK key = b2 at *
  clear hb1 hb2
  have HKN:=hid hkn
  clear hkn
  obtain ⟨rfl,rfl⟩ : b1 = true ∧ b2 = true:=by simpa using hbn
  clear hbn
  have HNE2 : Hid (tenant.toList.isEmpty = false):=HNE.out rfl
  clear HNE
  have HNE:=HNE2
  clear HNE2
  have HV1 : Hid (V = if (getBy (·.s) key tn.sers).isSome = true then (now,insBy (·.name) (addT tn key now) ts,1) else if (countV c tn ByteArray.empty).2 ≤ (countV c tn ByteArray.empty).1 ∨ (idleB tn = true ∧ ts.length = 10000) then (now,ts,3) else if (countV c tn (metK key)).2 ≤ (countV c tn (metK key)).1 then (now,ts,4) else (now,insBy (·.name) (addT tn key now) ts,2)):=by show _ = _; rw [HV0.out,if_neg (by simp)]
  clear HV0
  go_enter Tryz.func20,Tryz.ntmps20
  have B0 : Hid (Below w.heap.size w (((w.alloc (.cells #[.int .i64 c.w,.int .i64 c.tl,.int .i64 c.ml,.int .i64 c.sh,.int .i64 c.ha,.int .i64 c.sg] 35)).alloc (.cells #[.int .i64 now,.slice a ts.length cap] 32)).alloc (.cells #[.int .i64 0,.slice none 0 0] 32))):=bto (bto (bnew _ _) (bnew _ _)) (bnew _ _)
  have C0 : Hid (Blk (((w.alloc (.cells #[.int .i64 c.w,.int .i64 c.tl,.int .i64 c.ml,.int .i64 c.sh,.int .i64 c.ha,.int .i64 c.sg] 35)).alloc (.cells #[.int .i64 now,.slice a ts.length cap] 32)).alloc (.cells #[.int .i64 0,.slice none 0 0] 32)) w.heap.size #[.int .i64 c.w,.int .i64 c.tl,.int .i64 c.ml,.int .i64 c.sh,.int .i64 c.ha,.int .i64 c.sg] 35):=(((Blk.new _ _ _).alloc _).alloc _)
  have S0 : Hid (Blk (((w.alloc (.cells #[.int .i64 c.w,.int .i64 c.tl,.int .i64 c.ml,.int .i64 c.sh,.int .i64 c.ha,.int .i64 c.sg] 35)).alloc (.cells #[.int .i64 now,.slice a ts.length cap] 32)).alloc (.cells #[.int .i64 0,.slice none 0 0] 32)) (w.heap.size + 1) #[.int .i64 now,.slice a ts.length cap] 32):=hid (by have:=(Blk.new (w.alloc (.cells #[.int .i64 c.w,.int .i64 c.tl,.int .i64 c.ml,.int .i64 c.sh,.int .i64 c.ha,.int .i64 c.sg] 35)) #[.int .i64 now,.slice a ts.length cap] 32).alloc (.cells #[.int .i64 0,.slice none 0 0] 32); simpa using this)
  have R0 : Hid (Blk (((w.alloc (.cells #[.int .i64 c.w,.int .i64 c.tl,.int .i64 c.ml,.int .i64 c.sh,.int .i64 c.ha,.int .i64 c.sg] 35)).alloc (.cells #[.int .i64 now,.slice a ts.length cap] 32)).alloc (.cells #[.int .i64 0,.slice none 0 0] 32)) (w.heap.size + 1 + 1) #[.int .i64 0,.slice none 0 0] 32):=hid (by have:=Blk.new ((w.alloc (.cells #[.int .i64 c.w,.int .i64 c.tl,.int .i64 c.ml,.int .i64 c.sh,.int .i64 c.ha,.int .i64 c.sg] 35)).alloc (.cells #[.int .i64 now,.slice a ts.length cap] 32)) #[.int .i64 0,.slice none 0 0] 32; simpa using this)
  go_wp2_with fail
  refine (HO.out _ B0.out).mono ?_
  rintro e wo ⟨rfl,hb1⟩
  have Co : Hid (Blk wo w.heap.size #[.int .i64 c.w,.int .i64 c.tl,.int .i64 c.ml,.int .i64 c.sh,.int .i64 c.ha,.int .i64 c.sg] 35):=C0.out.later hb1
  have So : Hid (Blk wo (w.heap.size + 1) #[.int .i64 now,.slice a ts.length cap] 32):=S0.out.later hb1
  have Ro : Hid (Blk wo (w.heap.size + 1 + 1) #[.int .i64 0,.slice none 0 0] 32):=R0.out.later hb1
  have Bo : Hid (Below w.heap.size w wo):=bto B0.out hb1
  clear hb1 HO C0 S0 R0 B0
  go_wp2_with fail
  refine (HTN.out _).mono ?_
  rintro e wz ⟨rfl,hw⟩
  replace hw:=hw.symm
  subst hw
  go_wp2_with fail
  refine (HKY.out _).mono ?_
  rintro e wv ⟨rfl,hb1⟩
  have Cv : Hid (Blk wv w.heap.size #[.int .i64 c.w,.int .i64 c.tl,.int .i64 c.ml,.int .i64 c.sh,.int .i64 c.ha,.int .i64 c.sg] 35):=Co.out.later hb1
  have Sv : Hid (Blk wv (w.heap.size + 1) #[.int .i64 now,.slice a ts.length cap] 32):=So.out.later hb1
  have Rv : Hid (Blk wv (w.heap.size + 1 + 1) #[.int .i64 0,.slice none 0 0] 32):=Ro.out.later hb1
  have Bv : Hid (Below w.heap.size w wv):=bto Bo.out hb1
  clear hb1 Co So Ro Bo
  have HK : Hid (∀ w',Below wv.heap.size wv w' → w'.cell? ⟨w.heap.size + 1,0,none⟩ = some (.int .i64 now) ∧ w'.cell? ⟨w.heap.size + 1,1,none⟩ = some (.slice a ts.length cap) ∧ w'.cell? ⟨w.heap.size,0,none⟩ = some (.int .i64 c.w)):=fun w' h=>by
    have q:=Cv.out.later h
    have p:=Sv.out.later h
    exact ⟨p.cell 0,p.cell 1,q.cell 0⟩
  obtain ⟨vy0,vy1,vx0⟩:=HK.out wv (Below.refl _ _)
  have hsv : w.heap.size + 1 + 1 < wv.heap.size:=lt_of_block Rv.out
  have hnl : tn.sers.length ≤ 1100000:=HFS.out
  go_upto_region 5 with fail
  go_cut [10] (fun p wx=>∃ X,p = .pointer (some ⟨X,0,none⟩) ∧ KXR wv X tn wx)
  case first =>
    go_region_held3 (fun w'=>w'.cell? ⟨w.heap.size + 1,0,none⟩ = some (.int .i64 now) ∧ w'.cell? ⟨w.heap.size + 1,1,none⟩ = some (.slice a ts.length cap) ∧ w'.cell? ⟨w.heap.size,0,none⟩ = some (.int .i64 c.w))
      (first | go_keep | with_reducible exact HK.out _ (set4 k4 (Nat.le_refl _)) | with_reducible exact HK.out _ (set4 k4 k3.size) | with_reducible exact HK.out _ k4 | with_reducible exact HK.out _ k3 | with_reducible exact HK.out _ (bto k3 (bnew _ _)) | with_reducible exact HK.out _ ((bnew _ _).drew) | with_reducible exact HK.out _ (bto k4 (bnew _ _)))
      (first
        | (go_at_call 43; refine (HTE.out _ (by with_reducible exact Bv.out.drew)).mono ?_; rintro e w3 ⟨⟨a1,c1,a2,c2,rfl,p1,p2⟩,hb3⟩; have k3 : Below wv.heap.size wv w3:=(by with_reducible exact bto (Below.refl _ _).drew hb3); have c3:=HK.out _ k3)
        | (go_at_call 43; refine (HTE.out _ (by with_reducible exact (bto Bv.out (bnew _ _)).drew)).mono ?_; rintro e w3 ⟨⟨a1,c1,a2,c2,rfl,p1,p2⟩,hb3⟩; have k3 : Below wv.heap.size wv w3:=(by with_reducible exact bto ((bnew _ _).drew) hb3); have c3:=HK.out _ k3; have hX3 : Blk w3 wv.heap.size #[.string ⟨#[]⟩,.int .i64 0,.slice none 0 0,.slice none 0 0] 78:=blk_drewA hb3)
        | (have q:=hX3; clear q; go_at_call 42; refine (HKP.out _ a1 a2 c1 c2 (by with_reducible exact p1) (by with_reducible exact p2)).mono ?_; rintro e w4 ⟨M,q1,e1,q2,e2,rfl,hM,h1,h1M,h2,hM4,hb4⟩; have k4 : Below wv.heap.size wv w4:=(by with_reducible exact bto k3 hb4); have c4:=HK.out _ k4; have BX4 : Hid (Blk w4 wv.heap.size #[.string ⟨#[]⟩,.int .i64 0,.slice none 0 0,.slice none 0 0] 78):=hid (hX3.later hb4); have s0:=BX4.out.cell 0; have s1:=BX4.out.cell 1; have s2:=BX4.out.cell 2; have s3:=BX4.out.cell 3; have f0:=BX4.out.free 0; have f1:=BX4.out.free 1; have f2:=BX4.out.free 2; have f3:=BX4.out.free 3)
        | ((fail_if_success (have q:=hX3)); go_at_call 42; refine (HKP.out _ a1 a2 c1 c2 (by with_reducible exact p1) (by with_reducible exact p2)).mono ?_; rintro e w4 ⟨M,q1,e1,q2,e2,rfl,hM,h1,h1M,h2,hM4,hb4⟩; have k4 : Below wv.heap.size wv w4:=(by with_reducible exact bto k3 hb4); have c4:=HK.out _ k4)
        | (go_at_call 42; refine (HKP.out _ a1 a2 c1 c2 (by with_reducible exact p1.later (bnew _ _)) (by with_reducible exact p2.later (bnew _ _))).mono ?_; rintro e w4 ⟨M,q1,e1,q2,e2,rfl,hM,h1,h1M,h2,hM4,hb4⟩; have k4 : Below wv.heap.size wv w4:=(by with_reducible exact bto (bto k3 (bnew _ _)) hb4); have c4:=HK.out _ k4; have BX4 : Hid (Blk w4 w3.heap.size #[.string ⟨#[]⟩,.int .i64 0,.slice none 0 0,.slice none 0 0] 78):=hid ((Blk.new w3 _ _).later hb4); have s0:=BX4.out.cell 0; have s1:=BX4.out.cell 1; have s2:=BX4.out.cell 2; have s3:=BX4.out.cell 3; have f0:=BX4.out.free 0; have f1:=BX4.out.free 1; have f2:=BX4.out.free 2; have f3:=BX4.out.free 3))
    all_goals (go_wp2_with fail; go_meet)
    all_goals first
      | with_reducible exact ⟨_,rfl,kxr_new k3.size h1 h1M h2 hM k4⟩
      | exact ⟨_,rfl,kxr_old h1 h1M h2 (by have:=lt_of_block hX3; omega) hM (Nat.le_refl _) BX4.out k4⟩
      | exact ⟨_,rfl,kxr_old h1 h1M h2 (by simp) hM k3.size BX4.out k4⟩
  obtain ⟨X,rfl,M,q1,e1,q2,e2,hXb,hP1,hq1M,hRow,hRX,hqX,hXw,hMw,hb3⟩:=hcut
  rename World=>w3
  have X3:=hid hXb
  have P3:=hid hP1
  have W3:=hid hRow
  have HQM:=hid hq1M
  have HRX:=hid hRX
  have HQX:=hid hqX
  have C3 : Hid (Blk w3 w.heap.size #[.int .i64 c.w,.int .i64 c.tl,.int .i64 c.ml,.int .i64 c.sh,.int .i64 c.ha,.int .i64 c.sg] 35):=Cv.out.later hb3
  have S3 : Hid (Blk w3 (w.heap.size + 1) #[.int .i64 now,.slice a ts.length cap] 32):=Sv.out.later hb3
  have R3 : Hid (Blk w3 (w.heap.size + 1 + 1) #[.int .i64 0,.slice none 0 0] 32):=Rv.out.later hb3
  have B3 : Hid (Below w.heap.size w w3):=bto Bv.out hb3
  have hX3 : X < w3.heap.size:=lt_of_block hXb
  clear HK vy0 vy1 vx0 hXb hP1 hq1M hRow hRX hqX hb3 HTE HKP Cv Sv Rv Bv
  have m33 : w3.cell? ⟨X,3,none⟩ = some (.slice q2 tn.sers.length e2):=X3.out.cell 3
  go_wp2
  go_loopw [11,44] (fun _ i wr=>∃ k : Nat,k ≤ tn.sers.length ∧ i = .int .i64 k ∧ Hid (∀ j (h : j < k) (h' : j < tn.sers.length),tn.sers[j].s ≠ key) ∧ w3 = wr) (fun _ i _=>tn.sers.length - (intOf i).toNat)
  case atStart=>exact ⟨0,Nat.zero_le _,rfl,(fun j h=>absurd h (by omega)),rfl⟩
  case round =>
    obtain ⟨k,hk,rfl,HN,hw⟩:=hrel
    subst hw
    by_cases hlt : k < tn.sers.length
    · obtain ⟨g,rfl⟩:=row_addr W3.out (by omega)
      obtain ⟨pb,po,ep,hpl,v0,v1⟩:=((pairs_of_row W3.out).pairs).at hlt
      simp only [Option.some.injEq,Addr.mk.injEq,and_true] at ep
      obtain ⟨rfl,rfl⟩:=ep
      rw [Nat.zero_add] at v0 v1
      cases hsm : (tn.sers[k].s.toList == key.toList) with
      | true =>
        exfalso
        exact getBy_none HKN.out _ (List.getElem_mem hlt) ((same_iff _ _).1 hsm)
      | false =>
        have HN2 : Hid (∀ j (h : j < k + 1) (h' : j < tn.sers.length),tn.sers[j].s ≠ key):=fun j hj hj'=>by
          by_cases e : j = k
          · subst e; exact fun e'=>absurd ((same_iff _ _).2 e') (by rw [hsm]; simp)
          · exact HN.out j (by omega) hj'
        generalize tn.sers[k].s = kk at *
        go_wp2
        exact ⟨⟨k + 1,by omega,by go_num,HN2.out,by first | rfl | trivial⟩,by simp [intOf]; omega⟩
    · have HNO : Hid (getBy (·.s) key tn.sers = none):=getBy_none_of fun p hp=>by
        obtain ⟨j,hj,rfl⟩:=List.getElem_of_mem hp
        exact HN.out j (by omega) hj
      have HV2 : Hid (V = if (countV c tn ByteArray.empty).2 ≤ (countV c tn ByteArray.empty).1 ∨ (idleB tn = true ∧ ts.length = 10000) then (now,ts,3) else if (countV c tn (metK key)).2 ≤ (countV c tn (metK key)).1 then (now,ts,4) else (now,insBy (·.name) (addT tn key now) ts,2)):=by show _ = _; rw [HV1.out,if_neg (by rw [HNO.out]; simp)]
      have HSI3 : Hid (PairsIn w3 q2 tn.sers):=(pairs_of_row W3.out).pairs
      have HMI3 : Hid (PairsIn w3 q1 tn.mets):=P3.out.pairs
      have b3x0 : w3.cell? ⟨w.heap.size,0,none⟩ = some (.int .i64 c.w):=C3.out.cell 0
      have b3x1 : w3.cell? ⟨w.heap.size,1,none⟩ = some (.int .i64 c.tl):=C3.out.cell 1
      have b3x2 : w3.cell? ⟨w.heap.size,2,none⟩ = some (.int .i64 c.ml):=C3.out.cell 2
      have b3x3 : w3.cell? ⟨w.heap.size,3,none⟩ = some (.int .i64 c.sh):=C3.out.cell 3
      have b3x4 : w3.cell? ⟨w.heap.size,4,none⟩ = some (.int .i64 c.ha):=C3.out.cell 4
      have b3x5 : w3.cell? ⟨w.heap.size,5,none⟩ = some (.int .i64 c.sg):=C3.out.cell 5
      have b3y0 : w3.cell? ⟨w.heap.size + 1,0,none⟩ = some (.int .i64 now):=S3.out.cell 0
      have b3y1 : w3.cell? ⟨w.heap.size + 1,1,none⟩ = some (.slice a ts.length cap):=S3.out.cell 1
      have m30 : w3.cell? ⟨X,0,none⟩ = some (.string tn.name):=X3.out.cell 0
      have m31 : w3.cell? ⟨X,1,none⟩ = some (.int .i64 tn.limit):=X3.out.cell 1
      have m32 : w3.cell? ⟨X,2,none⟩ = some (.slice q1 tn.mets.length e1):=X3.out.cell 2
      have m33a : w3.cell? ⟨X,3,none⟩ = some (.slice q2 tn.sers.length e2):=X3.out.cell 3
      have HC1:=hid (HCT.out w3 ⟨#[]⟩ q1 q2 e1 e2 HMI3.out HSI3.out)
      have hemp : (ByteArray.empty : ByteArray) = ⟨#[]⟩:=rfl
      rw [hemp] at HV2
      have hkl : ¬ ((k : Int) < tn.sers.length):=by omega
      clear hemp HV1 HN hlt hk
      generalize countV c tn ⟨#[]⟩ = CV at *
      obtain ⟨n1,l1⟩:=CV
      go_wp2_with fail
      refine HC1.out.mono ?_
      rintro e w4 ⟨rfl,hb4⟩
      have C4 : Hid (Blk w4 w.heap.size #[.int .i64 c.w,.int .i64 c.tl,.int .i64 c.ml,.int .i64 c.sh,.int .i64 c.ha,.int .i64 c.sg] 35):=C3.out.later hb4
      have S4 : Hid (Blk w4 (w.heap.size + 1) #[.int .i64 now,.slice a ts.length cap] 32):=S3.out.later hb4
      have R4 : Hid (Blk w4 (w.heap.size + 1 + 1) #[.int .i64 0,.slice none 0 0] 32):=R3.out.later hb4
      have B4 : Hid (Below w.heap.size w w4):=bto B3.out hb4
      have X4 : Hid (Blk w4 X #[.string tn.name,.int .i64 tn.limit,.slice q1 tn.mets.length e1,.slice q2 tn.sers.length e2] 78):=X3.out.later hb4
      have P4 : Hid (PairsOwn w4 wv.heap.size q1 tn.mets):=P3.out.later hb4
      have W4 : Hid (w4.ownsRow M 84 2 (.slice q2 tn.sers.length e2) tn.sers.length (flatK tn.sers)):=row_later W3.out hb4
      clear hb4 HC1 HMI3 HSI3 X3 P3 W3 C3 S3 R3 B3 m33 m33a m30 m31 m32
      clear b3x0 b3x1 b3x2 b3x3 b3x4 b3x5 b3y0 b3y1
      have m40 : w4.cell? ⟨X,0,none⟩ = some (.string tn.name):=X4.out.cell 0
      have m41 : w4.cell? ⟨X,1,none⟩ = some (.int .i64 tn.limit):=X4.out.cell 1
      have m42 : w4.cell? ⟨X,2,none⟩ = some (.slice q1 tn.mets.length e1):=X4.out.cell 2
      have m43 : w4.cell? ⟨X,3,none⟩ = some (.slice q2 tn.sers.length e2):=X4.out.cell 3
      go_wp2_with fail
      refine (HID.out _ q1 q2 e1 e2).mono ?_
      rintro e w5 ⟨rfl,hb5⟩
      have C5 : Hid (Blk w5 w.heap.size #[.int .i64 c.w,.int .i64 c.tl,.int .i64 c.ml,.int .i64 c.sh,.int .i64 c.ha,.int .i64 c.sg] 35):=C4.out.later hb5
      have S5 : Hid (Blk w5 (w.heap.size + 1) #[.int .i64 now,.slice a ts.length cap] 32):=S4.out.later hb5
      have R5 : Hid (Blk w5 (w.heap.size + 1 + 1) #[.int .i64 0,.slice none 0 0] 32):=R4.out.later hb5
      have B5 : Hid (Below w.heap.size w w5):=bto B4.out hb5
      have X5 : Hid (Blk w5 X #[.string tn.name,.int .i64 tn.limit,.slice q1 tn.mets.length e1,.slice q2 tn.sers.length e2] 78):=X4.out.later hb5
      have P5 : Hid (PairsOwn w5 wv.heap.size q1 tn.mets):=P4.out.later hb5
      have W5 : Hid (w5.ownsRow M 84 2 (.slice q2 tn.sers.length e2) tn.sers.length (flatK tn.sers)):=row_later W4.out hb5
      clear hb5 X4 P4 W4 C4 S4 R4 B4
      clear m40 m41 m42 m43
      have b5x0 : w5.cell? ⟨w.heap.size,0,none⟩ = some (.int .i64 c.w):=C5.out.cell 0
      have b5x1 : w5.cell? ⟨w.heap.size,1,none⟩ = some (.int .i64 c.tl):=C5.out.cell 1
      have b5x2 : w5.cell? ⟨w.heap.size,2,none⟩ = some (.int .i64 c.ml):=C5.out.cell 2
      have b5x3 : w5.cell? ⟨w.heap.size,3,none⟩ = some (.int .i64 c.sh):=C5.out.cell 3
      have b5x4 : w5.cell? ⟨w.heap.size,4,none⟩ = some (.int .i64 c.ha):=C5.out.cell 4
      have b5x5 : w5.cell? ⟨w.heap.size,5,none⟩ = some (.int .i64 c.sg):=C5.out.cell 5
      have b5y0 : w5.cell? ⟨w.heap.size + 1,0,none⟩ = some (.int .i64 now):=S5.out.cell 0
      have b5y1 : w5.cell? ⟨w.heap.size + 1,1,none⟩ = some (.slice a ts.length cap):=S5.out.cell 1
      go_upto_region 15 with fail
      generalize idleB tn = IB at *
      generalize htl : ts.length = TL at *
      go_cut [88] (fun s wx=>s = .bool (decide (l1 ≤ n1) || (IB && decide (TL = 10000))) ∧ w5 = wx)
      case first =>
        by_cases hge : l1 ≤ n1
        · go_wp2_with fail
          go_meet
          exact ⟨by simp [hge],rfl⟩
        · cases IB with
          | false =>
            go_wp2_with fail
            go_meet
            exact ⟨by simp [hge],rfl⟩
          | true =>
            by_cases ht1 : TL = 10000
            · subst ht1
              go_wp2_with fail
              go_meet
              exact ⟨by simp,rfl⟩
            · have ht2 : ¬ ((TL : Int) = 10000):=by omega
              go_wp2_with fail
              go_meet
              have e2 : decide (l1 ≤ n1) = false:=by simp; omega
              have e3 : decide (TL = 10000) = false:=by simp; omega
              exact ⟨by rw [e2,e3]; simp; omega,rfl⟩
      obtain ⟨rfl,hw⟩:=hcut
      subst hw
      subst htl
      have HV3 : Hid (V = if (decide (l1 ≤ n1) || (IB && decide (ts.length = 10000))) = true then (now,ts,3) else if (countV c tn (metK key)).2 ≤ (countV c tn (metK key)).1 then (now,ts,4) else (now,insBy (·.name) (addT tn key now) ts,2)):=by
        refine hid ?_
        rw [HV2.out]
        simp only [Bool.or_eq_true,Bool.and_eq_true,decide_eq_true_eq]
      clear HV2
      cases hcb : (decide (l1 ≤ n1) || (IB && decide (ts.length = 10000))) with
      | true =>
        rw [hcb,if_pos rfl] at HV3
        clear hcb
        go_wp2_with fail
        refine (HSM.out _ B5.out).mono ?_
        rintro e w9 ⟨ra,rc,rfl,ho9,hb9⟩
        have HO9 : Hid (TensOwn w9 w5.heap.size ra ts):=ho9
        have R9 : Hid (Blk w9 (w.heap.size + 1 + 1) #[.int .i64 0,.slice none 0 0] 32):=R5.out.later hb9
        have B9 : Hid (Below w.heap.size w w9):=bto B5.out hb9
        have hwv : w.heap.size + 1 + 1 < w5.heap.size:=lt_of_block R5.out
        clear ho9 hb9
        have z0 : w9.cell? ⟨w.heap.size + 1 + 1,0,none⟩ = some (.int .i64 0):=R9.out.cell 0
        have z1 : w9.cell? ⟨w.heap.size + 1 + 1,1,none⟩ = some (.slice none 0 0):=R9.out.cell 1
        have f0:=R9.out.free 0
        have f1:=R9.out.free 1
        have hwl : w.heap.size + 1 + 1 < w9.heap.size:=lt_of_block R9.out
        go_wp2
        have HTE9 : Turn (· = w.heap.size + 1 + 1) w9 ((w9.setCell ⟨w.heap.size + 1 + 1,0,none⟩ (.int .i64 now)).setCell ⟨w.heap.size + 1 + 1,1,none⟩ (.slice ra ts.length rc)):=((Turn.refl (· = w.heap.size + 1 + 1) w9).setCell (Or.inl rfl) 0 _).setCell (Or.inl rfl) 1 _
        refine bodyPost_ret (v:=.tuple #[.agg #[.int .i64 now,.slice ra ts.length rc],.int .i64 3]) (by simp [results,Tryz.results20,go_sem,z0,z1]) rfl ?_
        rw [HV3.out]
        have ho : TensOwn ((w9.setCell ⟨w.heap.size + 1 + 1,0,none⟩ (.int .i64 now)).setCell ⟨w.heap.size + 1 + 1,1,none⟩ (.slice ra ts.length rc)) w.heap.size ra ts:=(TensOwn.turned HO9.out HTE9 (fun g h1 h2 e=>by omega)).mono (by omega)
        have hbe : Below w.heap.size w ((w9.setCell ⟨w.heap.size + 1 + 1,0,none⟩ (.int .i64 now)).setCell ⟨w.heap.size + 1 + 1,1,none⟩ (.slice ra ts.length rc)):=((Turn.of (S:=fun i=>w.heap.size ≤ i) B9.out).trans' (HTE9.mono fun i _ e=>by omega)).below (Nat.le_refl _) fun i hi h=>by omega
        first
          | exact ⟨ra,⟨rc,rfl⟩,ho,hbe⟩
          | exact ⟨ra,rc,rfl,ho,hbe⟩
      | false =>
        rw [hcb,if_neg (by simp)] at HV3
        clear hcb
        have m50 : w5.cell? ⟨X,0,none⟩ = some (.string tn.name):=X5.out.cell 0
        have m51 : w5.cell? ⟨X,1,none⟩ = some (.int .i64 tn.limit):=X5.out.cell 1
        have m52 : w5.cell? ⟨X,2,none⟩ = some (.slice q1 tn.mets.length e1):=X5.out.cell 2
        have m53 : w5.cell? ⟨X,3,none⟩ = some (.slice q2 tn.sers.length e2):=X5.out.cell 3
        have HSI5 : Hid (PairsIn w5 q2 tn.sers):=(pairs_of_row W5.out).pairs
        have HMI5 : Hid (PairsIn w5 q1 tn.mets):=P5.out.pairs
        have HC2 : Hid (∀ y : Later w5,Calls Tryz.prog 44 #[.agg #[.int .i64 c.w,.int .i64 c.tl,.int .i64 c.ml,.int .i64 c.sh,.int .i64 c.ha,.int .i64 c.sg],.agg #[.string tn.name,.int .i64 tn.limit,.slice q1 tn.mets.length e1,.slice q2 tn.sers.length e2],.string (metK key)] y.w' fun e w'=>e = .returned (.tuple #[.int .i64 (countV c tn (metK key)).1,.int .i64 (countV c tn (metK key)).2]) ∧ Below y.w'.heap.size y.w' w'):=fun y=>HCT.out y.w' (metK key) q1 q2 e1 e2 (HMI5.out.later y.h) (HSI5.out.later y.h)
        have HMT : Hid (∀ W,Calls Tryz.prog 45 #[.string key] W fun e w'=>e = .returned (.string (metK key)) ∧ Below W.heap.size W w'):=HMX
        have dx0:=Later.cells b5x0
        have dx1:=Later.cells b5x1
        have dx2:=Later.cells b5x2
        have dx3:=Later.cells b5x3
        have dx4:=Later.cells b5x4
        have dx5:=Later.cells b5x5
        have dm0:=Later.cells m50
        have dm1:=Later.cells m51
        have dm2:=Later.cells m52
        have dm3:=Later.cells m53
        have hnel:=Later.there w5
        clear HCT HMX
        generalize countV c tn (metK key) = CV at *
        obtain ⟨n2,l2⟩:=CV
        generalize hmk : metK key = mk at *
        clear hmk
        go_wp2_with fail
        refine wp_region_later (by kernel_rfl) (by kernel_rfl) ?_
        repeat (go_big_quiet_step (first | (go_at_call 45; exact calls_later (HMT.out _)) | (go_at_call 44; exact calls_later (HC2.out _)) | fail))
        refine wpQuiet_nil ?_
        rintro _ ⟨y,rfl⟩
        have C6 : Hid (Blk y.w' w.heap.size #[.int .i64 c.w,.int .i64 c.tl,.int .i64 c.ml,.int .i64 c.sh,.int .i64 c.ha,.int .i64 c.sg] 35):=C5.out.later y.h
        have S6 : Hid (Blk y.w' (w.heap.size + 1) #[.int .i64 now,.slice a ts.length cap] 32):=S5.out.later y.h
        have R6 : Hid (Blk y.w' (w.heap.size + 1 + 1) #[.int .i64 0,.slice none 0 0] 32):=R5.out.later y.h
        have B6 : Hid (Below w.heap.size w y.w'):=bto B5.out y.h
        have X6 : Hid (Blk y.w' X #[.string tn.name,.int .i64 tn.limit,.slice q1 tn.mets.length e1,.slice q2 tn.sers.length e2] 78):=X5.out.later y.h
        have P6 : Hid (PairsOwn y.w' wv.heap.size q1 tn.mets):=P5.out.later y.h
        have W6 : Hid (y.w'.ownsRow M 84 2 (.slice q2 tn.sers.length e2) tn.sers.length (flatK tn.sers)):=row_later W5.out y.h
        have hs56:=y.h.size
        clear dx0 dx1 dx2 dx3 dx4 dx5 dm0 dm1 dm2 dm3 hnel HC2 HMT X5 P5 W5 C5 S5 R5 B5 HMI5 HSI5
        clear b5x0 b5x1 b5x2 b5x3 b5x4 b5x5 b5y0 b5y1
        clear m50 m51 m52 m53
        generalize y.w' = w6 at *
        clear y
        by_cases hme : l2 ≤ n2
        · have HV4 : Hid (V = (now,ts,4)):=by show _ = _; rw [HV3.out,if_pos hme]
          clear HV3
          have b6x0 : w6.cell? ⟨w.heap.size,0,none⟩ = some (.int .i64 c.w):=C6.out.cell 0
          have b6x1 : w6.cell? ⟨w.heap.size,1,none⟩ = some (.int .i64 c.tl):=C6.out.cell 1
          have b6x2 : w6.cell? ⟨w.heap.size,2,none⟩ = some (.int .i64 c.ml):=C6.out.cell 2
          have b6x3 : w6.cell? ⟨w.heap.size,3,none⟩ = some (.int .i64 c.sh):=C6.out.cell 3
          have b6x4 : w6.cell? ⟨w.heap.size,4,none⟩ = some (.int .i64 c.ha):=C6.out.cell 4
          have b6x5 : w6.cell? ⟨w.heap.size,5,none⟩ = some (.int .i64 c.sg):=C6.out.cell 5
          have b6y0 : w6.cell? ⟨w.heap.size + 1,0,none⟩ = some (.int .i64 now):=S6.out.cell 0
          have b6y1 : w6.cell? ⟨w.heap.size + 1,1,none⟩ = some (.slice a ts.length cap):=S6.out.cell 1
          go_wp2_with fail
          refine (HSM.out _ B6.out).mono ?_
          rintro e w9 ⟨ra,rc,rfl,ho9,hb9⟩
          have HO9 : Hid (TensOwn w9 w6.heap.size ra ts):=ho9
          have R9 : Hid (Blk w9 (w.heap.size + 1 + 1) #[.int .i64 0,.slice none 0 0] 32):=R6.out.later hb9
          have B9 : Hid (Below w.heap.size w w9):=bto B6.out hb9
          have hwv : w.heap.size + 1 + 1 < w6.heap.size:=lt_of_block R6.out
          clear ho9 hb9
          have z0 : w9.cell? ⟨w.heap.size + 1 + 1,0,none⟩ = some (.int .i64 0):=R9.out.cell 0
          have z1 : w9.cell? ⟨w.heap.size + 1 + 1,1,none⟩ = some (.slice none 0 0):=R9.out.cell 1
          have f0:=R9.out.free 0
          have f1:=R9.out.free 1
          have hwl : w.heap.size + 1 + 1 < w9.heap.size:=lt_of_block R9.out
          go_wp2
          have HTE9 : Turn (· = w.heap.size + 1 + 1) w9 ((w9.setCell ⟨w.heap.size + 1 + 1,0,none⟩ (.int .i64 now)).setCell ⟨w.heap.size + 1 + 1,1,none⟩ (.slice ra ts.length rc)):=((Turn.refl (· = w.heap.size + 1 + 1) w9).setCell (Or.inl rfl) 0 _).setCell (Or.inl rfl) 1 _
          refine bodyPost_ret (v:=.tuple #[.agg #[.int .i64 now,.slice ra ts.length rc],.int .i64 4]) (by simp [results,Tryz.results20,go_sem,z0,z1]) rfl ?_
          rw [HV4.out]
          have ho : TensOwn ((w9.setCell ⟨w.heap.size + 1 + 1,0,none⟩ (.int .i64 now)).setCell ⟨w.heap.size + 1 + 1,1,none⟩ (.slice ra ts.length rc)) w.heap.size ra ts:=(TensOwn.turned HO9.out HTE9 (fun g h1 h2 e=>by omega)).mono (by omega)
          have hbe : Below w.heap.size w ((w9.setCell ⟨w.heap.size + 1 + 1,0,none⟩ (.int .i64 now)).setCell ⟨w.heap.size + 1 + 1,1,none⟩ (.slice ra ts.length rc)):=((Turn.of (S:=fun i=>w.heap.size ≤ i) B9.out).trans' (HTE9.mono fun i _ e=>by omega)).below (Nat.le_refl _) fun i hi h=>by omega
          first
            | exact ⟨ra,⟨rc,rfl⟩,ho,hbe⟩
            | exact ⟨ra,rc,rfl,ho,hbe⟩
        have HV4 : Hid (V = (now,insBy (·.name) (addT tn key now) ts,2)):=by show _ = _; rw [HV3.out,if_neg hme]
        clear HV3
        have x6 : w6.cell? ⟨X,3,none⟩ = some (.slice q2 tn.sers.length e2):=X6.out.cell 3
        go_wp2
        go_loopw [15] (fun i wr=>∃ j : Nat,j ≤ tn.sers.length ∧ i = .int .i64 j ∧ Hid (∀ i (h : i < tn.sers.length),i < j → blt tn.sers[i].s key = true) ∧ w6 = wr) (fun i _=>tn.sers.length - (intOf i).toNat)
        case atStart=>exact ⟨0,Nat.zero_le _,rfl,(fun i _ hi=>absurd hi (by omega)),rfl⟩
        case round =>
          obtain ⟨j,hj,rfl,HJ,hw⟩:=hrel
          subst hw
          by_cases hjl : j < tn.sers.length
          · obtain ⟨g,rfl⟩:=row_addr W6.out (by omega)
            obtain ⟨pb,po,ep,hpl,v0,_⟩:=((pairs_of_row W6.out).pairs).at hjl
            simp only [Option.some.injEq,Addr.mk.injEq,and_true] at ep
            obtain ⟨rfl,rfl⟩:=ep
            rw [Nat.zero_add] at v0
            cases hbl : blt tn.sers[j].s key with
            | true =>
              have hq2 : Op.bytesLess tn.sers[j].s.toList key.toList = true:=hbl
              have HJ2 : Hid (∀ i (h : i < tn.sers.length),i < j + 1 → blt tn.sers[i].s key = true):=fun i h hi=>by
                by_cases e : i = j
                · subst e; exact hbl
                · exact HJ.out i h (by omega)
              clear hbl
              generalize tn.sers[j].s = kk at *
              go_wp2
              exact ⟨⟨j + 1,by omega,by go_num,HJ2.out,by first | rfl | trivial⟩,by simp [intOf]; omega⟩
            | false =>
              have hq2 : Op.bytesLess tn.sers[j].s.toList key.toList = false:=hbl
              have HCT2 : Hid (insBy (·.s) ⟨key,now⟩ tn.sers = tn.sers.take j ++ ⟨key,now⟩ :: tn.sers.drop j):=insBy_cut hj (fun i h hi=>HJ.out i h hi) (fun _=>hbl) HNO.out
              clear hbl
              generalize tn.sers[j].s = kk at *
              go_upto_region 23 with fail
              clear v0 hq2 hpl
              have hce : tn.sers.length ≤ e2:=row_cap W6.out
              have hje : j ≤ e2:=by omega
              have HSH : Hid (∀ W,Below w6.heap.size w6 W → SrcAt W (some ⟨g,0,none⟩) j (flatK (tn.sers.take j)) ∧ SrcAt W (some ⟨g,j * 2,none⟩) (tn.sers.length - j) (flatK (tn.sers.drop j))):=fun W hW=>src_two (row_later W6.out hW) hj
              have hl1 : (flatK (tn.sers.take j)).length = j * 2:=by rw [flatK_length,List.length_take]; omega
              have hl2 : (flatK (tn.sers.drop j)).length = (tn.sers.length - j) * 2:=by rw [flatK_length,List.length_drop]
              have HFQ : Hid (flatK (insBy (·.s) ⟨key,now⟩ tn.sers) = flatK (tn.sers.take j) ++ [.string key,.int .i64 now] ++ flatK (tn.sers.drop j)):=by
                refine hid ?_
                rw [HCT2.out,show tn.sers.take j ++ (⟨key,now⟩ : PairD) :: tn.sers.drop j = (tn.sers.take j ++ [(⟨key,now⟩ : PairD)]) ++ tn.sers.drop j by simp,flatK_append,flatK_append]
                rfl
              have HLQ : Hid ((insBy (·.s) (⟨key,now⟩ : PairD) tn.sers).length = j + 1 + (tn.sers.length - j)):=by
                refine hid ?_
                rw [HCT2.out,List.length_append,List.length_cons,List.length_take,List.length_drop]
                omega
              have X6' : Hid (Blk w6 X #[.string tn.name,.int .i64 tn.limit,.slice q1 tn.mets.length e1,.slice (some ⟨g,0,none⟩) tn.sers.length e2] 78):=hid (by exact X6.out)
              have xa3 : (w6.alloc (.cells #[] 84)).cell? ⟨X,3,none⟩ = some (.slice (some ⟨g,0,none⟩) tn.sers.length e2):=(X6'.out.alloc _).cell 3
              have hX6 : X < w6.heap.size:=lt_of_block X6'.out
              clear x6 hk
              go_upto_region 24 with (at_builtin; refine wpList_append_anyS _ rfl _ _ _ rfl w6.heap.size 84 ti _ 2 24 Tryz.underlying76 HI.out hz0 hz1 hz2 rfl (by omega) w6.heap.size 0 0 ([]) rfl (by exact (World.ownsRow_made w6 #[] 0 (Nat.le_refl _) (by simp [maxLen]) (by simp))) (some ⟨g,0,none⟩) j e2 (flatK (tn.sers.take j)) rfl hl1 (by exact (HSH.out _ (bnew _ _)).1) (flatK_cell _) (by first | (simp [maxLen]; done) | (simp [maxLen]; omega)) (by omega) (bnew _ _).size ?_; intro g8 cap8 w8 hown hB hkp hgb hat hlt9)
              have O8 : Hid (w8.ownsRow w6.heap.size 84 2 (.slice (some ⟨g8,0,none⟩) j cap8) j (flatK (tn.sers.take j))):=hid (by simpa using hown)
              have B68 : Hid (Below w6.heap.size w6 w8):=(bnew _ _).trans hB
              clear hown hB hkp hgb hat hlt9 xa3
              have S8 : Hid (Blk w8 (w.heap.size + 1) #[.int .i64 now,.slice a ts.length cap] 32):=S6.out.later B68.out
              have y80 : w8.cell? ⟨w.heap.size + 1,0,none⟩ = some (.int .i64 now):=S8.out.cell 0
              have hs8:=B68.out.size
              go_upto_region 25 with (at_builtin; refine wpList_append_anyS _ rfl _ _ _ rfl w6.heap.size 84 ti _ 2 24 Tryz.underlying76 HI.out hz0 hz1 hz2 rfl (by omega) g8 j cap8 (flatK (tn.sers.take j)) rfl (by exact row_later O8.out (bnew _ _)) (some ⟨w8.heap.size,0,none⟩) 1 1 ([.string key,.int .i64 now]) rfl rfl (by exact Or.inr ⟨_,rfl,World.news_of_block (cs:=#[.string key,.int .i64 now]) (heap_alloc_new _ _)⟩) (by simp [Value.oneCell']) (by first | (simp [maxLen]; done) | (simp [maxLen]; omega)) (by omega) (Nat.le_trans hs8 (bnew _ _).size) ?_; intro g10 cap10 w10 hown hB hkp hgb hat hlt9)
              have O10 : Hid (w10.ownsRow w6.heap.size 84 2 (.slice (some ⟨g10,0,none⟩) (j + 1) cap10) (j + 1) (flatK (tn.sers.take j) ++ [.string key,.int .i64 now])):=hid hown
              have B610 : Hid (Below w6.heap.size w6 w10):=(B68.out.trans ((bnew _ _).mono (by omega))).trans hB
              clear hown hB hkp hgb hat hlt9 y80 S8 O8
              have X10 : Hid (Blk w10 X #[.string tn.name,.int .i64 tn.limit,.slice q1 tn.mets.length e1,.slice (some ⟨g,0,none⟩) tn.sers.length e2] 78):=X6'.out.later B610.out
              have x103 : w10.cell? ⟨X,3,none⟩ = some (.slice (some ⟨g,0,none⟩) tn.sers.length e2):=X10.out.cell 3
              have hs10:=B610.out.size
              go_upto_region 26 with (at_builtin; refine wpList_append_anyS _ rfl _ _ _ rfl w6.heap.size 84 ti _ 2 24 Tryz.underlying76 HI.out hz0 hz1 hz2 rfl (by omega) g10 (j + 1) cap10 (flatK (tn.sers.take j) ++ [.string key,.int .i64 now]) rfl (by exact O10.out) _ _ _ (flatK (tn.sers.drop j)) rfl hl2 (by exact (show SrcAt w10 _ (tn.sers.length - j) (flatK (tn.sers.drop j)) from (by first | exact (HSH.out _ B610.out).2 | exact Or.inl (by omega)))) (flatK_cell _) (by first | (simp [maxLen]; done) | (simp [maxLen]; omega)) (by omega) hs10 ?_; intro g12 cap12 w12 hown hB hkp hgb hat hlt9; have X12 : Blk w12 X #[.string tn.name,.int .i64 tn.limit,.slice q1 tn.mets.length e1,.slice (some ⟨g,0,none⟩) tn.sers.length e2] 78:=(hB.block X hX6).trans X10.out; have x123:=X12.cell 3; have f123:=X12.free 3)
              have O12 : Hid (w12.ownsRow w6.heap.size 84 2 (.slice (some ⟨g12,0,none⟩) (j + 1 + (tn.sers.length - j)) cap12) (j + 1 + (tn.sers.length - j)) (flatK (tn.sers.take j) ++ [.string key,.int .i64 now] ++ flatK (tn.sers.drop j))):=hid hown
              have B612 : Hid (Below w6.heap.size w6 w12):=B610.out.trans hB
              have XX12:=hid X12
              have hg12 : w6.heap.size ≤ g12:=hgb
              clear hown hB hkp hgb hat hlt9 X12 x123 f123 x103 O10 X10
              have HTX : Hid (Turn (· = X) w12 (w12.setCell ⟨X,3,none⟩ (.slice (some ⟨g12,0,none⟩) (j + 1 + (tn.sers.length - j)) cap12))):=(Turn.refl (· = X) w12).setCell (Or.inl rfl) 3 _
              have X7 : Hid (Blk (w12.setCell ⟨X,3,none⟩ (.slice (some ⟨g12,0,none⟩) (j + 1 + (tn.sers.length - j)) cap12)) X #[.string tn.name,.int .i64 tn.limit,.slice q1 tn.mets.length e1,.slice (some ⟨g12,0,none⟩) (j + 1 + (tn.sers.length - j)) cap12] 78):=hid (by have:=XX12.out.set 3 (.slice (some ⟨g12,0,none⟩) (j + 1 + (tn.sers.length - j)) cap12); simpa using this)
              have P7 : Hid (PairsIn (w12.setCell ⟨X,3,none⟩ (.slice (some ⟨g12,0,none⟩) (j + 1 + (tn.sers.length - j)) cap12)) q1 tn.mets):=own_keep (P6.out.later B612.out) HTX.out (fun g' o e hne e'=>HQX.out g' o e hne e')
              have P27 : Hid (PairsIn (w12.setCell ⟨X,3,none⟩ (.slice (some ⟨g12,0,none⟩) (j + 1 + (tn.sers.length - j)) cap12)) (some ⟨g12,0,none⟩) (insBy (·.s) ⟨key,now⟩ tn.sers)):=by
                refine hid ?_
                have h:=HTX.out.row O12.out (fun q hq e=>by simp only [Value.ownBlock,Option.some.injEq] at hq; omega)
                rw [← HFQ.out,← HLQ.out] at h
                rw [← HLQ.out]
                exact (pairs_of_row h).pairs
              have C7 : Hid (Blk (w12.setCell ⟨X,3,none⟩ (.slice (some ⟨g12,0,none⟩) (j + 1 + (tn.sers.length - j)) cap12)) w.heap.size #[.int .i64 c.w,.int .i64 c.tl,.int .i64 c.ml,.int .i64 c.sh,.int .i64 c.ha,.int .i64 c.sg] 35):=HTX.out.blk (C6.out.later B612.out) (by omega)
              have S7 : Hid (Blk (w12.setCell ⟨X,3,none⟩ (.slice (some ⟨g12,0,none⟩) (j + 1 + (tn.sers.length - j)) cap12)) (w.heap.size + 1) #[.int .i64 now,.slice a ts.length cap] 32):=HTX.out.blk (S6.out.later B612.out) (by omega)
              have R7 : Hid (Blk (w12.setCell ⟨X,3,none⟩ (.slice (some ⟨g12,0,none⟩) (j + 1 + (tn.sers.length - j)) cap12)) (w.heap.size + 1 + 1) #[.int .i64 0,.slice none 0 0] 32):=HTX.out.blk (R6.out.later B612.out) (by omega)
              have B7 : Hid (Below w.heap.size w (w12.setCell ⟨X,3,none⟩ (.slice (some ⟨g12,0,none⟩) (j + 1 + (tn.sers.length - j)) cap12))):=(bto B6.out B612.out).trans (HTX.out.below (by have:=B6.out.size; have:=B612.out.size; omega) fun i hi e=>by omega)
              have HF7 : Hid (FitW ⟨tn.name,tn.limit,tn.mets,insBy (·.s) ⟨key,now⟩ tn.sers⟩ ∧ tn.name = tenant ∧ tenant.toList.isEmpty = false):=⟨HFI.out,HNM.out,HNE.out⟩
              have HWF:=hid (HWI.out _ tn.name tn.limit tn.mets (insBy (·.s) ⟨key,now⟩ tn.sers) q1 (some ⟨g12,0,none⟩) e1 cap12 B7.out P7.out P27.out HF7.out)
              rw [HKA.out,HLQ.out] at HWF
              clear HTX O12 B612 XX12 P7 P27 B610 B68 HFQ HLQ HSH hl1 hl2 HCT2 X6 X6' W6 P6 C6 S6 R6 B6 HKA HFI
              generalize (w12.setCell ⟨X,3,none⟩ (.slice (some ⟨g12,0,none⟩) (j + 1 + (tn.sers.length - j)) cap12)) = w7 at *
              have HVV : Hid (V = (now,insBy (·.name) (addT tn key now) ts,2)):=HV4.out
              generalize insBy (·.name) (addT tn key now) ts = RL at *
              have b7x0 : w7.cell? ⟨w.heap.size,0,none⟩ = some (.int .i64 c.w):=C7.out.cell 0
              have b7x1 : w7.cell? ⟨w.heap.size,1,none⟩ = some (.int .i64 c.tl):=C7.out.cell 1
              have b7x2 : w7.cell? ⟨w.heap.size,2,none⟩ = some (.int .i64 c.ml):=C7.out.cell 2
              have b7x3 : w7.cell? ⟨w.heap.size,3,none⟩ = some (.int .i64 c.sh):=C7.out.cell 3
              have b7x4 : w7.cell? ⟨w.heap.size,4,none⟩ = some (.int .i64 c.ha):=C7.out.cell 4
              have b7x5 : w7.cell? ⟨w.heap.size,5,none⟩ = some (.int .i64 c.sg):=C7.out.cell 5
              have b7y0 : w7.cell? ⟨w.heap.size + 1,0,none⟩ = some (.int .i64 now):=S7.out.cell 0
              have b7y1 : w7.cell? ⟨w.heap.size + 1,1,none⟩ = some (.slice a ts.length cap):=S7.out.cell 1
              have m70 : w7.cell? ⟨X,0,none⟩ = some (.string tn.name):=X7.out.cell 0
              have m71 : w7.cell? ⟨X,1,none⟩ = some (.int .i64 tn.limit):=X7.out.cell 1
              have m72 : w7.cell? ⟨X,2,none⟩ = some (.slice q1 tn.mets.length e1):=X7.out.cell 2
              have m73 : w7.cell? ⟨X,3,none⟩ = some (.slice (some ⟨g12,0,none⟩) (j + 1 + (tn.sers.length - j)) cap12):=X7.out.cell 3
              go_wp2_with fail
              refine HWF.out.mono ?_
              rintro e w9 ⟨ra,rc,rfl,ho9,hb9⟩
              have HO9 : Hid (TensOwn w9 w7.heap.size ra RL):=ho9
              have R9 : Hid (Blk w9 (w.heap.size + 1 + 1) #[.int .i64 0,.slice none 0 0] 32):=R7.out.later hb9
              have B9 : Hid (Below w.heap.size w w9):=bto B7.out hb9
              have hwv : w.heap.size + 1 + 1 < w7.heap.size:=lt_of_block R7.out
              clear ho9 hb9
              have z0 : w9.cell? ⟨w.heap.size + 1 + 1,0,none⟩ = some (.int .i64 0):=R9.out.cell 0
              have z1 : w9.cell? ⟨w.heap.size + 1 + 1,1,none⟩ = some (.slice none 0 0):=R9.out.cell 1
              have f0:=R9.out.free 0
              have f1:=R9.out.free 1
              have hwl : w.heap.size + 1 + 1 < w9.heap.size:=lt_of_block R9.out
              go_wp2
              have HTE9 : Turn (· = w.heap.size + 1 + 1) w9 ((w9.setCell ⟨w.heap.size + 1 + 1,0,none⟩ (.int .i64 now)).setCell ⟨w.heap.size + 1 + 1,1,none⟩ (.slice ra RL.length rc)):=((Turn.refl (· = w.heap.size + 1 + 1) w9).setCell (Or.inl rfl) 0 _).setCell (Or.inl rfl) 1 _
              refine bodyPost_ret (v:=.tuple #[.agg #[.int .i64 now,.slice ra RL.length rc],.int .i64 2]) (by simp [results,Tryz.results20,go_sem,z0,z1]) rfl ?_
              rw [HVV.out]
              have ho : TensOwn ((w9.setCell ⟨w.heap.size + 1 + 1,0,none⟩ (.int .i64 now)).setCell ⟨w.heap.size + 1 + 1,1,none⟩ (.slice ra RL.length rc)) w.heap.size ra RL:=(TensOwn.turned HO9.out HTE9 (fun g h1 h2 e=>by omega)).mono (by omega)
              have hbe : Below w.heap.size w ((w9.setCell ⟨w.heap.size + 1 + 1,0,none⟩ (.int .i64 now)).setCell ⟨w.heap.size + 1 + 1,1,none⟩ (.slice ra RL.length rc)):=((Turn.of (S:=fun i=>w.heap.size ≤ i) B9.out).trans' (HTE9.mono fun i _ e=>by omega)).below (Nat.le_refl _) fun i hi h=>by omega
              first
                | exact ⟨ra,⟨rc,rfl⟩,ho,hbe⟩
                | exact ⟨ra,rc,rfl,ho,hbe⟩
          · have HCT2 : Hid (insBy (·.s) ⟨key,now⟩ tn.sers = tn.sers.take j ++ ⟨key,now⟩ :: tn.sers.drop j):=insBy_cut hj (fun i h hi=>HJ.out i h hi) (fun h=>absurd h hjl) HNO.out
            have hjn : ¬ ((j : Int) < tn.sers.length):=by omega
            rcases row_or W6.out with ⟨rfl,rfl,hz⟩ | ⟨g,rfl⟩
            · go_upto_region 23 with fail
              have hj0 : j = 0:=by omega
              subst hj0
              have hse : tn.sers = []:=List.length_eq_zero_iff.1 hz
              have HFQ : Hid (flatK (insBy (·.s) ⟨key,now⟩ tn.sers) = [] ++ [.string key,.int .i64 now] ++ []):=by show _ = _; rw [hse]; rfl
              have HLQ : Hid ((insBy (·.s) (⟨key,now⟩ : PairD) tn.sers).length = 0 + 1 + 0):=by show _ = _; rw [hse]; rfl
              have X6' : Hid (Blk w6 X #[.string tn.name,.int .i64 tn.limit,.slice q1 tn.mets.length e1,.slice none 0 0] 78):=hid (by have h:=X6.out; rw [hz] at h; exact h)
              have xa3 : (w6.alloc (.cells #[] 84)).cell? ⟨X,3,none⟩ = some (.slice none 0 0):=(X6'.out.alloc _).cell 3
              have hX6 : X < w6.heap.size:=lt_of_block X6'.out
              clear x6 hk
              go_upto_region 24 with (at_builtin; refine wpList_append_anyS _ rfl _ _ _ rfl w6.heap.size 84 ti _ 2 24 Tryz.underlying76 HI.out hz0 hz1 hz2 rfl (by omega) w6.heap.size 0 0 ([]) rfl (by exact (World.ownsRow_made w6 #[] 0 (Nat.le_refl _) (by simp [maxLen]) (by simp))) none 0 0 ([]) rfl rfl (by exact Or.inl rfl) (by simp) (by first | (simp [maxLen]; done) | (simp [maxLen]; omega)) (by omega) (bnew _ _).size ?_; intro g8 cap8 w8 hown hB hkp hgb hat hlt9)
              have O8 : Hid (w8.ownsRow w6.heap.size 84 2 (.slice (some ⟨g8,0,none⟩) 0 cap8) 0 ([])):=hid (by simpa using hown)
              have B68 : Hid (Below w6.heap.size w6 w8):=(bnew _ _).trans hB
              clear hown hB hkp hgb hat hlt9 xa3
              have S8 : Hid (Blk w8 (w.heap.size + 1) #[.int .i64 now,.slice a ts.length cap] 32):=S6.out.later B68.out
              have y80 : w8.cell? ⟨w.heap.size + 1,0,none⟩ = some (.int .i64 now):=S8.out.cell 0
              have hs8:=B68.out.size
              go_upto_region 25 with (at_builtin; refine wpList_append_anyS _ rfl _ _ _ rfl w6.heap.size 84 ti _ 2 24 Tryz.underlying76 HI.out hz0 hz1 hz2 rfl (by omega) g8 0 cap8 ([]) rfl (by exact row_later O8.out (bnew _ _)) (some ⟨w8.heap.size,0,none⟩) 1 1 ([.string key,.int .i64 now]) rfl rfl (by exact Or.inr ⟨_,rfl,World.news_of_block (cs:=#[.string key,.int .i64 now]) (heap_alloc_new _ _)⟩) (by simp [Value.oneCell']) (by first | (simp [maxLen]; done) | (simp [maxLen]; omega)) (by omega) (Nat.le_trans hs8 (bnew _ _).size) ?_; intro g10 cap10 w10 hown hB hkp hgb hat hlt9)
              have O10 : Hid (w10.ownsRow w6.heap.size 84 2 (.slice (some ⟨g10,0,none⟩) (0 + 1) cap10) (0 + 1) ([] ++ [.string key,.int .i64 now])):=hid hown
              have B610 : Hid (Below w6.heap.size w6 w10):=(B68.out.trans ((bnew _ _).mono (by omega))).trans hB
              clear hown hB hkp hgb hat hlt9 y80 S8 O8
              have X10 : Hid (Blk w10 X #[.string tn.name,.int .i64 tn.limit,.slice q1 tn.mets.length e1,.slice none 0 0] 78):=X6'.out.later B610.out
              have x103 : w10.cell? ⟨X,3,none⟩ = some (.slice none 0 0):=X10.out.cell 3
              have hs10:=B610.out.size
              go_upto_region 26 with (at_builtin; refine wpList_append_anyS _ rfl _ _ _ rfl w6.heap.size 84 ti _ 2 24 Tryz.underlying76 HI.out hz0 hz1 hz2 rfl (by omega) g10 (0 + 1) cap10 ([] ++ [.string key,.int .i64 now]) rfl (by exact O10.out) none 0 0 ([]) rfl rfl (by exact Or.inl rfl) (by simp) (by first | (simp [maxLen]; done) | (simp [maxLen]; omega)) (by omega) hs10 ?_; intro g12 cap12 w12 hown hB hkp hgb hat hlt9; have X12 : Blk w12 X #[.string tn.name,.int .i64 tn.limit,.slice q1 tn.mets.length e1,.slice none 0 0] 78:=(hB.block X hX6).trans X10.out; have x123:=X12.cell 3; have f123:=X12.free 3)
              have O12 : Hid (w12.ownsRow w6.heap.size 84 2 (.slice (some ⟨g12,0,none⟩) (0 + 1 + 0) cap12) (0 + 1 + 0) ([] ++ [.string key,.int .i64 now] ++ [])):=hid hown
              have B612 : Hid (Below w6.heap.size w6 w12):=B610.out.trans hB
              have XX12:=hid X12
              have hg12 : w6.heap.size ≤ g12:=hgb
              clear hown hB hkp hgb hat hlt9 X12 x123 f123 x103 O10 X10
              have HTX : Hid (Turn (· = X) w12 (w12.setCell ⟨X,3,none⟩ (.slice (some ⟨g12,0,none⟩) (0 + 1 + 0) cap12))):=(Turn.refl (· = X) w12).setCell (Or.inl rfl) 3 _
              have X7 : Hid (Blk (w12.setCell ⟨X,3,none⟩ (.slice (some ⟨g12,0,none⟩) (0 + 1 + 0) cap12)) X #[.string tn.name,.int .i64 tn.limit,.slice q1 tn.mets.length e1,.slice (some ⟨g12,0,none⟩) (0 + 1 + 0) cap12] 78):=hid (by have:=XX12.out.set 3 (.slice (some ⟨g12,0,none⟩) (0 + 1 + 0) cap12); simpa using this)
              have P7 : Hid (PairsIn (w12.setCell ⟨X,3,none⟩ (.slice (some ⟨g12,0,none⟩) (0 + 1 + 0) cap12)) q1 tn.mets):=own_keep (P6.out.later B612.out) HTX.out (fun g' o e hne e'=>HQX.out g' o e hne e')
              have P27 : Hid (PairsIn (w12.setCell ⟨X,3,none⟩ (.slice (some ⟨g12,0,none⟩) (0 + 1 + 0) cap12)) (some ⟨g12,0,none⟩) (insBy (·.s) ⟨key,now⟩ tn.sers)):=by
                refine hid ?_
                have h:=HTX.out.row O12.out (fun q hq e=>by simp only [Value.ownBlock,Option.some.injEq] at hq; omega)
                rw [← HFQ.out,← HLQ.out] at h
                rw [← HLQ.out]
                exact (pairs_of_row h).pairs
              have C7 : Hid (Blk (w12.setCell ⟨X,3,none⟩ (.slice (some ⟨g12,0,none⟩) (0 + 1 + 0) cap12)) w.heap.size #[.int .i64 c.w,.int .i64 c.tl,.int .i64 c.ml,.int .i64 c.sh,.int .i64 c.ha,.int .i64 c.sg] 35):=HTX.out.blk (C6.out.later B612.out) (by omega)
              have S7 : Hid (Blk (w12.setCell ⟨X,3,none⟩ (.slice (some ⟨g12,0,none⟩) (0 + 1 + 0) cap12)) (w.heap.size + 1) #[.int .i64 now,.slice a ts.length cap] 32):=HTX.out.blk (S6.out.later B612.out) (by omega)
              have R7 : Hid (Blk (w12.setCell ⟨X,3,none⟩ (.slice (some ⟨g12,0,none⟩) (0 + 1 + 0) cap12)) (w.heap.size + 1 + 1) #[.int .i64 0,.slice none 0 0] 32):=HTX.out.blk (R6.out.later B612.out) (by omega)
              have B7 : Hid (Below w.heap.size w (w12.setCell ⟨X,3,none⟩ (.slice (some ⟨g12,0,none⟩) (0 + 1 + 0) cap12))):=(bto B6.out B612.out).trans (HTX.out.below (by have:=B6.out.size; have:=B612.out.size; omega) fun i hi e=>by omega)
              have HF7 : Hid (FitW ⟨tn.name,tn.limit,tn.mets,insBy (·.s) ⟨key,now⟩ tn.sers⟩ ∧ tn.name = tenant ∧ tenant.toList.isEmpty = false):=⟨HFI.out,HNM.out,HNE.out⟩
              have HWF:=hid (HWI.out _ tn.name tn.limit tn.mets (insBy (·.s) ⟨key,now⟩ tn.sers) q1 (some ⟨g12,0,none⟩) e1 cap12 B7.out P7.out P27.out HF7.out)
              rw [HKA.out,HLQ.out] at HWF
              clear HTX O12 B612 XX12 P7 P27 B610 B68 HFQ HLQ HCT2 X6 X6' W6 P6 C6 S6 R6 B6 HKA HFI
              generalize (w12.setCell ⟨X,3,none⟩ (.slice (some ⟨g12,0,none⟩) (0 + 1 + 0) cap12)) = w7 at *
              have HVV : Hid (V = (now,insBy (·.name) (addT tn key now) ts,2)):=HV4.out
              generalize insBy (·.name) (addT tn key now) ts = RL at *
              have b7x0 : w7.cell? ⟨w.heap.size,0,none⟩ = some (.int .i64 c.w):=C7.out.cell 0
              have b7x1 : w7.cell? ⟨w.heap.size,1,none⟩ = some (.int .i64 c.tl):=C7.out.cell 1
              have b7x2 : w7.cell? ⟨w.heap.size,2,none⟩ = some (.int .i64 c.ml):=C7.out.cell 2
              have b7x3 : w7.cell? ⟨w.heap.size,3,none⟩ = some (.int .i64 c.sh):=C7.out.cell 3
              have b7x4 : w7.cell? ⟨w.heap.size,4,none⟩ = some (.int .i64 c.ha):=C7.out.cell 4
              have b7x5 : w7.cell? ⟨w.heap.size,5,none⟩ = some (.int .i64 c.sg):=C7.out.cell 5
              have b7y0 : w7.cell? ⟨w.heap.size + 1,0,none⟩ = some (.int .i64 now):=S7.out.cell 0
              have b7y1 : w7.cell? ⟨w.heap.size + 1,1,none⟩ = some (.slice a ts.length cap):=S7.out.cell 1
              have m70 : w7.cell? ⟨X,0,none⟩ = some (.string tn.name):=X7.out.cell 0
              have m71 : w7.cell? ⟨X,1,none⟩ = some (.int .i64 tn.limit):=X7.out.cell 1
              have m72 : w7.cell? ⟨X,2,none⟩ = some (.slice q1 tn.mets.length e1):=X7.out.cell 2
              have m73 : w7.cell? ⟨X,3,none⟩ = some (.slice (some ⟨g12,0,none⟩) (0 + 1 + 0) cap12):=X7.out.cell 3
              go_wp2_with fail
              refine HWF.out.mono ?_
              rintro e w9 ⟨ra,rc,rfl,ho9,hb9⟩
              have HO9 : Hid (TensOwn w9 w7.heap.size ra RL):=ho9
              have R9 : Hid (Blk w9 (w.heap.size + 1 + 1) #[.int .i64 0,.slice none 0 0] 32):=R7.out.later hb9
              have B9 : Hid (Below w.heap.size w w9):=bto B7.out hb9
              have hwv : w.heap.size + 1 + 1 < w7.heap.size:=lt_of_block R7.out
              clear ho9 hb9
              have z0 : w9.cell? ⟨w.heap.size + 1 + 1,0,none⟩ = some (.int .i64 0):=R9.out.cell 0
              have z1 : w9.cell? ⟨w.heap.size + 1 + 1,1,none⟩ = some (.slice none 0 0):=R9.out.cell 1
              have f0:=R9.out.free 0
              have f1:=R9.out.free 1
              have hwl : w.heap.size + 1 + 1 < w9.heap.size:=lt_of_block R9.out
              go_wp2
              have HTE9 : Turn (· = w.heap.size + 1 + 1) w9 ((w9.setCell ⟨w.heap.size + 1 + 1,0,none⟩ (.int .i64 now)).setCell ⟨w.heap.size + 1 + 1,1,none⟩ (.slice ra RL.length rc)):=((Turn.refl (· = w.heap.size + 1 + 1) w9).setCell (Or.inl rfl) 0 _).setCell (Or.inl rfl) 1 _
              refine bodyPost_ret (v:=.tuple #[.agg #[.int .i64 now,.slice ra RL.length rc],.int .i64 2]) (by simp [results,Tryz.results20,go_sem,z0,z1]) rfl ?_
              rw [HVV.out]
              have ho : TensOwn ((w9.setCell ⟨w.heap.size + 1 + 1,0,none⟩ (.int .i64 now)).setCell ⟨w.heap.size + 1 + 1,1,none⟩ (.slice ra RL.length rc)) w.heap.size ra RL:=(TensOwn.turned HO9.out HTE9 (fun g h1 h2 e=>by omega)).mono (by omega)
              have hbe : Below w.heap.size w ((w9.setCell ⟨w.heap.size + 1 + 1,0,none⟩ (.int .i64 now)).setCell ⟨w.heap.size + 1 + 1,1,none⟩ (.slice ra RL.length rc)):=((Turn.of (S:=fun i=>w.heap.size ≤ i) B9.out).trans' (HTE9.mono fun i _ e=>by omega)).below (Nat.le_refl _) fun i hi h=>by omega
              first
                | exact ⟨ra,⟨rc,rfl⟩,ho,hbe⟩
                | exact ⟨ra,rc,rfl,ho,hbe⟩
            · by_cases hej : j = e2
              · subst hej
                go_upto_region 23 with fail
                have hce : tn.sers.length ≤ j:=row_cap W6.out
                have hje : j ≤ j:=by omega
                have HSH : Hid (∀ W,Below w6.heap.size w6 W → SrcAt W (some ⟨g,0,none⟩) j (flatK (tn.sers.take j)) ∧ SrcAt W (some ⟨g,j * 2,none⟩) (tn.sers.length - j) (flatK (tn.sers.drop j))):=fun W hW=>src_two (row_later W6.out hW) hj
                have hl1 : (flatK (tn.sers.take j)).length = j * 2:=by rw [flatK_length,List.length_take]; omega
                have hl2 : (flatK (tn.sers.drop j)).length = (tn.sers.length - j) * 2:=by rw [flatK_length,List.length_drop]
                have HFQ : Hid (flatK (insBy (·.s) ⟨key,now⟩ tn.sers) = flatK (tn.sers.take j) ++ [.string key,.int .i64 now] ++ []):=by
                  refine hid ?_
                  have hdr : tn.sers.drop j = []:=List.drop_of_length_le (by omega)
                  rw [HCT2.out,show tn.sers.take j ++ (⟨key,now⟩ : PairD) :: tn.sers.drop j = (tn.sers.take j ++ [(⟨key,now⟩ : PairD)]) ++ tn.sers.drop j by simp,flatK_append,flatK_append,hdr]
                  rfl
                have HLQ : Hid ((insBy (·.s) (⟨key,now⟩ : PairD) tn.sers).length = j + 1 + 0):=by
                  refine hid ?_
                  rw [HCT2.out,List.length_append,List.length_cons,List.length_take,List.length_drop]
                  omega
                have X6' : Hid (Blk w6 X #[.string tn.name,.int .i64 tn.limit,.slice q1 tn.mets.length e1,.slice (some ⟨g,0,none⟩) tn.sers.length j] 78):=hid (by exact X6.out)
                have xa3 : (w6.alloc (.cells #[] 84)).cell? ⟨X,3,none⟩ = some (.slice (some ⟨g,0,none⟩) tn.sers.length j):=(X6'.out.alloc _).cell 3
                have hX6 : X < w6.heap.size:=lt_of_block X6'.out
                clear x6 hk
                go_upto_region 24 with (at_builtin; refine wpList_append_anyS _ rfl _ _ _ rfl w6.heap.size 84 ti _ 2 24 Tryz.underlying76 HI.out hz0 hz1 hz2 rfl (by omega) w6.heap.size 0 0 ([]) rfl (by exact (World.ownsRow_made w6 #[] 0 (Nat.le_refl _) (by simp [maxLen]) (by simp))) (some ⟨g,0,none⟩) j j (flatK (tn.sers.take j)) rfl hl1 (by exact (HSH.out _ (bnew _ _)).1) (flatK_cell _) (by first | (simp [maxLen]; done) | (simp [maxLen]; omega)) (by omega) (bnew _ _).size ?_; intro g8 cap8 w8 hown hB hkp hgb hat hlt9)
                have O8 : Hid (w8.ownsRow w6.heap.size 84 2 (.slice (some ⟨g8,0,none⟩) j cap8) j (flatK (tn.sers.take j))):=hid (by simpa using hown)
                have B68 : Hid (Below w6.heap.size w6 w8):=(bnew _ _).trans hB
                clear hown hB hkp hgb hat hlt9 xa3
                have S8 : Hid (Blk w8 (w.heap.size + 1) #[.int .i64 now,.slice a ts.length cap] 32):=S6.out.later B68.out
                have y80 : w8.cell? ⟨w.heap.size + 1,0,none⟩ = some (.int .i64 now):=S8.out.cell 0
                have hs8:=B68.out.size
                go_upto_region 25 with (at_builtin; refine wpList_append_anyS _ rfl _ _ _ rfl w6.heap.size 84 ti _ 2 24 Tryz.underlying76 HI.out hz0 hz1 hz2 rfl (by omega) g8 j cap8 (flatK (tn.sers.take j)) rfl (by exact row_later O8.out (bnew _ _)) (some ⟨w8.heap.size,0,none⟩) 1 1 ([.string key,.int .i64 now]) rfl rfl (by exact Or.inr ⟨_,rfl,World.news_of_block (cs:=#[.string key,.int .i64 now]) (heap_alloc_new _ _)⟩) (by simp [Value.oneCell']) (by first | (simp [maxLen]; done) | (simp [maxLen]; omega)) (by omega) (Nat.le_trans hs8 (bnew _ _).size) ?_; intro g10 cap10 w10 hown hB hkp hgb hat hlt9)
                have O10 : Hid (w10.ownsRow w6.heap.size 84 2 (.slice (some ⟨g10,0,none⟩) (j + 1) cap10) (j + 1) (flatK (tn.sers.take j) ++ [.string key,.int .i64 now])):=hid hown
                have B610 : Hid (Below w6.heap.size w6 w10):=(B68.out.trans ((bnew _ _).mono (by omega))).trans hB
                clear hown hB hkp hgb hat hlt9 y80 S8 O8
                have X10 : Hid (Blk w10 X #[.string tn.name,.int .i64 tn.limit,.slice q1 tn.mets.length e1,.slice (some ⟨g,0,none⟩) tn.sers.length j] 78):=X6'.out.later B610.out
                have x103 : w10.cell? ⟨X,3,none⟩ = some (.slice (some ⟨g,0,none⟩) tn.sers.length j):=X10.out.cell 3
                have hs10:=B610.out.size
                go_upto_region 26 with (at_builtin; refine wpList_append_anyS _ rfl _ _ _ rfl w6.heap.size 84 ti _ 2 24 Tryz.underlying76 HI.out hz0 hz1 hz2 rfl (by omega) g10 (j + 1) cap10 (flatK (tn.sers.take j) ++ [.string key,.int .i64 now]) rfl (by exact O10.out) _ _ _ ([]) rfl rfl (by exact Or.inl rfl) (by simp) (by first | (simp [maxLen]; done) | (simp [maxLen]; omega)) (by omega) hs10 ?_; intro g12 cap12 w12 hown hB hkp hgb hat hlt9; have X12 : Blk w12 X #[.string tn.name,.int .i64 tn.limit,.slice q1 tn.mets.length e1,.slice (some ⟨g,0,none⟩) tn.sers.length j] 78:=(hB.block X hX6).trans X10.out; have x123:=X12.cell 3; have f123:=X12.free 3)
                have O12 : Hid (w12.ownsRow w6.heap.size 84 2 (.slice (some ⟨g12,0,none⟩) (j + 1 + 0) cap12) (j + 1 + 0) (flatK (tn.sers.take j) ++ [.string key,.int .i64 now] ++ [])):=hid hown
                have B612 : Hid (Below w6.heap.size w6 w12):=B610.out.trans hB
                have XX12:=hid X12
                have hg12 : w6.heap.size ≤ g12:=hgb
                clear hown hB hkp hgb hat hlt9 X12 x123 f123 x103 O10 X10
                have HTX : Hid (Turn (· = X) w12 (w12.setCell ⟨X,3,none⟩ (.slice (some ⟨g12,0,none⟩) (j + 1 + 0) cap12))):=(Turn.refl (· = X) w12).setCell (Or.inl rfl) 3 _
                have X7 : Hid (Blk (w12.setCell ⟨X,3,none⟩ (.slice (some ⟨g12,0,none⟩) (j + 1 + 0) cap12)) X #[.string tn.name,.int .i64 tn.limit,.slice q1 tn.mets.length e1,.slice (some ⟨g12,0,none⟩) (j + 1 + 0) cap12] 78):=hid (by have:=XX12.out.set 3 (.slice (some ⟨g12,0,none⟩) (j + 1 + 0) cap12); simpa using this)
                have P7 : Hid (PairsIn (w12.setCell ⟨X,3,none⟩ (.slice (some ⟨g12,0,none⟩) (j + 1 + 0) cap12)) q1 tn.mets):=own_keep (P6.out.later B612.out) HTX.out (fun g' o e hne e'=>HQX.out g' o e hne e')
                have P27 : Hid (PairsIn (w12.setCell ⟨X,3,none⟩ (.slice (some ⟨g12,0,none⟩) (j + 1 + 0) cap12)) (some ⟨g12,0,none⟩) (insBy (·.s) ⟨key,now⟩ tn.sers)):=by
                  refine hid ?_
                  have h:=HTX.out.row O12.out (fun q hq e=>by simp only [Value.ownBlock,Option.some.injEq] at hq; omega)
                  rw [← HFQ.out,← HLQ.out] at h
                  rw [← HLQ.out]
                  exact (pairs_of_row h).pairs
                have C7 : Hid (Blk (w12.setCell ⟨X,3,none⟩ (.slice (some ⟨g12,0,none⟩) (j + 1 + 0) cap12)) w.heap.size #[.int .i64 c.w,.int .i64 c.tl,.int .i64 c.ml,.int .i64 c.sh,.int .i64 c.ha,.int .i64 c.sg] 35):=HTX.out.blk (C6.out.later B612.out) (by omega)
                have S7 : Hid (Blk (w12.setCell ⟨X,3,none⟩ (.slice (some ⟨g12,0,none⟩) (j + 1 + 0) cap12)) (w.heap.size + 1) #[.int .i64 now,.slice a ts.length cap] 32):=HTX.out.blk (S6.out.later B612.out) (by omega)
                have R7 : Hid (Blk (w12.setCell ⟨X,3,none⟩ (.slice (some ⟨g12,0,none⟩) (j + 1 + 0) cap12)) (w.heap.size + 1 + 1) #[.int .i64 0,.slice none 0 0] 32):=HTX.out.blk (R6.out.later B612.out) (by omega)
                have B7 : Hid (Below w.heap.size w (w12.setCell ⟨X,3,none⟩ (.slice (some ⟨g12,0,none⟩) (j + 1 + 0) cap12))):=(bto B6.out B612.out).trans (HTX.out.below (by have:=B6.out.size; have:=B612.out.size; omega) fun i hi e=>by omega)
                have HF7 : Hid (FitW ⟨tn.name,tn.limit,tn.mets,insBy (·.s) ⟨key,now⟩ tn.sers⟩ ∧ tn.name = tenant ∧ tenant.toList.isEmpty = false):=⟨HFI.out,HNM.out,HNE.out⟩
                have HWF:=hid (HWI.out _ tn.name tn.limit tn.mets (insBy (·.s) ⟨key,now⟩ tn.sers) q1 (some ⟨g12,0,none⟩) e1 cap12 B7.out P7.out P27.out HF7.out)
                rw [HKA.out,HLQ.out] at HWF
                clear HTX O12 B612 XX12 P7 P27 B610 B68 HFQ HLQ HSH hl1 hl2 HCT2 X6 X6' W6 P6 C6 S6 R6 B6 HKA HFI
                generalize (w12.setCell ⟨X,3,none⟩ (.slice (some ⟨g12,0,none⟩) (j + 1 + 0) cap12)) = w7 at *
                have HVV : Hid (V = (now,insBy (·.name) (addT tn key now) ts,2)):=HV4.out
                generalize insBy (·.name) (addT tn key now) ts = RL at *
                have b7x0 : w7.cell? ⟨w.heap.size,0,none⟩ = some (.int .i64 c.w):=C7.out.cell 0
                have b7x1 : w7.cell? ⟨w.heap.size,1,none⟩ = some (.int .i64 c.tl):=C7.out.cell 1
                have b7x2 : w7.cell? ⟨w.heap.size,2,none⟩ = some (.int .i64 c.ml):=C7.out.cell 2
                have b7x3 : w7.cell? ⟨w.heap.size,3,none⟩ = some (.int .i64 c.sh):=C7.out.cell 3
                have b7x4 : w7.cell? ⟨w.heap.size,4,none⟩ = some (.int .i64 c.ha):=C7.out.cell 4
                have b7x5 : w7.cell? ⟨w.heap.size,5,none⟩ = some (.int .i64 c.sg):=C7.out.cell 5
                have b7y0 : w7.cell? ⟨w.heap.size + 1,0,none⟩ = some (.int .i64 now):=S7.out.cell 0
                have b7y1 : w7.cell? ⟨w.heap.size + 1,1,none⟩ = some (.slice a ts.length cap):=S7.out.cell 1
                have m70 : w7.cell? ⟨X,0,none⟩ = some (.string tn.name):=X7.out.cell 0
                have m71 : w7.cell? ⟨X,1,none⟩ = some (.int .i64 tn.limit):=X7.out.cell 1
                have m72 : w7.cell? ⟨X,2,none⟩ = some (.slice q1 tn.mets.length e1):=X7.out.cell 2
                have m73 : w7.cell? ⟨X,3,none⟩ = some (.slice (some ⟨g12,0,none⟩) (j + 1 + 0) cap12):=X7.out.cell 3
                go_wp2_with fail
                refine HWF.out.mono ?_
                rintro e w9 ⟨ra,rc,rfl,ho9,hb9⟩
                have HO9 : Hid (TensOwn w9 w7.heap.size ra RL):=ho9
                have R9 : Hid (Blk w9 (w.heap.size + 1 + 1) #[.int .i64 0,.slice none 0 0] 32):=R7.out.later hb9
                have B9 : Hid (Below w.heap.size w w9):=bto B7.out hb9
                have hwv : w.heap.size + 1 + 1 < w7.heap.size:=lt_of_block R7.out
                clear ho9 hb9
                have z0 : w9.cell? ⟨w.heap.size + 1 + 1,0,none⟩ = some (.int .i64 0):=R9.out.cell 0
                have z1 : w9.cell? ⟨w.heap.size + 1 + 1,1,none⟩ = some (.slice none 0 0):=R9.out.cell 1
                have f0:=R9.out.free 0
                have f1:=R9.out.free 1
                have hwl : w.heap.size + 1 + 1 < w9.heap.size:=lt_of_block R9.out
                go_wp2
                have HTE9 : Turn (· = w.heap.size + 1 + 1) w9 ((w9.setCell ⟨w.heap.size + 1 + 1,0,none⟩ (.int .i64 now)).setCell ⟨w.heap.size + 1 + 1,1,none⟩ (.slice ra RL.length rc)):=((Turn.refl (· = w.heap.size + 1 + 1) w9).setCell (Or.inl rfl) 0 _).setCell (Or.inl rfl) 1 _
                refine bodyPost_ret (v:=.tuple #[.agg #[.int .i64 now,.slice ra RL.length rc],.int .i64 2]) (by simp [results,Tryz.results20,go_sem,z0,z1]) rfl ?_
                rw [HVV.out]
                have ho : TensOwn ((w9.setCell ⟨w.heap.size + 1 + 1,0,none⟩ (.int .i64 now)).setCell ⟨w.heap.size + 1 + 1,1,none⟩ (.slice ra RL.length rc)) w.heap.size ra RL:=(TensOwn.turned HO9.out HTE9 (fun g h1 h2 e=>by omega)).mono (by omega)
                have hbe : Below w.heap.size w ((w9.setCell ⟨w.heap.size + 1 + 1,0,none⟩ (.int .i64 now)).setCell ⟨w.heap.size + 1 + 1,1,none⟩ (.slice ra RL.length rc)):=((Turn.of (S:=fun i=>w.heap.size ≤ i) B9.out).trans' (HTE9.mono fun i _ e=>by omega)).below (Nat.le_refl _) fun i hi h=>by omega
                first
                  | exact ⟨ra,⟨rc,rfl⟩,ho,hbe⟩
                  | exact ⟨ra,rc,rfl,ho,hbe⟩
              · have hej' : ¬ (e2 = j):=fun e=>hej e.symm
                clear hej
                go_upto_region 23 with fail
                have hce : tn.sers.length ≤ e2:=row_cap W6.out
                have hje : j ≤ e2:=by omega
                have HSH : Hid (∀ W,Below w6.heap.size w6 W → SrcAt W (some ⟨g,0,none⟩) j (flatK (tn.sers.take j)) ∧ SrcAt W (some ⟨g,j * 2,none⟩) (tn.sers.length - j) (flatK (tn.sers.drop j))):=fun W hW=>src_two (row_later W6.out hW) hj
                have hl1 : (flatK (tn.sers.take j)).length = j * 2:=by rw [flatK_length,List.length_take]; omega
                have hl2 : (flatK (tn.sers.drop j)).length = (tn.sers.length - j) * 2:=by rw [flatK_length,List.length_drop]
                have HFQ : Hid (flatK (insBy (·.s) ⟨key,now⟩ tn.sers) = flatK (tn.sers.take j) ++ [.string key,.int .i64 now] ++ flatK (tn.sers.drop j)):=by
                  refine hid ?_
                  rw [HCT2.out,show tn.sers.take j ++ (⟨key,now⟩ : PairD) :: tn.sers.drop j = (tn.sers.take j ++ [(⟨key,now⟩ : PairD)]) ++ tn.sers.drop j by simp,flatK_append,flatK_append]
                  rfl
                have HLQ : Hid ((insBy (·.s) (⟨key,now⟩ : PairD) tn.sers).length = j + 1 + (tn.sers.length - j)):=by
                  refine hid ?_
                  rw [HCT2.out,List.length_append,List.length_cons,List.length_take,List.length_drop]
                  omega
                have X6' : Hid (Blk w6 X #[.string tn.name,.int .i64 tn.limit,.slice q1 tn.mets.length e1,.slice (some ⟨g,0,none⟩) tn.sers.length e2] 78):=hid (by exact X6.out)
                have xa3 : (w6.alloc (.cells #[] 84)).cell? ⟨X,3,none⟩ = some (.slice (some ⟨g,0,none⟩) tn.sers.length e2):=(X6'.out.alloc _).cell 3
                have hX6 : X < w6.heap.size:=lt_of_block X6'.out
                clear x6 hk
                go_upto_region 24 with (at_builtin; refine wpList_append_anyS _ rfl _ _ _ rfl w6.heap.size 84 ti _ 2 24 Tryz.underlying76 HI.out hz0 hz1 hz2 rfl (by omega) w6.heap.size 0 0 ([]) rfl (by exact (World.ownsRow_made w6 #[] 0 (Nat.le_refl _) (by simp [maxLen]) (by simp))) (some ⟨g,0,none⟩) j e2 (flatK (tn.sers.take j)) rfl hl1 (by exact (HSH.out _ (bnew _ _)).1) (flatK_cell _) (by first | (simp [maxLen]; done) | (simp [maxLen]; omega)) (by omega) (bnew _ _).size ?_; intro g8 cap8 w8 hown hB hkp hgb hat hlt9)
                have O8 : Hid (w8.ownsRow w6.heap.size 84 2 (.slice (some ⟨g8,0,none⟩) j cap8) j (flatK (tn.sers.take j))):=hid (by simpa using hown)
                have B68 : Hid (Below w6.heap.size w6 w8):=(bnew _ _).trans hB
                clear hown hB hkp hgb hat hlt9 xa3
                have S8 : Hid (Blk w8 (w.heap.size + 1) #[.int .i64 now,.slice a ts.length cap] 32):=S6.out.later B68.out
                have y80 : w8.cell? ⟨w.heap.size + 1,0,none⟩ = some (.int .i64 now):=S8.out.cell 0
                have hs8:=B68.out.size
                go_upto_region 25 with (at_builtin; refine wpList_append_anyS _ rfl _ _ _ rfl w6.heap.size 84 ti _ 2 24 Tryz.underlying76 HI.out hz0 hz1 hz2 rfl (by omega) g8 j cap8 (flatK (tn.sers.take j)) rfl (by exact row_later O8.out (bnew _ _)) (some ⟨w8.heap.size,0,none⟩) 1 1 ([.string key,.int .i64 now]) rfl rfl (by exact Or.inr ⟨_,rfl,World.news_of_block (cs:=#[.string key,.int .i64 now]) (heap_alloc_new _ _)⟩) (by simp [Value.oneCell']) (by first | (simp [maxLen]; done) | (simp [maxLen]; omega)) (by omega) (Nat.le_trans hs8 (bnew _ _).size) ?_; intro g10 cap10 w10 hown hB hkp hgb hat hlt9)
                have O10 : Hid (w10.ownsRow w6.heap.size 84 2 (.slice (some ⟨g10,0,none⟩) (j + 1) cap10) (j + 1) (flatK (tn.sers.take j) ++ [.string key,.int .i64 now])):=hid hown
                have B610 : Hid (Below w6.heap.size w6 w10):=(B68.out.trans ((bnew _ _).mono (by omega))).trans hB
                clear hown hB hkp hgb hat hlt9 y80 S8 O8
                have X10 : Hid (Blk w10 X #[.string tn.name,.int .i64 tn.limit,.slice q1 tn.mets.length e1,.slice (some ⟨g,0,none⟩) tn.sers.length e2] 78):=X6'.out.later B610.out
                have x103 : w10.cell? ⟨X,3,none⟩ = some (.slice (some ⟨g,0,none⟩) tn.sers.length e2):=X10.out.cell 3
                have hs10:=B610.out.size
                go_upto_region 26 with (at_builtin; refine wpList_append_anyS _ rfl _ _ _ rfl w6.heap.size 84 ti _ 2 24 Tryz.underlying76 HI.out hz0 hz1 hz2 rfl (by omega) g10 (j + 1) cap10 (flatK (tn.sers.take j) ++ [.string key,.int .i64 now]) rfl (by exact O10.out) _ _ _ (flatK (tn.sers.drop j)) rfl hl2 (by exact (show SrcAt w10 _ (tn.sers.length - j) (flatK (tn.sers.drop j)) from (by first | exact (HSH.out _ B610.out).2 | exact Or.inl (by omega)))) (flatK_cell _) (by first | (simp [maxLen]; done) | (simp [maxLen]; omega)) (by omega) hs10 ?_; intro g12 cap12 w12 hown hB hkp hgb hat hlt9; have X12 : Blk w12 X #[.string tn.name,.int .i64 tn.limit,.slice q1 tn.mets.length e1,.slice (some ⟨g,0,none⟩) tn.sers.length e2] 78:=(hB.block X hX6).trans X10.out; have x123:=X12.cell 3; have f123:=X12.free 3)
                have O12 : Hid (w12.ownsRow w6.heap.size 84 2 (.slice (some ⟨g12,0,none⟩) (j + 1 + (tn.sers.length - j)) cap12) (j + 1 + (tn.sers.length - j)) (flatK (tn.sers.take j) ++ [.string key,.int .i64 now] ++ flatK (tn.sers.drop j))):=hid hown
                have B612 : Hid (Below w6.heap.size w6 w12):=B610.out.trans hB
                have XX12:=hid X12
                have hg12 : w6.heap.size ≤ g12:=hgb
                clear hown hB hkp hgb hat hlt9 X12 x123 f123 x103 O10 X10
                have HTX : Hid (Turn (· = X) w12 (w12.setCell ⟨X,3,none⟩ (.slice (some ⟨g12,0,none⟩) (j + 1 + (tn.sers.length - j)) cap12))):=(Turn.refl (· = X) w12).setCell (Or.inl rfl) 3 _
                have X7 : Hid (Blk (w12.setCell ⟨X,3,none⟩ (.slice (some ⟨g12,0,none⟩) (j + 1 + (tn.sers.length - j)) cap12)) X #[.string tn.name,.int .i64 tn.limit,.slice q1 tn.mets.length e1,.slice (some ⟨g12,0,none⟩) (j + 1 + (tn.sers.length - j)) cap12] 78):=hid (by have:=XX12.out.set 3 (.slice (some ⟨g12,0,none⟩) (j + 1 + (tn.sers.length - j)) cap12); simpa using this)
                have P7 : Hid (PairsIn (w12.setCell ⟨X,3,none⟩ (.slice (some ⟨g12,0,none⟩) (j + 1 + (tn.sers.length - j)) cap12)) q1 tn.mets):=own_keep (P6.out.later B612.out) HTX.out (fun g' o e hne e'=>HQX.out g' o e hne e')
                have P27 : Hid (PairsIn (w12.setCell ⟨X,3,none⟩ (.slice (some ⟨g12,0,none⟩) (j + 1 + (tn.sers.length - j)) cap12)) (some ⟨g12,0,none⟩) (insBy (·.s) ⟨key,now⟩ tn.sers)):=by
                  refine hid ?_
                  have h:=HTX.out.row O12.out (fun q hq e=>by simp only [Value.ownBlock,Option.some.injEq] at hq; omega)
                  rw [← HFQ.out,← HLQ.out] at h
                  rw [← HLQ.out]
                  exact (pairs_of_row h).pairs
                have C7 : Hid (Blk (w12.setCell ⟨X,3,none⟩ (.slice (some ⟨g12,0,none⟩) (j + 1 + (tn.sers.length - j)) cap12)) w.heap.size #[.int .i64 c.w,.int .i64 c.tl,.int .i64 c.ml,.int .i64 c.sh,.int .i64 c.ha,.int .i64 c.sg] 35):=HTX.out.blk (C6.out.later B612.out) (by omega)
                have S7 : Hid (Blk (w12.setCell ⟨X,3,none⟩ (.slice (some ⟨g12,0,none⟩) (j + 1 + (tn.sers.length - j)) cap12)) (w.heap.size + 1) #[.int .i64 now,.slice a ts.length cap] 32):=HTX.out.blk (S6.out.later B612.out) (by omega)
                have R7 : Hid (Blk (w12.setCell ⟨X,3,none⟩ (.slice (some ⟨g12,0,none⟩) (j + 1 + (tn.sers.length - j)) cap12)) (w.heap.size + 1 + 1) #[.int .i64 0,.slice none 0 0] 32):=HTX.out.blk (R6.out.later B612.out) (by omega)
                have B7 : Hid (Below w.heap.size w (w12.setCell ⟨X,3,none⟩ (.slice (some ⟨g12,0,none⟩) (j + 1 + (tn.sers.length - j)) cap12))):=(bto B6.out B612.out).trans (HTX.out.below (by have:=B6.out.size; have:=B612.out.size; omega) fun i hi e=>by omega)
                have HF7 : Hid (FitW ⟨tn.name,tn.limit,tn.mets,insBy (·.s) ⟨key,now⟩ tn.sers⟩ ∧ tn.name = tenant ∧ tenant.toList.isEmpty = false):=⟨HFI.out,HNM.out,HNE.out⟩
                have HWF:=hid (HWI.out _ tn.name tn.limit tn.mets (insBy (·.s) ⟨key,now⟩ tn.sers) q1 (some ⟨g12,0,none⟩) e1 cap12 B7.out P7.out P27.out HF7.out)
                rw [HKA.out,HLQ.out] at HWF
                clear HTX O12 B612 XX12 P7 P27 B610 B68 HFQ HLQ HSH hl1 hl2 HCT2 X6 X6' W6 P6 C6 S6 R6 B6 HKA HFI
                generalize (w12.setCell ⟨X,3,none⟩ (.slice (some ⟨g12,0,none⟩) (j + 1 + (tn.sers.length - j)) cap12)) = w7 at *
                have HVV : Hid (V = (now,insBy (·.name) (addT tn key now) ts,2)):=HV4.out
                generalize insBy (·.name) (addT tn key now) ts = RL at *
                have b7x0 : w7.cell? ⟨w.heap.size,0,none⟩ = some (.int .i64 c.w):=C7.out.cell 0
                have b7x1 : w7.cell? ⟨w.heap.size,1,none⟩ = some (.int .i64 c.tl):=C7.out.cell 1
                have b7x2 : w7.cell? ⟨w.heap.size,2,none⟩ = some (.int .i64 c.ml):=C7.out.cell 2
                have b7x3 : w7.cell? ⟨w.heap.size,3,none⟩ = some (.int .i64 c.sh):=C7.out.cell 3
                have b7x4 : w7.cell? ⟨w.heap.size,4,none⟩ = some (.int .i64 c.ha):=C7.out.cell 4
                have b7x5 : w7.cell? ⟨w.heap.size,5,none⟩ = some (.int .i64 c.sg):=C7.out.cell 5
                have b7y0 : w7.cell? ⟨w.heap.size + 1,0,none⟩ = some (.int .i64 now):=S7.out.cell 0
                have b7y1 : w7.cell? ⟨w.heap.size + 1,1,none⟩ = some (.slice a ts.length cap):=S7.out.cell 1
                have m70 : w7.cell? ⟨X,0,none⟩ = some (.string tn.name):=X7.out.cell 0
                have m71 : w7.cell? ⟨X,1,none⟩ = some (.int .i64 tn.limit):=X7.out.cell 1
                have m72 : w7.cell? ⟨X,2,none⟩ = some (.slice q1 tn.mets.length e1):=X7.out.cell 2
                have m73 : w7.cell? ⟨X,3,none⟩ = some (.slice (some ⟨g12,0,none⟩) (j + 1 + (tn.sers.length - j)) cap12):=X7.out.cell 3
                go_wp2_with fail
                refine HWF.out.mono ?_
                rintro e w9 ⟨ra,rc,rfl,ho9,hb9⟩
                have HO9 : Hid (TensOwn w9 w7.heap.size ra RL):=ho9
                have R9 : Hid (Blk w9 (w.heap.size + 1 + 1) #[.int .i64 0,.slice none 0 0] 32):=R7.out.later hb9
                have B9 : Hid (Below w.heap.size w w9):=bto B7.out hb9
                have hwv : w.heap.size + 1 + 1 < w7.heap.size:=lt_of_block R7.out
                clear ho9 hb9
                have z0 : w9.cell? ⟨w.heap.size + 1 + 1,0,none⟩ = some (.int .i64 0):=R9.out.cell 0
                have z1 : w9.cell? ⟨w.heap.size + 1 + 1,1,none⟩ = some (.slice none 0 0):=R9.out.cell 1
                have f0:=R9.out.free 0
                have f1:=R9.out.free 1
                have hwl : w.heap.size + 1 + 1 < w9.heap.size:=lt_of_block R9.out
                go_wp2
                have HTE9 : Turn (· = w.heap.size + 1 + 1) w9 ((w9.setCell ⟨w.heap.size + 1 + 1,0,none⟩ (.int .i64 now)).setCell ⟨w.heap.size + 1 + 1,1,none⟩ (.slice ra RL.length rc)):=((Turn.refl (· = w.heap.size + 1 + 1) w9).setCell (Or.inl rfl) 0 _).setCell (Or.inl rfl) 1 _
                refine bodyPost_ret (v:=.tuple #[.agg #[.int .i64 now,.slice ra RL.length rc],.int .i64 2]) (by simp [results,Tryz.results20,go_sem,z0,z1]) rfl ?_
                rw [HVV.out]
                have ho : TensOwn ((w9.setCell ⟨w.heap.size + 1 + 1,0,none⟩ (.int .i64 now)).setCell ⟨w.heap.size + 1 + 1,1,none⟩ (.slice ra RL.length rc)) w.heap.size ra RL:=(TensOwn.turned HO9.out HTE9 (fun g h1 h2 e=>by omega)).mono (by omega)
                have hbe : Below w.heap.size w ((w9.setCell ⟨w.heap.size + 1 + 1,0,none⟩ (.int .i64 now)).setCell ⟨w.heap.size + 1 + 1,1,none⟩ (.slice ra RL.length rc)):=((Turn.of (S:=fun i=>w.heap.size ≤ i) B9.out).trans' (HTE9.mono fun i _ e=>by omega)).below (Nat.le_refl _) fun i hi h=>by omega
                first
                  | exact ⟨ra,⟨rc,rfl⟩,ho,hbe⟩
                  | exact ⟨ra,rc,rfl,ho,hbe⟩
end Go.Proofs.YtkmdbpaeeagccaaGreatDoor
