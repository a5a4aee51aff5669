import Derived.Test.YtkmdbpaeeagccaaGreatDoorProg
import Derived.Test.YtkmdbpaeeagccaaGreatDoorJ37AdO
import Derived.Test.YtkmdbpaeeagccaaGreatDoorJ35StrL
import Derived.Test.YtkmdbpaeeagccaaGreatDoorJ29SSta
import Derived.Test.YtkmdbpaeeagccaaGreatDoorJ38SAdm0
import Derived.Deep.RegionHeld3
import Derived.Deep.DeepCutAuto
namespace Go.Proofs.YtkmdbpaeeagccaaGreatDoor
open Go.RowKit
set_option maxRecDepth 100000 in
set_option maxHeartbeats 32000000 in
theorem specAdmit_known (c : CfgD) (now : Int) (a : Option Addr) (cap : Nat) (ts : List TenD) (tenant key : ByteArray) (w : World) (hf : TensIn w a ts) (hbk : ts.length + tensBulk ts ≤ 1100000) (hn : tenant.size ≤ 1100000) (hk : key.size ≤ 1100000) (h0' : stateB c now ts = true) (hbn : (tnameB tenant && keyOK key) = true) (hkn : (getBy (·.s) key (tenOf ts tenant).sers).isSome = true) :
    Calls Tryz.prog 20 #[cfgV c,.agg #[.int .i64 now,.slice a ts.length cap],.string tenant,.string key] w fun e w'=>AdOut (admitV c now ts tenant key) w e w':=by
  obtain ⟨f1,f2,f3,f4⟩:=fit_of hbk
  have HO : Hid (∀ W,Below w.heap.size w W → Calls Tryz.prog 18 #[cfgV c,.agg #[.int .i64 now,.slice a ts.length cap]] W fun e w'=>e = .returned (.bool (stateB c now ts)) ∧ Below W.heap.size W w'):=fun W hW=>specState_any c now a cap ts W (hf.later hW) f2 (by omega)
  have HTN : Hid (∀ W,Calls Tryz.prog 37 #[.string tenant] W fun e w'=>e = .returned (.bool (tnameB tenant)) ∧ w' = W):=fun W=>l4TenantName_any tenant W (by unfold maxLen; omega)
  have HKY : Hid (∀ W,Calls Tryz.prog 40 #[.string key] W fun e w'=>e = .returned (.bool (keyOK key)) ∧ Below W.heap.size W w'):=fun W=>l4Key_any key W (by omega)
  have HV : Hid (admitV c now ts tenant key = if stateB c now ts = false then (0,[],5) else if (tnameB tenant && keyOK key) = false then (now,ts,5) else if (getBy (·.s) key (tenOf ts tenant).sers).isSome = true then (now,insBy (·.name) (addT (tenOf ts tenant) key now) ts,1) else if (countV c (tenOf ts tenant) ByteArray.empty).2 ≤ (countV c (tenOf ts tenant) ByteArray.empty).1 ∨ (idleB (tenOf ts tenant) = true ∧ ts.length = 10000) then (now,ts,3) else if (countV c (tenOf ts tenant) (metK key)).2 ≤ (countV c (tenOf ts tenant) (metK key)).1 then (now,ts,4) else (now,insBy (·.name) (addT (tenOf ts tenant) key now) ts,2)):=rfl
  have HTE : Hid (∀ W,Below w.heap.size w W → Calls Tryz.prog 43 #[.agg #[.int .i64 now,.slice a ts.length cap],.string tenant] W fun e w'=>TenV w' e (tenOf ts tenant) ∧ Below W.heap.size W w'):=fun W hW=>l4Tenant_any now a cap ts tenant W (hf.later hW) (by omega)
  unfold TenV at HTE
  unfold AdOut
  obtain ⟨hcf,hn0,hn1,hlen,htens⟩:=tens_of h0'
  have hfs:=fitS_of hbk
  have HSM : Hid (∀ W,Below w.heap.size w W → Calls Tryz.prog 19 #[cfgV c,.agg #[.int .i64 now,.slice a ts.length cap]] W fun e w'=>∃ a' cap',e = .returned (.agg #[.int .i64 now,.slice a' ts.length cap']) ∧ TensOwn w' W.heap.size a' ts ∧ Below W.heap.size W w'):=fun W hW=>l4Same_any c now a cap ts W (hf.later hW) h0' hbk
  obtain ⟨_,_,hf3,hf4,hf5⟩:=tenOf_fit hfs hn
  have hlv : ∀ x ∈ (tenOf ts tenant).sers,now - x.n < c.w:=tenOf_live htens
  have hfw : FitW (tenOf ts tenant):=by
    rcases tenOf_in (ts:=ts) (name:=tenant) with ⟨hmm,_⟩ | ⟨e,_⟩
    · exact fitW_of h0' hbk _ hmm
    · rw [e]; exact ⟨Nat.zero_le _,Nat.zero_le _,fun i h=>absurd h (by simp)⟩
  have hrs : RiseBy (·.s) (tenOf ts tenant).sers:=by
    rcases tenOf_in (ts:=ts) (name:=tenant) with ⟨hmm,_⟩ | ⟨e,_⟩
    · have h1:=(ten_parts (tens_at htens _ hmm)).2.2.1
      have:=sers_rise (n:=(tenOf ts tenant).sers.length) h1 (Nat.le_refl _)
      rwa [List.take_length] at this
    · rw [e]; exact List.Pairwise.nil
  have hcw : 1 ≤ c.w:=by
    simp only [cfgB,Bool.and_eq_true] at hcf
    exact (btw_in hcf.1.1.1.1.1).1
  have HKA : Hid (keptTs c.w now (insBy (·.name) ⟨(tenOf ts tenant).name,(tenOf ts tenant).limit,(tenOf ts tenant).mets,insBy (·.s) ⟨key,now⟩ (tenOf ts tenant).sers⟩ ts) = insBy (·.name) (addT (tenOf ts tenant) key now) ts):=keptTs_add htens (tens_up htens) hcw
  have HFI : Hid (FitW ⟨(tenOf ts tenant).name,(tenOf ts tenant).limit,(tenOf ts tenant).mets,insBy (·.s) ⟨key,now⟩ (tenOf ts tenant).sers⟩):=by
    have hil:=insBy_len_le (key:=fun p : PairD=>p.s) (a:=⟨key,now⟩) (tenOf ts tenant).sers
    refine hid ⟨hfw.1,by show (insBy (·.s) (⟨key,now⟩ : PairD) (tenOf ts tenant).sers).length ≤ _; omega,fun i h=>?_⟩
    rcases insBy_mem (List.getElem_mem h) with e | e
    · show 0 ≤ ((insBy (·.s) (⟨key,now⟩ : PairD) (tenOf ts tenant).sers)[i]'h).n ∧ _
      rw [e]
      exact ⟨hn0,by show now ≤ _; omega⟩
    · obtain ⟨j,hj,e'⟩:=List.getElem_of_mem e
      have:=hfw.2.2 j hj
      rw [e'] at this
      exact this
  have HCT : Hid (∀ W m a1 a2 c1 c2,PairsIn W a1 (tenOf ts tenant).mets → PairsIn W a2 (tenOf ts tenant).sers → Calls Tryz.prog 44 #[cfgV c,.agg #[.string (tenOf ts tenant).name,.int .i64 (tenOf ts tenant).limit,.slice a1 (tenOf ts tenant).mets.length c1,.slice a2 (tenOf ts tenant).sers.length c2],.string m] W fun e w'=>e = .returned (.tuple #[.int .i64 (countV c (tenOf ts tenant) m).1,.int .i64 (countV c (tenOf ts tenant) m).2]) ∧ Below W.heap.size W w'):=fun W m a1 a2 c1 c2 p1 p2=>l4Count_any c _ a1 a2 c1 c2 m W p1 p2 (fun i h=>by have:=hf3 _ (List.getElem_mem h); omega) (by omega) (by omega)
  have HID : Hid (∀ W a1 a2 c1 c2,Calls Tryz.prog 38 #[.agg #[.string (tenOf ts tenant).name,.int .i64 (tenOf ts tenant).limit,.slice a1 (tenOf ts tenant).mets.length c1,.slice a2 (tenOf ts tenant).sers.length c2]] W fun e w'=>e = .returned (.bool (idleB (tenOf ts tenant))) ∧ Below W.heap.size W w'):=fun W a1 a2 c1 c2=>l4Idle_any _ a1 a2 c1 c2 W
  have HMX : ∀ W,Calls Tryz.prog 45 #[.string key] W fun e w'=>e = .returned (.string (metK key)) ∧ Below W.heap.size W w':=fun W=>specMet_any key W (by omega)
  have HKP : Hid (∀ W a1 a2 c1 c2,PairsIn W a1 (tenOf ts tenant).mets → PairsIn W a2 (tenOf ts tenant).sers → Calls Tryz.prog 42 #[.agg #[.string (tenOf ts tenant).name,.int .i64 (tenOf ts tenant).limit,.slice a1 (tenOf ts tenant).mets.length c1,.slice a2 (tenOf ts tenant).sers.length c2],.int .i64 now,.int .i64 c.w] W fun e w'=>TelOutR W (tenOf ts tenant).name (tenOf ts tenant) e w'):=fun W a1 a2 c1 c2 p1 p2=>by
    have:=l4KeptR_any (tenOf ts tenant) a1 a2 c1 c2 now c.w W p1 p2 (by omega) (by omega) hn0 (by omega) hfw.2.2
    rw [kept_same hlv] at this
    exact this
  unfold TelOutR at HKP
  have HWI : Hid (∀ W nm L ms ss q1 q2 e1 e2,Below w.heap.size w W → PairsIn W q1 ms → PairsIn W q2 ss → (FitW ⟨nm,L,ms,ss⟩ ∧ nm = tenant ∧ tenant.toList.isEmpty = false) → Calls Tryz.prog 41 #[cfgV c,.agg #[.int .i64 now,.slice a ts.length cap],.int .i64 now,.agg #[.string nm,.int .i64 L,.slice q1 ms.length e1,.slice q2 ss.length e2]] W fun e w'=>∃ a' cap',e = .returned (.agg #[.int .i64 now,.slice a' (keptTs c.w now (insBy (·.name) ⟨nm,L,ms,ss⟩ ts)).length cap']) ∧ TensOwn w' W.heap.size a' (keptTs c.w now (insBy (·.name) ⟨nm,L,ms,ss⟩ ts)) ∧ Below W.heap.size W w'):=fun W nm L ms ss q1 q2 e1 e2 hW p1 p2 hft=>by
    have:=l4With_any c now now a cap ts ⟨nm,L,ms,ss⟩ q1 q2 e1 e2 W (hf.later hW) p1 p2 (by omega) (fun x hx=>by
      rcases hx with rfl | hx
      · exact hft.1
      · exact fitW_of h0' hbk x hx) hn0 (by omega)
    have e : (⟨nm,L,ms,ss⟩ : TenD).name.toList.isEmpty = false:=by show nm.toList.isEmpty = false; rw [hft.2.1]; exact hft.2.2
    rw [e,wAll_ins (tens_up htens)] at this
    exact this
  have HNM : Hid ((tenOf ts tenant).name = tenant):=tenOf_name
  have HRS:=hid hrs
  have HFS : Hid ((tenOf ts tenant).sers.length ≤ 1100000):=hf5
  have HV0 : Hid (admitV c now ts tenant key = if (tnameB tenant && keyOK key) = false then (now,ts,5) else if (getBy (·.s) key (tenOf ts tenant).sers).isSome = true then (now,insBy (·.name) (addT (tenOf ts tenant) key now) ts,1) else if (countV c (tenOf ts tenant) ByteArray.empty).2 ≤ (countV c (tenOf ts tenant) ByteArray.empty).1 ∨ (idleB (tenOf ts tenant) = true ∧ ts.length = 10000) then (now,ts,3) else if (countV c (tenOf ts tenant) (metK key)).2 ≤ (countV c (tenOf ts tenant) (metK key)).1 then (now,ts,4) else (now,insBy (·.name) (addT (tenOf ts tenant) key now) ts,2)):=by show _ = _; rw [HV.out,if_neg (by rw [h0']; simp)]
  have HNE : Hid (tnameB tenant = true → tenant.toList.isEmpty = false):=tname_someA
  rw [h0'] at HO
  clear hf HV h0' f1 f2 f3 f4 hcf hlen htens hfs hf3 hf4 hf5 hlv hfw hrs hcw
  generalize admitV c now ts tenant key = V at *
  generalize tenOf ts tenant = tn at *
  obtain ⟨ti,hti,hz0,hz1,hz2⟩:=info_parts info_srK
  have HI : Hid (Tryz.prog.info? 84 = some ti):=hti
  clear hti
  unfold cfgV at *
  generalize hb1 : tnameB tenant = b1 at *
  generalize hb2 : keyOK key = b2 at *
  clear hb1 hb2
  have HKN:=hid hkn
  clear hkn
  obtain ⟨rfl,rfl⟩ : b1 = true ∧ b2 = true:=by simpa using hbn
  clear hbn
  have HNE2 : Hid (tenant.toList.isEmpty = false):=HNE.out rfl
  clear HNE
  have HNE:=HNE2
  clear HNE2
  have HV1 : Hid (V = if (getBy (·.s) key tn.sers).isSome = true then (now,insBy (·.name) (addT tn key now) ts,1) else if (countV c tn ByteArray.empty).2 ≤ (countV c tn ByteArray.empty).1 ∨ (idleB tn = true ∧ ts.length = 10000) then (now,ts,3) else if (countV c tn (metK key)).2 ≤ (countV c tn (metK key)).1 then (now,ts,4) else (now,insBy (·.name) (addT tn key now) ts,2)):=by show _ = _; rw [HV0.out,if_neg (by simp)]
  clear HV0
  go_enter Tryz.func20,Tryz.ntmps20
  have B0 : Hid (Below w.heap.size w (((w.alloc (.cells #[.int .i64 c.w,.int .i64 c.tl,.int .i64 c.ml,.int .i64 c.sh,.int .i64 c.ha,.int .i64 c.sg] 35)).alloc (.cells #[.int .i64 now,.slice a ts.length cap] 32)).alloc (.cells #[.int .i64 0,.slice none 0 0] 32))):=bto (bto (bnew _ _) (bnew _ _)) (bnew _ _)
  have C0 : Hid (Blk (((w.alloc (.cells #[.int .i64 c.w,.int .i64 c.tl,.int .i64 c.ml,.int .i64 c.sh,.int .i64 c.ha,.int .i64 c.sg] 35)).alloc (.cells #[.int .i64 now,.slice a ts.length cap] 32)).alloc (.cells #[.int .i64 0,.slice none 0 0] 32)) w.heap.size #[.int .i64 c.w,.int .i64 c.tl,.int .i64 c.ml,.int .i64 c.sh,.int .i64 c.ha,.int .i64 c.sg] 35):=(((Blk.new _ _ _).alloc _).alloc _)
  have S0 : Hid (Blk (((w.alloc (.cells #[.int .i64 c.w,.int .i64 c.tl,.int .i64 c.ml,.int .i64 c.sh,.int .i64 c.ha,.int .i64 c.sg] 35)).alloc (.cells #[.int .i64 now,.slice a ts.length cap] 32)).alloc (.cells #[.int .i64 0,.slice none 0 0] 32)) (w.heap.size + 1) #[.int .i64 now,.slice a ts.length cap] 32):=hid (by have:=(Blk.new (w.alloc (.cells #[.int .i64 c.w,.int .i64 c.tl,.int .i64 c.ml,.int .i64 c.sh,.int .i64 c.ha,.int .i64 c.sg] 35)) #[.int .i64 now,.slice a ts.length cap] 32).alloc (.cells #[.int .i64 0,.slice none 0 0] 32); simpa using this)
  have R0 : Hid (Blk (((w.alloc (.cells #[.int .i64 c.w,.int .i64 c.tl,.int .i64 c.ml,.int .i64 c.sh,.int .i64 c.ha,.int .i64 c.sg] 35)).alloc (.cells #[.int .i64 now,.slice a ts.length cap] 32)).alloc (.cells #[.int .i64 0,.slice none 0 0] 32)) (w.heap.size + 1 + 1) #[.int .i64 0,.slice none 0 0] 32):=hid (by have:=Blk.new ((w.alloc (.cells #[.int .i64 c.w,.int .i64 c.tl,.int .i64 c.ml,.int .i64 c.sh,.int .i64 c.ha,.int .i64 c.sg] 35)).alloc (.cells #[.int .i64 now,.slice a ts.length cap] 32)) #[.int .i64 0,.slice none 0 0] 32; simpa using this)
  go_wp2_with fail
  refine (HO.out _ B0.out).mono ?_
  rintro e wo ⟨rfl,hb1⟩
  have Co : Hid (Blk wo w.heap.size #[.int .i64 c.w,.int .i64 c.tl,.int .i64 c.ml,.int .i64 c.sh,.int .i64 c.ha,.int .i64 c.sg] 35):=C0.out.later hb1
  have So : Hid (Blk wo (w.heap.size + 1) #[.int .i64 now,.slice a ts.length cap] 32):=S0.out.later hb1
  have Ro : Hid (Blk wo (w.heap.size + 1 + 1) #[.int .i64 0,.slice none 0 0] 32):=R0.out.later hb1
  have Bo : Hid (Below w.heap.size w wo):=bto B0.out hb1
  clear hb1 HO C0 S0 R0 B0
  go_wp2_with fail
  refine (HTN.out _).mono ?_
  rintro e wz ⟨rfl,hw⟩
  replace hw:=hw.symm
  subst hw
  go_wp2_with fail
  refine (HKY.out _).mono ?_
  rintro e wv ⟨rfl,hb1⟩
  have Cv : Hid (Blk wv w.heap.size #[.int .i64 c.w,.int .i64 c.tl,.int .i64 c.ml,.int .i64 c.sh,.int .i64 c.ha,.int .i64 c.sg] 35):=Co.out.later hb1
  have Sv : Hid (Blk wv (w.heap.size + 1) #[.int .i64 now,.slice a ts.length cap] 32):=So.out.later hb1
  have Rv : Hid (Blk wv (w.heap.size + 1 + 1) #[.int .i64 0,.slice none 0 0] 32):=Ro.out.later hb1
  have Bv : Hid (Below w.heap.size w wv):=bto Bo.out hb1
  clear hb1 Co So Ro Bo
  have HK : Hid (∀ w',Below wv.heap.size wv w' → w'.cell? ⟨w.heap.size + 1,0,none⟩ = some (.int .i64 now) ∧ w'.cell? ⟨w.heap.size + 1,1,none⟩ = some (.slice a ts.length cap) ∧ w'.cell? ⟨w.heap.size,0,none⟩ = some (.int .i64 c.w)):=fun w' h=>by
    have q:=Cv.out.later h
    have p:=Sv.out.later h
    exact ⟨p.cell 0,p.cell 1,q.cell 0⟩
  obtain ⟨vy0,vy1,vx0⟩:=HK.out wv (Below.refl _ _)
  have hsv : w.heap.size + 1 + 1 < wv.heap.size:=lt_of_block Rv.out
  have hnl : tn.sers.length ≤ 1100000:=HFS.out
  go_upto_region 5 with fail
  go_cut [10] (fun p wx=>∃ X,p = .pointer (some ⟨X,0,none⟩) ∧ KXR wv X tn wx)
  case first =>
    go_region_held3 (fun w'=>w'.cell? ⟨w.heap.size + 1,0,none⟩ = some (.int .i64 now) ∧ w'.cell? ⟨w.heap.size + 1,1,none⟩ = some (.slice a ts.length cap) ∧ w'.cell? ⟨w.heap.size,0,none⟩ = some (.int .i64 c.w))
      (first | go_keep | with_reducible exact HK.out _ (set4 k4 (Nat.le_refl _)) | with_reducible exact HK.out _ (set4 k4 k3.size) | with_reducible exact HK.out _ k4 | with_reducible exact HK.out _ k3 | with_reducible exact HK.out _ (bto k3 (bnew _ _)) | with_reducible exact HK.out _ ((bnew _ _).drew) | with_reducible exact HK.out _ (bto k4 (bnew _ _)))
      (first
        | (go_at_call 43; refine (HTE.out _ (by with_reducible exact Bv.out.drew)).mono ?_; rintro e w3 ⟨⟨a1,c1,a2,c2,rfl,p1,p2⟩,hb3⟩; have k3 : Below wv.heap.size wv w3:=(by with_reducible exact bto (Below.refl _ _).drew hb3); have c3:=HK.out _ k3)
        | (go_at_call 43; refine (HTE.out _ (by with_reducible exact (bto Bv.out (bnew _ _)).drew)).mono ?_; rintro e w3 ⟨⟨a1,c1,a2,c2,rfl,p1,p2⟩,hb3⟩; have k3 : Below wv.heap.size wv w3:=(by with_reducible exact bto ((bnew _ _).drew) hb3); have c3:=HK.out _ k3; have hX3 : Blk w3 wv.heap.size #[.string ⟨#[]⟩,.int .i64 0,.slice none 0 0,.slice none 0 0] 78:=blk_drewA hb3)
        | (have q:=hX3; clear q; go_at_call 42; refine (HKP.out _ a1 a2 c1 c2 (by with_reducible exact p1) (by with_reducible exact p2)).mono ?_; rintro e w4 ⟨M,q1,e1,q2,e2,rfl,hM,h1,h1M,h2,hM4,hb4⟩; have k4 : Below wv.heap.size wv w4:=(by with_reducible exact bto k3 hb4); have c4:=HK.out _ k4; have BX4 : Hid (Blk w4 wv.heap.size #[.string ⟨#[]⟩,.int .i64 0,.slice none 0 0,.slice none 0 0] 78):=hid (hX3.later hb4); have s0:=BX4.out.cell 0; have s1:=BX4.out.cell 1; have s2:=BX4.out.cell 2; have s3:=BX4.out.cell 3; have f0:=BX4.out.free 0; have f1:=BX4.out.free 1; have f2:=BX4.out.free 2; have f3:=BX4.out.free 3)
        | ((fail_if_success (have q:=hX3)); go_at_call 42; refine (HKP.out _ a1 a2 c1 c2 (by with_reducible exact p1) (by with_reducible exact p2)).mono ?_; rintro e w4 ⟨M,q1,e1,q2,e2,rfl,hM,h1,h1M,h2,hM4,hb4⟩; have k4 : Below wv.heap.size wv w4:=(by with_reducible exact bto k3 hb4); have c4:=HK.out _ k4)
        | (go_at_call 42; refine (HKP.out _ a1 a2 c1 c2 (by with_reducible exact p1.later (bnew _ _)) (by with_reducible exact p2.later (bnew _ _))).mono ?_; rintro e w4 ⟨M,q1,e1,q2,e2,rfl,hM,h1,h1M,h2,hM4,hb4⟩; have k4 : Below wv.heap.size wv w4:=(by with_reducible exact bto (bto k3 (bnew _ _)) hb4); have c4:=HK.out _ k4; have BX4 : Hid (Blk w4 w3.heap.size #[.string ⟨#[]⟩,.int .i64 0,.slice none 0 0,.slice none 0 0] 78):=hid ((Blk.new w3 _ _).later hb4); have s0:=BX4.out.cell 0; have s1:=BX4.out.cell 1; have s2:=BX4.out.cell 2; have s3:=BX4.out.cell 3; have f0:=BX4.out.free 0; have f1:=BX4.out.free 1; have f2:=BX4.out.free 2; have f3:=BX4.out.free 3))
    all_goals (go_wp2_with fail; go_meet)
    all_goals first
      | with_reducible exact ⟨_,rfl,kxr_new k3.size h1 h1M h2 hM k4⟩
      | exact ⟨_,rfl,kxr_old h1 h1M h2 (by have:=lt_of_block hX3; omega) hM (Nat.le_refl _) BX4.out k4⟩
      | exact ⟨_,rfl,kxr_old h1 h1M h2 (by simp) hM k3.size BX4.out k4⟩
  obtain ⟨X,rfl,M,q1,e1,q2,e2,hXb,hP1,hq1M,hRow,hRX,hqX,hXw,hMw,hb3⟩:=hcut
  rename World=>w3
  have X3:=hid hXb
  have P3:=hid hP1
  have W3:=hid hRow
  have HQM:=hid hq1M
  have HRX:=hid hRX
  have HQX:=hid hqX
  have C3 : Hid (Blk w3 w.heap.size #[.int .i64 c.w,.int .i64 c.tl,.int .i64 c.ml,.int .i64 c.sh,.int .i64 c.ha,.int .i64 c.sg] 35):=Cv.out.later hb3
  have S3 : Hid (Blk w3 (w.heap.size + 1) #[.int .i64 now,.slice a ts.length cap] 32):=Sv.out.later hb3
  have R3 : Hid (Blk w3 (w.heap.size + 1 + 1) #[.int .i64 0,.slice none 0 0] 32):=Rv.out.later hb3
  have B3 : Hid (Below w.heap.size w w3):=bto Bv.out hb3
  have hX3 : X < w3.heap.size:=lt_of_block hXb
  clear HK vy0 vy1 vx0 hXb hP1 hq1M hRow hRX hqX hb3 HTE HKP Cv Sv Rv Bv
  have m33 : w3.cell? ⟨X,3,none⟩ = some (.slice q2 tn.sers.length e2):=X3.out.cell 3
  go_wp2
  go_loopw [11,44] (fun _ i wr=>∃ k : Nat,k ≤ tn.sers.length ∧ i = .int .i64 k ∧ Hid (∀ j (h : j < k) (h' : j < tn.sers.length),tn.sers[j].s ≠ key) ∧ w3 = wr) (fun _ i _=>tn.sers.length - (intOf i).toNat)
  case atStart=>exact ⟨0,Nat.zero_le _,rfl,(fun j h=>absurd h (by omega)),rfl⟩
  case round =>
    obtain ⟨k,hk,rfl,HN,hw⟩:=hrel
    subst hw
    by_cases hlt : k < tn.sers.length
    · obtain ⟨g,rfl⟩:=row_addr W3.out (by omega)
      obtain ⟨pb,po,ep,hpl,v0,v1⟩:=((pairs_of_row W3.out).pairs).at hlt
      simp only [Option.some.injEq,Addr.mk.injEq,and_true] at ep
      obtain ⟨rfl,rfl⟩:=ep
      rw [Nat.zero_add] at v0 v1
      cases hsm : (tn.sers[k].s.toList == key.toList) with
      | true =>
        have HGK : Hid ((getBy (·.s) key tn.sers).isSome = true):=by
          refine hid ?_
          cases hgg : getBy (·.s) key tn.sers with
          | some _=>rfl
          | none=>exact absurd ((same_iff _ _).1 hsm) (getBy_none hgg _ (List.getElem_mem hlt))
        have HV2 : Hid (V = (now,insBy (·.name) (addT tn key now) ts,1)):=by show _ = _; rw [HV1.out,if_pos HGK.out]
        have hMg : M ≤ g:=by have:=W3.out.lt g rfl; exact this.1
        have hgX : g ≠ X:=HRX.out g rfl
        have HGB : Hid (∃ cur,Blk w3 g cur 84):=by
          rcases W3.out.2 with ⟨e,_⟩ | ⟨g',cap',cur,e,_,hb,_⟩
          · cases e
          · simp only [Value.slice.injEq,Option.some.injEq,Addr.mk.injEq,and_true] at e
            rw [← e.1] at hb
            exact hid ⟨cur,hb⟩
        obtain ⟨cur,hgb⟩:=HGB.out
        have fz:=hgb.free (k * 2 + 1)
        have HSE : Hid (insBy (·.s) ⟨key,now⟩ tn.sers = tn.sers.set k ⟨tn.sers[k].s,now⟩):=by show _ = _; rw [insBy_at HRS.out hlt ((same_iff _ _).1 hsm),(same_iff _ _).1 hsm]
        have TG : Hid (Turn (· = g) w3 (w3.setCell ⟨g,k * 2 + 1,none⟩ (.int .i64 now))):=(Turn.refl (· = g) w3).setCell (Or.inl rfl) _ _
        have W7 : Hid ((w3.setCell ⟨g,k * 2 + 1,none⟩ (.int .i64 now)).ownsRow M 84 2 (.slice (some ⟨g,0,none⟩) tn.sers.length e2) tn.sers.length (flatK (insBy (·.s) ⟨key,now⟩ tn.sers))):=by
          refine hid ?_
          rw [HSE.out,flatK_set _ _ hlt]
          exact row_set1 W3.out
        have HSL : Hid ((insBy (·.s) (⟨key,now⟩ : PairD) tn.sers).length = tn.sers.length):=by show _ = _; rw [HSE.out,List.length_set]
        have P7 : Hid (PairsIn (w3.setCell ⟨g,k * 2 + 1,none⟩ (.int .i64 now)) q1 tn.mets):=own_keep P3.out TG.out (fun g' o e _ e'=>by have:=HQM.out g' o e; omega)
        have X7 : Hid (Blk (w3.setCell ⟨g,k * 2 + 1,none⟩ (.int .i64 now)) X #[.string tn.name,.int .i64 tn.limit,.slice q1 tn.mets.length e1,.slice (some ⟨g,0,none⟩) tn.sers.length e2] 78):=TG.out.blk X3.out hgX.symm
        have C7 : Hid (Blk (w3.setCell ⟨g,k * 2 + 1,none⟩ (.int .i64 now)) w.heap.size #[.int .i64 c.w,.int .i64 c.tl,.int .i64 c.ml,.int .i64 c.sh,.int .i64 c.ha,.int .i64 c.sg] 35):=TG.out.blk C3.out (by omega)
        have S7 : Hid (Blk (w3.setCell ⟨g,k * 2 + 1,none⟩ (.int .i64 now)) (w.heap.size + 1) #[.int .i64 now,.slice a ts.length cap] 32):=TG.out.blk S3.out (by omega)
        have R7 : Hid (Blk (w3.setCell ⟨g,k * 2 + 1,none⟩ (.int .i64 now)) (w.heap.size + 1 + 1) #[.int .i64 0,.slice none 0 0] 32):=TG.out.blk R3.out (by omega)
        have B7 : Hid (Below w.heap.size w (w3.setCell ⟨g,k * 2 + 1,none⟩ (.int .i64 now))):=B3.out.trans (TG.out.below (by have:=B3.out.size; omega) fun i hi e=>by omega)
        have b3x0 : w3.cell? ⟨w.heap.size,0,none⟩ = some (.int .i64 c.w):=C3.out.cell 0
        have b3x1 : w3.cell? ⟨w.heap.size,1,none⟩ = some (.int .i64 c.tl):=C3.out.cell 1
        have b3x2 : w3.cell? ⟨w.heap.size,2,none⟩ = some (.int .i64 c.ml):=C3.out.cell 2
        have b3x3 : w3.cell? ⟨w.heap.size,3,none⟩ = some (.int .i64 c.sh):=C3.out.cell 3
        have b3x4 : w3.cell? ⟨w.heap.size,4,none⟩ = some (.int .i64 c.ha):=C3.out.cell 4
        have b3x5 : w3.cell? ⟨w.heap.size,5,none⟩ = some (.int .i64 c.sg):=C3.out.cell 5
        have b3y0 : w3.cell? ⟨w.heap.size + 1,0,none⟩ = some (.int .i64 now):=S3.out.cell 0
        have b3y1 : w3.cell? ⟨w.heap.size + 1,1,none⟩ = some (.slice a ts.length cap):=S3.out.cell 1
        go_upto_region 11 with fail
        clear v0 v1 fz TG W3 P3 X3 C3 S3 R3 B3 hgb HGB HSE m33 b3x0 b3x1 b3x2 b3x3 b3x4 b3x5 b3y0 b3y1
        generalize (w3.setCell ⟨g,k * 2 + 1,none⟩ (.int .i64 now)) = w7 at *
        have P27 : Hid (PairsIn w7 (some ⟨g,0,none⟩) (insBy (·.s) ⟨key,now⟩ tn.sers)):=by
          refine hid ?_
          have h:=W7.out
          rw [← HSL.out] at h
          exact (pairs_of_row h).pairs
        have b7x0 : w7.cell? ⟨w.heap.size,0,none⟩ = some (.int .i64 c.w):=C7.out.cell 0
        have b7x1 : w7.cell? ⟨w.heap.size,1,none⟩ = some (.int .i64 c.tl):=C7.out.cell 1
        have b7x2 : w7.cell? ⟨w.heap.size,2,none⟩ = some (.int .i64 c.ml):=C7.out.cell 2
        have b7x3 : w7.cell? ⟨w.heap.size,3,none⟩ = some (.int .i64 c.sh):=C7.out.cell 3
        have b7x4 : w7.cell? ⟨w.heap.size,4,none⟩ = some (.int .i64 c.ha):=C7.out.cell 4
        have b7x5 : w7.cell? ⟨w.heap.size,5,none⟩ = some (.int .i64 c.sg):=C7.out.cell 5
        have b7y0 : w7.cell? ⟨w.heap.size + 1,0,none⟩ = some (.int .i64 now):=S7.out.cell 0
        have b7y1 : w7.cell? ⟨w.heap.size + 1,1,none⟩ = some (.slice a ts.length cap):=S7.out.cell 1
        have m70 : w7.cell? ⟨X,0,none⟩ = some (.string tn.name):=X7.out.cell 0
        have m71 : w7.cell? ⟨X,1,none⟩ = some (.int .i64 tn.limit):=X7.out.cell 1
        have m72 : w7.cell? ⟨X,2,none⟩ = some (.slice q1 tn.mets.length e1):=X7.out.cell 2
        have m73 : w7.cell? ⟨X,3,none⟩ = some (.slice (some ⟨g,0,none⟩) tn.sers.length e2):=X7.out.cell 3
        have HF7 : Hid (FitW ⟨tn.name,tn.limit,tn.mets,insBy (·.s) ⟨key,now⟩ tn.sers⟩ ∧ tn.name = tenant ∧ tenant.toList.isEmpty = false):=⟨HFI.out,HNM.out,HNE.out⟩
        have HWF:=hid (HWI.out w7 tn.name tn.limit tn.mets (insBy (·.s) ⟨key,now⟩ tn.sers) q1 (some ⟨g,0,none⟩) e1 e2 B7.out P7.out P27.out HF7.out)
        have HAK : Hid (keptTs c.w now (insBy (·.name) ⟨tn.name,tn.limit,tn.mets,insBy (·.s) ⟨key,now⟩ tn.sers⟩ ts) = insBy (·.name) (addT tn key now) ts):=HKA.out
        rw [HAK.out,HSL.out] at HWF
        clear W7 P27 P7 HAK
        generalize insBy (·.name) (addT tn key now) ts = RL at *
        go_wp2_with fail
        refine HWF.out.mono ?_
        rintro e w9 ⟨ra,rc,rfl,ho9,hb9⟩
        have HO9 : Hid (TensOwn w9 w7.heap.size ra RL):=ho9
        have R9 : Hid (Blk w9 (w.heap.size + 1 + 1) #[.int .i64 0,.slice none 0 0] 32):=R7.out.later hb9
        have B9 : Hid (Below w.heap.size w w9):=bto B7.out hb9
        have hwv : w.heap.size + 1 + 1 < w7.heap.size:=lt_of_block R7.out
        clear ho9 hb9
        have z0 : w9.cell? ⟨w.heap.size + 1 + 1,0,none⟩ = some (.int .i64 0):=R9.out.cell 0
        have z1 : w9.cell? ⟨w.heap.size + 1 + 1,1,none⟩ = some (.slice none 0 0):=R9.out.cell 1
        have f0:=R9.out.free 0
        have f1:=R9.out.free 1
        have hwl : w.heap.size + 1 + 1 < w9.heap.size:=lt_of_block R9.out
        go_wp2
        have HTE9 : Turn (· = w.heap.size + 1 + 1) w9 ((w9.setCell ⟨w.heap.size + 1 + 1,0,none⟩ (.int .i64 now)).setCell ⟨w.heap.size + 1 + 1,1,none⟩ (.slice ra RL.length rc)):=((Turn.refl (· = w.heap.size + 1 + 1) w9).setCell (Or.inl rfl) 0 _).setCell (Or.inl rfl) 1 _
        refine bodyPost_ret (v:=.tuple #[.agg #[.int .i64 now,.slice ra RL.length rc],.int .i64 1]) (by simp [results,Tryz.results20,go_sem,z0,z1]) rfl ?_
        rw [HV2.out]
        have ho : TensOwn ((w9.setCell ⟨w.heap.size + 1 + 1,0,none⟩ (.int .i64 now)).setCell ⟨w.heap.size + 1 + 1,1,none⟩ (.slice ra RL.length rc)) w.heap.size ra RL:=(TensOwn.turned HO9.out HTE9 (fun g h1 h2 e=>by omega)).mono (by omega)
        have hbe : Below w.heap.size w ((w9.setCell ⟨w.heap.size + 1 + 1,0,none⟩ (.int .i64 now)).setCell ⟨w.heap.size + 1 + 1,1,none⟩ (.slice ra RL.length rc)):=((Turn.of (S:=fun i=>w.heap.size ≤ i) B9.out).trans' (HTE9.mono fun i _ e=>by omega)).below (Nat.le_refl _) fun i hi h=>by omega
        first
          | exact ⟨ra,⟨rc,rfl⟩,ho,hbe⟩
          | exact ⟨ra,rc,rfl,ho,hbe⟩
      | false =>
        have HN2 : Hid (∀ j (h : j < k + 1) (h' : j < tn.sers.length),tn.sers[j].s ≠ key):=fun j hj hj'=>by
          by_cases e : j = k
          · subst e; exact fun e'=>absurd ((same_iff _ _).2 e') (by rw [hsm]; simp)
          · exact HN.out j (by omega) hj'
        generalize tn.sers[k].s = kk at *
        go_wp2
        exact ⟨⟨k + 1,by omega,by go_num,HN2.out,by first | rfl | trivial⟩,by simp [intOf]; omega⟩
    · exfalso
      have h1 : getBy (·.s) key tn.sers = none:=getBy_none_of fun p hp=>by
        obtain ⟨j,hj,rfl⟩:=List.getElem_of_mem hp
        exact HN.out j (by omega) hj
      have h2:=HKN.out
      rw [h1] at h2
      cases h2
end Go.Proofs.YtkmdbpaeeagccaaGreatDoor
