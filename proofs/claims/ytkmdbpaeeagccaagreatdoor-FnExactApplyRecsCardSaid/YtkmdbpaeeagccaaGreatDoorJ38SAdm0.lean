import Derived.Test.YtkmdbpaeeagccaaGreatDoorProg
import Derived.Test.YtkmdbpaeeagccaaGreatDoorJ37AdO
import Derived.Test.YtkmdbpaeeagccaaGreatDoorJ35StrL
import Derived.Test.YtkmdbpaeeagccaaGreatDoorJ29SSta
import Derived.Deep.RegionHeld3
import Derived.Deep.DeepCutAuto
namespace Go.Proofs.YtkmdbpaeeagccaaGreatDoor
open Go.RowKit
theorem blk_drewA {w w' : World} {cs : Array Value} {t : TypeId} (h : Below (w.alloc (.cells cs t)).drew.heap.size (w.alloc (.cells cs t)).drew w') : Blk w' w.heap.size cs t:=(Blk.new w cs t).later ⟨h.os,h.tape,h.output,h.size,h.block⟩
theorem tname_someA {s : ByteArray} (h : tnameB s = true) : s.toList.isEmpty = false:=by
  refine str_some.2 fun e=>?_
  simp only [tnameB,Bool.and_eq_true,decide_eq_true_eq] at h
  rw [e,ByteArray.size_empty] at h
  omega
set_option maxRecDepth 100000 in
set_option maxHeartbeats 32000000 in
theorem specAdmit_no (c : CfgD) (now : Int) (a : Option Addr) (cap : Nat) (ts : List TenD) (tenant key : ByteArray) (w : World) (hf : TensIn w a ts) (hbk : ts.length + tensBulk ts ≤ 1100000) (hn : tenant.size ≤ 1100000) (hk : key.size ≤ 1100000) (h0 : stateB c now ts = false) :
    Calls Tryz.prog 20 #[cfgV c,.agg #[.int .i64 now,.slice a ts.length cap],.string tenant,.string key] w fun e w'=>AdOut (admitV c now ts tenant key) w e w':=by
  obtain ⟨f1,f2,f3,f4⟩:=fit_of hbk
  have HO : Hid (∀ W,Below w.heap.size w W → Calls Tryz.prog 18 #[cfgV c,.agg #[.int .i64 now,.slice a ts.length cap]] W fun e w'=>e = .returned (.bool (stateB c now ts)) ∧ Below W.heap.size W w'):=fun W hW=>specState_any c now a cap ts W (hf.later hW) f2 (by omega)
  have HTN : Hid (∀ W,Calls Tryz.prog 37 #[.string tenant] W fun e w'=>e = .returned (.bool (tnameB tenant)) ∧ w' = W):=fun W=>l4TenantName_any tenant W (by unfold maxLen; omega)
  have HKY : Hid (∀ W,Calls Tryz.prog 40 #[.string key] W fun e w'=>e = .returned (.bool (keyOK key)) ∧ Below W.heap.size W w'):=fun W=>l4Key_any key W (by omega)
  have HV : Hid (admitV c now ts tenant key = if stateB c now ts = false then (0,[],5) else if (tnameB tenant && keyOK key) = false then (now,ts,5) else if (getBy (·.s) key (tenOf ts tenant).sers).isSome = true then (now,insBy (·.name) (addT (tenOf ts tenant) key now) ts,1) else if (countV c (tenOf ts tenant) ByteArray.empty).2 ≤ (countV c (tenOf ts tenant) ByteArray.empty).1 ∨ (idleB (tenOf ts tenant) = true ∧ ts.length = 10000) then (now,ts,3) else if (countV c (tenOf ts tenant) (metK key)).2 ≤ (countV c (tenOf ts tenant) (metK key)).1 then (now,ts,4) else (now,insBy (·.name) (addT (tenOf ts tenant) key now) ts,2)):=rfl
  have HTE : Hid (∀ W,Below w.heap.size w W → Calls Tryz.prog 43 #[.agg #[.int .i64 now,.slice a ts.length cap],.string tenant] W fun e w'=>TenV w' e (tenOf ts tenant) ∧ Below W.heap.size W w'):=fun W hW=>l4Tenant_any now a cap ts tenant W (hf.later hW) (by omega)
  unfold TenV at HTE
  unfold AdOut
  have HV2 : Hid (admitV c now ts tenant key = (0,[],5)):=by show _ = _; rw [HV.out,if_pos h0]
  rw [h0] at HO
  clear hf HTE HV h0 f1 f2 f3 f4
  generalize admitV c now ts tenant key = V at *
  unfold cfgV at *
  go_enter Tryz.func20,Tryz.ntmps20
  have B0 : Hid (Below w.heap.size w (((w.alloc (.cells #[.int .i64 c.w,.int .i64 c.tl,.int .i64 c.ml,.int .i64 c.sh,.int .i64 c.ha,.int .i64 c.sg] 35)).alloc (.cells #[.int .i64 now,.slice a ts.length cap] 32)).alloc (.cells #[.int .i64 0,.slice none 0 0] 32))):=bto (bto (bnew _ _) (bnew _ _)) (bnew _ _)
  have R0 : Hid (Blk (((w.alloc (.cells #[.int .i64 c.w,.int .i64 c.tl,.int .i64 c.ml,.int .i64 c.sh,.int .i64 c.ha,.int .i64 c.sg] 35)).alloc (.cells #[.int .i64 now,.slice a ts.length cap] 32)).alloc (.cells #[.int .i64 0,.slice none 0 0] 32)) (w.heap.size + 1 + 1) #[.int .i64 0,.slice none 0 0] 32):=hid (by have:=Blk.new ((w.alloc (.cells #[.int .i64 c.w,.int .i64 c.tl,.int .i64 c.ml,.int .i64 c.sh,.int .i64 c.ha,.int .i64 c.sg] 35)).alloc (.cells #[.int .i64 now,.slice a ts.length cap] 32)) #[.int .i64 0,.slice none 0 0] 32; simpa using this)
  go_wp2_with fail
  refine (HO.out _ B0.out).mono ?_
  rintro e w1 ⟨rfl,hb⟩
  have HB : Hid (Below w.heap.size w w1):=bto B0.out hb
  have RB : Hid (Blk w1 (w.heap.size + 1 + 1) #[.int .i64 0,.slice none 0 0] 32):=R0.out.later hb
  have y0 : w1.cell? ⟨w.heap.size + 1 + 1,0,none⟩ = some (.int .i64 0):=RB.out.cell 0
  have y1 : w1.cell? ⟨w.heap.size + 1 + 1,1,none⟩ = some (.slice none 0 0):=RB.out.cell 1
  have f0:=RB.out.free 0
  have f1:=RB.out.free 1
  have hwl : w.heap.size + 1 + 1 < w1.heap.size:=lt_of_block RB.out
  clear hb
  go_wp2
  refine bodyPost_ret (v:=.tuple #[.agg #[.int .i64 0,.slice none 0 0],.int .i64 5]) (by simp [results,Tryz.results20,go_sem,y0,y1]) rfl ?_
  rw [HV2.out]
  refine ⟨none,0,rfl,Or.inl rfl,?_⟩
  first
    | exact (HB.out.setCell (by show w.heap.size ≤ w.heap.size + 1 + 1; omega) _).setCell (by show w.heap.size ≤ w.heap.size + 1 + 1; omega) _
    | exact HB.out
set_option maxRecDepth 100000 in
set_option maxHeartbeats 32000000 in
theorem specAdmit_bad (c : CfgD) (now : Int) (a : Option Addr) (cap : Nat) (ts : List TenD) (tenant key : ByteArray) (w : World) (hf : TensIn w a ts) (hbk : ts.length + tensBulk ts ≤ 1100000) (hn : tenant.size ≤ 1100000) (hk : key.size ≤ 1100000) (h0' : stateB c now ts = true) (hbn : (tnameB tenant && keyOK key) = false) :
    Calls Tryz.prog 20 #[cfgV c,.agg #[.int .i64 now,.slice a ts.length cap],.string tenant,.string key] w fun e w'=>AdOut (admitV c now ts tenant key) w e w':=by
  obtain ⟨f1,f2,f3,f4⟩:=fit_of hbk
  have HO : Hid (∀ W,Below w.heap.size w W → Calls Tryz.prog 18 #[cfgV c,.agg #[.int .i64 now,.slice a ts.length cap]] W fun e w'=>e = .returned (.bool (stateB c now ts)) ∧ Below W.heap.size W w'):=fun W hW=>specState_any c now a cap ts W (hf.later hW) f2 (by omega)
  have HTN : Hid (∀ W,Calls Tryz.prog 37 #[.string tenant] W fun e w'=>e = .returned (.bool (tnameB tenant)) ∧ w' = W):=fun W=>l4TenantName_any tenant W (by unfold maxLen; omega)
  have HKY : Hid (∀ W,Calls Tryz.prog 40 #[.string key] W fun e w'=>e = .returned (.bool (keyOK key)) ∧ Below W.heap.size W w'):=fun W=>l4Key_any key W (by omega)
  have HV : Hid (admitV c now ts tenant key = if stateB c now ts = false then (0,[],5) else if (tnameB tenant && keyOK key) = false then (now,ts,5) else if (getBy (·.s) key (tenOf ts tenant).sers).isSome = true then (now,insBy (·.name) (addT (tenOf ts tenant) key now) ts,1) else if (countV c (tenOf ts tenant) ByteArray.empty).2 ≤ (countV c (tenOf ts tenant) ByteArray.empty).1 ∨ (idleB (tenOf ts tenant) = true ∧ ts.length = 10000) then (now,ts,3) else if (countV c (tenOf ts tenant) (metK key)).2 ≤ (countV c (tenOf ts tenant) (metK key)).1 then (now,ts,4) else (now,insBy (·.name) (addT (tenOf ts tenant) key now) ts,2)):=rfl
  have HTE : Hid (∀ W,Below w.heap.size w W → Calls Tryz.prog 43 #[.agg #[.int .i64 now,.slice a ts.length cap],.string tenant] W fun e w'=>TenV w' e (tenOf ts tenant) ∧ Below W.heap.size W w'):=fun W hW=>l4Tenant_any now a cap ts tenant W (hf.later hW) (by omega)
  unfold TenV at HTE
  unfold AdOut
  obtain ⟨hcf,hn0,hn1,hlen,htens⟩:=tens_of h0'
  have hfs:=fitS_of hbk
  have HSM : Hid (∀ W,Below w.heap.size w W → Calls Tryz.prog 19 #[cfgV c,.agg #[.int .i64 now,.slice a ts.length cap]] W fun e w'=>∃ a' cap',e = .returned (.agg #[.int .i64 now,.slice a' ts.length cap']) ∧ TensOwn w' W.heap.size a' ts ∧ Below W.heap.size W w'):=fun W hW=>l4Same_any c now a cap ts W (hf.later hW) h0' hbk
  obtain ⟨_,_,hf3,hf4,hf5⟩:=tenOf_fit hfs hn
  have hlv : ∀ x ∈ (tenOf ts tenant).sers,now - x.n < c.w:=tenOf_live htens
  have hfw : FitW (tenOf ts tenant):=by
    rcases tenOf_in (ts:=ts) (name:=tenant) with ⟨hmm,_⟩ | ⟨e,_⟩
    · exact fitW_of h0' hbk _ hmm
    · rw [e]; exact ⟨Nat.zero_le _,Nat.zero_le _,fun i h=>absurd h (by simp)⟩
  have hrs : RiseBy (·.s) (tenOf ts tenant).sers:=by
    rcases tenOf_in (ts:=ts) (name:=tenant) with ⟨hmm,_⟩ | ⟨e,_⟩
    · have h1:=(ten_parts (tens_at htens _ hmm)).2.2.1
      have:=sers_rise (n:=(tenOf ts tenant).sers.length) h1 (Nat.le_refl _)
      rwa [List.take_length] at this
    · rw [e]; exact List.Pairwise.nil
  have hcw : 1 ≤ c.w:=by
    simp only [cfgB,Bool.and_eq_true] at hcf
    exact (btw_in hcf.1.1.1.1.1).1
  have HKA : Hid (keptTs c.w now (insBy (·.name) ⟨(tenOf ts tenant).name,(tenOf ts tenant).limit,(tenOf ts tenant).mets,insBy (·.s) ⟨key,now⟩ (tenOf ts tenant).sers⟩ ts) = insBy (·.name) (addT (tenOf ts tenant) key now) ts):=keptTs_add htens (tens_up htens) hcw
  have HFI : Hid (FitW ⟨(tenOf ts tenant).name,(tenOf ts tenant).limit,(tenOf ts tenant).mets,insBy (·.s) ⟨key,now⟩ (tenOf ts tenant).sers⟩):=by
    have hil:=insBy_len_le (key:=fun p : PairD=>p.s) (a:=⟨key,now⟩) (tenOf ts tenant).sers
    refine hid ⟨hfw.1,by show (insBy (·.s) (⟨key,now⟩ : PairD) (tenOf ts tenant).sers).length ≤ _; omega,fun i h=>?_⟩
    rcases insBy_mem (List.getElem_mem h) with e | e
    · show 0 ≤ ((insBy (·.s) (⟨key,now⟩ : PairD) (tenOf ts tenant).sers)[i]'h).n ∧ _
      rw [e]
      exact ⟨hn0,by show now ≤ _; omega⟩
    · obtain ⟨j,hj,e'⟩:=List.getElem_of_mem e
      have:=hfw.2.2 j hj
      rw [e'] at this
      exact this
  have HCT : Hid (∀ W m a1 a2 c1 c2,PairsIn W a1 (tenOf ts tenant).mets → PairsIn W a2 (tenOf ts tenant).sers → Calls Tryz.prog 44 #[cfgV c,.agg #[.string (tenOf ts tenant).name,.int .i64 (tenOf ts tenant).limit,.slice a1 (tenOf ts tenant).mets.length c1,.slice a2 (tenOf ts tenant).sers.length c2],.string m] W fun e w'=>e = .returned (.tuple #[.int .i64 (countV c (tenOf ts tenant) m).1,.int .i64 (countV c (tenOf ts tenant) m).2]) ∧ Below W.heap.size W w'):=fun W m a1 a2 c1 c2 p1 p2=>l4Count_any c _ a1 a2 c1 c2 m W p1 p2 (fun i h=>by have:=hf3 _ (List.getElem_mem h); omega) (by omega) (by omega)
  have HID : Hid (∀ W a1 a2 c1 c2,Calls Tryz.prog 38 #[.agg #[.string (tenOf ts tenant).name,.int .i64 (tenOf ts tenant).limit,.slice a1 (tenOf ts tenant).mets.length c1,.slice a2 (tenOf ts tenant).sers.length c2]] W fun e w'=>e = .returned (.bool (idleB (tenOf ts tenant))) ∧ Below W.heap.size W w'):=fun W a1 a2 c1 c2=>l4Idle_any _ a1 a2 c1 c2 W
  have HMX : ∀ W,Calls Tryz.prog 45 #[.string key] W fun e w'=>e = .returned (.string (metK key)) ∧ Below W.heap.size W w':=fun W=>specMet_any key W (by omega)
  have HKP : Hid (∀ W a1 a2 c1 c2,PairsIn W a1 (tenOf ts tenant).mets → PairsIn W a2 (tenOf ts tenant).sers → Calls Tryz.prog 42 #[.agg #[.string (tenOf ts tenant).name,.int .i64 (tenOf ts tenant).limit,.slice a1 (tenOf ts tenant).mets.length c1,.slice a2 (tenOf ts tenant).sers.length c2],.int .i64 now,.int .i64 c.w] W fun e w'=>TelOutR W (tenOf ts tenant).name (tenOf ts tenant) e w'):=fun W a1 a2 c1 c2 p1 p2=>by
    have:=l4KeptR_any (tenOf ts tenant) a1 a2 c1 c2 now c.w W p1 p2 (by omega) (by omega) hn0 (by omega) hfw.2.2
    rw [kept_same hlv] at this
    exact this
  unfold TelOutR at HKP
  have HWI : Hid (∀ W nm L ms ss q1 q2 e1 e2,Below w.heap.size w W → PairsIn W q1 ms → PairsIn W q2 ss → (FitW ⟨nm,L,ms,ss⟩ ∧ nm = tenant ∧ tenant.toList.isEmpty = false) → Calls Tryz.prog 41 #[cfgV c,.agg #[.int .i64 now,.slice a ts.length cap],.int .i64 now,.agg #[.string nm,.int .i64 L,.slice q1 ms.length e1,.slice q2 ss.length e2]] W fun e w'=>∃ a' cap',e = .returned (.agg #[.int .i64 now,.slice a' (keptTs c.w now (insBy (·.name) ⟨nm,L,ms,ss⟩ ts)).length cap']) ∧ TensOwn w' W.heap.size a' (keptTs c.w now (insBy (·.name) ⟨nm,L,ms,ss⟩ ts)) ∧ Below W.heap.size W w'):=fun W nm L ms ss q1 q2 e1 e2 hW p1 p2 hft=>by
    have:=l4With_any c now now a cap ts ⟨nm,L,ms,ss⟩ q1 q2 e1 e2 W (hf.later hW) p1 p2 (by omega) (fun x hx=>by
      rcases hx with rfl | hx
      · exact hft.1
      · exact fitW_of h0' hbk x hx) hn0 (by omega)
    have e : (⟨nm,L,ms,ss⟩ : TenD).name.toList.isEmpty = false:=by show nm.toList.isEmpty = false; rw [hft.2.1]; exact hft.2.2
    rw [e,wAll_ins (tens_up htens)] at this
    exact this
  have HNM : Hid ((tenOf ts tenant).name = tenant):=tenOf_name
  have HRS:=hid hrs
  have HFS : Hid ((tenOf ts tenant).sers.length ≤ 1100000):=hf5
  have HV0 : Hid (admitV c now ts tenant key = if (tnameB tenant && keyOK key) = false then (now,ts,5) else if (getBy (·.s) key (tenOf ts tenant).sers).isSome = true then (now,insBy (·.name) (addT (tenOf ts tenant) key now) ts,1) else if (countV c (tenOf ts tenant) ByteArray.empty).2 ≤ (countV c (tenOf ts tenant) ByteArray.empty).1 ∨ (idleB (tenOf ts tenant) = true ∧ ts.length = 10000) then (now,ts,3) else if (countV c (tenOf ts tenant) (metK key)).2 ≤ (countV c (tenOf ts tenant) (metK key)).1 then (now,ts,4) else (now,insBy (·.name) (addT (tenOf ts tenant) key now) ts,2)):=by show _ = _; rw [HV.out,if_neg (by rw [h0']; simp)]
  have HNE : Hid (tnameB tenant = true → tenant.toList.isEmpty = false):=tname_someA
  rw [h0'] at HO
  clear hf HV h0' f1 f2 f3 f4 hcf hlen htens hfs hf3 hf4 hf5 hlv hfw hrs hcw
  generalize admitV c now ts tenant key = V at *
  generalize tenOf ts tenant = tn at *
  obtain ⟨ti,hti,hz0,hz1,hz2⟩:=info_parts info_srK
  have HI : Hid (Tryz.prog.info? 84 = some ti):=hti
  clear hti
  unfold cfgV at *
  generalize hb1 : tnameB tenant = b1 at *
  generalize hb2 : keyOK key = b2 at *
  clear hb1 hb2
  cases b1 with
  | false =>
    have HV2 : Hid (V = (now,ts,5)):=by show _ = _; rw [HV0.out,if_pos (by rfl)]
    clear HV0 HTE HKP HWI HCT HID HMX
    go_enter Tryz.func20,Tryz.ntmps20
    have B0 : Hid (Below w.heap.size w (((w.alloc (.cells #[.int .i64 c.w,.int .i64 c.tl,.int .i64 c.ml,.int .i64 c.sh,.int .i64 c.ha,.int .i64 c.sg] 35)).alloc (.cells #[.int .i64 now,.slice a ts.length cap] 32)).alloc (.cells #[.int .i64 0,.slice none 0 0] 32))):=bto (bto (bnew _ _) (bnew _ _)) (bnew _ _)
    have C0 : Hid (Blk (((w.alloc (.cells #[.int .i64 c.w,.int .i64 c.tl,.int .i64 c.ml,.int .i64 c.sh,.int .i64 c.ha,.int .i64 c.sg] 35)).alloc (.cells #[.int .i64 now,.slice a ts.length cap] 32)).alloc (.cells #[.int .i64 0,.slice none 0 0] 32)) w.heap.size #[.int .i64 c.w,.int .i64 c.tl,.int .i64 c.ml,.int .i64 c.sh,.int .i64 c.ha,.int .i64 c.sg] 35):=(((Blk.new _ _ _).alloc _).alloc _)
    have S0 : Hid (Blk (((w.alloc (.cells #[.int .i64 c.w,.int .i64 c.tl,.int .i64 c.ml,.int .i64 c.sh,.int .i64 c.ha,.int .i64 c.sg] 35)).alloc (.cells #[.int .i64 now,.slice a ts.length cap] 32)).alloc (.cells #[.int .i64 0,.slice none 0 0] 32)) (w.heap.size + 1) #[.int .i64 now,.slice a ts.length cap] 32):=hid (by have:=(Blk.new (w.alloc (.cells #[.int .i64 c.w,.int .i64 c.tl,.int .i64 c.ml,.int .i64 c.sh,.int .i64 c.ha,.int .i64 c.sg] 35)) #[.int .i64 now,.slice a ts.length cap] 32).alloc (.cells #[.int .i64 0,.slice none 0 0] 32); simpa using this)
    have R0 : Hid (Blk (((w.alloc (.cells #[.int .i64 c.w,.int .i64 c.tl,.int .i64 c.ml,.int .i64 c.sh,.int .i64 c.ha,.int .i64 c.sg] 35)).alloc (.cells #[.int .i64 now,.slice a ts.length cap] 32)).alloc (.cells #[.int .i64 0,.slice none 0 0] 32)) (w.heap.size + 1 + 1) #[.int .i64 0,.slice none 0 0] 32):=hid (by have:=Blk.new ((w.alloc (.cells #[.int .i64 c.w,.int .i64 c.tl,.int .i64 c.ml,.int .i64 c.sh,.int .i64 c.ha,.int .i64 c.sg] 35)).alloc (.cells #[.int .i64 now,.slice a ts.length cap] 32)) #[.int .i64 0,.slice none 0 0] 32; simpa using this)
    go_wp2_with fail
    refine (HO.out _ B0.out).mono ?_
    rintro e wo ⟨rfl,hb1⟩
    have Co : Hid (Blk wo w.heap.size #[.int .i64 c.w,.int .i64 c.tl,.int .i64 c.ml,.int .i64 c.sh,.int .i64 c.ha,.int .i64 c.sg] 35):=C0.out.later hb1
    have So : Hid (Blk wo (w.heap.size + 1) #[.int .i64 now,.slice a ts.length cap] 32):=S0.out.later hb1
    have Ro : Hid (Blk wo (w.heap.size + 1 + 1) #[.int .i64 0,.slice none 0 0] 32):=R0.out.later hb1
    have Bo : Hid (Below w.heap.size w wo):=bto B0.out hb1
    clear hb1 HO C0 S0 R0 B0
    go_wp2_with fail
    refine (HTN.out _).mono ?_
    rintro e wz ⟨rfl,hw⟩
    replace hw:=hw.symm
    subst hw
    have box0 : wo.cell? ⟨w.heap.size,0,none⟩ = some (.int .i64 c.w):=Co.out.cell 0
    have box1 : wo.cell? ⟨w.heap.size,1,none⟩ = some (.int .i64 c.tl):=Co.out.cell 1
    have box2 : wo.cell? ⟨w.heap.size,2,none⟩ = some (.int .i64 c.ml):=Co.out.cell 2
    have box3 : wo.cell? ⟨w.heap.size,3,none⟩ = some (.int .i64 c.sh):=Co.out.cell 3
    have box4 : wo.cell? ⟨w.heap.size,4,none⟩ = some (.int .i64 c.ha):=Co.out.cell 4
    have box5 : wo.cell? ⟨w.heap.size,5,none⟩ = some (.int .i64 c.sg):=Co.out.cell 5
    have boy0 : wo.cell? ⟨w.heap.size + 1,0,none⟩ = some (.int .i64 now):=So.out.cell 0
    have boy1 : wo.cell? ⟨w.heap.size + 1,1,none⟩ = some (.slice a ts.length cap):=So.out.cell 1
    go_wp2_with fail
    refine (HSM.out _ Bo.out).mono ?_
    rintro e w9 ⟨ra,rc,rfl,ho9,hb9⟩
    have HO9 : Hid (TensOwn w9 wo.heap.size ra ts):=ho9
    have R9 : Hid (Blk w9 (w.heap.size + 1 + 1) #[.int .i64 0,.slice none 0 0] 32):=Ro.out.later hb9
    have B9 : Hid (Below w.heap.size w w9):=bto Bo.out hb9
    have hwv : w.heap.size + 1 + 1 < wo.heap.size:=lt_of_block Ro.out
    clear ho9 hb9
    have z0 : w9.cell? ⟨w.heap.size + 1 + 1,0,none⟩ = some (.int .i64 0):=R9.out.cell 0
    have z1 : w9.cell? ⟨w.heap.size + 1 + 1,1,none⟩ = some (.slice none 0 0):=R9.out.cell 1
    have f0:=R9.out.free 0
    have f1:=R9.out.free 1
    have hwl : w.heap.size + 1 + 1 < w9.heap.size:=lt_of_block R9.out
    go_wp2
    have HTE9 : Turn (· = w.heap.size + 1 + 1) w9 ((w9.setCell ⟨w.heap.size + 1 + 1,0,none⟩ (.int .i64 now)).setCell ⟨w.heap.size + 1 + 1,1,none⟩ (.slice ra ts.length rc)):=((Turn.refl (· = w.heap.size + 1 + 1) w9).setCell (Or.inl rfl) 0 _).setCell (Or.inl rfl) 1 _
    refine bodyPost_ret (v:=.tuple #[.agg #[.int .i64 now,.slice ra ts.length rc],.int .i64 5]) (by simp [results,Tryz.results20,go_sem,z0,z1]) rfl ?_
    rw [HV2.out]
    have ho : TensOwn ((w9.setCell ⟨w.heap.size + 1 + 1,0,none⟩ (.int .i64 now)).setCell ⟨w.heap.size + 1 + 1,1,none⟩ (.slice ra ts.length rc)) w.heap.size ra ts:=(TensOwn.turned HO9.out HTE9 (fun g h1 h2 e=>by omega)).mono (by omega)
    have hbe : Below w.heap.size w ((w9.setCell ⟨w.heap.size + 1 + 1,0,none⟩ (.int .i64 now)).setCell ⟨w.heap.size + 1 + 1,1,none⟩ (.slice ra ts.length rc)):=((Turn.of (S:=fun i=>w.heap.size ≤ i) B9.out).trans' (HTE9.mono fun i _ e=>by omega)).below (Nat.le_refl _) fun i hi h=>by omega
    first
      | exact ⟨ra,⟨rc,rfl⟩,ho,hbe⟩
      | exact ⟨ra,rc,rfl,ho,hbe⟩
  | true =>
    cases b2 with
    | true=>cases hbn
    | false =>
      have HV2 : Hid (V = (now,ts,5)):=by show _ = _; rw [HV0.out,if_pos (by rfl)]
      clear HV0 HTE HKP HWI HCT HID HMX
      go_enter Tryz.func20,Tryz.ntmps20
      have B0 : Hid (Below w.heap.size w (((w.alloc (.cells #[.int .i64 c.w,.int .i64 c.tl,.int .i64 c.ml,.int .i64 c.sh,.int .i64 c.ha,.int .i64 c.sg] 35)).alloc (.cells #[.int .i64 now,.slice a ts.length cap] 32)).alloc (.cells #[.int .i64 0,.slice none 0 0] 32))):=bto (bto (bnew _ _) (bnew _ _)) (bnew _ _)
      have C0 : Hid (Blk (((w.alloc (.cells #[.int .i64 c.w,.int .i64 c.tl,.int .i64 c.ml,.int .i64 c.sh,.int .i64 c.ha,.int .i64 c.sg] 35)).alloc (.cells #[.int .i64 now,.slice a ts.length cap] 32)).alloc (.cells #[.int .i64 0,.slice none 0 0] 32)) w.heap.size #[.int .i64 c.w,.int .i64 c.tl,.int .i64 c.ml,.int .i64 c.sh,.int .i64 c.ha,.int .i64 c.sg] 35):=(((Blk.new _ _ _).alloc _).alloc _)
      have S0 : Hid (Blk (((w.alloc (.cells #[.int .i64 c.w,.int .i64 c.tl,.int .i64 c.ml,.int .i64 c.sh,.int .i64 c.ha,.int .i64 c.sg] 35)).alloc (.cells #[.int .i64 now,.slice a ts.length cap] 32)).alloc (.cells #[.int .i64 0,.slice none 0 0] 32)) (w.heap.size + 1) #[.int .i64 now,.slice a ts.length cap] 32):=hid (by have:=(Blk.new (w.alloc (.cells #[.int .i64 c.w,.int .i64 c.tl,.int .i64 c.ml,.int .i64 c.sh,.int .i64 c.ha,.int .i64 c.sg] 35)) #[.int .i64 now,.slice a ts.length cap] 32).alloc (.cells #[.int .i64 0,.slice none 0 0] 32); simpa using this)
      have R0 : Hid (Blk (((w.alloc (.cells #[.int .i64 c.w,.int .i64 c.tl,.int .i64 c.ml,.int .i64 c.sh,.int .i64 c.ha,.int .i64 c.sg] 35)).alloc (.cells #[.int .i64 now,.slice a ts.length cap] 32)).alloc (.cells #[.int .i64 0,.slice none 0 0] 32)) (w.heap.size + 1 + 1) #[.int .i64 0,.slice none 0 0] 32):=hid (by have:=Blk.new ((w.alloc (.cells #[.int .i64 c.w,.int .i64 c.tl,.int .i64 c.ml,.int .i64 c.sh,.int .i64 c.ha,.int .i64 c.sg] 35)).alloc (.cells #[.int .i64 now,.slice a ts.length cap] 32)) #[.int .i64 0,.slice none 0 0] 32; simpa using this)
      go_wp2_with fail
      refine (HO.out _ B0.out).mono ?_
      rintro e wo ⟨rfl,hb1⟩
      have Co : Hid (Blk wo w.heap.size #[.int .i64 c.w,.int .i64 c.tl,.int .i64 c.ml,.int .i64 c.sh,.int .i64 c.ha,.int .i64 c.sg] 35):=C0.out.later hb1
      have So : Hid (Blk wo (w.heap.size + 1) #[.int .i64 now,.slice a ts.length cap] 32):=S0.out.later hb1
      have Ro : Hid (Blk wo (w.heap.size + 1 + 1) #[.int .i64 0,.slice none 0 0] 32):=R0.out.later hb1
      have Bo : Hid (Below w.heap.size w wo):=bto B0.out hb1
      clear hb1 HO C0 S0 R0 B0
      go_wp2_with fail
      refine (HTN.out _).mono ?_
      rintro e wz ⟨rfl,hw⟩
      replace hw:=hw.symm
      subst hw
      go_wp2_with fail
      refine (HKY.out _).mono ?_
      rintro e wv ⟨rfl,hb1⟩
      have Cv : Hid (Blk wv w.heap.size #[.int .i64 c.w,.int .i64 c.tl,.int .i64 c.ml,.int .i64 c.sh,.int .i64 c.ha,.int .i64 c.sg] 35):=Co.out.later hb1
      have Sv : Hid (Blk wv (w.heap.size + 1) #[.int .i64 now,.slice a ts.length cap] 32):=So.out.later hb1
      have Rv : Hid (Blk wv (w.heap.size + 1 + 1) #[.int .i64 0,.slice none 0 0] 32):=Ro.out.later hb1
      have Bv : Hid (Below w.heap.size w wv):=bto Bo.out hb1
      clear hb1 Co So Ro Bo
      have bvx0 : wv.cell? ⟨w.heap.size,0,none⟩ = some (.int .i64 c.w):=Cv.out.cell 0
      have bvx1 : wv.cell? ⟨w.heap.size,1,none⟩ = some (.int .i64 c.tl):=Cv.out.cell 1
      have bvx2 : wv.cell? ⟨w.heap.size,2,none⟩ = some (.int .i64 c.ml):=Cv.out.cell 2
      have bvx3 : wv.cell? ⟨w.heap.size,3,none⟩ = some (.int .i64 c.sh):=Cv.out.cell 3
      have bvx4 : wv.cell? ⟨w.heap.size,4,none⟩ = some (.int .i64 c.ha):=Cv.out.cell 4
      have bvx5 : wv.cell? ⟨w.heap.size,5,none⟩ = some (.int .i64 c.sg):=Cv.out.cell 5
      have bvy0 : wv.cell? ⟨w.heap.size + 1,0,none⟩ = some (.int .i64 now):=Sv.out.cell 0
      have bvy1 : wv.cell? ⟨w.heap.size + 1,1,none⟩ = some (.slice a ts.length cap):=Sv.out.cell 1
      go_wp2_with fail
      refine (HSM.out _ Bv.out).mono ?_
      rintro e w9 ⟨ra,rc,rfl,ho9,hb9⟩
      have HO9 : Hid (TensOwn w9 wv.heap.size ra ts):=ho9
      have R9 : Hid (Blk w9 (w.heap.size + 1 + 1) #[.int .i64 0,.slice none 0 0] 32):=Rv.out.later hb9
      have B9 : Hid (Below w.heap.size w w9):=bto Bv.out hb9
      have hwv : w.heap.size + 1 + 1 < wv.heap.size:=lt_of_block Rv.out
      clear ho9 hb9
      have z0 : w9.cell? ⟨w.heap.size + 1 + 1,0,none⟩ = some (.int .i64 0):=R9.out.cell 0
      have z1 : w9.cell? ⟨w.heap.size + 1 + 1,1,none⟩ = some (.slice none 0 0):=R9.out.cell 1
      have f0:=R9.out.free 0
      have f1:=R9.out.free 1
      have hwl : w.heap.size + 1 + 1 < w9.heap.size:=lt_of_block R9.out
      go_wp2
      have HTE9 : Turn (· = w.heap.size + 1 + 1) w9 ((w9.setCell ⟨w.heap.size + 1 + 1,0,none⟩ (.int .i64 now)).setCell ⟨w.heap.size + 1 + 1,1,none⟩ (.slice ra ts.length rc)):=((Turn.refl (· = w.heap.size + 1 + 1) w9).setCell (Or.inl rfl) 0 _).setCell (Or.inl rfl) 1 _
      refine bodyPost_ret (v:=.tuple #[.agg #[.int .i64 now,.slice ra ts.length rc],.int .i64 5]) (by simp [results,Tryz.results20,go_sem,z0,z1]) rfl ?_
      rw [HV2.out]
      have ho : TensOwn ((w9.setCell ⟨w.heap.size + 1 + 1,0,none⟩ (.int .i64 now)).setCell ⟨w.heap.size + 1 + 1,1,none⟩ (.slice ra ts.length rc)) w.heap.size ra ts:=(TensOwn.turned HO9.out HTE9 (fun g h1 h2 e=>by omega)).mono (by omega)
      have hbe : Below w.heap.size w ((w9.setCell ⟨w.heap.size + 1 + 1,0,none⟩ (.int .i64 now)).setCell ⟨w.heap.size + 1 + 1,1,none⟩ (.slice ra ts.length rc)):=((Turn.of (S:=fun i=>w.heap.size ≤ i) B9.out).trans' (HTE9.mono fun i _ e=>by omega)).below (Nat.le_refl _) fun i hi h=>by omega
      first
        | exact ⟨ra,⟨rc,rfl⟩,ho,hbe⟩
        | exact ⟨ra,rc,rfl,ho,hbe⟩
end Go.Proofs.YtkmdbpaeeagccaaGreatDoor
