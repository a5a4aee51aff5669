import Derived.Test.YtkmdbpaeeagccaaGreatDoorProg
import Derived.Test.YtkmdbpaeeagccaaGreatDoorJ36SSlm
import Derived.Test.YtkmdbpaeeagccaaGreatDoorJ37AdO
import Derived.Test.YtkmdbpaeeagccaaGreatDoorJ41SAdm
import Derived.Test.YtkmdbpaeeagccaaGreatDoorJ35StrL
import Derived.Test.YtkmdbpaeeagccaaGreatDoorJ29SSta
import Derived.Test.YtkmdbpaeeagccaaGreatDoorJ23IAll
namespace Go.Proofs.YtkmdbpaeeagccaaGreatDoor
open Go.RowKit Go.Maps
theorem box_two {w : World} {N : Nat} {x y p q : Value} {t : TypeId} (h : Blk w N #[x,y] t) : Blk ((w.setCell ⟨N,0,none⟩ p).setCell ⟨N,1,none⟩ q) N #[p,q] t:=by
  have:=(h.set 0 p).set 1 q
  simpa using this
set_option maxRecDepth 100000 in
set_option maxHeartbeats 8000000 in
theorem specApply_any (c : CfgD) (now : Int) (a : Option Addr) (cap : Nat) (ts : List TenD) (ar : Option Addr) (capr : Nat) (rs : List RecD) (w : World) (hf : TensIn w a ts) (hr : RecsIn w ar rs) (hbk : ts.length + tensBulk ts + rs.length + recBulk rs ≤ 1048576) :
    Calls Tryz.prog 6 #[cfgV c,.agg #[.int .i64 now,.slice a ts.length cap],.slice ar rs.length capr] w fun e w'=>StOut (applyV c now ts rs) w e w':=by
  have hbt : ts.length + tensBulk ts ≤ 1100000:=by omega
  obtain ⟨f1,f2,f3,f4⟩:=fit_of hbt
  have HST : Hid (∀ W,Below w.heap.size w W → Calls Tryz.prog 18 #[.agg #[.int .i64 c.w,.int .i64 c.tl,.int .i64 c.ml,.int .i64 c.sh,.int .i64 c.ha,.int .i64 c.sg],.agg #[.int .i64 now,.slice a ts.length cap]] W fun e w'=>e = .returned (.bool (stateB c now ts)) ∧ Below W.heap.size W w'):=fun W hW=>specState_any c now a cap ts W (hf.later hW) f2 (by omega)
  have HSM0 : Hid (stateB c now ts = true → ∀ W,Below w.heap.size w W → Calls Tryz.prog 19 #[.agg #[.int .i64 c.w,.int .i64 c.tl,.int .i64 c.ml,.int .i64 c.sh,.int .i64 c.ha,.int .i64 c.sg],.agg #[.int .i64 now,.slice a ts.length cap]] W fun e w'=>∃ a' cap',e = .returned (.agg #[.int .i64 now,.slice a' ts.length cap']) ∧ TensOwn w' W.heap.size a' ts ∧ Below W.heap.size W w'):=fun hs W hW=>l4Same_any c now a cap ts W (hf.later hW) hs hbt
  have HV0 : Hid (stateB c now ts = false → applyV c now ts rs = (0,[],false)):=fun h=>by unfold applyV; rw [if_pos h]
  have HV1 : Hid (stateB c now ts = true → 500 < rs.length → applyV c now ts rs = (now,ts,false)):=fun h h5=>by unfold applyV; rw [if_neg (by rw [h]; decide),if_pos h5]
  have HV2 : Hid (stateB c now ts = true → rs.length ≤ 500 → (runV c now ts rs).2.2 = false → applyV c now ts rs = (now,ts,false)):=fun h h5 h6=>by unfold applyV; rw [if_neg (by rw [h]; decide),if_neg (by omega),if_neg (by rw [h6]; decide)]
  have HV3 : Hid (stateB c now ts = true → rs.length ≤ 500 → (runV c now ts rs).2.2 = true → applyV c now ts rs = runV c now ts rs):=fun h h5 h6=>by unfold applyV; rw [if_neg (by rw [h]; decide),if_neg (by omega),if_pos h6]
  have HBK : Hid (ts.length + tensBulk ts + rs.length + recBulk rs ≤ 1048576):=hbk
  have HF:=hid hr
  clear hf hr f1 f2 f3 f4
  unfold StOut cfgV
  generalize applyV c now ts rs = V at *
  go_enter Tryz.func6,Tryz.ntmps6
  have B1 : Hid (Below w.heap.size w (((w.alloc (.cells #[.int .i64 c.w,.int .i64 c.tl,.int .i64 c.ml,.int .i64 c.sh,.int .i64 c.ha,.int .i64 c.sg] 35)).alloc (.cells #[.int .i64 now,.slice a ts.length cap] 32)).alloc (.cells #[.int .i64 0,.slice none 0 0] 32))):=bto (bto (bnew _ _) (bnew _ _)) (bnew _ _)
  have C1 : Hid (Blk (((w.alloc (.cells #[.int .i64 c.w,.int .i64 c.tl,.int .i64 c.ml,.int .i64 c.sh,.int .i64 c.ha,.int .i64 c.sg] 35)).alloc (.cells #[.int .i64 now,.slice a ts.length cap] 32)).alloc (.cells #[.int .i64 0,.slice none 0 0] 32)) w.heap.size #[.int .i64 c.w,.int .i64 c.tl,.int .i64 c.ml,.int .i64 c.sh,.int .i64 c.ha,.int .i64 c.sg] 35):=((Blk.new _ _ _).alloc _).alloc _
  have S1 : Hid (Blk (((w.alloc (.cells #[.int .i64 c.w,.int .i64 c.tl,.int .i64 c.ml,.int .i64 c.sh,.int .i64 c.ha,.int .i64 c.sg] 35)).alloc (.cells #[.int .i64 now,.slice a ts.length cap] 32)).alloc (.cells #[.int .i64 0,.slice none 0 0] 32)) (w.heap.size + 1) #[.int .i64 now,.slice a ts.length cap] 32):=hid (by have:=(Blk.new (w.alloc (.cells #[.int .i64 c.w,.int .i64 c.tl,.int .i64 c.ml,.int .i64 c.sh,.int .i64 c.ha,.int .i64 c.sg] 35)) #[.int .i64 now,.slice a ts.length cap] 32).alloc (.cells #[.int .i64 0,.slice none 0 0] 32); simpa using this)
  have R1 : Hid (Blk (((w.alloc (.cells #[.int .i64 c.w,.int .i64 c.tl,.int .i64 c.ml,.int .i64 c.sh,.int .i64 c.ha,.int .i64 c.sg] 35)).alloc (.cells #[.int .i64 now,.slice a ts.length cap] 32)).alloc (.cells #[.int .i64 0,.slice none 0 0] 32)) (w.heap.size + 1 + 1) #[.int .i64 0,.slice none 0 0] 32):=hid (by have:=Blk.new ((w.alloc (.cells #[.int .i64 c.w,.int .i64 c.tl,.int .i64 c.ml,.int .i64 c.sh,.int .i64 c.ha,.int .i64 c.sg] 35)).alloc (.cells #[.int .i64 now,.slice a ts.length cap] 32)) #[.int .i64 0,.slice none 0 0] 32; simpa using this)
  go_wp2_with fail
  refine (HST.out _ B1.out).mono ?_
  rintro e w1 ⟨rfl,hb1⟩
  have C2:=hid (C1.out.later hb1)
  have S2:=hid (S1.out.later hb1)
  have R2:=hid (R1.out.later hb1)
  have B2:=hid (bto B1.out hb1)
  clear hb1 C1 S1 R1 B1 HST
  generalize (((w.alloc (.cells #[.int .i64 c.w,.int .i64 c.tl,.int .i64 c.ml,.int .i64 c.sh,.int .i64 c.ha,.int .i64 c.sg] 35)).alloc (.cells #[.int .i64 now,.slice a ts.length cap] 32)).alloc (.cells #[.int .i64 0,.slice none 0 0] 32)) = w0 at *
  cases hst : stateB c now ts with
  | false =>
    have HV : Hid (V = (0,[],false)):=HV0.out hst
    have y0 : w1.cell? ⟨w.heap.size + 1 + 1,0,none⟩ = some (.int .i64 0):=R2.out.cell 0
    have y1 : w1.cell? ⟨w.heap.size + 1 + 1,1,none⟩ = some (.slice none 0 0):=R2.out.cell 1
    have f0:=R2.out.free 0
    have f1:=R2.out.free 1
    have hwl : w.heap.size + 1 + 1 < w1.heap.size:=lt_of_block R2.out
    go_wp2
    refine bodyPost_ret (v:=.tuple #[.agg #[.int .i64 0,.slice none 0 0],.bool false]) (by simp [results,Tryz.results6,go_sem,y0,y1]) rfl ?_
    rw [HV.out]
    refine ⟨none,0,rfl,Or.inl rfl,?_⟩
    first
      | exact (B2.out.setCell (by show w.heap.size ≤ w.heap.size + 1 + 1; omega) _).setCell (by show w.heap.size ≤ w.heap.size + 1 + 1; omega) _
      | exact B2.out
  | true =>
    have HSM:=hid (HSM0.out hst)
    have HVB:=hid (HV1.out hst)
    have HVF:=hid (HV2.out hst)
    have HVT:=hid (HV3.out hst)
    have HS0:=hid hst
    clear HV0 HV1 HV2 HV3 HSM0
    have p0 : w1.cell? ⟨w.heap.size,0,none⟩ = some (.int .i64 c.w):=C2.out.cell 0
    have p1 : w1.cell? ⟨w.heap.size,1,none⟩ = some (.int .i64 c.tl):=C2.out.cell 1
    have p2 : w1.cell? ⟨w.heap.size,2,none⟩ = some (.int .i64 c.ml):=C2.out.cell 2
    have p3 : w1.cell? ⟨w.heap.size,3,none⟩ = some (.int .i64 c.sh):=C2.out.cell 3
    have p4 : w1.cell? ⟨w.heap.size,4,none⟩ = some (.int .i64 c.ha):=C2.out.cell 4
    have p5 : w1.cell? ⟨w.heap.size,5,none⟩ = some (.int .i64 c.sg):=C2.out.cell 5
    have s0 : w1.cell? ⟨w.heap.size + 1,0,none⟩ = some (.int .i64 now):=S2.out.cell 0
    have s1 : w1.cell? ⟨w.heap.size + 1,1,none⟩ = some (.slice a ts.length cap):=S2.out.cell 1
    have hw1 : w.heap.size + 1 + 1 < w1.heap.size:=lt_of_block R2.out
    go_wp2_with fail
    refine (HSM.out _ B2.out).mono ?_
    rintro e w2 ⟨a2,c2,rfl,ho2,hb2⟩
    have O2 : Hid (TensOwn w2 (w.heap.size + 1 + 1 + 1) a2 ts):=hid (ho2.mono (by omega))
    have C3:=hid (C2.out.later hb2)
    have S3:=hid (S2.out.later hb2)
    have R3:=hid (R2.out.later hb2)
    have B3:=hid (bto B2.out hb2)
    have hs2:=hb2.size
    clear ho2 hb2 C2 S2 R2 B2 p0 p1 p2 p3 p4 p5 s0 s1
    have hal0:=bnew w2 (.cells #[.int .i64 now,.slice a2 ts.length c2] 32)
    have O4 : Hid (TensOwn (w2.alloc (.cells #[.int .i64 now,.slice a2 ts.length c2] 32)) (w.heap.size + 1 + 1 + 1) a2 ts):=hid (O2.out.later hal0)
    have C4:=hid (C3.out.later hal0)
    have S4:=hid (S3.out.later hal0)
    have R4:=hid (R3.out.later hal0)
    have B4:=hid (bto B3.out hal0)
    have N4 : Hid (Blk (w2.alloc (.cells #[.int .i64 now,.slice a2 ts.length c2] 32)) w2.heap.size #[.int .i64 now,.slice a2 ts.length c2] 32):=Blk.new _ _ _
    have hNp : w.heap.size + 1 + 1 < w2.heap.size:=by omega
    clear hal0 C3 S3
    by_cases h5 : 500 < rs.length
    · have HV : Hid (V = (now,ts,false)):=HVB.out h5
      have y0 : w2.cell? ⟨w.heap.size + 1 + 1,0,none⟩ = some (.int .i64 0):=R3.out.cell 0
      have y1 : w2.cell? ⟨w.heap.size + 1 + 1,1,none⟩ = some (.slice none 0 0):=R3.out.cell 1
      have f0:=R3.out.free 0
      have f1:=R3.out.free 1
      have hwl : w.heap.size + 1 + 1 < w2.heap.size:=lt_of_block R3.out
      go_wp2
      have HTE : Turn (· = w.heap.size + 1 + 1) w2 (((w2.setCell ⟨w.heap.size + 1 + 1,0,none⟩ (.int .i64 now)).setCell ⟨w.heap.size + 1 + 1,1,none⟩ (.slice a2 ts.length c2)).alloc (.cells #[.int .i64 now,.slice a2 ts.length c2] 32)):=(((Turn.refl (· = w.heap.size + 1 + 1) w2).setCell (Or.inl rfl) 0 _).setCell (Or.inl rfl) 1 _).trans' (Turn.of (bnew _ _))
      have HZ : Blk (((w2.setCell ⟨w.heap.size + 1 + 1,0,none⟩ (.int .i64 now)).setCell ⟨w.heap.size + 1 + 1,1,none⟩ (.slice a2 ts.length c2)).alloc (.cells #[.int .i64 now,.slice a2 ts.length c2] 32)) (w.heap.size + 1 + 1) #[.int .i64 now,.slice a2 ts.length c2] 32:=(box_two R3.out).alloc _
      have z0 : (((w2.setCell ⟨w.heap.size + 1 + 1,0,none⟩ (.int .i64 now)).setCell ⟨w.heap.size + 1 + 1,1,none⟩ (.slice a2 ts.length c2)).alloc (.cells #[.int .i64 now,.slice a2 ts.length c2] 32)).cell? ⟨w.heap.size + 1 + 1,0,none⟩ = some (.int .i64 now):=HZ.cell 0
      have z1 : (((w2.setCell ⟨w.heap.size + 1 + 1,0,none⟩ (.int .i64 now)).setCell ⟨w.heap.size + 1 + 1,1,none⟩ (.slice a2 ts.length c2)).alloc (.cells #[.int .i64 now,.slice a2 ts.length c2] 32)).cell? ⟨w.heap.size + 1 + 1,1,none⟩ = some (.slice a2 ts.length c2):=HZ.cell 1
      refine bodyPost_ret (v:=.tuple #[.agg #[.int .i64 now,.slice a2 ts.length c2],.bool false]) (by simp [results,Tryz.results6,go_sem,z0,z1]) rfl ?_
      rw [HV.out]
      have ho : TensOwn (((w2.setCell ⟨w.heap.size + 1 + 1,0,none⟩ (.int .i64 now)).setCell ⟨w.heap.size + 1 + 1,1,none⟩ (.slice a2 ts.length c2)).alloc (.cells #[.int .i64 now,.slice a2 ts.length c2] 32)) w.heap.size a2 ts:=(TensOwn.turned O2.out HTE (fun g h1 h2 e=>by omega)).mono (by omega)
      have hbe : Below w.heap.size w (((w2.setCell ⟨w.heap.size + 1 + 1,0,none⟩ (.int .i64 now)).setCell ⟨w.heap.size + 1 + 1,1,none⟩ (.slice a2 ts.length c2)).alloc (.cells #[.int .i64 now,.slice a2 ts.length c2] 32)):=((Turn.of (S:=fun i=>w.heap.size ≤ i) B3.out).trans' (HTE.mono fun i _ e=>by omega)).below (Nat.le_refl _) fun i hi h=>by omega
      first
        | exact ⟨a2,⟨c2,rfl⟩,ho,hbe⟩
        | exact ⟨a2,c2,rfl,ho,hbe⟩
    · have h5' : rs.length ≤ 500:=by omega
      clear R3 B3 O2
      go_wp2
      generalize (w2.alloc (.cells #[.int .i64 now,.slice a2 ts.length c2] 32)) = w4 at *
      generalize w2.heap.size = N at *
      go_loopw [29] (fun i wr=>∃ (k : Nat) (nk : Int) (tk : List TenD) (an : Option Addr) (cn : Nat),k ≤ rs.length ∧ i = .int .i64 k ∧ Hid (Blk wr w.heap.size #[.int .i64 c.w,.int .i64 c.tl,.int .i64 c.ml,.int .i64 c.sh,.int .i64 c.ha,.int .i64 c.sg] 35) ∧ Hid (Blk wr (w.heap.size + 1) #[.int .i64 now,.slice a ts.length cap] 32) ∧ Hid (Blk wr (w.heap.size + 1 + 1) #[.int .i64 0,.slice none 0 0] 32) ∧ Hid (Blk wr N #[.int .i64 nk,.slice an tk.length cn] 32) ∧ Hid (TensOwn wr (w.heap.size + 1 + 1 + 1) an tk) ∧ Hid (Below w.heap.size w wr) ∧ Hid (stateB c nk tk = true) ∧ Hid (tk.length + tensBulk tk + 2 * (rs.length - k) + recBulk (rs.drop k) ≤ 1100000) ∧ Hid (runV c nk tk (rs.drop k) = runV c now ts rs)) (fun i _=>rs.length - (intOf i).toNat)
      case atStart=>exact ⟨0,now,ts,a2,c2,Nat.zero_le _,rfl,C4.out,S4.out,R4.out,N4.out,O4.out,B4.out,HS0.out,hid (by have:=HBK.out; simp only [Nat.sub_zero,List.drop_zero]; omega),rfl⟩
      case round =>
        obtain ⟨k,nk,tk,an,cn,hk,rfl,CB,SB,RB,NB,OB,BW,HS,HK,HR⟩:=hrel
        clear C4 S4 R4 N4 O4 B4 HS0
        by_cases hlt : k < rs.length
        · obtain ⟨b,o,har,hbw,q0,q1,q2,q3⟩:=(HF.out.later BW.out).at hlt
          subst har
          have hkb : tk.length + tensBulk tk + 2 * (rs.length - k) + recBulk (rs.drop k) ≤ 1100000:=HK.out
          have hdr:=recBulk_drop rs hlt
          have hstb:=stepV_bulk HS.out rs[k]
          have HRF : Hid ((stepV c nk tk rs[k]).2.2 = false → (runV c now ts rs).2.2 = false):=fun h=>by rw [← HR.out,runV_stop hlt h]
          have HVQ0 : Hid ((stepV c nk tk rs[k]).2.2 = false → V = (now,ts,false)):=fun h=>HVF.out h5' (HRF.out h)
          have HRN0 : Hid ((stepV c nk tk rs[k]).2.2 = true → runV c (stepV c nk tk rs[k]).1 (stepV c nk tk rs[k]).2.1 (rs.drop (k + 1)) = runV c now ts rs):=fun h=>(runV_step hlt h).symm.trans HR.out
          have HOK0 : Hid ((stepV c nk tk rs[k]).2.2 = true → stateB c (stepV c nk tk rs[k]).1 (stepV c nk tk rs[k]).2.1 = true):=fun h=>stepV_ok HS.out h
          have HBN : Hid ((stepV c nk tk rs[k]).2.1.length + tensBulk (stepV c nk tk rs[k]).2.1 + 2 * (rs.length - (k + 1)) + recBulk (rs.drop (k + 1)) ≤ 1100000):=by show _ ≤ _; omega
          have HSV : Hid (stepV c nk tk rs[k] = if rs[k].kind = 1 then (nk,(admL c nk tk rs[k].tenant rs[k].text).1,decide ((admL c nk tk rs[k].tenant rs[k].text).2 = 1) || decide ((admL c nk tk rs[k].tenant rs[k].text).2 = 2)) else if rs[k].kind = 2 then tickL c.w nk tk rs[k].num else if rs[k].kind = 3 then (nk,(setL tk rs[k].tenant rs[k].text rs[k].num).1,(setL tk rs[k].tenant rs[k].text rs[k].num).2) else (nk,tk,false)):=rfl
          have HTI : Hid (∀ W,Below wr.heap.size wr W → TensIn W an tk):=fun W hW=>OB.out.tens.later hW
          have HAD : Hid (∀ W,Below wr.heap.size wr W → Calls Tryz.prog 20 #[.agg #[.int .i64 c.w,.int .i64 c.tl,.int .i64 c.ml,.int .i64 c.sh,.int .i64 c.ha,.int .i64 c.sg],.agg #[.int .i64 nk,.slice an tk.length cn],.string rs[k].tenant,.string rs[k].text] W fun e w'=>∃ a cap,e = .returned (.tuple #[.agg #[.int .i64 nk,.slice a (admL c nk tk rs[k].tenant rs[k].text).1.length cap],.int .i64 ((admL c nk tk rs[k].tenant rs[k].text).2 : Nat)]) ∧ TensOwn w' W.heap.size a (admL c nk tk rs[k].tenant rs[k].text).1 ∧ Below W.heap.size W w'):=fun W hW=>by
            have:=specAdmit_any c nk an cn tk rs[k].tenant rs[k].text W (HTI.out W hW) (by omega) (by omega) (by omega)
            rw [admL_eq HS.out] at this
            exact this
          have HTK : Hid (∀ W,Below wr.heap.size wr W → Calls Tryz.prog 21 #[.agg #[.int .i64 c.w,.int .i64 c.tl,.int .i64 c.ml,.int .i64 c.sh,.int .i64 c.ha,.int .i64 c.sg],.agg #[.int .i64 nk,.slice an tk.length cn],.int .i64 rs[k].num] W fun e w'=>∃ a cap,e = .returned (.tuple #[.agg #[.int .i64 (tickL c.w nk tk rs[k].num).1,.slice a (tickL c.w nk tk rs[k].num).2.1.length cap],.bool (tickL c.w nk tk rs[k].num).2.2]) ∧ TensOwn w' W.heap.size a (tickL c.w nk tk rs[k].num).2.1 ∧ Below W.heap.size W w'):=fun W hW=>by
            have:=specTick_any c nk an cn tk rs[k].num W (HTI.out W hW) (by omega)
            rw [tickL_eq HS.out] at this
            exact this
          have HSE : Hid (∀ W,Below wr.heap.size wr W → Calls Tryz.prog 22 #[.agg #[.int .i64 c.w,.int .i64 c.tl,.int .i64 c.ml,.int .i64 c.sh,.int .i64 c.ha,.int .i64 c.sg],.agg #[.int .i64 nk,.slice an tk.length cn],.string rs[k].tenant,.string rs[k].text,.int .i64 rs[k].num] W fun e w'=>∃ a cap,e = .returned (.tuple #[.agg #[.int .i64 nk,.slice a (setL tk rs[k].tenant rs[k].text rs[k].num).1.length cap],.bool (setL tk rs[k].tenant rs[k].text rs[k].num).2]) ∧ TensOwn w' W.heap.size a (setL tk rs[k].tenant rs[k].text rs[k].num).1 ∧ Below W.heap.size W w'):=fun W hW=>by
            have:=specSetLimit_any c nk an cn tk rs[k].tenant rs[k].text rs[k].num W (HTI.out W hW) (by omega) (by omega) (by omega)
            rw [setL_eq HS.out] at this
            exact this
          have HTC : Hid (TensIn wr an tk):=OB.out.tens
          clear hkb hdr hstb HS HK HR HRF HTI OB
          have hal : Below wr.heap.size wr ((wr.alloc (.cells #[.int .i64 rs[k].kind,.string rs[k].tenant,.string rs[k].text,.int .i64 rs[k].num] 51)).alloc (.cells #[.int .i64 0,.slice none 0 0] 32)):=bto (bnew _ _) (bnew _ _)
          have XB : Hid (Blk ((wr.alloc (.cells #[.int .i64 rs[k].kind,.string rs[k].tenant,.string rs[k].text,.int .i64 rs[k].num] 51)).alloc (.cells #[.int .i64 0,.slice none 0 0] 32)) (wr.heap.size + 1) #[.int .i64 0,.slice none 0 0] 32):=hid (by have:=Blk.new (wr.alloc (.cells #[.int .i64 rs[k].kind,.string rs[k].tenant,.string rs[k].text,.int .i64 rs[k].num] 51)) #[.int .i64 0,.slice none 0 0] 32; simpa using this)
          have hNr : N < wr.heap.size:=lt_of_block NB.out
          have hRr : w.heap.size + 1 + 1 < wr.heap.size:=lt_of_block RB.out
          generalize stepV c nk tk rs[k] = SV at *
          have UB : Hid (Blk ((wr.alloc (.cells #[.int .i64 rs[k].kind,.string rs[k].tenant,.string rs[k].text,.int .i64 rs[k].num] 51)).alloc (.cells #[.int .i64 0,.slice none 0 0] 32)) wr.heap.size #[.int .i64 rs[k].kind,.string rs[k].tenant,.string rs[k].text,.int .i64 rs[k].num] 51):=(Blk.new _ _ _).alloc _
          go_upto_region 11 with fail
          have CX:=hid (CB.out.later hal)
          have SX:=hid (SB.out.later hal)
          have RX:=hid (RB.out.later hal)
          have NX:=hid (NB.out.later hal)
          have BXW:=hid (bto BW.out hal)
          have hwb : wr.heap.size + 1 < ((wr.alloc (.cells #[.int .i64 rs[k].kind,.string rs[k].tenant,.string rs[k].text,.int .i64 rs[k].num] 51)).alloc (.cells #[.int .i64 0,.slice none 0 0] 32)).heap.size:=lt_of_block XB.out
          clear q0 q1 q2 q3 CB SB RB NB BW
          generalize ((wr.alloc (.cells #[.int .i64 rs[k].kind,.string rs[k].tenant,.string rs[k].text,.int .i64 rs[k].num] 51)).alloc (.cells #[.int .i64 0,.slice none 0 0] 32)) = wb at *
          have p0 : wb.cell? ⟨w.heap.size,0,none⟩ = some (.int .i64 c.w):=CX.out.cell 0
          have p1 : wb.cell? ⟨w.heap.size,1,none⟩ = some (.int .i64 c.tl):=CX.out.cell 1
          have p2 : wb.cell? ⟨w.heap.size,2,none⟩ = some (.int .i64 c.ml):=CX.out.cell 2
          have p3 : wb.cell? ⟨w.heap.size,3,none⟩ = some (.int .i64 c.sh):=CX.out.cell 3
          have p4 : wb.cell? ⟨w.heap.size,4,none⟩ = some (.int .i64 c.ha):=CX.out.cell 4
          have p5 : wb.cell? ⟨w.heap.size,5,none⟩ = some (.int .i64 c.sg):=CX.out.cell 5
          have n0 : wb.cell? ⟨N,0,none⟩ = some (.int .i64 nk):=NX.out.cell 0
          have n1 : wb.cell? ⟨N,1,none⟩ = some (.slice an tk.length cn):=NX.out.cell 1
          have q0 : wb.cell? ⟨wr.heap.size,0,none⟩ = some (.int .i64 rs[k].kind):=UB.out.cell 0
          have q1 : wb.cell? ⟨wr.heap.size,1,none⟩ = some (.string rs[k].tenant):=UB.out.cell 1
          have q2 : wb.cell? ⟨wr.heap.size,2,none⟩ = some (.string rs[k].text):=UB.out.cell 2
          have q3 : wb.cell? ⟨wr.heap.size,3,none⟩ = some (.int .i64 rs[k].num):=UB.out.cell 3
          by_cases k1 : rs[k].kind = 1
          · have hSV : SV = (nk,(admL c nk tk rs[k].tenant rs[k].text).1,decide ((admL c nk tk rs[k].tenant rs[k].text).2 = 1) || decide ((admL c nk tk rs[k].tenant rs[k].text).2 = 2)):=by rw [HSV.out,if_pos k1]
            subst hSV
            clear HSV HTK HSE
            generalize admL c nk tk rs[k].tenant rs[k].text = R at *
            obtain ⟨t5,v5⟩:=R
            go_wp2_with fail
            refine (HAD.out _ hal).mono ?_
            rintro e w5 ⟨a5,c5,rfl,ho5,hb5⟩
            have O5:=hid ho5
            have C5:=hid (CX.out.later hb5)
            have S5:=hid (SX.out.later hb5)
            have R5:=hid (RX.out.later hb5)
            have N5:=hid (NX.out.later hb5)
            have X5 : Hid (Blk w5 (wr.heap.size + 1) #[.int .i64 0,.slice none 0 0] 32):=hid (XB.out.later hb5)
            have B5:=hid (bto BXW.out hb5)
            have hs5:=hb5.size
            clear ho5 hb5 q0 q1 q2 q3 n0 n1 p0 p1 p2 p3 p4 p5
            have x0 : w5.cell? ⟨wr.heap.size + 1,0,none⟩ = some (.int .i64 0):=X5.out.cell 0
            have x1 : w5.cell? ⟨wr.heap.size + 1,1,none⟩ = some (.slice none 0 0):=X5.out.cell 1
            have fx0:=X5.out.free 0
            have fx1:=X5.out.free 1
            have n0 : w5.cell? ⟨N,0,none⟩ = some (.int .i64 nk):=N5.out.cell 0
            have n1 : w5.cell? ⟨N,1,none⟩ = some (.slice an tk.length cn):=N5.out.cell 1
            have fn0:=N5.out.free 0
            have fn1:=N5.out.free 1
            have hx5 : wr.heap.size + 1 < w5.heap.size:=lt_of_block X5.out
            have hn5 : N < w5.heap.size:=lt_of_block N5.out
            have hp5 : w.heap.size + 1 + 1 < w5.heap.size:=lt_of_block R5.out
            by_cases v1 : v5 = 1
            · subst v1
              have HOK:=hid (HOK0.out rfl)
              have HRN:=hid (HRN0.out rfl)
              have TX : Turn (· = wr.heap.size + 1) w5 ((w5.setCell ⟨wr.heap.size + 1,0,none⟩ (.int .i64 nk)).setCell ⟨wr.heap.size + 1,1,none⟩ (.slice a5 t5.length c5)):=((Turn.refl (· = wr.heap.size + 1) w5).setCell (Or.inl rfl) 0 _).setCell (Or.inl rfl) 1 _
              have TE : Turn (fun g=>g = wr.heap.size + 1 ∨ g = N) w5 (((((w5.setCell ⟨wr.heap.size + 1,0,none⟩ (.int .i64 nk)).setCell ⟨wr.heap.size + 1,1,none⟩ (.slice a5 t5.length c5)).setCell ⟨N,0,none⟩ (.int .i64 nk)).setCell ⟨N,1,none⟩ (.slice a5 t5.length c5)).alloc (.cells #[.int .i64 nk,.slice a5 t5.length c5] 32)):=(((((Turn.refl (fun g=>g = wr.heap.size + 1 ∨ g = N) w5).setCell (Or.inl (Or.inl rfl)) 0 _).setCell (Or.inl (Or.inl rfl)) 1 _).setCell (Or.inl (Or.inr rfl)) 0 _).setCell (Or.inl (Or.inr rfl)) 1 _).trans' (Turn.of (bnew _ _))
              have C6:=hid (TE.blk C5.out (show ¬ (w.heap.size = wr.heap.size + 1 ∨ w.heap.size = N) by omega))
              have S6:=hid (TE.blk S5.out (show ¬ (w.heap.size + 1 = wr.heap.size + 1 ∨ w.heap.size + 1 = N) by omega))
              have R6:=hid (TE.blk R5.out (show ¬ (w.heap.size + 1 + 1 = wr.heap.size + 1 ∨ w.heap.size + 1 + 1 = N) by omega))
              have N6 : Hid (Blk (((((w5.setCell ⟨wr.heap.size + 1,0,none⟩ (.int .i64 nk)).setCell ⟨wr.heap.size + 1,1,none⟩ (.slice a5 t5.length c5)).setCell ⟨N,0,none⟩ (.int .i64 nk)).setCell ⟨N,1,none⟩ (.slice a5 t5.length c5)).alloc (.cells #[.int .i64 nk,.slice a5 t5.length c5] 32)) N #[.int .i64 nk,.slice a5 t5.length c5] 32):=(box_two (TX.blk N5.out (show ¬ N = wr.heap.size + 1 by omega))).alloc _
              have B6 : Hid (Below w.heap.size w (((((w5.setCell ⟨wr.heap.size + 1,0,none⟩ (.int .i64 nk)).setCell ⟨wr.heap.size + 1,1,none⟩ (.slice a5 t5.length c5)).setCell ⟨N,0,none⟩ (.int .i64 nk)).setCell ⟨N,1,none⟩ (.slice a5 t5.length c5)).alloc (.cells #[.int .i64 nk,.slice a5 t5.length c5] 32))):=B5.out.trans (TE.below (by omega) fun i hi e=>by omega)
              have O6 : Hid (TensOwn (((((w5.setCell ⟨wr.heap.size + 1,0,none⟩ (.int .i64 nk)).setCell ⟨wr.heap.size + 1,1,none⟩ (.slice a5 t5.length c5)).setCell ⟨N,0,none⟩ (.int .i64 nk)).setCell ⟨N,1,none⟩ (.slice a5 t5.length c5)).alloc (.cells #[.int .i64 nk,.slice a5 t5.length c5] 32)) (w.heap.size + 1 + 1 + 1) a5 t5):=hid ((TensOwn.turned O5.out TE (fun g h1 h2 e=>by omega)).mono (by omega))
              clear TX TE
              go_wp2
              exact ⟨⟨k + 1,nk,t5,a5,c5,by omega,by go_num,C6.out,S6.out,R6.out,N6.out,O6.out,B6.out,HOK.out,HBN.out,HRN.out⟩,by simp [intOf]; omega⟩
            · by_cases v2 : v5 = 2
              · subst v2
                have HOK:=hid (HOK0.out rfl)
                have HRN:=hid (HRN0.out rfl)
                have TX : Turn (· = wr.heap.size + 1) w5 ((w5.setCell ⟨wr.heap.size + 1,0,none⟩ (.int .i64 nk)).setCell ⟨wr.heap.size + 1,1,none⟩ (.slice a5 t5.length c5)):=((Turn.refl (· = wr.heap.size + 1) w5).setCell (Or.inl rfl) 0 _).setCell (Or.inl rfl) 1 _
                have TE : Turn (fun g=>g = wr.heap.size + 1 ∨ g = N) w5 (((((w5.setCell ⟨wr.heap.size + 1,0,none⟩ (.int .i64 nk)).setCell ⟨wr.heap.size + 1,1,none⟩ (.slice a5 t5.length c5)).setCell ⟨N,0,none⟩ (.int .i64 nk)).setCell ⟨N,1,none⟩ (.slice a5 t5.length c5)).alloc (.cells #[.int .i64 nk,.slice a5 t5.length c5] 32)):=(((((Turn.refl (fun g=>g = wr.heap.size + 1 ∨ g = N) w5).setCell (Or.inl (Or.inl rfl)) 0 _).setCell (Or.inl (Or.inl rfl)) 1 _).setCell (Or.inl (Or.inr rfl)) 0 _).setCell (Or.inl (Or.inr rfl)) 1 _).trans' (Turn.of (bnew _ _))
                have C6:=hid (TE.blk C5.out (show ¬ (w.heap.size = wr.heap.size + 1 ∨ w.heap.size = N) by omega))
                have S6:=hid (TE.blk S5.out (show ¬ (w.heap.size + 1 = wr.heap.size + 1 ∨ w.heap.size + 1 = N) by omega))
                have R6:=hid (TE.blk R5.out (show ¬ (w.heap.size + 1 + 1 = wr.heap.size + 1 ∨ w.heap.size + 1 + 1 = N) by omega))
                have N6 : Hid (Blk (((((w5.setCell ⟨wr.heap.size + 1,0,none⟩ (.int .i64 nk)).setCell ⟨wr.heap.size + 1,1,none⟩ (.slice a5 t5.length c5)).setCell ⟨N,0,none⟩ (.int .i64 nk)).setCell ⟨N,1,none⟩ (.slice a5 t5.length c5)).alloc (.cells #[.int .i64 nk,.slice a5 t5.length c5] 32)) N #[.int .i64 nk,.slice a5 t5.length c5] 32):=(box_two (TX.blk N5.out (show ¬ N = wr.heap.size + 1 by omega))).alloc _
                have B6 : Hid (Below w.heap.size w (((((w5.setCell ⟨wr.heap.size + 1,0,none⟩ (.int .i64 nk)).setCell ⟨wr.heap.size + 1,1,none⟩ (.slice a5 t5.length c5)).setCell ⟨N,0,none⟩ (.int .i64 nk)).setCell ⟨N,1,none⟩ (.slice a5 t5.length c5)).alloc (.cells #[.int .i64 nk,.slice a5 t5.length c5] 32))):=B5.out.trans (TE.below (by omega) fun i hi e=>by omega)
                have O6 : Hid (TensOwn (((((w5.setCell ⟨wr.heap.size + 1,0,none⟩ (.int .i64 nk)).setCell ⟨wr.heap.size + 1,1,none⟩ (.slice a5 t5.length c5)).setCell ⟨N,0,none⟩ (.int .i64 nk)).setCell ⟨N,1,none⟩ (.slice a5 t5.length c5)).alloc (.cells #[.int .i64 nk,.slice a5 t5.length c5] 32)) (w.heap.size + 1 + 1 + 1) a5 t5):=hid ((TensOwn.turned O5.out TE (fun g h1 h2 e=>by omega)).mono (by omega))
                clear TX TE
                go_wp2
                exact ⟨⟨k + 1,nk,t5,a5,c5,by omega,by go_num,C6.out,S6.out,R6.out,N6.out,O6.out,B6.out,HOK.out,HBN.out,HRN.out⟩,by simp [intOf]; omega⟩
              · have v1' : ¬ ((v5 : Int) = 1):=by omega
                have v2' : ¬ ((v5 : Int) = 2):=by omega
                have v1b : ((v5 : Int) == 1) = false:=by simpa using v1'
                have v2b : ((v5 : Int) == 2) = false:=by simpa using v2'
                have HVQ : Hid (V = (now,ts,false)):=HVQ0.out (by simp [v1,v2])
                have TX : Turn (· = wr.heap.size + 1) w5 (((w5.setCell ⟨wr.heap.size + 1,0,none⟩ (.int .i64 nk)).setCell ⟨wr.heap.size + 1,1,none⟩ (.slice a5 t5.length c5)).alloc (.cells #[.int .i64 nk,.slice a5 t5.length c5] 32)):=(((Turn.refl (· = wr.heap.size + 1) w5).setCell (Or.inl rfl) 0 _).setCell (Or.inl rfl) 1 _).trans' (Turn.of (bnew _ _))
                have CQ:=hid (TX.blk C5.out (show ¬ w.heap.size = wr.heap.size + 1 by omega))
                have SQ:=hid (TX.blk S5.out (show ¬ w.heap.size + 1 = wr.heap.size + 1 by omega))
                have RQ:=hid (TX.blk R5.out (show ¬ w.heap.size + 1 + 1 = wr.heap.size + 1 by omega))
                have BQ : Hid (Below w.heap.size w (((w5.setCell ⟨wr.heap.size + 1,0,none⟩ (.int .i64 nk)).setCell ⟨wr.heap.size + 1,1,none⟩ (.slice a5 t5.length c5)).alloc (.cells #[.int .i64 nk,.slice a5 t5.length c5] 32))):=B5.out.trans (TX.below (by omega) fun i hi e=>by omega)
                clear TX
                go_upto_region 21 with fail
                clear x0 x1 fx0 fx1 n0 n1 fn0 fn1 C5 S5 R5 N5 X5 B5 O5
                generalize (((w5.setCell ⟨wr.heap.size + 1,0,none⟩ (.int .i64 nk)).setCell ⟨wr.heap.size + 1,1,none⟩ (.slice a5 t5.length c5)).alloc (.cells #[.int .i64 nk,.slice a5 t5.length c5] 32)) = wq at *
                have p0 : wq.cell? ⟨w.heap.size,0,none⟩ = some (.int .i64 c.w):=CQ.out.cell 0
                have p1 : wq.cell? ⟨w.heap.size,1,none⟩ = some (.int .i64 c.tl):=CQ.out.cell 1
                have p2 : wq.cell? ⟨w.heap.size,2,none⟩ = some (.int .i64 c.ml):=CQ.out.cell 2
                have p3 : wq.cell? ⟨w.heap.size,3,none⟩ = some (.int .i64 c.sh):=CQ.out.cell 3
                have p4 : wq.cell? ⟨w.heap.size,4,none⟩ = some (.int .i64 c.ha):=CQ.out.cell 4
                have p5 : wq.cell? ⟨w.heap.size,5,none⟩ = some (.int .i64 c.sg):=CQ.out.cell 5
                have s0 : wq.cell? ⟨w.heap.size + 1,0,none⟩ = some (.int .i64 now):=SQ.out.cell 0
                have s1 : wq.cell? ⟨w.heap.size + 1,1,none⟩ = some (.slice a ts.length cap):=SQ.out.cell 1
                go_wp2_with fail
                clear p0 p1 p2 p3 p4 p5 s0 s1
                refine (HSM.out _ BQ.out).mono ?_
                rintro e w9 ⟨a9,c9,rfl,ho9,hb9⟩
                have O9:=hid ho9
                have hwq : w.heap.size + 1 + 1 < wq.heap.size:=lt_of_block RQ.out
                have R9:=hid (RQ.out.later hb9)
                have B9:=hid (bto BQ.out hb9)
                clear ho9 hb9 CQ SQ
                have y0 : w9.cell? ⟨w.heap.size + 1 + 1,0,none⟩ = some (.int .i64 0):=R9.out.cell 0
                have y1 : w9.cell? ⟨w.heap.size + 1 + 1,1,none⟩ = some (.slice none 0 0):=R9.out.cell 1
                have f0:=R9.out.free 0
                have f1:=R9.out.free 1
                have hwl : w.heap.size + 1 + 1 < w9.heap.size:=lt_of_block R9.out
                go_wp2
                have HTE : Turn (· = w.heap.size + 1 + 1) w9 ((w9.setCell ⟨w.heap.size + 1 + 1,0,none⟩ (.int .i64 now)).setCell ⟨w.heap.size + 1 + 1,1,none⟩ (.slice a9 ts.length c9)):=((Turn.refl (· = w.heap.size + 1 + 1) w9).setCell (Or.inl rfl) 0 _).setCell (Or.inl rfl) 1 _
                have HZ : Blk ((w9.setCell ⟨w.heap.size + 1 + 1,0,none⟩ (.int .i64 now)).setCell ⟨w.heap.size + 1 + 1,1,none⟩ (.slice a9 ts.length c9)) (w.heap.size + 1 + 1) #[.int .i64 now,.slice a9 ts.length c9] 32:=box_two R9.out
                have z0 : ((w9.setCell ⟨w.heap.size + 1 + 1,0,none⟩ (.int .i64 now)).setCell ⟨w.heap.size + 1 + 1,1,none⟩ (.slice a9 ts.length c9)).cell? ⟨w.heap.size + 1 + 1,0,none⟩ = some (.int .i64 now):=HZ.cell 0
                have z1 : ((w9.setCell ⟨w.heap.size + 1 + 1,0,none⟩ (.int .i64 now)).setCell ⟨w.heap.size + 1 + 1,1,none⟩ (.slice a9 ts.length c9)).cell? ⟨w.heap.size + 1 + 1,1,none⟩ = some (.slice a9 ts.length c9):=HZ.cell 1
                refine bodyPost_ret (v:=.tuple #[.agg #[.int .i64 now,.slice a9 ts.length c9],.bool false]) (by simp [results,Tryz.results6,go_sem,z0,z1]) rfl ?_
                rw [HVQ.out]
                have ho : TensOwn ((w9.setCell ⟨w.heap.size + 1 + 1,0,none⟩ (.int .i64 now)).setCell ⟨w.heap.size + 1 + 1,1,none⟩ (.slice a9 ts.length c9)) w.heap.size a9 ts:=(TensOwn.turned O9.out HTE (fun g h1 h2 e=>by omega)).mono (by omega)
                have hbe : Below w.heap.size w ((w9.setCell ⟨w.heap.size + 1 + 1,0,none⟩ (.int .i64 now)).setCell ⟨w.heap.size + 1 + 1,1,none⟩ (.slice a9 ts.length c9)):=((Turn.of (S:=fun i=>w.heap.size ≤ i) B9.out).trans' (HTE.mono fun i _ e=>by omega)).below (Nat.le_refl _) fun i hi h=>by omega
                first
                  | exact ⟨a9,⟨c9,rfl⟩,ho,hbe⟩
                  | exact ⟨a9,c9,rfl,ho,hbe⟩
          · by_cases k2 : rs[k].kind = 2
            · have hSV : SV = tickL c.w nk tk rs[k].num:=by rw [HSV.out,if_neg k1,if_pos k2]
              subst hSV
              clear HSV HAD HSE
              generalize tickL c.w nk tk rs[k].num = R at *
              obtain ⟨n5,t5,b5⟩:=R
              go_wp2_with fail
              refine (HTK.out _ hal).mono ?_
              rintro e w5 ⟨a5,c5,rfl,ho5,hb5⟩
              have O5:=hid ho5
              have C5:=hid (CX.out.later hb5)
              have S5:=hid (SX.out.later hb5)
              have R5:=hid (RX.out.later hb5)
              have N5:=hid (NX.out.later hb5)
              have X5 : Hid (Blk w5 (wr.heap.size + 1) #[.int .i64 0,.slice none 0 0] 32):=hid (XB.out.later hb5)
              have B5:=hid (bto BXW.out hb5)
              have hs5:=hb5.size
              clear ho5 hb5 q0 q1 q2 q3 n0 n1 p0 p1 p2 p3 p4 p5
              have x0 : w5.cell? ⟨wr.heap.size + 1,0,none⟩ = some (.int .i64 0):=X5.out.cell 0
              have x1 : w5.cell? ⟨wr.heap.size + 1,1,none⟩ = some (.slice none 0 0):=X5.out.cell 1
              have fx0:=X5.out.free 0
              have fx1:=X5.out.free 1
              have n0 : w5.cell? ⟨N,0,none⟩ = some (.int .i64 nk):=N5.out.cell 0
              have n1 : w5.cell? ⟨N,1,none⟩ = some (.slice an tk.length cn):=N5.out.cell 1
              have fn0:=N5.out.free 0
              have fn1:=N5.out.free 1
              have hx5 : wr.heap.size + 1 < w5.heap.size:=lt_of_block X5.out
              have hn5 : N < w5.heap.size:=lt_of_block N5.out
              have hp5 : w.heap.size + 1 + 1 < w5.heap.size:=lt_of_block R5.out
              cases b5 with
              | false =>
                have HVQ : Hid (V = (now,ts,false)):=HVQ0.out rfl
                have TX : Turn (· = wr.heap.size + 1) w5 ((w5.setCell ⟨wr.heap.size + 1,0,none⟩ (.int .i64 n5)).setCell ⟨wr.heap.size + 1,1,none⟩ (.slice a5 t5.length c5)):=((Turn.refl (· = wr.heap.size + 1) w5).setCell (Or.inl rfl) 0 _).setCell (Or.inl rfl) 1 _
                have CQ:=hid (TX.blk C5.out (show ¬ w.heap.size = wr.heap.size + 1 by omega))
                have SQ:=hid (TX.blk S5.out (show ¬ w.heap.size + 1 = wr.heap.size + 1 by omega))
                have RQ:=hid (TX.blk R5.out (show ¬ w.heap.size + 1 + 1 = wr.heap.size + 1 by omega))
                have BQ : Hid (Below w.heap.size w ((w5.setCell ⟨wr.heap.size + 1,0,none⟩ (.int .i64 n5)).setCell ⟨wr.heap.size + 1,1,none⟩ (.slice a5 t5.length c5))):=B5.out.trans (TX.below (by omega) fun i hi e=>by omega)
                have p0 : w5.cell? ⟨w.heap.size,0,none⟩ = some (.int .i64 c.w):=C5.out.cell 0
                have p1 : w5.cell? ⟨w.heap.size,1,none⟩ = some (.int .i64 c.tl):=C5.out.cell 1
                have p2 : w5.cell? ⟨w.heap.size,2,none⟩ = some (.int .i64 c.ml):=C5.out.cell 2
                have p3 : w5.cell? ⟨w.heap.size,3,none⟩ = some (.int .i64 c.sh):=C5.out.cell 3
                have p4 : w5.cell? ⟨w.heap.size,4,none⟩ = some (.int .i64 c.ha):=C5.out.cell 4
                have p5 : w5.cell? ⟨w.heap.size,5,none⟩ = some (.int .i64 c.sg):=C5.out.cell 5
                have s0 : w5.cell? ⟨w.heap.size + 1,0,none⟩ = some (.int .i64 now):=S5.out.cell 0
                have s1 : w5.cell? ⟨w.heap.size + 1,1,none⟩ = some (.slice a ts.length cap):=S5.out.cell 1
                clear TX
                go_wp2_with fail
                clear p0 p1 p2 p3 p4 p5 s0 s1 x0 x1 fx0 fx1 n0 n1 fn0 fn1 C5 S5 R5 N5 X5 B5 O5
                generalize ((w5.setCell ⟨wr.heap.size + 1,0,none⟩ (.int .i64 n5)).setCell ⟨wr.heap.size + 1,1,none⟩ (.slice a5 t5.length c5)) = wq at *
                refine (HSM.out _ BQ.out).mono ?_
                rintro e w9 ⟨a9,c9,rfl,ho9,hb9⟩
                have O9:=hid ho9
                have hwq : w.heap.size + 1 + 1 < wq.heap.size:=lt_of_block RQ.out
                have R9:=hid (RQ.out.later hb9)
                have B9:=hid (bto BQ.out hb9)
                clear ho9 hb9 CQ SQ
                have y0 : w9.cell? ⟨w.heap.size + 1 + 1,0,none⟩ = some (.int .i64 0):=R9.out.cell 0
                have y1 : w9.cell? ⟨w.heap.size + 1 + 1,1,none⟩ = some (.slice none 0 0):=R9.out.cell 1
                have f0:=R9.out.free 0
                have f1:=R9.out.free 1
                have hwl : w.heap.size + 1 + 1 < w9.heap.size:=lt_of_block R9.out
                go_wp2
                have HTE : Turn (· = w.heap.size + 1 + 1) w9 ((w9.setCell ⟨w.heap.size + 1 + 1,0,none⟩ (.int .i64 now)).setCell ⟨w.heap.size + 1 + 1,1,none⟩ (.slice a9 ts.length c9)):=((Turn.refl (· = w.heap.size + 1 + 1) w9).setCell (Or.inl rfl) 0 _).setCell (Or.inl rfl) 1 _
                have HZ : Blk ((w9.setCell ⟨w.heap.size + 1 + 1,0,none⟩ (.int .i64 now)).setCell ⟨w.heap.size + 1 + 1,1,none⟩ (.slice a9 ts.length c9)) (w.heap.size + 1 + 1) #[.int .i64 now,.slice a9 ts.length c9] 32:=box_two R9.out
                have z0 : ((w9.setCell ⟨w.heap.size + 1 + 1,0,none⟩ (.int .i64 now)).setCell ⟨w.heap.size + 1 + 1,1,none⟩ (.slice a9 ts.length c9)).cell? ⟨w.heap.size + 1 + 1,0,none⟩ = some (.int .i64 now):=HZ.cell 0
                have z1 : ((w9.setCell ⟨w.heap.size + 1 + 1,0,none⟩ (.int .i64 now)).setCell ⟨w.heap.size + 1 + 1,1,none⟩ (.slice a9 ts.length c9)).cell? ⟨w.heap.size + 1 + 1,1,none⟩ = some (.slice a9 ts.length c9):=HZ.cell 1
                refine bodyPost_ret (v:=.tuple #[.agg #[.int .i64 now,.slice a9 ts.length c9],.bool false]) (by simp [results,Tryz.results6,go_sem,z0,z1]) rfl ?_
                rw [HVQ.out]
                have ho : TensOwn ((w9.setCell ⟨w.heap.size + 1 + 1,0,none⟩ (.int .i64 now)).setCell ⟨w.heap.size + 1 + 1,1,none⟩ (.slice a9 ts.length c9)) w.heap.size a9 ts:=(TensOwn.turned O9.out HTE (fun g h1 h2 e=>by omega)).mono (by omega)
                have hbe : Below w.heap.size w ((w9.setCell ⟨w.heap.size + 1 + 1,0,none⟩ (.int .i64 now)).setCell ⟨w.heap.size + 1 + 1,1,none⟩ (.slice a9 ts.length c9)):=((Turn.of (S:=fun i=>w.heap.size ≤ i) B9.out).trans' (HTE.mono fun i _ e=>by omega)).below (Nat.le_refl _) fun i hi h=>by omega
                first
                  | exact ⟨a9,⟨c9,rfl⟩,ho,hbe⟩
                  | exact ⟨a9,c9,rfl,ho,hbe⟩
              | true =>
                have HOK:=hid (HOK0.out rfl)
                have HRN:=hid (HRN0.out rfl)
                have TX : Turn (· = wr.heap.size + 1) w5 ((w5.setCell ⟨wr.heap.size + 1,0,none⟩ (.int .i64 n5)).setCell ⟨wr.heap.size + 1,1,none⟩ (.slice a5 t5.length c5)):=((Turn.refl (· = wr.heap.size + 1) w5).setCell (Or.inl rfl) 0 _).setCell (Or.inl rfl) 1 _
                have TE : Turn (fun g=>g = wr.heap.size + 1 ∨ g = N) w5 ((((w5.setCell ⟨wr.heap.size + 1,0,none⟩ (.int .i64 n5)).setCell ⟨wr.heap.size + 1,1,none⟩ (.slice a5 t5.length c5)).setCell ⟨N,0,none⟩ (.int .i64 n5)).setCell ⟨N,1,none⟩ (.slice a5 t5.length c5)):=((((Turn.refl (fun g=>g = wr.heap.size + 1 ∨ g = N) w5).setCell (Or.inl (Or.inl rfl)) 0 _).setCell (Or.inl (Or.inl rfl)) 1 _).setCell (Or.inl (Or.inr rfl)) 0 _).setCell (Or.inl (Or.inr rfl)) 1 _
                have C6:=hid (TE.blk C5.out (show ¬ (w.heap.size = wr.heap.size + 1 ∨ w.heap.size = N) by omega))
                have S6:=hid (TE.blk S5.out (show ¬ (w.heap.size + 1 = wr.heap.size + 1 ∨ w.heap.size + 1 = N) by omega))
                have R6:=hid (TE.blk R5.out (show ¬ (w.heap.size + 1 + 1 = wr.heap.size + 1 ∨ w.heap.size + 1 + 1 = N) by omega))
                have N6 : Hid (Blk ((((w5.setCell ⟨wr.heap.size + 1,0,none⟩ (.int .i64 n5)).setCell ⟨wr.heap.size + 1,1,none⟩ (.slice a5 t5.length c5)).setCell ⟨N,0,none⟩ (.int .i64 n5)).setCell ⟨N,1,none⟩ (.slice a5 t5.length c5)) N #[.int .i64 n5,.slice a5 t5.length c5] 32):=box_two (TX.blk N5.out (show ¬ N = wr.heap.size + 1 by omega))
                have B6 : Hid (Below w.heap.size w ((((w5.setCell ⟨wr.heap.size + 1,0,none⟩ (.int .i64 n5)).setCell ⟨wr.heap.size + 1,1,none⟩ (.slice a5 t5.length c5)).setCell ⟨N,0,none⟩ (.int .i64 n5)).setCell ⟨N,1,none⟩ (.slice a5 t5.length c5))):=B5.out.trans (TE.below (by omega) fun i hi e=>by omega)
                have O6 : Hid (TensOwn ((((w5.setCell ⟨wr.heap.size + 1,0,none⟩ (.int .i64 n5)).setCell ⟨wr.heap.size + 1,1,none⟩ (.slice a5 t5.length c5)).setCell ⟨N,0,none⟩ (.int .i64 n5)).setCell ⟨N,1,none⟩ (.slice a5 t5.length c5)) (w.heap.size + 1 + 1 + 1) a5 t5):=hid ((TensOwn.turned O5.out TE (fun g h1 h2 e=>by omega)).mono (by omega))
                clear TX TE
                go_wp2
                exact ⟨⟨k + 1,n5,t5,a5,c5,by omega,by go_num,C6.out,S6.out,R6.out,N6.out,O6.out,B6.out,HOK.out,HBN.out,HRN.out⟩,by simp [intOf]; omega⟩
            · by_cases k3 : rs[k].kind = 3
              · have hSV : SV = (nk,(setL tk rs[k].tenant rs[k].text rs[k].num).1,(setL tk rs[k].tenant rs[k].text rs[k].num).2):=by rw [HSV.out,if_neg k1,if_neg k2,if_pos k3]
                subst hSV
                clear HSV HAD HTK
                generalize setL tk rs[k].tenant rs[k].text rs[k].num = R at *
                obtain ⟨t5,b5⟩:=R
                go_wp2_with fail
                refine (HSE.out _ hal).mono ?_
                rintro e w5 ⟨a5,c5,rfl,ho5,hb5⟩
                have O5:=hid ho5
                have C5:=hid (CX.out.later hb5)
                have S5:=hid (SX.out.later hb5)
                have R5:=hid (RX.out.later hb5)
                have N5:=hid (NX.out.later hb5)
                have X5 : Hid (Blk w5 (wr.heap.size + 1) #[.int .i64 0,.slice none 0 0] 32):=hid (XB.out.later hb5)
                have B5:=hid (bto BXW.out hb5)
                have hs5:=hb5.size
                clear ho5 hb5 q0 q1 q2 q3 n0 n1 p0 p1 p2 p3 p4 p5
                have x0 : w5.cell? ⟨wr.heap.size + 1,0,none⟩ = some (.int .i64 0):=X5.out.cell 0
                have x1 : w5.cell? ⟨wr.heap.size + 1,1,none⟩ = some (.slice none 0 0):=X5.out.cell 1
                have fx0:=X5.out.free 0
                have fx1:=X5.out.free 1
                have n0 : w5.cell? ⟨N,0,none⟩ = some (.int .i64 nk):=N5.out.cell 0
                have n1 : w5.cell? ⟨N,1,none⟩ = some (.slice an tk.length cn):=N5.out.cell 1
                have fn0:=N5.out.free 0
                have fn1:=N5.out.free 1
                have hx5 : wr.heap.size + 1 < w5.heap.size:=lt_of_block X5.out
                have hn5 : N < w5.heap.size:=lt_of_block N5.out
                have hp5 : w.heap.size + 1 + 1 < w5.heap.size:=lt_of_block R5.out
                cases b5 with
                | false =>
                  have HVQ : Hid (V = (now,ts,false)):=HVQ0.out rfl
                  have TX : Turn (· = wr.heap.size + 1) w5 ((w5.setCell ⟨wr.heap.size + 1,0,none⟩ (.int .i64 nk)).setCell ⟨wr.heap.size + 1,1,none⟩ (.slice a5 t5.length c5)):=((Turn.refl (· = wr.heap.size + 1) w5).setCell (Or.inl rfl) 0 _).setCell (Or.inl rfl) 1 _
                  have CQ:=hid (TX.blk C5.out (show ¬ w.heap.size = wr.heap.size + 1 by omega))
                  have SQ:=hid (TX.blk S5.out (show ¬ w.heap.size + 1 = wr.heap.size + 1 by omega))
                  have RQ:=hid (TX.blk R5.out (show ¬ w.heap.size + 1 + 1 = wr.heap.size + 1 by omega))
                  have BQ : Hid (Below w.heap.size w ((w5.setCell ⟨wr.heap.size + 1,0,none⟩ (.int .i64 nk)).setCell ⟨wr.heap.size + 1,1,none⟩ (.slice a5 t5.length c5))):=B5.out.trans (TX.below (by omega) fun i hi e=>by omega)
                  have p0 : w5.cell? ⟨w.heap.size,0,none⟩ = some (.int .i64 c.w):=C5.out.cell 0
                  have p1 : w5.cell? ⟨w.heap.size,1,none⟩ = some (.int .i64 c.tl):=C5.out.cell 1
                  have p2 : w5.cell? ⟨w.heap.size,2,none⟩ = some (.int .i64 c.ml):=C5.out.cell 2
                  have p3 : w5.cell? ⟨w.heap.size,3,none⟩ = some (.int .i64 c.sh):=C5.out.cell 3
                  have p4 : w5.cell? ⟨w.heap.size,4,none⟩ = some (.int .i64 c.ha):=C5.out.cell 4
                  have p5 : w5.cell? ⟨w.heap.size,5,none⟩ = some (.int .i64 c.sg):=C5.out.cell 5
                  have s0 : w5.cell? ⟨w.heap.size + 1,0,none⟩ = some (.int .i64 now):=S5.out.cell 0
                  have s1 : w5.cell? ⟨w.heap.size + 1,1,none⟩ = some (.slice a ts.length cap):=S5.out.cell 1
                  clear TX
                  go_wp2_with fail
                  clear p0 p1 p2 p3 p4 p5 s0 s1 x0 x1 fx0 fx1 n0 n1 fn0 fn1 C5 S5 R5 N5 X5 B5 O5
                  generalize ((w5.setCell ⟨wr.heap.size + 1,0,none⟩ (.int .i64 nk)).setCell ⟨wr.heap.size + 1,1,none⟩ (.slice a5 t5.length c5)) = wq at *
                  refine (HSM.out _ BQ.out).mono ?_
                  rintro e w9 ⟨a9,c9,rfl,ho9,hb9⟩
                  have O9:=hid ho9
                  have hwq : w.heap.size + 1 + 1 < wq.heap.size:=lt_of_block RQ.out
                  have R9:=hid (RQ.out.later hb9)
                  have B9:=hid (bto BQ.out hb9)
                  clear ho9 hb9 CQ SQ
                  have y0 : w9.cell? ⟨w.heap.size + 1 + 1,0,none⟩ = some (.int .i64 0):=R9.out.cell 0
                  have y1 : w9.cell? ⟨w.heap.size + 1 + 1,1,none⟩ = some (.slice none 0 0):=R9.out.cell 1
                  have f0:=R9.out.free 0
                  have f1:=R9.out.free 1
                  have hwl : w.heap.size + 1 + 1 < w9.heap.size:=lt_of_block R9.out
                  go_wp2
                  have HTE : Turn (· = w.heap.size + 1 + 1) w9 ((w9.setCell ⟨w.heap.size + 1 + 1,0,none⟩ (.int .i64 now)).setCell ⟨w.heap.size + 1 + 1,1,none⟩ (.slice a9 ts.length c9)):=((Turn.refl (· = w.heap.size + 1 + 1) w9).setCell (Or.inl rfl) 0 _).setCell (Or.inl rfl) 1 _
                  have HZ : Blk ((w9.setCell ⟨w.heap.size + 1 + 1,0,none⟩ (.int .i64 now)).setCell ⟨w.heap.size + 1 + 1,1,none⟩ (.slice a9 ts.length c9)) (w.heap.size + 1 + 1) #[.int .i64 now,.slice a9 ts.length c9] 32:=box_two R9.out
                  have z0 : ((w9.setCell ⟨w.heap.size + 1 + 1,0,none⟩ (.int .i64 now)).setCell ⟨w.heap.size + 1 + 1,1,none⟩ (.slice a9 ts.length c9)).cell? ⟨w.heap.size + 1 + 1,0,none⟩ = some (.int .i64 now):=HZ.cell 0
                  have z1 : ((w9.setCell ⟨w.heap.size + 1 + 1,0,none⟩ (.int .i64 now)).setCell ⟨w.heap.size + 1 + 1,1,none⟩ (.slice a9 ts.length c9)).cell? ⟨w.heap.size + 1 + 1,1,none⟩ = some (.slice a9 ts.length c9):=HZ.cell 1
                  refine bodyPost_ret (v:=.tuple #[.agg #[.int .i64 now,.slice a9 ts.length c9],.bool false]) (by simp [results,Tryz.results6,go_sem,z0,z1]) rfl ?_
                  rw [HVQ.out]
                  have ho : TensOwn ((w9.setCell ⟨w.heap.size + 1 + 1,0,none⟩ (.int .i64 now)).setCell ⟨w.heap.size + 1 + 1,1,none⟩ (.slice a9 ts.length c9)) w.heap.size a9 ts:=(TensOwn.turned O9.out HTE (fun g h1 h2 e=>by omega)).mono (by omega)
                  have hbe : Below w.heap.size w ((w9.setCell ⟨w.heap.size + 1 + 1,0,none⟩ (.int .i64 now)).setCell ⟨w.heap.size + 1 + 1,1,none⟩ (.slice a9 ts.length c9)):=((Turn.of (S:=fun i=>w.heap.size ≤ i) B9.out).trans' (HTE.mono fun i _ e=>by omega)).below (Nat.le_refl _) fun i hi h=>by omega
                  first
                    | exact ⟨a9,⟨c9,rfl⟩,ho,hbe⟩
                    | exact ⟨a9,c9,rfl,ho,hbe⟩
                | true =>
                  have HOK:=hid (HOK0.out rfl)
                  have HRN:=hid (HRN0.out rfl)
                  have TX : Turn (· = wr.heap.size + 1) w5 ((w5.setCell ⟨wr.heap.size + 1,0,none⟩ (.int .i64 nk)).setCell ⟨wr.heap.size + 1,1,none⟩ (.slice a5 t5.length c5)):=((Turn.refl (· = wr.heap.size + 1) w5).setCell (Or.inl rfl) 0 _).setCell (Or.inl rfl) 1 _
                  have TE : Turn (fun g=>g = wr.heap.size + 1 ∨ g = N) w5 ((((w5.setCell ⟨wr.heap.size + 1,0,none⟩ (.int .i64 nk)).setCell ⟨wr.heap.size + 1,1,none⟩ (.slice a5 t5.length c5)).setCell ⟨N,0,none⟩ (.int .i64 nk)).setCell ⟨N,1,none⟩ (.slice a5 t5.length c5)):=((((Turn.refl (fun g=>g = wr.heap.size + 1 ∨ g = N) w5).setCell (Or.inl (Or.inl rfl)) 0 _).setCell (Or.inl (Or.inl rfl)) 1 _).setCell (Or.inl (Or.inr rfl)) 0 _).setCell (Or.inl (Or.inr rfl)) 1 _
                  have C6:=hid (TE.blk C5.out (show ¬ (w.heap.size = wr.heap.size + 1 ∨ w.heap.size = N) by omega))
                  have S6:=hid (TE.blk S5.out (show ¬ (w.heap.size + 1 = wr.heap.size + 1 ∨ w.heap.size + 1 = N) by omega))
                  have R6:=hid (TE.blk R5.out (show ¬ (w.heap.size + 1 + 1 = wr.heap.size + 1 ∨ w.heap.size + 1 + 1 = N) by omega))
                  have N6 : Hid (Blk ((((w5.setCell ⟨wr.heap.size + 1,0,none⟩ (.int .i64 nk)).setCell ⟨wr.heap.size + 1,1,none⟩ (.slice a5 t5.length c5)).setCell ⟨N,0,none⟩ (.int .i64 nk)).setCell ⟨N,1,none⟩ (.slice a5 t5.length c5)) N #[.int .i64 nk,.slice a5 t5.length c5] 32):=box_two (TX.blk N5.out (show ¬ N = wr.heap.size + 1 by omega))
                  have B6 : Hid (Below w.heap.size w ((((w5.setCell ⟨wr.heap.size + 1,0,none⟩ (.int .i64 nk)).setCell ⟨wr.heap.size + 1,1,none⟩ (.slice a5 t5.length c5)).setCell ⟨N,0,none⟩ (.int .i64 nk)).setCell ⟨N,1,none⟩ (.slice a5 t5.length c5))):=B5.out.trans (TE.below (by omega) fun i hi e=>by omega)
                  have O6 : Hid (TensOwn ((((w5.setCell ⟨wr.heap.size + 1,0,none⟩ (.int .i64 nk)).setCell ⟨wr.heap.size + 1,1,none⟩ (.slice a5 t5.length c5)).setCell ⟨N,0,none⟩ (.int .i64 nk)).setCell ⟨N,1,none⟩ (.slice a5 t5.length c5)) (w.heap.size + 1 + 1 + 1) a5 t5):=hid ((TensOwn.turned O5.out TE (fun g h1 h2 e=>by omega)).mono (by omega))
                  clear TX TE
                  go_wp2
                  exact ⟨⟨k + 1,nk,t5,a5,c5,by omega,by go_num,C6.out,S6.out,R6.out,N6.out,O6.out,B6.out,HOK.out,HBN.out,HRN.out⟩,by simp [intOf]; omega⟩
              · have hSV : SV = (nk,tk,false):=by rw [HSV.out,if_neg k1,if_neg k2,if_neg k3]
                subst hSV
                clear HSV HAD HTK HSE
                have HVQ : Hid (V = (now,ts,false)):=HVQ0.out rfl
                have CQ:=CX
                have SQ:=SX
                have RQ:=RX
                have BQ:=BXW
                have s0 : wb.cell? ⟨w.heap.size + 1,0,none⟩ = some (.int .i64 now):=SX.out.cell 0
                have s1 : wb.cell? ⟨w.heap.size + 1,1,none⟩ = some (.slice a ts.length cap):=SX.out.cell 1
                go_wp2_with fail
                clear p0 p1 p2 p3 p4 p5 s0 s1 n0 n1 q0 q1 q2 q3 CX SX RX NX BXW UB XB
                generalize wb = wq at *
                refine (HSM.out _ BQ.out).mono ?_
                rintro e w9 ⟨a9,c9,rfl,ho9,hb9⟩
                have O9:=hid ho9
                have hwq : w.heap.size + 1 + 1 < wq.heap.size:=lt_of_block RQ.out
                have R9:=hid (RQ.out.later hb9)
                have B9:=hid (bto BQ.out hb9)
                clear ho9 hb9 CQ SQ
                have y0 : w9.cell? ⟨w.heap.size + 1 + 1,0,none⟩ = some (.int .i64 0):=R9.out.cell 0
                have y1 : w9.cell? ⟨w.heap.size + 1 + 1,1,none⟩ = some (.slice none 0 0):=R9.out.cell 1
                have f0:=R9.out.free 0
                have f1:=R9.out.free 1
                have hwl : w.heap.size + 1 + 1 < w9.heap.size:=lt_of_block R9.out
                go_wp2
                have HTE : Turn (· = w.heap.size + 1 + 1) w9 ((w9.setCell ⟨w.heap.size + 1 + 1,0,none⟩ (.int .i64 now)).setCell ⟨w.heap.size + 1 + 1,1,none⟩ (.slice a9 ts.length c9)):=((Turn.refl (· = w.heap.size + 1 + 1) w9).setCell (Or.inl rfl) 0 _).setCell (Or.inl rfl) 1 _
                have HZ : Blk ((w9.setCell ⟨w.heap.size + 1 + 1,0,none⟩ (.int .i64 now)).setCell ⟨w.heap.size + 1 + 1,1,none⟩ (.slice a9 ts.length c9)) (w.heap.size + 1 + 1) #[.int .i64 now,.slice a9 ts.length c9] 32:=box_two R9.out
                have z0 : ((w9.setCell ⟨w.heap.size + 1 + 1,0,none⟩ (.int .i64 now)).setCell ⟨w.heap.size + 1 + 1,1,none⟩ (.slice a9 ts.length c9)).cell? ⟨w.heap.size + 1 + 1,0,none⟩ = some (.int .i64 now):=HZ.cell 0
                have z1 : ((w9.setCell ⟨w.heap.size + 1 + 1,0,none⟩ (.int .i64 now)).setCell ⟨w.heap.size + 1 + 1,1,none⟩ (.slice a9 ts.length c9)).cell? ⟨w.heap.size + 1 + 1,1,none⟩ = some (.slice a9 ts.length c9):=HZ.cell 1
                refine bodyPost_ret (v:=.tuple #[.agg #[.int .i64 now,.slice a9 ts.length c9],.bool false]) (by simp [results,Tryz.results6,go_sem,z0,z1]) rfl ?_
                rw [HVQ.out]
                have ho : TensOwn ((w9.setCell ⟨w.heap.size + 1 + 1,0,none⟩ (.int .i64 now)).setCell ⟨w.heap.size + 1 + 1,1,none⟩ (.slice a9 ts.length c9)) w.heap.size a9 ts:=(TensOwn.turned O9.out HTE (fun g h1 h2 e=>by omega)).mono (by omega)
                have hbe : Below w.heap.size w ((w9.setCell ⟨w.heap.size + 1 + 1,0,none⟩ (.int .i64 now)).setCell ⟨w.heap.size + 1 + 1,1,none⟩ (.slice a9 ts.length c9)):=((Turn.of (S:=fun i=>w.heap.size ≤ i) B9.out).trans' (HTE.mono fun i _ e=>by omega)).below (Nat.le_refl _) fun i hi h=>by omega
                first
                  | exact ⟨a9,⟨c9,rfl⟩,ho,hbe⟩
                  | exact ⟨a9,c9,rfl,ho,hbe⟩
        · obtain rfl : k = rs.length:=by omega
          have HR2 : Hid (runV c now ts rs = (nk,tk,true)):=by show _ = _; rw [← HR.out,List.drop_length]; rfl
          have HV : Hid (V = (nk,tk,true)):=hid ((HVT.out h5' (by rw [HR2.out])).trans HR2.out)
          have n0 : wr.cell? ⟨N,0,none⟩ = some (.int .i64 nk):=NB.out.cell 0
          have n1 : wr.cell? ⟨N,1,none⟩ = some (.slice an tk.length cn):=NB.out.cell 1
          have hNr : N < wr.heap.size:=lt_of_block NB.out
          have y0 : wr.cell? ⟨w.heap.size + 1 + 1,0,none⟩ = some (.int .i64 0):=RB.out.cell 0
          have y1 : wr.cell? ⟨w.heap.size + 1 + 1,1,none⟩ = some (.slice none 0 0):=RB.out.cell 1
          have f0:=RB.out.free 0
          have f1:=RB.out.free 1
          have hwl : w.heap.size + 1 + 1 < wr.heap.size:=lt_of_block RB.out
          clear HR
          go_wp2
          have HTE : Turn (· = w.heap.size + 1 + 1) wr ((wr.setCell ⟨w.heap.size + 1 + 1,0,none⟩ (.int .i64 nk)).setCell ⟨w.heap.size + 1 + 1,1,none⟩ (.slice an tk.length cn)):=((Turn.refl (· = w.heap.size + 1 + 1) wr).setCell (Or.inl rfl) 0 _).setCell (Or.inl rfl) 1 _
          have HZ : Blk ((wr.setCell ⟨w.heap.size + 1 + 1,0,none⟩ (.int .i64 nk)).setCell ⟨w.heap.size + 1 + 1,1,none⟩ (.slice an tk.length cn)) (w.heap.size + 1 + 1) #[.int .i64 nk,.slice an tk.length cn] 32:=box_two RB.out
          have z0 : ((wr.setCell ⟨w.heap.size + 1 + 1,0,none⟩ (.int .i64 nk)).setCell ⟨w.heap.size + 1 + 1,1,none⟩ (.slice an tk.length cn)).cell? ⟨w.heap.size + 1 + 1,0,none⟩ = some (.int .i64 nk):=HZ.cell 0
          have z1 : ((wr.setCell ⟨w.heap.size + 1 + 1,0,none⟩ (.int .i64 nk)).setCell ⟨w.heap.size + 1 + 1,1,none⟩ (.slice an tk.length cn)).cell? ⟨w.heap.size + 1 + 1,1,none⟩ = some (.slice an tk.length cn):=HZ.cell 1
          refine bodyPost_ret (v:=.tuple #[.agg #[.int .i64 nk,.slice an tk.length cn],.bool true]) (by simp [results,Tryz.results6,go_sem,z0,z1]) rfl ?_
          rw [HV.out]
          have ho : TensOwn ((wr.setCell ⟨w.heap.size + 1 + 1,0,none⟩ (.int .i64 nk)).setCell ⟨w.heap.size + 1 + 1,1,none⟩ (.slice an tk.length cn)) w.heap.size an tk:=(TensOwn.turned OB.out HTE (fun g h1 h2 e=>by omega)).mono (by omega)
          have hbe : Below w.heap.size w ((wr.setCell ⟨w.heap.size + 1 + 1,0,none⟩ (.int .i64 nk)).setCell ⟨w.heap.size + 1 + 1,1,none⟩ (.slice an tk.length cn)):=((Turn.of (S:=fun i=>w.heap.size ≤ i) BW.out).trans' (HTE.mono fun i _ e=>by omega)).below (Nat.le_refl _) fun i hi h=>by omega
          first
            | exact ⟨an,⟨cn,rfl⟩,ho,hbe⟩
            | exact ⟨an,cn,rfl,ho,hbe⟩
end Go.Proofs.YtkmdbpaeeagccaaGreatDoor
