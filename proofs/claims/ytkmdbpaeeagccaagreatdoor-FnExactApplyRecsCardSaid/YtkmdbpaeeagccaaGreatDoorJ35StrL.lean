import Derived.Test.YtkmdbpaeeagccaaGreatDoorProg
import Derived.Test.YtkmdbpaeeagccaaGreatDoorJ05HpP
import Derived.Test.YtkmdbpaeeagccaaGreatDoorJ29SSta
import Derived.Test.YtkmdbpaeeagccaaGreatDoorJ27SWth
import Derived.Test.YtkmdbpaeeagccaaGreatDoorJ33SlmV
import Derived.Test.YtkmdbpaeeagccaaGreatDoorJ25SKept
import Derived.Test.YtkmdbpaeeagccaaGreatDoorJ18ISlm
import Derived.Test.YtkmdbpaeeagccaaGreatDoorJ01Own
namespace Go.Proofs.YtkmdbpaeeagccaaGreatDoor
open Go.RowKit
def TenV (w : World) (e : Ending) (t : TenD) : Prop:=∃ a1 c1 a2 c2,e = .returned (.agg #[.string t.name,.int .i64 t.limit,.slice a1 t.mets.length c1,.slice a2 t.sers.length c2]) ∧ PairsIn w a1 t.mets ∧ PairsIn w a2 t.sers
set_option maxRecDepth 100000 in
set_option maxHeartbeats 2000000 in
theorem l4Tenant_any (now : Int) (a : Option Addr) (cap : Nat) (ts : List TenD) (name : ByteArray) (w : World) (hf : TensIn w a ts) (hlen : ts.length ≤ 1000000000) :
    Calls Tryz.prog 43 #[.agg #[.int .i64 now,.slice a ts.length cap],.string name] w fun e w'=>TenV w' e (tenOf ts name) ∧ Below w.heap.size w w':=by
  have HF : Hid (TensIn w a ts):=hf
  have HTO : Hid (tenOf ts name = (getBy (·.name) name ts).getD ⟨name,-1,[],[]⟩):=rfl
  clear hf
  go_enter Tryz.func43,Tryz.ntmps43
  go_wp2
  have R1 : Hid (Blk ((w.alloc (.cells #[.int .i64 now,.slice a ts.length cap] 32)).alloc (.cells #[.string ⟨#[]⟩,.int .i64 0,.slice none 0 0,.slice none 0 0] 78)) (w.heap.size + 1) #[.string ⟨#[]⟩,.int .i64 0,.slice none 0 0,.slice none 0 0] 78):=hid (by have:=Blk.new (w.alloc (.cells #[.int .i64 now,.slice a ts.length cap] 32)) #[.string ⟨#[]⟩,.int .i64 0,.slice none 0 0,.slice none 0 0] 78; simpa using this)
  have B1 : Hid (Below w.heap.size w ((w.alloc (.cells #[.int .i64 now,.slice a ts.length cap] 32)).alloc (.cells #[.string ⟨#[]⟩,.int .i64 0,.slice none 0 0,.slice none 0 0] 78))):=bto (bnew _ _) (bnew _ _)
  generalize hW : (w.alloc (.cells #[.int .i64 now,.slice a ts.length cap] 32)).alloc (.cells #[.string ⟨#[]⟩,.int .i64 0,.slice none 0 0,.slice none 0 0] 78) = W at *
  clear hW
  go_loopw [6,10] (fun _ i wr=>∃ k : Nat,k ≤ ts.length ∧ i = .int .i64 k ∧ Hid (∀ j (h : j < k) (h' : j < ts.length),ts[j].name ≠ name) ∧ Below W.heap.size W wr) (fun _ i _=>ts.length - (intOf i).toNat)
  case atStart=>exact ⟨0,Nat.zero_le _,rfl,(fun j h=>absurd h (by omega)),Below.refl _ _⟩
  case round =>
    obtain ⟨k,hk,rfl,HN,hbel⟩:=hrel
    have HB : Hid (Below W.heap.size W wr):=hbel
    have R2 : Hid (Blk wr (w.heap.size + 1) #[.string ⟨#[]⟩,.int .i64 0,.slice none 0 0,.slice none 0 0] 78):=R1.out.later hbel
    have hrl:=lt_of_block R2.out
    have s0 : wr.cell? ⟨w.heap.size + 1,0,none⟩ = some (.string ⟨#[]⟩):=R2.out.cell 0
    have s1 : wr.cell? ⟨w.heap.size + 1,1,none⟩ = some (.int .i64 0):=R2.out.cell 1
    have s2 : wr.cell? ⟨w.heap.size + 1,2,none⟩ = some (.slice none 0 0):=R2.out.cell 2
    have s3 : wr.cell? ⟨w.heap.size + 1,3,none⟩ = some (.slice none 0 0):=R2.out.cell 3
    have u0:=R2.out.free 0
    have u1:=R2.out.free 1
    have u2:=R2.out.free 2
    have u3:=R2.out.free 3
    clear hbel R1
    by_cases hlt : k < ts.length
    · obtain ⟨b,o,a1,q1,a2,q2,rfl,hb,z0,z1,z2,z3,p1,p2⟩:=HF.out.at hlt
      have Bw : Hid (Below w.heap.size w wr):=bto B1.out HB.out
      have t0:=(Bw.out.cell hb).trans z0
      have t1:=(Bw.out.cell hb).trans z1
      have t2:=(Bw.out.cell hb).trans z2
      have t3:=(Bw.out.cell hb).trans z3
      clear z0 z1 z2 z3
      have HG : Hid (getBy (·.name) name ts = if ts[k].name = name then some ts[k] else getBy (·.name) name (ts.drop (k + 1))):=by
        show _ = _
        rw [getBy_drop k HN.out,List.drop_eq_getElem_cons hlt,getBy_cons]
      have HSUC : Hid (ts[k].name ≠ name → ∀ j (h : j < k + 1) (h' : j < ts.length),ts[j].name ≠ name):=fun hne j hj hj'=>by
        by_cases e : j = k
        · subst e; exact hne
        · exact HN.out j (by omega) hj'
      have P1 : Hid (PairsIn w a1 ts[k].mets):=p1
      have P2 : Hid (PairsIn w a2 ts[k].sers):=p2
      clear p1 p2
      generalize ts[k] = T at *
      by_cases he : T.name = name
      · have hb1 : (T.name.toList == name.toList) = true:=(same_iff _ _).2 he
        have HT : Hid (tenOf ts name = T):=by show _ = _; rw [HTO.out,HG.out,if_pos he]; rfl
        clear he
        go_wp2
        have HFB : Below w.heap.size w (((((wr.setCell ⟨w.heap.size + 1,0,none⟩ (.string T.name)).setCell ⟨w.heap.size + 1,1,none⟩ (.int .i64 T.limit)).setCell ⟨w.heap.size + 1,2,none⟩ (.slice a1 T.mets.length q1)).setCell ⟨w.heap.size + 1,3,none⟩ (.slice a2 T.sers.length q2)).alloc (.cells #[.string T.name,.int .i64 T.limit,.slice a1 T.mets.length q1,.slice a2 T.sers.length q2] 78)):=bto (((((Bw.out.setCell (by simp) _).setCell (by simp) _).setCell (by simp) _).setCell (by simp) _)) (bnew _ _)
        refine bodyPost_ret (v:=.agg #[.string T.name,.int .i64 T.limit,.slice a1 T.mets.length q1,.slice a2 T.sers.length q2]) (by simp [results,Tryz.results43,go_sem,s0,s1,s2,s3,hrl]) rfl ⟨?_,HFB⟩
        rw [HT.out]
        exact ⟨a1,q1,a2,q2,rfl,P1.out.later HFB,P2.out.later HFB⟩
      · have hb1 : (T.name.toList == name.toList) = false:=same_not he
        have HN2 : Hid (∀ j (h : j < k + 1) (h' : j < ts.length),ts[j].name ≠ name):=HSUC.out he
        clear he
        go_wp2
        exact ⟨⟨k + 1,by omega,by go_num,HN2,bto HB.out (bnew _ _)⟩,by simp [intOf]; omega⟩
    · have HT : Hid (tenOf ts name = ⟨name,-1,[],[]⟩):=by
        show _ = _
        rw [HTO.out,getBy_drop k HN.out,List.drop_of_length_le (by omega)]
        rfl
      have Bw : Hid (Below w.heap.size w wr):=bto B1.out HB.out
      go_wp2
      refine bodyPost_ret (v:=.agg #[.string name,.int .i64 (-1),.slice none 0 0,.slice none 0 0]) (by simp [results,Tryz.results43,go_sem,s0,s1,s2,s3]) rfl ⟨?_,(((((Bw.out.setCell (by simp) _).setCell (by simp) _).setCell (by simp) _).setCell (by simp) _))⟩
      rw [HT.out]
      exact ⟨none,0,none,0,rfl,Or.inl rfl,Or.inl rfl⟩
set_option maxRecDepth 100000 in
set_option maxHeartbeats 4000000 in
theorem l4Count_any (c : CfgD) (t : TenD) (a1 a2 : Option Addr) (c1 c2 : Nat) (m : ByteArray) (w : World) (p1 : PairsIn w a1 t.mets) (p2 : PairsIn w a2 t.sers) (hb : BigP t.sers) (l1 : t.mets.length ≤ 1000000000) (l2 : t.sers.length ≤ 1000000000) :
    Calls Tryz.prog 44 #[cfgV c,.agg #[.string t.name,.int .i64 t.limit,.slice a1 t.mets.length c1,.slice a2 t.sers.length c2],.string m] w fun e w'=>e = .returned (.tuple #[.int .i64 (countV c t m).1,.int .i64 (countV c t m).2]) ∧ Below w.heap.size w w':=by
  unfold cfgV
  by_cases hm : m.toList.isEmpty = true
  · have HV : Hid (countV c t m = (((t.sers.length : Nat) : Int),if t.limit < 0 then c.tl else t.limit)):=by show _ = _; unfold countV; rw [if_pos hm]
    clear p1 p2 hb
    by_cases hl : t.limit < 0
    · go_enter Tryz.func44,Tryz.ntmps44
      go_wp2
      go_ret2
      exact ⟨ret_two (by rw [HV.out]) (by rw [HV.out]; exact (if_pos hl).symm),bto (bnew _ _) (bnew _ _)⟩
    · have HL : Hid (¬ t.limit < 0):=hl
      go_enter Tryz.func44,Tryz.ntmps44
      go_wp2
      go_ret2
      exact ⟨ret_two (by rw [HV.out]) (by rw [HV.out]; have h0:=HL.out; exact (if_neg (by omega)).symm),bto (bnew _ _) (bnew _ _)⟩
  have hm' : m.toList.isEmpty = false:=by simpa using hm
  have HV : Hid (countV c t m = (((cntM metK t.sers m : Nat) : Int),metLim t.mets m c.ml)):=by show _ = _; unfold countV; rw [if_neg hm]
  have P1 : Hid (PairsIn w a1 t.mets):=p1
  have P2 : Hid (PairsIn w a2 t.sers):=p2
  have HBP : Hid (BigP t.sers):=hb
  clear p1 p2 hb hm
  go_enter Tryz.func44,Tryz.ntmps44
  go_wp2
  have T1 : Hid (Blk ((w.alloc (.cells #[.int .i64 c.w,.int .i64 c.tl,.int .i64 c.ml,.int .i64 c.sh,.int .i64 c.ha,.int .i64 c.sg] 35)).alloc (.cells #[.string t.name,.int .i64 t.limit,.slice a1 t.mets.length c1,.slice a2 t.sers.length c2] 78)) (w.heap.size + 1) #[.string t.name,.int .i64 t.limit,.slice a1 t.mets.length c1,.slice a2 t.sers.length c2] 78):=hid (by have:=Blk.new (w.alloc (.cells #[.int .i64 c.w,.int .i64 c.tl,.int .i64 c.ml,.int .i64 c.sh,.int .i64 c.ha,.int .i64 c.sg] 35)) #[.string t.name,.int .i64 t.limit,.slice a1 t.mets.length c1,.slice a2 t.sers.length c2] 78; simpa using this)
  have B1 : Hid (Below w.heap.size w ((w.alloc (.cells #[.int .i64 c.w,.int .i64 c.tl,.int .i64 c.ml,.int .i64 c.sh,.int .i64 c.ha,.int .i64 c.sg] 35)).alloc (.cells #[.string t.name,.int .i64 t.limit,.slice a1 t.mets.length c1,.slice a2 t.sers.length c2] 78))):=bto (bnew _ _) (bnew _ _)
  generalize (w.alloc (.cells #[.int .i64 c.w,.int .i64 c.tl,.int .i64 c.ml,.int .i64 c.sh,.int .i64 c.ha,.int .i64 c.sg] 35)).alloc (.cells #[.string t.name,.int .i64 t.limit,.slice a1 t.mets.length c1,.slice a2 t.sers.length c2] 78) = W at *
  go_loopw [9,11,32] (fun l _ i wr=>∃ k : Nat,k ≤ t.mets.length ∧ i = .int .i64 k ∧ l = .int .i64 (metLim (t.mets.take k) m c.ml) ∧ Below W.heap.size W wr) (fun _ _ i _=>t.mets.length - (intOf i).toNat)
  case atStart=>exact ⟨0,Nat.zero_le _,rfl,rfl,Below.refl _ _⟩
  case round =>
    obtain ⟨k,hk,rfl,rfl,hbel⟩:=hrel
    have HB : Hid (Below W.heap.size W wr):=hbel
    clear hbel
    by_cases hlt : k < t.mets.length
    · obtain ⟨pb,po,rfl,hpl,z0,z1⟩:=(P1.out.later (bto B1.out HB.out)).at hlt
      have HT : Hid (metLim (t.mets.take (k + 1)) m c.ml = if t.mets[k].s.toList == m.toList then t.mets[k].n else metLim (t.mets.take k) m c.ml):=metLim_take _ _ _ _ hlt
      generalize t.mets[k] = P at *
      generalize metLim (t.mets.take k) m c.ml = L0 at *
      by_cases he : (P.s.toList == m.toList) = true
      · have HL : Hid (metLim (t.mets.take (k + 1)) m c.ml = P.n):=by show _ = _; rw [HT.out,if_pos he]
        clear HT
        go_wp2
        exact ⟨⟨k + 1,by omega,by go_num,by rw [HL.out],bto HB.out (bnew _ _)⟩,by simp [intOf]; omega⟩
      · have he' : (P.s.toList == m.toList) = false:=by simpa using he
        have HL : Hid (metLim (t.mets.take (k + 1)) m c.ml = L0):=by show _ = _; rw [HT.out,if_neg he]
        clear HT he
        go_wp2
        exact ⟨⟨k + 1,by omega,by go_num,by rw [HL.out],bto HB.out (bnew _ _)⟩,by simp [intOf]; omega⟩
    · have ek : t.mets.take k = t.mets:=List.take_of_length_le (by omega)
      rw [ek]
      clear ek
      generalize metLim t.mets m c.ml = ML at *
      have T2 : Hid (Blk wr (w.heap.size + 1) #[.string t.name,.int .i64 t.limit,.slice a1 t.mets.length c1,.slice a2 t.sers.length c2] 78):=T1.out.later HB.out
      have B2 : Hid (Below w.heap.size w wr):=bto B1.out HB.out
      have y3 : wr.cell? ⟨w.heap.size + 1,3,none⟩ = some (.slice a2 t.sers.length c2):=T2.out.cell 3
      clear T1 B1 HB
      generalize hwo : wr = wo at *
      clear hwo
      go_wp2
      clear y3 T2
      go_loopw [12,14,46] (fun n _ i wr=>∃ k : Nat,k ≤ t.sers.length ∧ i = .int .i64 k ∧ n = .int .i64 (cntM metK (t.sers.take k) m : Nat) ∧ Below wo.heap.size wo wr) (fun _ _ i _=>t.sers.length - (intOf i).toNat)
      case atStart=>exact ⟨0,Nat.zero_le _,rfl,rfl,Below.refl _ _⟩
      case round =>
        obtain ⟨j,hj,rfl,rfl,hbel⟩:=hrel
        have HB : Hid (Below wo.heap.size wo wr):=hbel
        clear hbel
        by_cases hlt2 : j < t.sers.length
        · obtain ⟨pb,po,rfl,hpl,z0,z1⟩:=(P2.out.later (bto B2.out HB.out)).at hlt2
          have HT : Hid (cntM metK (t.sers.take (j + 1)) m = cntM metK (t.sers.take j) m + if (metK t.sers[j].s).toList == m.toList then 1 else 0):=cntM_take _ _ _ hlt2
          have HM : Hid (∀ W,Calls Tryz.prog 45 #[.string t.sers[j].s] W fun e w'=>e = .returned (.string (metK t.sers[j].s)) ∧ Below W.heap.size W w'):=fun W=>specMet_any t.sers[j].s W (HBP.out j hlt2)
          have hcl : cntM metK (t.sers.take j) m ≤ 1000000000:=by have:=cntM_le metK (t.sers.take j) m; rw [List.length_take] at this; omega
          generalize t.sers[j] = P at *
          generalize metK P.s = mk at *
          generalize cntM metK (t.sers.take j) m = N0 at *
          go_wp2_with fail
          refine (HM.out _).mono ?_
          rintro e w5 ⟨rfl,hb5⟩
          have HB5 : Hid (Below wo.heap.size wo w5):=bto HB.out (bto (bnew _ _) hb5)
          clear hb5 HM
          by_cases he : (mk.toList == m.toList) = true
          · have HL : Hid (cntM metK (t.sers.take (j + 1)) m = N0 + 1):=by show _ = _; rw [HT.out,if_pos he]
            clear HT
            go_wp2
            exact ⟨⟨j + 1,by omega,by go_num,by rw [HL.out]; go_num,HB5.out⟩,by simp [intOf]; omega⟩
          · have he' : (mk.toList == m.toList) = false:=by simpa using he
            have HL : Hid (cntM metK (t.sers.take (j + 1)) m = N0):=by show _ = _; rw [HT.out,if_neg he]; rfl
            clear HT he
            go_wp2
            exact ⟨⟨j + 1,by omega,by go_num,by rw [HL.out],HB5.out⟩,by simp [intOf]; omega⟩
        · have ej : t.sers.take j = t.sers:=List.take_of_length_le (by omega)
          rw [ej]
          clear ej
          go_wp2
          go_ret2
          exact ⟨ret_two (by rw [HV.out]) (by rw [HV.out]),bto B2.out HB.out⟩
end Go.Proofs.YtkmdbpaeeagccaaGreatDoor
namespace Go.Proofs.YtkmdbpaeeagccaaGreatDoor
open Go.RowKit
theorem names_ne {c : CfgD} {now : Int} {ts : List TenD} (h : stateB c now ts = true) : ∀ p ∈ ts,p.name ≠ ⟨#[]⟩:=fun p hp e=>by
  have h1:=(ten_parts (tens_at (tens_of h).2.2.2.2 p hp)).1
  rw [e] at h1
  simp only [tnameB,Bool.and_eq_true,decide_eq_true_eq] at h1
  have h2 : (⟨#[]⟩ : ByteArray).size = 0:=rfl
  omega
theorem fitW_of {c : CfgD} {now : Int} {ts : List TenD} (h : stateB c now ts = true) (hb : ts.length + tensBulk ts ≤ 1100000) : ∀ x ∈ ts,FitW x:=fun x hx=>by
  obtain ⟨_,h0,h1,_,ht⟩:=tens_of h
  obtain ⟨_,_,_,h4,h5⟩:=fitS_of hb x hx
  refine ⟨by omega,by omega,fun i hi=>?_⟩
  have:=sers_at (ten_parts (tens_at ht x hx)).2.2.1 _ (List.getElem_mem hi)
  omega
theorem same_all {c : CfgD} {now : Int} {ts : List TenD} (h : stateB c now ts = true) : keptTs c.w now (wAll ⟨⟨#[]⟩,0,[],[]⟩ true ts) = ts:=by
  rw [wAll_placed (t:=⟨⟨#[]⟩,0,[],[]⟩) (names_ne h)]
  exact keptTs_same (tens_of h).2.2.2.2
set_option maxRecDepth 100000 in
set_option maxHeartbeats 2000000 in
theorem l4Same_any (c : CfgD) (now : Int) (a : Option Addr) (cap : Nat) (ts : List TenD) (w : World) (hf : TensIn w a ts) (hst : stateB c now ts = true) (hb : ts.length + tensBulk ts ≤ 1100000) :
    Calls Tryz.prog 19 #[cfgV c,.agg #[.int .i64 now,.slice a ts.length cap]] w fun e w'=>∃ a' cap',e = .returned (.agg #[.int .i64 now,.slice a' ts.length cap']) ∧ TensOwn w' w.heap.size a' ts ∧ Below w.heap.size w w':=by
  obtain ⟨_,hn0,hn1,_,_⟩:=tens_of hst
  have HW : Hid (∀ W,Below w.heap.size w W → Calls Tryz.prog 41 #[cfgV c,.agg #[.int .i64 now,.slice a ts.length cap],.int .i64 now,.agg #[.string ⟨#[]⟩,.int .i64 0,.slice none 0 0,.slice none 0 0]] W fun e w'=>∃ a' cap',e = .returned (.agg #[.int .i64 now,.slice a' ts.length cap']) ∧ TensOwn w' W.heap.size a' ts ∧ Below W.heap.size W w'):=fun W hW=>by
    have:=l4With_any c now now a cap ts ⟨⟨#[]⟩,0,[],[]⟩ none none 0 0 W (hf.later hW) (Or.inl rfl) (Or.inl rfl) (by omega) (fun x hx=>by
      rcases hx with rfl | hx
      · exact ⟨Nat.zero_le _,Nat.zero_le _,fun i h=>absurd h (by simp)⟩
      · exact fitW_of hst hb x hx) hn0 (by omega)
    have e : (⟨⟨#[]⟩,0,[],[]⟩ : TenD).name.toList.isEmpty = true:=by kernel_rfl
    rw [e,same_all hst] at this
    exact this
  clear hf hst hb
  unfold cfgV at *
  go_enter Tryz.func19,Tryz.ntmps19
  have B1 : Hid (Below w.heap.size w (((w.alloc (.cells #[.int .i64 c.w,.int .i64 c.tl,.int .i64 c.ml,.int .i64 c.sh,.int .i64 c.ha,.int .i64 c.sg] 35)).alloc (.cells #[.int .i64 now,.slice a ts.length cap] 32)).alloc (.cells #[.int .i64 0,.slice none 0 0] 32))):=bto (bto (bnew _ _) (bnew _ _)) (bnew _ _)
  have R1 : Hid (Blk (((w.alloc (.cells #[.int .i64 c.w,.int .i64 c.tl,.int .i64 c.ml,.int .i64 c.sh,.int .i64 c.ha,.int .i64 c.sg] 35)).alloc (.cells #[.int .i64 now,.slice a ts.length cap] 32)).alloc (.cells #[.int .i64 0,.slice none 0 0] 32)) (w.heap.size + 1 + 1) #[.int .i64 0,.slice none 0 0] 32):=hid (by have:=Blk.new ((w.alloc (.cells #[.int .i64 c.w,.int .i64 c.tl,.int .i64 c.ml,.int .i64 c.sh,.int .i64 c.ha,.int .i64 c.sg] 35)).alloc (.cells #[.int .i64 now,.slice a ts.length cap] 32)) #[.int .i64 0,.slice none 0 0] 32; simpa using this)
  go_wp2_with fail
  refine (HW.out _ B1.out).mono ?_
  rintro e w3 ⟨ra,rc,rfl,ho3,hb3⟩
  have HO3 : Hid (TensOwn w3 (w.heap.size + 1 + 1 + 1) ra ts):=hid (by simpa using ho3)
  have R3 : Hid (Blk w3 (w.heap.size + 1 + 1) #[.int .i64 0,.slice none 0 0] 32):=R1.out.later hb3
  have B3 : Hid (Below w.heap.size w w3):=bto B1.out hb3
  have y0 : w3.cell? ⟨w.heap.size + 1 + 1,0,none⟩ = some (.int .i64 0):=R3.out.cell 0
  have y1 : w3.cell? ⟨w.heap.size + 1 + 1,1,none⟩ = some (.slice none 0 0):=R3.out.cell 1
  have f0:=R3.out.free 0
  have f1:=R3.out.free 1
  have hwl : w.heap.size + 1 + 1 < w3.heap.size:=lt_of_block R3.out
  clear ho3 hb3
  go_wp2
  have HTE : Turn (· = w.heap.size + 1 + 1) w3 ((w3.setCell ⟨w.heap.size + 1 + 1,0,none⟩ (.int .i64 now)).setCell ⟨w.heap.size + 1 + 1,1,none⟩ (.slice ra ts.length rc)):=((Turn.refl (· = w.heap.size + 1 + 1) w3).setCell (Or.inl rfl) 0 _).setCell (Or.inl rfl) 1 _
  have ho : TensOwn ((w3.setCell ⟨w.heap.size + 1 + 1,0,none⟩ (.int .i64 now)).setCell ⟨w.heap.size + 1 + 1,1,none⟩ (.slice ra ts.length rc)) w.heap.size ra ts:=(TensOwn.turned HO3.out HTE (fun g h1 h2 e=>by omega)).mono (by omega)
  have hbe : Below w.heap.size w ((w3.setCell ⟨w.heap.size + 1 + 1,0,none⟩ (.int .i64 now)).setCell ⟨w.heap.size + 1 + 1,1,none⟩ (.slice ra ts.length rc)):=((Turn.of (S:=fun i=>w.heap.size ≤ i) B3.out).trans' (HTE.mono fun i _ e=>by omega)).below (Nat.le_refl _) fun i hi h=>by omega
  refine bodyPost_ret (v:=.agg #[.int .i64 now,.slice ra ts.length rc]) (by simp [results,Tryz.results19,go_sem,y0,y1]) rfl ?_
  first
    | exact ⟨ra,⟨rc,rfl⟩,ho,hbe⟩
    | exact ⟨ra,rc,rfl,ho,hbe⟩
end Go.Proofs.YtkmdbpaeeagccaaGreatDoor
namespace Go.Proofs.YtkmdbpaeeagccaaGreatDoor
open Go.RowKit
def KX (w2 : World) (X : Nat) (K : TenD) (wx : World) : Prop :=
  ∃ q1 e1 q2 e2,Blk wx X #[.string K.name,.int .i64 K.limit,.slice q1 K.mets.length e1,.slice q2 K.sers.length e2] 78 ∧ (∀ W,Turn (· = X) wx W → PairsIn W q1 K.mets ∧ PairsIn W q2 K.sers) ∧ w2.heap.size ≤ X ∧ Below w2.heap.size w2 wx
theorem own_turn {w W : World} {B X : Nat} {q : Option Addr} {ps : List PairD} (h : PairsOwn w B q ps) (ht : Turn (· = X) w W) (hX : X < B ∨ w.heap.size ≤ X) : PairsIn W q ps:=by
  rcases h with h | ⟨g,o,cur,t,rfl,hB,hg,h⟩
  · exact Or.inl h
  · have hlt:=lt_of_block hg
    have hk:=ht.block g hlt (by omega)
    have hc : ∀ j,W.cell? ⟨g,j,none⟩ = w.cell? ⟨g,j,none⟩:=fun j=>World.cell?_of_block hk
    exact Or.inr ⟨g,o,rfl,by have:=ht.size; omega,fun i hi=>by simp only [hc]; exact h i hi⟩
theorem kx_new {w2 w4 : World} {K : TenD} {B M : Nat} {q1 q2 : Option Addr} {e1 e2 : Nat} (h1 : PairsOwn w4 B q1 K.mets) (h2 : PairsOwn w4 M q2 K.sers) (hb : Below w2.heap.size w2 w4) :
    KX w2 w4.heap.size K (w4.alloc (.cells #[.string K.name,.int .i64 K.limit,.slice q1 K.mets.length e1,.slice q2 K.sers.length e2] 78)):=by
  refine ⟨q1,e1,q2,e2,Blk.new _ _ _,fun W ht=>?_,hb.size,bto hb (bnew _ _)⟩
  have t2 : Turn (· = w4.heap.size) w4 W:=(Turn.of (bnew _ _)).trans' ht
  exact ⟨own_turn h1 t2 (Or.inr (Nat.le_refl _)),own_turn h2 t2 (Or.inr (Nat.le_refl _))⟩
theorem kx_old {w2 w4 : World} {K : TenD} {B M X : Nat} {q1 q2 : Option Addr} {e1 e2 : Nat} (h1 : PairsOwn w4 B q1 K.mets) (h2 : PairsOwn w4 M q2 K.sers) (hX : X < B) (hM : B ≤ M) (hx : w2.heap.size ≤ X) (hbx : Blk w4 X #[.string ⟨#[]⟩,.int .i64 0,.slice none 0 0,.slice none 0 0] 78) (hb : Below w2.heap.size w2 w4) :
    KX w2 X K ((((w4.setCell ⟨X,0,none⟩ (.string K.name)).setCell ⟨X,1,none⟩ (.int .i64 K.limit)).setCell ⟨X,2,none⟩ (.slice q1 K.mets.length e1)).setCell ⟨X,3,none⟩ (.slice q2 K.sers.length e2)):=by
  have ht : Turn (· = X) w4 ((((w4.setCell ⟨X,0,none⟩ (.string K.name)).setCell ⟨X,1,none⟩ (.int .i64 K.limit)).setCell ⟨X,2,none⟩ (.slice q1 K.mets.length e1)).setCell ⟨X,3,none⟩ (.slice q2 K.sers.length e2)):=((((Turn.refl (· = X) w4).setCell (Or.inl rfl) 0 _).setCell (Or.inl rfl) 1 _).setCell (Or.inl rfl) 2 _).setCell (Or.inl rfl) 3 _
  refine ⟨q1,e1,q2,e2,?_,fun W h=>⟨own_turn h1 (ht.trans' h) (Or.inl hX),own_turn h2 (ht.trans' h) (Or.inl (by omega))⟩,hx,set4 hb hx⟩
  have:=(((hbx.set 0 (.string K.name)).set 1 (.int .i64 K.limit)).set 2 (.slice q1 K.mets.length e1)).set 3 (.slice q2 K.sers.length e2)
  simpa using this
end Go.Proofs.YtkmdbpaeeagccaaGreatDoor
namespace Go.Proofs.YtkmdbpaeeagccaaGreatDoor
def pStep (t : PairD) (s : List PairD × Bool) (p : PairD) : List PairD × Bool :=
  (s.1 ++ (if s.2 = true then [] else if blt p.s t.s = true then [] else [t]) ++ (if (p.s.toList == t.s.toList) = true then [] else [p]),if s.2 = true then true else !blt p.s t.s)
def pUpto (t : PairD) (b : Bool) (ps : List PairD) : List PairD × Bool:=ps.foldl (pStep t) ([],b)
def pAll (t : PairD) (b : Bool) (ps : List PairD) : List PairD:=(pUpto t b ps).1 ++ if (pUpto t b ps).2 = true then [] else [t]
theorem pUpto_take (t : PairD) (b : Bool) (ps : List PairD) (k : Nat) (h : k < ps.length) : pUpto t b (ps.take (k + 1)) = pStep t (pUpto t b (ps.take k)) ps[k]:=by
  rw [List.take_succ_eq_append_getElem h,pUpto,List.foldl_append]; rfl
theorem pUpto_acc (t : PairD) (ps : List PairD) : ∀ (acc : List PairD) (b : Bool),ps.foldl (pStep t) (acc,b) = (acc ++ (ps.foldl (pStep t) ([],b)).1,(ps.foldl (pStep t) ([],b)).2):=by
  induction ps with
  | nil=>intro acc b; simp
  | cons p r ih =>
    intro acc b
    simp only [List.foldl_cons]
    rw [ih (pStep t (acc,b) p).1 (pStep t (acc,b) p).2,ih (pStep t ([],b) p).1 (pStep t ([],b) p).2]
    simp [pStep]
theorem pAll_cons (t p : PairD) (r : List PairD) (b : Bool) : pAll t b (p :: r) = (pStep t ([],b) p).1 ++ pAll t (pStep t ([],b) p).2 r:=by
  unfold pAll pUpto
  rw [List.foldl_cons,pUpto_acc t r (pStep t ([],b) p).1 (pStep t ([],b) p).2]
  simp
theorem pAll_placed (t : PairD) (ps : List PairD) : pAll t true ps = delBy (·.s) t.s ps:=by
  induction ps with
  | nil=>rfl
  | cons p r ih =>
    rw [pAll_cons]
    by_cases h1 : (p.s.toList == t.s.toList) = true
    · simp only [pStep,h1,if_true,List.nil_append,ih]
      unfold delBy
      rw [List.filter_cons_of_neg (by rw [h1]; simp)]
    · have h1' : (p.s.toList == t.s.toList) = false:=by simpa using h1
      simp only [pStep,h1',if_true,List.nil_append,ih]
      unfold delBy
      rw [List.filter_cons_of_pos (by rw [h1']; rfl)]
      rfl
theorem pAll_ins {t : PairD} {ps : List PairD} (hr : RiseBy (·.s) ps) : pAll t false ps = insBy (·.s) t ps:=by
  induction ps with
  | nil=>rfl
  | cons p r ih =>
    have ihr:=ih hr.tail
    rw [pAll_cons,insBy]
    by_cases h2 : blt p.s t.s = true
    · have h3 : (p.s.toList == t.s.toList) = false:=same_not (blt_ne h2)
      simp only [pStep,h2,h3,if_true]
      simp [ihr]
    · have h2' : blt p.s t.s = false:=by simpa using h2
      have hnone : ∀ q ∈ r,q.s ≠ t.s:=fun q hq e=>by
        have hb:=hr.head q hq
        rw [e] at hb
        exact h2 hb
      have hdel : delBy (·.s) t.s r = r:=List.filter_eq_self.2 fun q hq=>by rw [same_not (hnone q hq)]; rfl
      by_cases h3 : p.s = t.s
      · have h4 : (p.s.toList == t.s.toList) = true:=(same_iff _ _).2 h3
        simp only [pStep,h2',h4,if_true]
        simp [pAll_placed,hdel]
      · have h4 : (p.s.toList == t.s.toList) = false:=same_not h3
        simp only [pStep,h2',h4]
        simp [pAll_placed,hdel]
theorem limT_all {t : TenD} {metric : ByteArray} {limit : Int} (hr : RiseBy (·.s) t.mets) (he : metric.toList.isEmpty = false) : limT t metric limit = ⟨t.name,t.limit,pAll ⟨metric,limit⟩ (decide (limit < 0)) t.mets,t.sers⟩:=by
  unfold limT
  rw [if_neg (by rw [he]; simp)]
  by_cases h : limit < 0
  · rw [if_pos h,decide_eq_true h,pAll_placed]
  · rw [if_neg h,decide_eq_false h,pAll_ins hr]
end Go.Proofs.YtkmdbpaeeagccaaGreatDoor
namespace Go.Proofs.YtkmdbpaeeagccaaGreatDoor
open Go.RowKit
theorem str_nil {x : ByteArray} : x.toList.isEmpty = true ↔ x = ByteArray.empty:=by
  rw [List.isEmpty_iff]
  constructor
  · intro h
    exact toList_inj (by rw [h,ByteArray.toList_eq]; rfl)
  · intro h
    rw [h,ByteArray.toList_eq]; rfl
theorem str_some {x : ByteArray} : x.toList.isEmpty = false ↔ x ≠ ByteArray.empty:=by rw [← Bool.not_eq_true,str_nil]
end Go.Proofs.YtkmdbpaeeagccaaGreatDoor
