import Derived.Test.YtcneojllbkacoaaGreatDoorJ40OpNd
namespace Go.Proofs.YtcneojllbkacoaaGreatDoor
open Go.RowKit
theorem RF {os:Array Oper}{rest:List Oper}{o:Oper}{a:Act}{Q:Exit→Act→World→Prop}{w:World} (hgd:o.guard=none) (s x:Operand) (ho:o.op=.call { callee:=.builtin .append,args:=#[s,x],argTypes:=#[93,93] }){B g0 n c0:Nat}{xs:List Value} (hs:a.eval s=.slice (some ⟨g0,0,none⟩) n c0) (hr:w.ownsRow B 151 2 (.slice (some ⟨g0,0,none⟩) n c0) n xs)
 {ad:Option Addr}{m cp:Nat} (ps:List gA) (hx:a.eval x=.slice ad m cp) (hl:ps.length=m) (hsrc:bS w ad m (flatK ps)) (hn:n+m≤4000000) (hB:B≤w.heap.size)
 (h:∀g cap w',Hid (w'.ownsRow B 151 2 (.slice (some ⟨g,0,none⟩) (n+m) cap) (n+m) (xs++flatK ps))→Hid (Below B w w')→wpList Tryz.prog os Q rest (a.put o.dst (.slice (some ⟨g,0,none⟩) (n+m) cap)) w'):wpList Tryz.prog os Q (o :: rest) a w:=by
 obtain ⟨ti,hti,hz0,hz1,hz2⟩:=info_parts EZ;exact zV _ hgd s x _ ho B 151 ti _ 2 24 Tryz.underlying93 hti hz0 hz1 hz2 rfl (by omega) g0 n c0 xs hs hr ad m cp (flatK ps) hx (by rw [fI,hl]) hsrc (aI _) (by simp [maxLen];omega) (by omega) hB fun g cap w' h1 h2 _ _ _ _=>h g cap w' h1 h2
theorem aLi {os:Array Oper}{rest:List Oper}{o:Oper}{a:Act}{Q:Exit→Act→World→Prop}{w:World} (hgd:o.guard=none) (s x:Operand) (ho:o.op=.call { callee:=.builtin .append,args:=#[s,x],argTypes:=#[93,93] }) (hs:a.eval s=.slice (some ⟨w.heap.size,0,none⟩) 0 0){ad:Option Addr}{m cp:Nat} (ps:List gA) (hx:a.eval x=.slice ad m cp) (hl:ps.length=m) (hsrc:bS (w.alloc (.cells #[] 151)) ad m (flatK ps)) (hn:m≤4000000)
 (h:∀g cap w',Hid (w'.ownsRow w.heap.size 151 2 (.slice (some ⟨g,0,none⟩) m cap) m (flatK ps))→Hid (Below w.heap.size w w')→wpList Tryz.prog os Q rest (a.put o.dst (.slice (some ⟨g,0,none⟩) m cap)) w'):wpList Tryz.prog os Q (o :: rest) a (w.alloc (.cells #[] 151)):=by
 refine RF hgd s x ho (B:=w.heap.size) hs (World.ownsRow_made w #[] 0 (Nat.le_refl _) (by simp [maxLen]) (by simp)) ps hx hl hsrc (by omega) (bA _ _).size fun g cap w' h1 h2=>?_;rw [Nat.zero_add] at h1 ⊢;exact h g cap w' h1 ((bA _ _).trans h2.out)
structure AB (wv W:World) (X M:Nat) (q1:Option Addr) (e1:Nat) (q2:Option Addr) (e2:Nat) (tn:cA):Prop where
 X:lA W X #[.string tn.name,.int .i64 tn.limit,.slice q1 tn.mets.length e1,.slice q2 tn.sers.length e2] 95
 P:fB W wv.heap.size q1 tn.mets
 R:W.ownsRow M 151 2 (.slice q2 tn.sers.length e2) tn.sers.length (flatK tn.sers)
section
variable {w wv W W':World}{X M e1 e2 n cap:Nat}{q1 q2 a:Option Addr}{tn:cA}{c:eC}{now:Int}{key:ByteArray}
theorem AB.later (h:AB wv W X M q1 e1 q2 e2 tn) (hb:Below W.heap.size W W'):AB wv W' X M q1 e1 q2 e2 tn:=⟨h.X.later hb,h.P.later hb,yA h.R hb⟩
theorem aLq {g k:Nat} (A:AB wv W X M q1 e1 (some ⟨g,0,none⟩) e2 tn) (P:qT w W c now a n cap) (hq:∀g o,q1=some ⟨g,o,none⟩→g<M) (hX:g≠X) (hM:w.heap.size+1+1<M) (hlt:k<tn.sers.length) (hsm:tn.sers[k].s=key) (hrs:oB (·.s) tn.sers):
 lA (W.setCell ⟨g,k * 2+1,none⟩ (.int .i64 now)) X #[.string tn.name,.int .i64 tn.limit,.slice q1 tn.mets.length e1,.slice (some ⟨g,0,none⟩) tn.sers.length e2] 95∧sA (W.setCell ⟨g,k * 2+1,none⟩ (.int .i64 now)) q1 tn.mets∧sA (W.setCell ⟨g,k * 2+1,none⟩ (.int .i64 now)) (some ⟨g,0,none⟩) (tA (·.s) ⟨key,now⟩ tn.sers)∧qT w (W.setCell ⟨g,k * 2+1,none⟩ (.int .i64 now)) c now a n cap∧(tA (·.s) (⟨key,now⟩:gA) tn.sers).length=tn.sers.length∧W.frozen? ⟨g,k * 2+1,none⟩=false:=by
 have hMg:=(A.R.lt g rfl).1;have hE:tA (·.s) ⟨key,now⟩ tn.sers=tn.sers.set k ⟨tn.sers[k].s,now⟩:=by rw [aIx hrs hlt hsm,hsm]
 have hL:(tA (·.s) (⟨key,now⟩:gA) tn.sers).length=tn.sers.length:=by rw [hE,List.length_set]
 have hT:dA (·=g) W (W.setCell ⟨g,k * 2+1,none⟩ (.int .i64 now)):=(dA.refl (·=g) W).setCell (Or.inl rfl) _ _;refine ⟨hT.blk A.X hX.symm,VX A.P hT (fun g' o e _ e'=>by have:=hq g' o e;omega),?_,P.turn hT (by omega),hL,?_⟩
 ·have h:(W.setCell ⟨g,k * 2+1,none⟩ (.int .i64 now)).ownsRow M 151 2 (.slice (some ⟨g,0,none⟩) tn.sers.length e2) tn.sers.length (flatK (tA (·.s) ⟨key,now⟩ tn.sers)):=by
   rw [hE,aEo _ _ hlt];exact aKp A.R
  rw [←hL] at h;exact (lC h).pairs
 ·rcases A.R.2 with ⟨e,_⟩ | ⟨g',cap',cur,e,_,hb,_⟩
  ·cases e
  ·simp only [Value.slice.injEq,Option.some.injEq,Addr.mk.injEq,and_true] at e;rw [←e.1] at hb;exact lA.free hb _
theorem aBs {w6:World}{g m cp:Nat}{xs:List Value}{ss:List gA} (A:AB wv w6 X M q1 e1 q2 e2 tn) (P:qT w w6 c now a n cap) (hqX:∀g o,q1=some ⟨g,o,none⟩→tn.mets≠[]→g≠X) (hX:w.heap.size+1+1<X) (hW:Below w6.heap.size w6 W) (hO:W.ownsRow w6.heap.size 151 2 (.slice (some ⟨g,0,none⟩) m cp) m xs) (hx:flatK ss=xs) (hm:ss.length=m):
 lA (W.setCell ⟨X,3,none⟩ (.slice (some ⟨g,0,none⟩) m cp)) X #[.string tn.name,.int .i64 tn.limit,.slice q1 tn.mets.length e1,.slice (some ⟨g,0,none⟩) m cp] 95∧sA (W.setCell ⟨X,3,none⟩ (.slice (some ⟨g,0,none⟩) m cp)) q1 tn.mets∧sA (W.setCell ⟨X,3,none⟩ (.slice (some ⟨g,0,none⟩) m cp)) (some ⟨g,0,none⟩) ss∧qT w (W.setCell ⟨X,3,none⟩ (.slice (some ⟨g,0,none⟩) m cp)) c now a n cap:=by
 subst hx hm;have hT:dA (·=X) W (W.setCell ⟨X,3,none⟩ (.slice (some ⟨g,0,none⟩) ss.length cp)):=(dA.refl (·=X) W).setCell (Or.inl rfl) 3 _;have hx6:=aA A.X;exact ⟨by have:=(A.X.later hW).set 3 (.slice (some ⟨g,0,none⟩) ss.length cp);simpa using this,VX (A.P.later hW) hT (fun g' o e hne e'=>hqX g' o e hne e'),(lC (hT.row hO (fun q hq e=>by have:=(hO.lt q hq).1;omega))).pairs,(P.later hW).turn hT hX⟩
end
set_option maxRecDepth 100000
set_option maxHeartbeats 16000000
theorem JH (c:eC) (now:Int) (a:Option Addr) (cap:Nat) (ts:List cA) (tenant key:ByteArray) (w:World) (hf:pB w a ts) (hbk:ts.length+nA ts≤1100000) (hn:tenant.size≤1100000) (hk:key.size≤1100000) (h0:vB c now ts=true) (hb:(dC tenant&&yF key)=false):
 Calls Tryz.prog 52 #[wG c,.agg #[.int .i64 now,.slice a ts.length cap],.string tenant,.string key] w fun e w'=>RH (now,ts,5) w e w':=by
 obtain ⟨f1,f2,f3,f4⟩:=kS hbk;have HO:=iA (fun W (hW:Below w.heap.size w W)=>aJ c now a cap ts W (hf.later hW) f2 (by omega));have HTN:=iA (fun W=>jI tenant W (by unfold maxLen;omega));have HKY:=iA (fun W=>bZ key W (by omega));have HSM:=iA (fun W (hW:Below w.heap.size w W)=>aO c now a cap ts W (hf.later hW) h0 hbk);rw [h0] at HO;have hcs:dC tenant=false∨dC tenant=true∧yF key=false:=by revert hb;cases dC tenant<;>simp
 have P:=iA (qT.new (w:=w) (c:=c) (now:=now) (a:=a) (n:=ts.length) (cap:=cap));clear hf hbk f1 f2 f3 f4 h0 hb;unfold RH;unfold wG at *;rcases hcs with k1 | ⟨k1,k2⟩
 all_goals
  rw [k1] at HTN;try rw [k2] at HKY
  go_enter Tryz.func52,Tryz.ntmps52;go_wp2_with (first
   | (go_at_call 50;refine (HO.out _ P.out.B).mono ?_;rintro e wv ⟨rfl,hb⟩;replace P:=iA (P.out.later hb);clear hb HO;obtain ⟨x0,x1,x2,x3,x4,x5,y0,y1,-,-,-,-,hz⟩:=P.out.cells)
   | (go_at_call 93;refine (HTN.out _).mono ?_;rintro e w' ⟨rfl,hw⟩;subst hw)
   | (go_at_call 96;refine (HKY.out _).mono ?_;rintro e w5 ⟨rfl,hb⟩;replace P:=iA (P.out.later hb);clear hb x0 x1 x2 x3 x4 x5 y0 y1 hz;obtain ⟨x0,x1,x2,x3,x4,x5,y0,y1,-,-,-,-,hz⟩:=P.out.cells)
   | (go_at_call 51;refine (HSM.out _ P.out.B).mono ?_;rintro e w9 ⟨ra,rc,rfl,ho,hb⟩;have P9:=iA (P.out.later hb);have HO9:=iA ho;clear ho hb x0 x1 x2 x3 x4 x5 y0 y1 HSM;obtain ⟨-,-,-,-,-,-,-,-,z0,z1,g0,g1,hz9⟩:=P9.out.cells))
  refine bodyPost_ret (v:=?_) (by simp [results,Tryz.results52,go_sem,z0,z1];rfl) rfl ?_;first
   | exact ⟨ra,⟨rc,rfl⟩,P9.out.done HO9.out hz⟩
   | exact ⟨ra,rc,rfl,P9.out.done HO9.out hz⟩
theorem QC {c:eC}{now:Int}{a:Option Addr}{cap:Nat}{ts:List cA}{tenant key:ByteArray}{w:World}{tn:cA}{V:Int×List cA×Nat} (H:Hid (SC w c now a cap ts tenant tn)) (hk:key.size≤1100000) (hky:yF key=true) (HFK:Hid (∀p∈tn.sers,p.s.size≤1100000)) (HKA:Hid (mC c.w now (tA (·.name) ⟨tn.name,tn.limit,tn.mets,tA (·.s) ⟨key,now⟩ tn.sers⟩ ts)=tA (·.name) (pE tn key now) ts))
 (HFI:Hid (MX ⟨tn.name,tn.limit,tn.mets,tA (·.s) ⟨key,now⟩ tn.sers⟩))
 (HV:Hid (V=if (cB (·.s) key tn.sers).isSome=true then (now,tA (·.name) (pE tn key now) ts,1) else if (sE c tn ⟨#[]⟩).2≤(sE c tn ⟨#[]⟩).1∨(dD tn=true∧ts.length=10000) then (now,ts,3) else if (sE c tn (bC key)).2≤(sE c tn (bC key)).1 then (now,ts,4) else (now,tA (·.name) (pE tn key now) ts,2))):
 Calls Tryz.prog 52 #[wG c,.agg #[.int .i64 now,.slice a ts.length cap],.string tenant,.string key] w fun e w'=>RH V w e w':=by
 obtain ⟨hml,hsl⟩:=H.out.len;obtain ⟨hn0,hn1⟩:=H.out.now0;have HKY:=iA (fun W=>bZ key W (by omega));have HMT:Hid (∀W,Calls Tryz.prog 101 #[.string key] W fun e w'=>e=.returned (.string (bC key))∧Below W.heap.size W w'):=fun W=>xS key W (by omega);have HCT:=iA (fun W m a1 a2 c1 c2 (p1:sA W a1 tn.mets) (p2:sA W a2 tn.sers)=>UW c tn a1 a2 c1 c2 m W p1 p2 (fun i h=>by have:=HFK.out _ (List.getElem_mem h);omega) (by omega) (by omega));have HID:=iA (fun W a1 a2 c1 c2=>gV tn a1 a2 c1 c2 W);have P:=iA (qT.new (w:=w) (c:=c) (now:=now) (a:=a) (n:=ts.length) (cap:=cap));rw [hky] at HKY;unfold RH;unfold wG at *;go_enter Tryz.func52,Tryz.ntmps52;go_upto_region 5 with (first
  | (go_at_call 50;refine (H.out.ok _ P.out.B).mono ?_;rintro e wo ⟨rfl,hb⟩;replace P:=iA (P.out.later hb);clear hb)
  | (go_at_call 93;refine (H.out.nm _).mono ?_;rintro e w' ⟨rfl,hw⟩;subst hw)
  | (go_at_call 96;refine (HKY.out _).mono ?_;rintro e wv ⟨rfl,hb⟩;replace P:=iA (P.out.later hb);clear hb))
 have HK:=iA P.out.kin;obtain ⟨vy0,vy1,vx0⟩:=P.out.kin wv (Below.refl _ _);have hsv:=P.out.lt;clear HKY;go_cut [10] (fun p wx=>∃X,p=.pointer (some ⟨X,0,none⟩)∧KXR wv X tn wx)
 case first=>
  go_region_held3 (fun w'=>w'.cell? ⟨w.heap.size+1,0,none⟩=some (.int .i64 now)∧w'.cell? ⟨w.heap.size+1,1,none⟩=some (.slice a ts.length cap)∧w'.cell? ⟨w.heap.size,0,none⟩=some (.int .i64 c.w))
   (first | go_keep | with_reducible exact HK.out _ (QA k4 (Nat.le_refl _)) | with_reducible exact HK.out _ (QA k4 k3.size) | with_reducible exact HK.out _ k4 | with_reducible exact HK.out _ k3 | with_reducible exact HK.out _ (rA k3 (bA _ _)) | with_reducible exact HK.out _ ((bA _ _).drew) | with_reducible exact HK.out _ (rA k4 (bA _ _)))
   (first
    | (go_at_call 99;refine (H.out.te _ (by with_reducible exact P.out.B.drew)).mono ?_;rintro e w3 ⟨⟨a1,c1,a2,c2,rfl,p1,p2⟩,hb3⟩;have k3:Below wv.heap.size wv w3:=(by with_reducible exact rA (Below.refl _ _).drew hb3);have c3:=HK.out _ k3)
    | (go_at_call 99;refine (H.out.te _ (by with_reducible exact (rA P.out.B (bA _ _)).drew)).mono ?_;rintro e w3 ⟨⟨a1,c1,a2,c2,rfl,p1,p2⟩,hb3⟩;have k3:Below wv.heap.size wv w3:=(by with_reducible exact rA ((bA _ _).drew) hb3);have c3:=HK.out _ k3;have hX3:lA w3 wv.heap.size #[.string ⟨#[]⟩,.int .i64 0,.slice none 0 0,.slice none 0 0] 95:=JX hb3)
    | (have q:=hX3;clear q;go_at_call 98;refine (H.out.kp _ a1 a2 c1 c2 (by with_reducible exact p1) (by with_reducible exact p2)).mono ?_;rintro e w4 ⟨M,q1,e1,q2,e2,rfl,hM,h1,h1M,h2,hM4,hb4⟩;have k4:Below wv.heap.size wv w4:=(by with_reducible exact rA k3 hb4);have c4:=HK.out _ k4;have BX4:=iA (hX3.later hb4);obtain ⟨s0,s1,s2,s3⟩:=BX4.out.c4;have f0:=BX4.out.free)
    | ((fail_if_success (have q:=hX3));go_at_call 98;refine (H.out.kp _ a1 a2 c1 c2 (by with_reducible exact p1) (by with_reducible exact p2)).mono ?_;rintro e w4 ⟨M,q1,e1,q2,e2,rfl,hM,h1,h1M,h2,hM4,hb4⟩;have k4:Below wv.heap.size wv w4:=(by with_reducible exact rA k3 hb4);have c4:=HK.out _ k4)
    | (go_at_call 98;refine (H.out.kp _ a1 a2 c1 c2 (by with_reducible exact p1.later (bA _ _)) (by with_reducible exact p2.later (bA _ _))).mono ?_;rintro e w4 ⟨M,q1,e1,q2,e2,rfl,hM,h1,h1M,h2,hM4,hb4⟩;have k4:Below wv.heap.size wv w4:=(by with_reducible exact rA (rA k3 (bA _ _)) hb4);have c4:=HK.out _ k4;have BX4:Hid (lA w4 w3.heap.size #[.string ⟨#[]⟩,.int .i64 0,.slice none 0 0,.slice none 0 0] 95):=iA ((lA.new w3 _ _).later hb4);obtain ⟨s0,s1,s2,s3⟩:=BX4.out.c4;have f0:=BX4.out.free))
  all_goals (go_wp2_with fail;go_meet)
  all_goals first
   | with_reducible exact ⟨_,rfl,aMh k3.size h1 h1M h2 hM k4⟩
   | exact ⟨_,rfl,aCf h1 h1M h2 (by have:=aA hX3;omega) hM (Nat.le_refl _) BX4.out k4⟩
   | exact ⟨_,rfl,aCf h1 h1M h2 (by simp) hM k3.size BX4.out k4⟩
 obtain ⟨X,rfl,M,q1,e1,q2,e2,hXb,hP1,hq1M,hRow,hRX,hqX,hXw,hMw,hb3⟩:=hcut;rename World=>w3;replace P:=iA (P.out.later hb3);have A:Hid (AB wv w3 X M q1 e1 q2 e2 tn):=⟨hXb,hP1,hRow⟩
 have HQ:=iA (⟨hq1M,hRX,hqX⟩:_∧_∧_);have hX3:=aA hXb;have hXP:w.heap.size+1+1<X:=by omega
 clear HK vy0 vy1 vx0 hXb hP1 hq1M hRow hRX hqX hb3;obtain ⟨m0,m1,m2,m3⟩:=A.out.X.c4;go_wp2;go_loopw [11,44] (fun _ i wr=>∃k:Nat,k≤tn.sers.length∧i=.int .i64 k∧Hid (∀j (h:j<k) (h':j<tn.sers.length),tn.sers[j].s≠key)∧w3=wr) (fun _ i _=>tn.sers.length - (intOf i).toNat)
 case atStart=>exact ⟨0,Nat.zero_le _,rfl,(fun j h=>absurd h (by omega)),rfl⟩
 case round=>
  obtain ⟨k,hkl,rfl,HN,hw⟩:=hrel;subst hw;by_cases hlt:k<tn.sers.length
  ·obtain ⟨g,rfl⟩:=WH A.out.R (by omega);obtain ⟨pb,po,ep,hpl,v0,v1⟩:=((lC A.out.R).pairs).at hlt;simp only [Option.some.injEq,Addr.mk.injEq,and_true] at ep;obtain ⟨rfl,rfl⟩:=ep;rw [Nat.zero_add] at v0 v1;cases hsm:(tn.sers[k].s.toList==key.toList) with
   | true=>
     have HS:=iA (aLq A.out P.out HQ.out.1 (HQ.out.2.1 g rfl) (by omega) hlt ((rC _ _).1 hsm) H.out.rs);have E:Hid (V=(now,tA (·.name) (pE tn key now) ts,1)):=by
      show _=_;rw [HV.out,if_pos];cases hgg:cB (·.s) key tn.sers with
      | some _=>rfl
      | none=>exact absurd ((rC _ _).1 hsm) (aR hgg _ (List.getElem_mem hlt))
     have fz:=HS.out.2.2.2.2.2;obtain ⟨-,-,-,-,-,-,y0,y1,-⟩:=P.out.cells;go_upto_region 11 with fail;clear v0 v1 fz m0 m1 m2 m3 y0 y1;generalize w3.setCell ⟨g,k * 2+1,none⟩ (.int .i64 now)=w7 at *;obtain ⟨X7,p1,p2,P7,hL,-⟩:=HS.out;have HWF:=iA (H.out.wi w7 tn.limit tn.mets (tA (·.s) ⟨key,now⟩ tn.sers) q1 (some ⟨g,0,none⟩) e1 e2 P7.B p1 p2 HFI.out);rw [HKA.out,hL] at HWF;replace P:=iA P7;obtain ⟨m0,m1,m2,m3⟩:=X7.c4;obtain ⟨x0,x1,x2,x3,x4,x5,y0,y1,-,-,-,-,hz⟩:=P7.cells;clear X7 p1 p2 P7 HS;generalize tA (·.name) (pE tn key now) ts=RL at *;go_wp2_with fail;refine HWF.out.mono ?_;rintro e w9 ⟨ra,rc,rfl,ho,hb⟩;have P9:=iA (P.out.later hb);have HO9:=iA ho;clear ho hb x0 x1 x2 x3 x4 x5 y0 y1 m0 m1 m2 m3;obtain ⟨-,-,-,-,-,-,-,-,z0,z1,g0,g1,hz9⟩:=P9.out.cells;go_wp2;refine bodyPost_ret (v:=?_) (by simp [results,Tryz.results52,go_sem,z0,z1];rfl) rfl ?_;rw [E.out];first
      | exact ⟨ra,⟨rc,rfl⟩,P9.out.done HO9.out hz⟩
      | exact ⟨ra,rc,rfl,P9.out.done HO9.out hz⟩
   | false=>
     have HN2:Hid (∀j (h:j<k+1) (h':j<tn.sers.length),tn.sers[j].s≠key):=fun j hj hj'=>by
      by_cases e:j=k
      ·subst e;exact fun e'=>absurd ((rC _ _).2 e') (by rw [hsm];simp)
      ·exact HN.out j (by omega) hj'
     generalize tn.sers[k].s=kk at *;go_wp2;exact ⟨⟨k+1,by omega,by go_num,HN2.out,by first | rfl | trivial⟩,by simp [intOf];omega⟩
  ·have HNO:Hid (cB (·.s) key tn.sers=none):=xI fun p hp=>by
    obtain ⟨j,hj,rfl⟩:=List.getElem_of_mem hp;exact HN.out j (by omega) hj
   have HC1:=iA (HCT.out w3 ⟨#[]⟩ q1 q2 e1 e2 A.out.P.pairs (lC A.out.R).pairs);have HV2:Hid (V=if (sE c tn ⟨#[]⟩).2≤(sE c tn ⟨#[]⟩).1∨(dD tn=true∧ts.length=10000) then (now,ts,3) else if (sE c tn (bC key)).2≤(sE c tn (bC key)).1 then (now,ts,4) else (now,tA (·.name) (pE tn key now) ts,2)):=by show _=_;rw [HV.out,if_neg (by rw [HNO.out];simp)]
   have hkn:¬((k:Int)<tn.sers.length):=by omega
   clear HV HN hlt hkl;obtain ⟨x0,x1,x2,x3,x4,x5,y0,y1,-,-,-,-,hz⟩:=P.out.cells;generalize sE c tn ⟨#[]⟩=CV at *;obtain ⟨n1,l1⟩:=CV;go_upto_region 15 with (first
    | (go_at_call 100;refine HC1.out.mono ?_;rintro e w4 ⟨rfl,hb⟩;replace A:=iA (A.out.later hb);replace P:=iA (P.out.later hb);clear hb x0 x1 x2 x3 x4 x5 y0 y1 m0 m1 m2 m3 hz;obtain ⟨m0,m1,m2,m3⟩:=A.out.X.c4;obtain ⟨x0,x1,x2,x3,x4,x5,y0,y1,-,-,-,-,hz⟩:=P.out.cells)
    | (go_at_call 94;refine (HID.out _ q1 q2 e1 e2).mono ?_;rintro e w5 ⟨rfl,hb⟩;replace A:=iA (A.out.later hb);replace P:=iA (P.out.later hb);clear hb x0 x1 x2 x3 x4 x5 y0 y1 m0 m1 m2 m3 hz;obtain ⟨m0,m1,m2,m3⟩:=A.out.X.c4;obtain ⟨x0,x1,x2,x3,x4,x5,y0,y1,-,-,-,-,hz⟩:=P.out.cells))
   generalize dD tn=IB at *;go_cut [88] (fun s wx=>s=.bool (decide (l1≤n1) ||(IB&&decide (ts.length=10000)))∧w5=wx)
   case first=>
    have h3:l1≤n1∧(decide (l1≤n1) ||(IB&&decide (ts.length=10000)))=true∨¬l1≤n1∧(IB=false∧(decide (l1≤n1) ||(IB&&decide (ts.length=10000)))=false∨IB=true∧(((ts.length:Int)==10000)=true∧(decide (l1≤n1) ||(IB&&decide (ts.length=10000)))=true∨((ts.length:Int)==10000)=false∧(decide (l1≤n1) ||(IB&&decide (ts.length=10000)))=false)):=by
     by_cases h1:l1≤n1
     ·exact Or.inl ⟨h1,by simp [h1]⟩
     ·refine Or.inr ⟨h1,?_⟩;cases IB
      ·exact Or.inl ⟨rfl,by simp [h1]⟩
      ·refine Or.inr ⟨rfl,?_⟩;by_cases h2:ts.length=10000
       ·exact Or.inl ⟨by simp [h2],by simp [h2]⟩
       ·exact Or.inr ⟨by simp;omega,by simp [h1,h2]⟩
    rcases h3 with ⟨h1,HD⟩ | ⟨h1,⟨rfl,HD⟩ | ⟨rfl,⟨h2,HD⟩ | ⟨h2,HD⟩⟩⟩
    all_goals
     have HD:=iA HD;go_wp2_with fail;go_meet;exact ⟨by rw [HD.out],rfl⟩
   obtain ⟨rfl,hw⟩:=hcut;subst hw;have HV3:Hid (V=if (decide (l1≤n1) ||(IB&&decide (ts.length=10000)))=true then (now,ts,3) else if (sE c tn (bC key)).2≤(sE c tn (bC key)).1 then (now,ts,4) else (now,tA (·.name) (pE tn key now) ts,2)):=by
    refine iA ?_;rw [HV2.out];simp only [Bool.or_eq_true,Bool.and_eq_true,decide_eq_true_eq]
   clear HV2 HC1;cases hcb:(decide (l1≤n1) ||(IB&&decide (ts.length=10000))) with
   | true=>
     rw [hcb,if_pos rfl] at HV3;clear hcb;go_wp2_with (go_at_call 51;refine (H.out.sm _ P.out.B).mono ?_;rintro e w9 ⟨ra,rc,rfl,ho,hb⟩;have P9:=iA (P.out.later hb);have HO9:=iA ho;clear ho hb x0 x1 x2 x3 x4 x5 y0 y1;obtain ⟨-,-,-,-,-,-,-,-,z0,z1,g0,g1,hz9⟩:=P9.out.cells);refine bodyPost_ret (v:=?_) (by simp [results,Tryz.results52,go_sem,z0,z1];rfl) rfl ?_;rw [HV3.out];first
      | exact ⟨ra,⟨rc,rfl⟩,P9.out.done HO9.out hz⟩
      | exact ⟨ra,rc,rfl,P9.out.done HO9.out hz⟩
   | false=>
     rw [hcb,if_neg (by simp)] at HV3;clear hcb x0 x1 x2 x3 x4 x5 y0 y1 m0 m1 m2 m3 hz;have dx:=fun x:pA w5=>(P.out.later x.h).cells;have dm:=fun x:pA w5=>(A.out.later x.h).X.c4;simp only [forall_and] at dx dm;obtain ⟨dx0,dx1,dx2,dx3,dx4,dx5,-⟩:=dx;obtain ⟨dm0,dm1,dm2,dm3⟩:=dm;have HC2:=iA (fun y:pA w5=>HCT.out y.w' (bC key) q1 q2 e1 e2 (A.out.P.pairs.later y.h) ((lC A.out.R).pairs.later y.h));have hnel:=pA.there w5;generalize sE c tn (bC key)=CV at *;obtain ⟨n2,l2⟩:=CV;generalize hmk:bC key=mk at *;clear hmk HCT;go_wp2_with fail;refine fA (by kernel_rfl) (by kernel_rfl) ?_;repeat (go_big_quiet_step (first | (go_at_call 101;exact oA (HMT.out _)) | (go_at_call 100;exact oA (HC2.out _)) | fail))
     refine wpQuiet_nil ?_;rintro _ ⟨y,rfl⟩;replace P:=iA (P.out.later y.h);replace A:=iA (A.out.later y.h);have hs56:=y.h.size;clear dx0 dx1 dx2 dx3 dx4 dx5 dm0 dm1 dm2 dm3 hnel HC2 HMT;generalize y.w'=w6 at *;clear y;obtain ⟨m0,m1,m2,m3⟩:=A.out.X.c4;obtain ⟨x0,x1,x2,x3,x4,x5,y0,y1,-,-,-,-,hz⟩:=P.out.cells;by_cases hme:l2≤n2
     ·have E:Hid (V=(now,ts,4)):=by show _=_;rw [HV3.out,if_pos hme]
      go_wp2_with (go_at_call 51;refine (H.out.sm _ P.out.B).mono ?_;rintro e w9 ⟨ra,rc,rfl,ho,hb⟩;have P9:=iA (P.out.later hb);have HO9:=iA ho;clear ho hb x0 x1 x2 x3 x4 x5 y0 y1;obtain ⟨-,-,-,-,-,-,-,-,z0,z1,g0,g1,hz9⟩:=P9.out.cells);refine bodyPost_ret (v:=?_) (by simp [results,Tryz.results52,go_sem,z0,z1];rfl) rfl ?_;rw [E.out];first
       | exact ⟨ra,⟨rc,rfl⟩,P9.out.done HO9.out hz⟩
       | exact ⟨ra,rc,rfl,P9.out.done HO9.out hz⟩
     have E:Hid (V=(now,tA (·.name) (pE tn key now) ts,2)):=by show _=_;rw [HV3.out,if_neg hme]
     clear HV3 x0 x1 x2 x3 x4 x5 y1 m0 m1 m2 HID;go_wp2;go_loopw [15] (fun i wr=>∃j:Nat,j≤tn.sers.length∧i=.int .i64 j∧Hid (∀i (h:i<tn.sers.length),i<j→nG tn.sers[i].s key=true)∧w6=wr) (fun i _=>tn.sers.length - (intOf i).toNat)
     case atStart=>exact ⟨0,Nat.zero_le _,rfl,(fun i _ hi=>absurd hi (by omega)),rfl⟩
     case round=>
      obtain ⟨j,hj,rfl,HJ,hw⟩:=hrel;subst hw;have hcs:(∃h:j<tn.sers.length,nG tn.sers[j].s key=true)∨((¬(j:Int)<tn.sers.length∧j=tn.sers.length)∨∃h:j<tn.sers.length,Op.bytesLess tn.sers[j].s.toList key.toList=false)∧tA (·.s) ⟨key,now⟩ tn.sers=tn.sers.take j++⟨key,now⟩:: tn.sers.drop j:=by
       by_cases hjl:j<tn.sers.length
       ·cases hbl:nG tn.sers[j].s key
        ·exact Or.inr ⟨Or.inr ⟨hjl,hbl⟩,kq hj (fun i h hi=>HJ.out i h hi) (fun _=>hbl) HNO.out⟩
        ·exact Or.inl ⟨hjl,hbl⟩
       ·exact Or.inr ⟨Or.inl ⟨by omega,by omega⟩,kq hj (fun i h hi=>HJ.out i h hi) (fun h=>absurd h hjl) HNO.out⟩
      rcases hcs with ⟨hjl,hbl⟩ | ⟨hx,hcut⟩
      ·obtain ⟨g,rfl⟩:=WH A.out.R (by omega);obtain ⟨pb,po,ep,hpl,v0,-⟩:=((lC A.out.R).pairs).at hjl;simp only [Option.some.injEq,Addr.mk.injEq,and_true] at ep;obtain ⟨rfl,rfl⟩:=ep;rw [Nat.zero_add] at v0;have hq2:Op.bytesLess tn.sers[j].s.toList key.toList=true:=hbl;have HJ2:Hid (∀i (h:i<tn.sers.length),i<j+1→nG tn.sers[i].s key=true):=fun i h hi=>by
        by_cases e:i=j
        ·subst e;exact hbl
        ·exact HJ.out i h (by omega)
       clear hbl;generalize tn.sers[j].s=kk at *;go_wp2;exact ⟨⟨j+1,by omega,by go_num,HJ2.out,by first | rfl | trivial⟩,by simp [intOf];omega⟩
      have HQ2:Hid (flatK (tA (·.s) ⟨key,now⟩ tn.sers)=flatK (tn.sers.take j)++[.string key,.int .i64 now]++flatK (tn.sers.drop j)∧(tA (·.s) (⟨key,now⟩:gA) tn.sers).length=j+1+(tn.sers.length - j)):=by
       refine iA ?_;rw [hcut];refine ⟨?_,by simp;omega⟩;rw [show tn.sers.take j++(⟨key,now⟩:gA):: tn.sers.drop j=(tn.sers.take j++[(⟨key,now⟩:gA)])++tn.sers.drop j by simp,xQ,xQ];rfl
      have hl1:(tn.sers.take j).length=j:=by simp;omega
      have hl2:(tn.sers.drop j).length=tn.sers.length - j:=by simp
      have hX6:=aA A.out.X;clear hcut;have hc3:(q2=none∧e2=0∧tn.sers.length=0∧j=0)∨∃g,q2=some ⟨g,0,none⟩∧((¬(j:Int)<tn.sers.length∧j=tn.sers.length)∨∃h:j<tn.sers.length,Op.bytesLess tn.sers[j].s.toList key.toList=false):=by
       rcases aPe A.out.R with ⟨h1,h2,h3⟩ | ⟨g,h1⟩
       ·exact Or.inl ⟨h1,h2,h3,by omega⟩
       ·exact Or.inr ⟨g,h1,hx⟩
      clear hx;rcases hc3 with ⟨rfl,rfl,hz0,rfl⟩ | ⟨g,rfl,hx⟩
      rotate_left;have HSH:=iA (fun W (hW:Below w6.heap.size w6 W)=>aNi (yA A.out.R hW) hj);have hce:=aMz A.out.R;have hje:j≤e2:=by omega
      rcases hx with ⟨hjn,-⟩ | ⟨hjl,hq2⟩
      rcases Decidable.em (e2=j) with he | he
      all_goals first
       | (have q:=hz0;rw [hz0] at m3;go_upto_region 23 with fail;obtain ⟨-,-,-,xa3⟩:=(A.out.X.alloc (.cells #[] 151)).c4;rw [hz0] at xa3)
       | (have q:=hjn;go_upto_region 23 with fail;obtain ⟨-,-,-,xa3⟩:=(A.out.X.alloc (.cells #[] 151)).c4)
       | (obtain ⟨pb,po,ep,hpl,v0,-⟩:=((lC A.out.R).pairs).at hjl;simp only [Option.some.injEq,Addr.mk.injEq,and_true] at ep;obtain ⟨rfl,rfl⟩:=ep;rw [Nat.zero_add] at v0;generalize tn.sers[j].s=kk at *;go_upto_region 23 with fail;clear v0 hq2 hpl;obtain ⟨-,-,-,xa3⟩:=(A.out.X.alloc (.cells #[] 151)).c4)
      all_goals
       clear m3;go_upto_region 24 with (at_builtin;refine aLi rfl _ _ rfl rfl _ rfl hl1 (by first | exact (HSH.out _ (bA _ _)).1 | exact Or.inl rfl) (by omega) ?_;intro g8 cap8 w8 O8 B8;clear y0 xa3;obtain ⟨-,-,-,-,-,-,y0,-⟩:=(P.out.later B8.out).cells)
       have hs8:=B8.out.size;go_upto_region 25 with (at_builtin;refine aW rfl _ _ rfl Tryz.underlying93 EZ rfl (by omega) (by omega) rfl O8.out rfl rfl rfl (by simp [Value.oneCell']) (by omega) hs8 ?_;intro g10 cap10 w10 O10 T10;have B10:=iA (B8.out.trans (T10.out.below hs8 fun i hi e=>by omega));clear y0;obtain ⟨-,-,-,m3⟩:=(A.out.X.later B10.out).c4;try rw [hz0] at m3)
       have hs10:=B10.out.size;go_upto_region 26 with (at_builtin;first
        | (refine RF rfl _ _ rfl rfl O10.out (tn.sers.drop j) rfl hl2 (by first | exact (HSH.out _ B10.out).2 | exact Or.inl (by omega)) (by omega) hs10 ?_;intro g12 cap12 w12 O12 B12;have B612:=iA (B10.out.trans B12.out);have HA:=iA (aBs A.out P.out HQ.out.2.2 hXP B612.out O12.out HQ2.out.1 (by have:=HQ2.out.2;omega));clear m3;obtain ⟨m0,m1,m2,m3⟩:=(A.out.X.later B612.out).c4;(try rw [hz0] at m3);have f3:=(A.out.X.later B612.out).free 3)
        | (refine RF rfl _ _ rfl rfl O10.out (tn.sers.drop 0) rfl (by rw [hl2];omega) (Or.inl rfl) (by omega) hs10 ?_;intro g12 cap12 w12 O12 B12;have B612:=iA (B10.out.trans B12.out);have HA:=iA (aBs A.out P.out HQ.out.2.2 hXP B612.out O12.out HQ2.out.1 (by have:=HQ2.out.2;omega));clear m3;obtain ⟨m0,m1,m2,m3⟩:=(A.out.X.later B612.out).c4;(try rw [hz0] at m3);have f3:=(A.out.X.later B612.out).free 3))
       obtain ⟨x0,x1,x2,x3,x4,x5,y0,y1,-,-,-,-,-⟩:=(P.out.later B612.out).cells;go_wp2_with fail;refine (H.out.wn HKA.out rfl (by have:=HQ2.out.2;omega) HA.out.2.2.2.B HA.out.2.1 HA.out.2.2.1 HFI.out).mono ?_;rintro e w9 ⟨ra,rc,rfl,ho,hb⟩;have P9:=iA (HA.out.2.2.2.later hb);have HO9:=iA ho;have HZ:=iA HA.out.2.2.2.lt;clear ho hb x0 x1 x2 x3 x4 x5 y0 y1 m0 m1 m2 m3 f3 HA;obtain ⟨-,-,-,-,-,-,-,-,z0,z1,g0,g1,hz9⟩:=P9.out.cells;generalize tA (·.name) (pE tn key now) ts=RL at *;go_wp2;refine bodyPost_ret (v:=?_) (by simp [results,Tryz.results52,go_sem,z0,z1];rfl) rfl ?_;rw [E.out];first
        | exact ⟨ra,⟨rc,rfl⟩,P9.out.done HO9.out HZ.out⟩
        | exact ⟨ra,rc,rfl,P9.out.done HO9.out HZ.out⟩
theorem JG (c:eC) (now:Int) (a:Option Addr) (cap:Nat) (ts:List cA) (tenant key:ByteArray) (w:World) (hf:pB w a ts) (hbk:ts.length+nA ts≤1100000) (hn:tenant.size≤1100000) (hk:key.size≤1100000) (h0:vB c now ts=true):
 Calls Tryz.prog 52 #[wG c,.agg #[.int .i64 now,.slice a ts.length cap],.string tenant,.string key] w fun e w'=>RH (rY c now ts tenant key) w e w':=by
 cases hb:(dC tenant&&yF key) with
 | false=>
   rw [show rY c now ts tenant key=(now,ts,5) by unfold rY;rw [if_neg (by rw [h0];simp),if_pos hb]];exact JH c now a cap ts tenant key w hf hbk hn hk h0 hb
 | true=>
   have hb2:=hb;rw [Bool.and_eq_true] at hb2;obtain ⟨hcf,hn0,hn1,-,htens⟩:=gH h0;have hcw:1≤c.w:=by simp only [jH,Bool.and_eq_true] at hcf;exact (yH hcf.1.1.1.1.1).1
   have S:=aNx (cap:=cap) hf hbk hn h0 hb2.1;refine QC S hk hb2.2 (MO (rW hbk) hn).2.2.1 (ZN htens (yO htens) hcw) ?_ (by show _=_;unfold rY;rw [if_neg (by rw [h0];simp),if_neg (by rw [hb];simp)];rfl);have hil:=bX (key:=fun p:gA=>p.s) (a:=⟨key,now⟩) (xA ts tenant).sers;have hl:=S.len;refine ⟨S.fit.1,by show (tA (·.s) (⟨key,now⟩:gA) (xA ts tenant).sers).length≤_;omega,fun i h=>?_⟩;rcases pH (List.getElem_mem h) with e | e
   ·show 0≤((tA (·.s) (⟨key,now⟩:gA) (xA ts tenant).sers)[i]'h).n∧_;rw [e];exact ⟨hn0,by show now≤_;omega⟩
   ·obtain ⟨j,hj,e'⟩:=List.getElem_of_mem e;have:=S.fit.2.2 j hj;rw [e'] at this;exact this
end Go.Proofs.YtcneojllbkacoaaGreatDoor
