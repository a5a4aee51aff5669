import Derived.Test.YtcneojllbkacoaaGreatDoorJ43NapV
import Derived.Test.YtcneojllbkacoaaGreatDoorJ37IBat
set_option maxRecDepth 100000
set_option maxHeartbeats 16000000
namespace Go.Proofs.YtcneojllbkacoaaGreatDoor
open Go.RowKit
theorem YB {x lo hi:Int} (h:mA x lo hi=true):lo≤x∧x≤hi:=by simpa [mA] using h
structure NP (w W:World) (c:eC) (cs:Array Value):Prop where
 C:lA W w.heap.size #[.int .i64 c.w,.int .i64 c.tl,.int .i64 c.ml,.int .i64 c.sh,.int .i64 c.ha,.int .i64 c.sg] 48
 N:lA W (w.heap.size+1) cs 45
 R:lA W (w.heap.size+1+1) (tD none 0 none 0 bQ) 45
 B:Below w.heap.size w W
section
variable {w W W':World}{c:eC}{cs cs':Array Value}
theorem NP.new:NP w (((w.alloc (.cells #[.int .i64 c.w,.int .i64 c.tl,.int .i64 c.ml,.int .i64 c.sh,.int .i64 c.ha,.int .i64 c.sg] 48)).alloc (.cells cs 45)).alloc (.cells (tD none 0 none 0 bQ) 45)) c cs:=
 ⟨((lA.new _ _ _).alloc _).alloc _,by have:=(lA.new (w.alloc (.cells #[.int .i64 c.w,.int .i64 c.tl,.int .i64 c.ml,.int .i64 c.sh,.int .i64 c.ha,.int .i64 c.sg] 48)) cs 45).alloc (.cells (tD none 0 none 0 bQ) 45);simpa using this,
   by have:=lA.new ((w.alloc (.cells #[.int .i64 c.w,.int .i64 c.tl,.int .i64 c.ml,.int .i64 c.sh,.int .i64 c.ha,.int .i64 c.sg] 48)).alloc (.cells cs 45)) (tD none 0 none 0 bQ) 45;simpa using this,rA (rA (bA _ _) (bA _ _)) (bA _ _)⟩
theorem NP.later (h:NP w W c cs) (hb:Below W.heap.size W W'):NP w W' c cs:=⟨h.C.later hb,h.N.later hb,h.R.later hb,rA h.B hb⟩
theorem NP.put (h:NP w W c cs) (hb:lA W' (w.heap.size+1) cs' 45) (ht:dA (·=w.heap.size+1) W W'):NP w W' c cs':=
 ⟨ht.blk h.C (by omega),hb,ht.blk h.R (by omega),h.B.trans (ht.below h.B.size fun k hk e=>by omega)⟩
theorem NP.lt (h:NP w W c cs):w.heap.size+1+1<W.heap.size:=aA h.R
theorem NP.cells (h:NP w W c cs) (hs:cs.size=14):W.cell? ⟨w.heap.size,0,none⟩=some (.int .i64 c.w)∧W.cell? ⟨w.heap.size,1,none⟩=some (.int .i64 c.tl)∧W.cell? ⟨w.heap.size,2,none⟩=some (.int .i64 c.ml)∧W.cell? ⟨w.heap.size,3,none⟩=some (.int .i64 c.sh)∧W.cell? ⟨w.heap.size,4,none⟩=some (.int .i64 c.ha)∧W.cell? ⟨w.heap.size,5,none⟩=some (.int .i64 c.sg)∧lA W (w.heap.size+1) cs 45∧XW W (w.heap.size+1)∧XW W (w.heap.size+1+1)∧w.heap.size<W.heap.size∧w.heap.size+1<W.heap.size∧w.heap.size+1+1<W.heap.size∧¬w.heap.size=W.heap.size∧¬w.heap.size+1=W.heap.size∧¬w.heap.size+1+1=W.heap.size:=
 have:=h.lt
 ⟨h.C.cell 0,h.C.cell 1,h.C.cell 2,h.C.cell 3,h.C.cell 4,h.C.cell 5,h.N,h.N.box hs,h.R.box rfl,by omega,by omega,this,by omega,by omega,by omega⟩
end
theorem RZ {rs:List pC} (h:uB rs≤1048576):aNy rs:=fun i hi=>by
 have h1:=bK rs i hi;have h2:=nM rs (i+1);omega
theorem aEx:(Tryz.prog.info? 45).map (·.size)=some 14:=by kernel_rfl
theorem aJu {fn:Func}{a:Act}{W:World}{R:Nat}{cs:Array Value}{T:TypeId}{x:Int} (h:fn.results=#[.cell 6 45,.tmp 7]) (h6:a.tmps.getD 6 undef=.pointer (some ⟨R,0,none⟩)) (h7:a.tmps.getD 7 undef=.int .i64 x) (hW:lA W R cs T) (hc:C14 cs):(results fn a.tmps).run Tryz.prog W=.ok (.tuple #[.agg cs,.int .i64 x]) W:=by
 have:=run_loadVar_row (P:=Tryz.prog) W R T 45 cs (0,0) _ hW Tryz.underlying45 rfl (by rw [aEx,hc.size]);simp at h6 h7;simp [results,h,h6,h7,asAddr,this]
set_option maxRecDepth 100000
set_option maxHeartbeats 8000000
theorem CU (c:eC) (now:Int) (a:Option Addr) (cap:Nat) (ts:List cA) (tenant metric:ByteArray) (limit:Int) (w:World) (hf:pB w a ts) (hbk:ts.length+nA ts≤1100000) (hn:tenant.size≤1100000) (hm:metric.size≤1100000) (h0:vB c now ts=true)
 (hr:(dC tenant&&(metric.toList.isEmpty||oD metric) &&mA limit (-1) 1000000)=false):
 Calls Tryz.prog 54 #[wG c,.agg #[.int .i64 now,.slice a ts.length cap],.string tenant,.string metric,.int .i64 limit] w fun e w'=>qR (now,ts,false) w e w':=by
 obtain ⟨f1,f2,f3,f4⟩:=kS hbk;have HO:=iA (fun W (hW:Below w.heap.size w W)=>aJ c now a cap ts W (hf.later hW) f2 (by omega));have HTN:=iA (fun W=>jI tenant W (by unfold maxLen;omega));have HMN:=iA (fun W=>yK metric W (by omega));have HLB:=iA (fun W=>sC limit (-1) 1000000 W);have HSM:=iA (fun W (hW:Below w.heap.size w W)=>aO c now a cap ts W (hf.later hW) h0 hbk);rw [h0] at HO;clear hf hbk f1 f2 f3 f4 h0;unfold wG at *;have P0:=iA (qT.new (w:=w) (c:=c) (now:=now) (a:=a) (n:=ts.length) (cap:=cap));go_enter Tryz.func54,Tryz.ntmps54;go_wp2_with fail;refine (HO.out _ P0.out.B).mono ?_;rintro e wv ⟨rfl,hb⟩;have P:=iA (P0.out.later hb);clear hb P0 HO;obtain ⟨x0,x1,x2,x3,x4,x5,y0,y1,z0,z1,g0,g1,hz⟩:=P.out.cells;have hcs:dC tenant=false∨(dC tenant=true∧metric.toList.isEmpty=false∧oD metric=false)∨(dC tenant=true∧metric.toList.isEmpty=true∧mA limit (-1) 1000000=false)∨(dC tenant=true∧metric.toList.isEmpty=false∧oD metric=true∧mA limit (-1) 1000000=false):=by
  revert hr;cases dC tenant<;>cases metric.toList.isEmpty<;>cases oD metric<;>cases mA limit (-1) 1000000<;>simp
 clear hr;rcases hcs with k1 | ⟨k1,k2,k3⟩ | ⟨k1,k2,k4⟩ | ⟨k1,k2,k3,k4⟩
 all_goals
  rw [k1] at HTN;try rw [k3] at HMN
  try rw [k4] at HLB
  go_wp2_with (first
   | (go_at_call 93;refine (HTN.out _).mono ?_;rintro e w' ⟨rfl,hw⟩;subst hw)
   | (go_at_call 22;refine (HLB.out _).mono ?_;rintro e w' ⟨rfl,hw⟩;subst hw)
   | (go_at_call 95;refine (HMN.out _).mono ?_;rintro e w5 ⟨rfl,hb⟩;replace P:=iA (P.out.later hb);clear hb x0 x1 x2 x3 x4 x5 y0 y1 z0 z1 g0 g1 hz;obtain ⟨x0,x1,x2,x3,x4,x5,y0,y1,z0,z1,g0,g1,hz⟩:=P.out.cells))
  refine (HSM.out _ P.out.B).mono ?_;rintro e w9 ⟨ra,rc,rfl,ho,hb⟩;have P9:=iA (P.out.later hb);have HO9:=iA ho;clear ho hb x0 x1 x2 x3 x4 x5 y0 y1 z0 z1 g0 g1 HSM HTN HMN HLB;obtain ⟨_,_,_,_,_,_,_,_,z0,z1,g0,g1,hz9⟩:=P9.out.cells;go_wp2;refine bodyPost_ret (v:=.tuple #[.agg #[.int .i64 now,.slice ra ts.length rc],.bool false]) (by simp [results,Tryz.results54,go_sem,z0,z1]) rfl ?_;have hd:=P9.out.done (v:=now) (rc:=rc) HO9.out hz;first
   | exact ⟨ra,⟨rc,rfl⟩,hd⟩
   | exact ⟨ra,rc,rfl,hd⟩
theorem aMu (t:gA) (b:Bool) (ps:List gA) (hr:oB (·.s) ps):(VY t b ps).length≤ps.length+1:=by
 cases b with
 | true=>
   rw [uO];have:(aD (·.s) t.s ps).length≤ps.length:=List.length_filter_le _ _;omega
 | false=>rw [VZ hr];exact bX _
theorem aMv (t p:gA) (l:List gA) (b:Bool):b=true∧(p.s.toList==t.s.toList)=true∧jG t (l,b) p=(l,true)∨b=true∧(p.s.toList==t.s.toList)=false∧jG t (l,b) p=(l++[p],true)∨
 b=false∧(p.s.toList==t.s.toList)=false∧(t.s.toList==p.s.toList)=false∧Op.bytesLess t.s.toList p.s.toList=false∧jG t (l,b) p=(l++[p],false)∨b=false∧(p.s.toList==t.s.toList)=false∧Op.bytesLess t.s.toList p.s.toList=true∧jG t (l,b) p=(l++[t]++[p],true)∨
 b=false∧(p.s.toList==t.s.toList)=true∧(t.s.toList==p.s.toList)=true∧Op.bytesLess t.s.toList p.s.toList=false∧jG t (l,b) p=(l++[t],true):=by
 cases b with
 | true=>cases h:(p.s.toList==t.s.toList)<;>simp [jG,h]
 | false=>
   by_cases h1:nG p.s t.s=true
   ·have hs:=iC (cG h1);exact Or.inr (Or.inr (Or.inl ⟨rfl,hs,iC (cG h1).symm,eT h1,by simp [jG,h1,hs]⟩))
   ·have h1':nG p.s t.s=false:=by simpa using h1
    by_cases h2:nG t.s p.s=true
    ·have hs:=iC (cG h2).symm;exact Or.inr (Or.inr (Or.inr (Or.inl ⟨rfl,hs,h2,by simp [jG,h1',hs]⟩)))
    ·have he:=Decidable.byContradiction fun hne=>h2 (rP h1' hne);have hs:=(rC _ _).2 he;exact Or.inr (Or.inr (Or.inr (Or.inr ⟨rfl,hs,(rC _ _).2 he.symm,by simpa [nG] using h2,by simp [jG,h1',hs]⟩)))
theorem aCt {w w3 W:World}{c:eC}{now:Int}{a:Option Addr}{n cap X:Nat}{v0 v1 v2:Value}{q1 q2 va:Option Addr}{e2 vc n':Nat}{ms ss ys:List gA} (hn:ys.length=n') (P:qT w w3 c now a n cap) (XB:lA w3 X #[v0,v1,v2,.slice q2 ss.length e2] 95) (hX:w.heap.size+1+1<X) (hPI:∀W,dA (·=X) w3 W→sA W q1 ms∧sA W q2 ss) (hW:Below w3.heap.size w3 W) (HR:W.ownsRow w3.heap.size 149 2 (.slice va n' vc) n' (flatK ys)):
 lA (W.setCell ⟨X,2,none⟩ (.slice va n' vc)) X #[v0,v1,.slice va n' vc,.slice q2 ss.length e2] 95∧sA (W.setCell ⟨X,2,none⟩ (.slice va n' vc)) va ys∧sA (W.setCell ⟨X,2,none⟩ (.slice va n' vc)) q2 ss∧qT w (W.setCell ⟨X,2,none⟩ (.slice va n' vc)) c now a n cap:=by
 subst hn;have hT:dA (·=X) W (W.setCell ⟨X,2,none⟩ (.slice va ys.length vc)):=(dA.refl (·=X) W).setCell (Or.inl rfl) 2 _;have hx:=aA XB;exact ⟨by have:=(XB.later hW).set 2 (.slice va ys.length vc);simpa using this,(lC (hT.row HR (fun q hq e=>by have:=(HR.lt q hq).1;omega))).pairs,(hPI _ ((dA.of hW).trans' hT)).2,(P.later hW).turn hT hX⟩
theorem CT {c:eC}{now:Int}{a:Option Addr}{cap:Nat}{ts:List cA}{tenant metric:ByteArray}{limit:Int}{w:World}{tn:cA}{V:Int×List cA×Bool} (H:Hid (SC w c now a cap ts tenant tn)) (hm:metric.size≤1100000) (hmt:metric.toList.isEmpty=true∨metric.toList.isEmpty=false∧oD metric=true) (hlb:mA limit (-1) 1000000=true)
 (HV:Hid (V=if 10000<(mC c.w now (tA (·.name) (cF tn metric limit) ts)).length then (now,ts,false) else (now,mC c.w now (tA (·.name) (cF tn metric limit) ts),true))):
 Calls Tryz.prog 54 #[wG c,.agg #[.int .i64 now,.slice a ts.length cap],.string tenant,.string metric,.int .i64 limit] w fun e w'=>qR V w e w':=by
 have HMN:=iA (fun W=>yK metric W (by omega));have P:=iA (qT.new (w:=w) (c:=c) (now:=now) (a:=a) (n:=ts.length) (cap:=cap));obtain ⟨hml,hsl⟩:=H.out.len;obtain ⟨hn0,hn1⟩:=H.out.now0;unfold qR wG;go_enter Tryz.func54,Tryz.ntmps54;go_wp2_with fail;refine (H.out.ok _ P.out.B).mono ?_;rintro e wv ⟨rfl,hb⟩;replace P:=iA (P.out.later hb);clear hb;go_upto_region 3 with fail;go_cut [39] (fun b wx=>b=.bool false∧qT w wx c now a ts.length cap)
 case first=>
  rcases hmt with k2 | ⟨k2,k3⟩
  all_goals
   go_wp2_with (first
    | (go_at_call 93;refine (H.out.nm _).mono ?_;rintro e w' ⟨rfl,hw⟩;subst hw)
    | (go_at_call 22;refine (gC hlb _).mono ?_;rintro e w' ⟨rfl,hw⟩;subst hw)
    | (go_at_call 95;refine (HMN.out _).mono ?_;rintro e w5 ⟨rfl,hb⟩;replace P:=iA (P.out.later hb);clear hb))
   go_meet;exact ⟨by simp,P.out⟩
 clear P HMN;obtain ⟨rfl,hP⟩:=hcut;rename World=>wv;have P:=iA hP;have HK:=iA hP.kin;obtain ⟨vy0,vy1,vx0⟩:=hP.kin wv (Below.refl _ _);have hsv:=hP.lt;clear hP;go_upto_region 5 with fail;go_cut [12] (fun p wx=>∃X,p=.pointer (some ⟨X,0,none⟩)∧KX wv X tn wx)
 case first=>
  go_region_held3 (fun w'=>w'.cell? ⟨w.heap.size+1,0,none⟩=some (.int .i64 now)∧w'.cell? ⟨w.heap.size+1,1,none⟩=some (.slice a ts.length cap)∧w'.cell? ⟨w.heap.size,0,none⟩=some (.int .i64 c.w))
   (first | go_keep | with_reducible exact HK.out _ (QA k4 (Nat.le_refl _)) | with_reducible exact HK.out _ (QA k4 k3.size) | with_reducible exact HK.out _ k4 | with_reducible exact HK.out _ k3 | with_reducible exact HK.out _ (rA k3 (bA _ _)) | with_reducible exact HK.out _ ((bA _ _).drew) | with_reducible exact HK.out _ (rA k4 (bA _ _)))
   (first
    | (go_at_call 99;refine (H.out.te _ (by with_reducible exact P.out.B.drew)).mono ?_;rintro e w3 ⟨⟨a1,c1,a2,c2,rfl,p1,p2⟩,hb3⟩;have k3:Below wv.heap.size wv w3:=(by with_reducible exact rA (Below.refl _ _).drew hb3);have c3:=HK.out _ k3)
    | (go_at_call 99;refine (H.out.te _ (by with_reducible exact (rA P.out.B (bA _ _)).drew)).mono ?_;rintro e w3 ⟨⟨a1,c1,a2,c2,rfl,p1,p2⟩,hb3⟩;have k3:Below wv.heap.size wv w3:=(by with_reducible exact rA ((bA _ _).drew) hb3);have c3:=HK.out _ k3;have hX3:lA w3 wv.heap.size #[.string ⟨#[]⟩,.int .i64 0,.slice none 0 0,.slice none 0 0] 95:=JX hb3)
    | (have q:=hX3;clear q;go_at_call 98;refine (H.out.kp _ a1 a2 c1 c2 (by with_reducible exact p1) (by with_reducible exact p2)).mono ?_;rintro e w4 ⟨M,q1,e1,q2,e2,rfl,hM,h1,h1M,h2,hM4,hb4⟩;have k4:Below wv.heap.size wv w4:=(by with_reducible exact rA k3 hb4);have c4:=HK.out _ k4;have BX4:=iA (hX3.later hb4);obtain ⟨s0,s1,s2,s3⟩:=BX4.out.c4;have f0:=BX4.out.free)
    | ((fail_if_success (have q:=hX3));go_at_call 98;refine (H.out.kp _ a1 a2 c1 c2 (by with_reducible exact p1) (by with_reducible exact p2)).mono ?_;rintro e w4 ⟨M,q1,e1,q2,e2,rfl,hM,h1,h1M,h2,hM4,hb4⟩;have k4:Below wv.heap.size wv w4:=(by with_reducible exact rA k3 hb4);have c4:=HK.out _ k4)
    | (go_at_call 98;refine (H.out.kp _ a1 a2 c1 c2 (by with_reducible exact p1.later (bA _ _)) (by with_reducible exact p2.later (bA _ _))).mono ?_;rintro e w4 ⟨M,q1,e1,q2,e2,rfl,hM,h1,h1M,h2,hM4,hb4⟩;have k4:Below wv.heap.size wv w4:=(by with_reducible exact rA (rA k3 (bA _ _)) hb4);have c4:=HK.out _ k4;have BX4:Hid (lA w4 w3.heap.size #[.string ⟨#[]⟩,.int .i64 0,.slice none 0 0,.slice none 0 0] 95):=iA ((lA.new w3 _ _).later hb4);obtain ⟨s0,s1,s2,s3⟩:=BX4.out.c4;have f0:=BX4.out.free))
  all_goals (go_wp2_with fail;go_meet)
  all_goals first
   | with_reducible exact ⟨_,rfl,aOn h1 (lC h2) k4⟩
   | exact ⟨_,rfl,aJd h1 (lC h2) (by have:=aA hX3;omega) hM (Nat.le_refl _) BX4.out k4⟩
   | exact ⟨_,rfl,aJd h1 (lC h2) (by simp) hM k3.size BX4.out k4⟩
 obtain ⟨X,rfl,q1,e1,q2,e2,hXb,hPI,hXw,hb3⟩:=hcut;rename World=>w3;replace P:=iA (P.out.later hb3);have XB:=iA hXb;have HPI:=iA hPI;have hX3:=aA hXb;have hXP:w.heap.size+1+1<X:=by omega
 clear HK vy0 vy1 vx0 hXb hPI hb3;obtain ⟨-,-,g2,-⟩:=XB.out.c4;go_upto_if 52 with fail;go_cut [13,14] (fun _ _ wx=>∃L ms n1 p1 d1,List.length ms=n1∧cF tn metric limit=⟨tn.name,L,ms,tn.sers⟩∧ms.length≤1100001∧lA wx X #[.string tn.name,.int .i64 L,.slice p1 n1 d1,.slice q2 tn.sers.length e2] 95∧sA wx p1 ms∧sA wx q2 tn.sers∧qT w wx c now a ts.length cap)
 case first=>
  cases hme:metric.toList.isEmpty with
  | true=>
    have HLM:=iA hme;obtain ⟨-,g1,-,-⟩:=XB.out.c4;have f1:=XB.out.free;go_wp2;go_meet;have hT:dA (·=X) w3 (w3.setCell ⟨X,1,none⟩ (.int .i64 limit)):=(dA.refl (·=X) w3).setCell (Or.inl rfl) 1 _;exact ⟨limit,tn.mets,_,q1,e1,rfl,by unfold cF;rw [if_pos HLM.out],by omega,by have:=XB.out.set 1 (.int .i64 limit);simpa using this,(HPI.out _ hT).1,(HPI.out _ hT).2,P.out.turn hT hXP⟩
  | false=>
    have HLA:=iA (aJm (limit:=limit) H.out.rm hme);have HLE:=iA (fun b=>aMu ⟨metric,limit⟩ b _ H.out.rm);have L4:Hid ((w3.alloc (.cells #[] 149)).ownsRow w3.heap.size 149 2 (.slice (some ⟨w3.heap.size,0,none⟩) 0 0) 0 []):=iA (World.ownsRow_made w3 #[] 0 (Nat.le_refl _) (by simp [maxLen]) (by simp));have B4:=iA (bA w3 (.cells #[] 149));obtain ⟨-,-,g4,-⟩:=(XB.out.alloc (.cells #[] 149)).c4;have HP1:=iA (HPI.out _ (dA.refl _ _)).1;go_upto_region 10 with fail;generalize (w3.alloc (.cells #[] 149))=w4 at *;generalize decide (limit<0)=b0 at *;go_wp2;clear g4;go_loopw [13,14,16,61] (fun al pl _ i wr=>∃(k:Nat) (va:Option Addr) (vc:Nat) (ys:List gA),k≤tn.mets.length∧i=.int .i64 k∧al=.slice va ys.length vc∧pl=.bool (sR ⟨metric,limit⟩ b0 (tn.mets.take k)).2∧ys.length≤2 * k∧Hid (ys=(sR ⟨metric,limit⟩ b0 (tn.mets.take k)).1)∧Hid (wr.ownsRow w3.heap.size 149 2 (.slice va ys.length vc) ys.length (flatK ys))∧Hid (Below w3.heap.size w3 wr)) (fun _ _ _ i _=>tn.mets.length - (intOf i).toNat)
    case atStart=>exact ⟨0,_,_,[],Nat.zero_le _,rfl,rfl,rfl,Nat.zero_le _,rfl,L4.out,B4.out⟩
    case round=>
     obtain ⟨k,va,vc,ys,hk,rfl,rfl,rfl,hyl,HYM,HR,HBL⟩:=hrel;have hsr:=HBL.out.size;by_cases hlt:k<tn.mets.length
     ·obtain ⟨pb,po,rfl,hpl,v0,v1⟩:=(HP1.out.later HBL.out).at hlt;have HU:=iA (aAi ⟨metric,limit⟩ b0 tn.mets k hlt);generalize sR ⟨metric,limit⟩ b0 (tn.mets.take k)=U at *;generalize tn.mets[k]=p at *;obtain ⟨LU,PU⟩:=U;have hy:ys=LU:=HYM.out;subst hy;rcases aMv ⟨metric,limit⟩ p ys PU with ⟨rfl,hs,hU⟩ | ⟨rfl,hs,hU⟩ | ⟨rfl,hs,h1,h2,hU⟩ | ⟨rfl,hs,h2,hU⟩ | ⟨rfl,hs,h1,h2,hU⟩
      all_goals
       have HU2:=iA (HU.out.trans hU);clear HYM HU hU;dsimp only at hs;try dsimp only at h1
       try dsimp only at h2
       go_wp2_with (at_builtin;first
        | (refine aW rfl _ _ rfl Tryz.underlying92 aX rfl (by omega) (by omega) (v:=.slice (some ⟨g7,0,none⟩) (ys.length+1) cap7) rfl HR7.out rfl rfl rfl (by simp [Value.oneCell']) (by omega) (by omega) ?_;intro g8 cap8 w8 HR8 HT8)
        | (refine aW rfl _ _ rfl Tryz.underlying92 aX rfl (by omega) (by omega) (v:=.slice va ys.length vc) rfl (yA HR.out (bA _ _)) rfl (by simp) rfl (by simp [Value.oneCell']) (by omega) (by simp;omega) ?_;intro g7 cap7 w7 HR7 HT7;have hs7:w3.heap.size≤w7.heap.size:=(by have:=HT7.out.size;simp at this;omega);obtain ⟨r0,r1⟩:=(HT7.out.blk (lA.new wr #[.string p.s,.int .i64 p.n] 149) (fun e=>by have:=(HR.out.lt _ e.2).2;omega)).c2))
       first
        | (have q:=HR8;exact ⟨⟨k+1,some ⟨g8,0,none⟩,cap8,ys++[⟨metric,limit⟩]++[p],by omega,by go_num,by simp,by rw [HU2.out],by simp;omega,iA (by rw [HU2.out]),iA (by simpa [flatK] using HR8.out),iA (HBL.out.trans (((bA _ _).mono hsr).trans ((HT7.out.below (by simp;omega) fun i hi e=>by omega).trans (HT8.out.below hs7 fun i hi e=>by omega))))⟩,by simp [intOf];omega⟩)
        | (have q:=HR7;have q:(p.s.toList==metric.toList)=false:=hs;exact ⟨⟨k+1,some ⟨g7,0,none⟩,cap7,ys++[p],by omega,by go_num,by simp,by rw [HU2.out],by simp;omega,iA (by rw [HU2.out]),iA (by simpa [flatK] using HR7.out),iA (HBL.out.trans (((bA _ _).mono hsr).trans (HT7.out.below (by simp;omega) fun i hi e=>by omega)))⟩,by simp [intOf];omega⟩)
        | (have q:=HR7;exact ⟨⟨k+1,some ⟨g7,0,none⟩,cap7,ys++[⟨metric,limit⟩],by omega,by go_num,by simp,by rw [HU2.out],by simp;omega,iA (by rw [HU2.out]),iA (by simpa [flatK] using HR7.out),iA (HBL.out.trans (((bA _ _).mono hsr).trans (HT7.out.below (by simp;omega) fun i hi e=>by omega)))⟩,by simp [intOf];omega⟩)
        | exact ⟨⟨k+1,va,vc,ys,by omega,by go_num,rfl,by rw [HU2.out],by omega,iA (by rw [HU2.out]),yA HR.out (bA _ _),HBL.out.trans ((bA _ _).mono hsr)⟩,by simp [intOf];omega⟩
     ·have ek:tn.mets.take k=tn.mets:=List.take_of_length_le (by omega);rw [ek] at HYM ⊢;have HWA:Hid (VY ⟨metric,limit⟩ b0 tn.mets=(sR ⟨metric,limit⟩ b0 tn.mets).1++if (sR ⟨metric,limit⟩ b0 tn.mets).2=true then [] else [(⟨metric,limit⟩:gA)]):=rfl;have hle:=HLE.out b0;rw [HWA.out,List.length_append] at hle;generalize sR ⟨metric,limit⟩ b0 tn.mets=U at *;obtain ⟨LU,PU⟩:=U;have hy:ys=LU:=HYM.out;subst hy;have hyl2:ys.length≤1100001:=by have:ys.length≤tn.mets.length+1:=Nat.le_trans (Nat.le_add_right _ _) hle;omega
      obtain ⟨-,-,g2,-⟩:=(XB.out.later HBL.out).c4;have f2:=(XB.out.later HBL.out).free;clear ek hyl HYM;cases PU
      all_goals
       go_wp2_with (at_builtin;refine aW rfl _ _ rfl Tryz.underlying92 aX rfl (by omega) (by omega) (v:=.slice va ys.length vc) rfl HR.out rfl rfl rfl (by simp [Value.oneCell']) (by omega) hsr ?_;intro g7 cap7 w7 HR7 HT7;have HB7:=iA (HBL.out.trans (HT7.out.below hsr fun i hi e=>by omega));clear g2 f2;obtain ⟨-,-,g2,-⟩:=(XB.out.later HB7.out).c4;have f2:=(XB.out.later HB7.out).free);go_meet;first
        | (have q:=HR7;exact ⟨tn.limit,ys++[⟨metric,limit⟩],_,_,_,by simp,by rw [HLA.out,HWA.out];simp,by simp at hle ⊢;omega,aCt (by simp) P.out XB.out hXP HPI.out HB7.out (by simpa [flatK] using HR7.out)⟩)
        | exact ⟨tn.limit,ys,_,_,_,rfl,by rw [HLA.out,HWA.out];simp,hyl2,aCt rfl P.out XB.out hXP HPI.out HBL.out HR.out⟩
 clear P XB HPI g2;obtain ⟨L,ms,n1,p1,d1,rfl,hT,hml1,hXb,hp1,hp2,hP⟩:=hcut;rename World=>w7;have P:=iA hP;have HPP:=iA (And.intro hp1 hp2);rw [hT] at HV;obtain ⟨m0,m1,m2,m3⟩:=hXb.c4;obtain ⟨x0,x1,x2,x3,x4,x5,y0,y1,-,-,-,-,hz⟩:=hP.cells;clear hp1 hp2 hXb hT hP;go_wp2_with fail;refine (H.out.wi _ L ms tn.sers p1 q2 d1 e2 P.out.B HPP.out.1 HPP.out.2 ⟨by show ms.length≤_;omega,H.out.fit.2⟩).mono ?_;rintro e w8 ⟨ra,rc,rfl,ho8,hb8⟩;clear m0 m1 m2 m3 x0 x1 x2 x3 x4 x5 y0 y1 HPP;generalize mC c.w now (tA (·.name) ⟨tn.name,L,ms,tn.sers⟩ ts)=RL at *;obtain ⟨x0,x1,x2,x3,x4,x5,y0,y1,z0,z1,g0,g1,hz8⟩:=(P.out.later hb8).cells;have P8:=iA ((P.out.later hb8).later (bA w8 (.cells #[.int .i64 now,.slice ra RL.length rc] 43)));have HO8:=iA (ho8.later (bA w8 (.cells #[.int .i64 now,.slice ra RL.length rc] 43)));have hs8:=P8.out.lt;obtain ⟨a0,a1⟩:=(lA.new w8 #[.int .i64 now,.slice ra RL.length rc] 43).c2;clear ho8 hb8 hs8 x0 x1 x2 x3 x4 x5 y0 y1 z0 z1 g0 g1;by_cases hgt:10000<RL.length
 ·have E:Hid (V=(now,ts,false)):=by show _=_;rw [HV.out,if_pos hgt]
  have hgi:(10000:Int)<RL.length:=by omega
  go_upto_region 24 with fail;generalize w8.alloc (.cells #[.int .i64 now,.slice ra RL.length rc] 43)=wA at *;obtain ⟨x0,x1,x2,x3,x4,x5,y0,y1,-,-,-,-,-⟩:=P8.out.cells;go_wp2_with (go_at_call 51;refine (H.out.sm _ P8.out.B).mono ?_;rintro e w9 ⟨ra9,rc9,rfl,ho,hb⟩;have P9:=iA (P8.out.later hb);have HO9:=iA ho;clear ho hb x0 x1 x2 x3 x4 x5 y0 y1;obtain ⟨-,-,-,-,-,-,-,-,z0,z1,g0,g1,hz9⟩:=P9.out.cells);refine bodyPost_ret (v:=?_) (by simp [results,Tryz.results54,go_sem,z0,z1];rfl) rfl ?_;rw [E.out];first
   | exact ⟨ra9,⟨rc9,rfl⟩,P9.out.done HO9.out P8.out.lt⟩
   | exact ⟨ra9,rc9,rfl,P9.out.done HO9.out P8.out.lt⟩
 ·have E:Hid (V=(now,RL,true)):=by show _=_;rw [HV.out,if_neg hgt]
  have hgi:¬((10000:Int)<RL.length):=by omega
  go_upto_region 25 with fail;generalize w8.alloc (.cells #[.int .i64 now,.slice ra RL.length rc] 43)=wA at *;obtain ⟨-,-,-,-,-,-,-,-,z0,z1,g0,g1,hz9⟩:=P8.out.cells;go_wp2;refine bodyPost_ret (v:=?_) (by simp [results,Tryz.results54,go_sem,z0,z1];rfl) rfl ?_;rw [E.out];first
   | exact ⟨ra,⟨rc,rfl⟩,P8.out.done HO8.out hz⟩
   | exact ⟨ra,rc,rfl,P8.out.done HO8.out hz⟩
theorem pZ (c:eC) (now:Int) (a:Option Addr) (cap:Nat) (ts:List cA) (tenant metric:ByteArray) (limit:Int) (w:World) (hf:pB w a ts) (hbk:ts.length+nA ts≤1100000) (hn:tenant.size≤1100000) (hm:metric.size≤1100000) (h0:vB c now ts=true):
 Calls Tryz.prog 54 #[wG c,.agg #[.int .i64 now,.slice a ts.length cap],.string tenant,.string metric,.int .i64 limit] w fun e w'=>qR (oT c now ts tenant metric limit) w e w':=by
 by_cases hr:(dC tenant&&(metric.toList.isEmpty||oD metric) &&mA limit (-1) 1000000)=false
 ·rw [show oT c now ts tenant metric limit=(now,ts,false) by unfold oT;rw [if_neg (by rw [h0];simp),if_pos hr]];exact CU c now a cap ts tenant metric limit w hf hbk hn hm h0 hr
 ·have hr2:(dC tenant=true∧(metric.toList.isEmpty=true∨oD metric=true))∧mA limit (-1) 1000000=true:=by simpa only [Bool.not_eq_false,Bool.and_eq_true,Bool.or_eq_true] using hr
  refine CT (aNx hf hbk hn h0 hr2.1.1) hm ?_ hr2.2 (by show _=_;unfold oT;rw [if_neg (by rw [h0];simp),if_neg hr]);cases he:metric.toList.isEmpty
  ·exact Or.inr ⟨rfl,hr2.1.2.resolve_left (by rw [he];simp)⟩
  ·exact Or.inl rfl
end Go.Proofs.YtcneojllbkacoaaGreatDoor
