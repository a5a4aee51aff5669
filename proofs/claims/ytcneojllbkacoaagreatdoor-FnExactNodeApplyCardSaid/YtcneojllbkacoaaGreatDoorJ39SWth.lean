import Derived.Test.YtcneojllbkacoaaGreatDoorJ32RecE
import Derived.Test.YtcneojllbkacoaaGreatDoorJ21OpCfg
set_option maxRecDepth 100000
set_option maxHeartbeats 16000000
namespace Go.Proofs.YtcneojllbkacoaaGreatDoor
open Go.RowKit
def MX (x:cA):Prop:=x.mets.length≤2000000∧x.sers.length≤2000000∧∀i (h:i<x.sers.length),0≤x.sers[i].n∧x.sers[i].n≤2000000000000
theorem aNm (t p:cA) (l:List cA) (b:Bool):b=true∧(p.name.toList==t.name.toList)=true∧lG t (l,b) p=(l,true)∨b=true∧(p.name.toList==t.name.toList)=false∧lG t (l,b) p=(l++[p],true)∨
 b=false∧(p.name.toList==t.name.toList)=false∧(t.name.toList==p.name.toList)=false∧Op.bytesLess t.name.toList p.name.toList=false∧lG t (l,b) p=(l++[p],false)∨b=false∧(p.name.toList==t.name.toList)=false∧Op.bytesLess t.name.toList p.name.toList=true∧lG t (l,b) p=(l++[t]++[p],true)∨
 b=false∧(p.name.toList==t.name.toList)=true∧(t.name.toList==p.name.toList)=true∧Op.bytesLess t.name.toList p.name.toList=false∧lG t (l,b) p=(l++[t],true):=by
 cases b with
 | true=>cases h:(p.name.toList==t.name.toList)<;>simp [lG,h]
 | false=>
   by_cases h1:nG p.name t.name=true
   ·have hs:=iC (cG h1);exact Or.inr (Or.inr (Or.inl ⟨rfl,hs,iC (cG h1).symm,eT h1,by simp [lG,h1,hs]⟩))
   ·have h1':nG p.name t.name=false:=by simpa using h1
    by_cases h2:nG t.name p.name=true
    ·have hs:=iC (cG h2).symm;exact Or.inr (Or.inr (Or.inr (Or.inl ⟨rfl,hs,h2,by simp [lG,h1',hs]⟩)))
    ·have he:=Decidable.byContradiction fun hne=>h2 (rP h1' hne);have hs:=(rC _ _).2 he;exact Or.inr (Or.inr (Or.inr (Or.inr ⟨rfl,hs,(rC _ _).2 he.symm,by simpa [nG] using h2,by simp [lG,h1',hs]⟩)))
structure PW (w W:World) (c:eC) (now:Int) (a:Option Addr) (n cap:Nat) (t:cA) (a1:Option Addr) (c1:Nat) (a2:Option Addr) (c2:Nat):Prop where
 C:lA W w.heap.size #[.int .i64 c.w,.int .i64 c.tl,.int .i64 c.ml,.int .i64 c.sh,.int .i64 c.ha,.int .i64 c.sg] 48
 S:lA W (w.heap.size+1) #[.int .i64 now,.slice a n cap] 43
 T:lA W (w.heap.size+1+1) #[.string t.name,.int .i64 t.limit,.slice a1 t.mets.length c1,.slice a2 t.sers.length c2] 95
 R:lA W (w.heap.size+1+1+1) #[.int .i64 0,.slice none 0 0] 43
 B:Below w.heap.size w W
section
variable {w W W':World}{c:eC}{now:Int}{a:Option Addr}{n cap:Nat}{t:cA}{a1:Option Addr}{c1:Nat}{a2:Option Addr}{c2:Nat}
theorem PW.new (h:W=((((w.alloc (.cells #[.int .i64 c.w,.int .i64 c.tl,.int .i64 c.ml,.int .i64 c.sh,.int .i64 c.ha,.int .i64 c.sg] 48)).alloc (.cells #[.int .i64 now,.slice a n cap] 43)).alloc (.cells #[.string t.name,.int .i64 t.limit,.slice a1 t.mets.length c1,.slice a2 t.sers.length c2] 95)).alloc (.cells #[.int .i64 0,.slice none 0 0] 43))):
 PW w (W.alloc (.cells #[] 95)) c now a n cap t a1 c1 a2 c2∧(W.alloc (.cells #[] 95)).ownsRow (w.heap.size+4) 95 4 (.slice (some ⟨w.heap.size+1+1+1+1,0,none⟩) 0 0) 0 []∧w.heap.size+4<(W.alloc (.cells #[] 95)).heap.size:=by
 subst h;refine ⟨⟨((((lA.new _ _ _).alloc _).alloc _).alloc _).alloc _,?_,?_,?_,rA (rA (rA (rA (bA _ _) (bA _ _)) (bA _ _)) (bA _ _)) (bA _ _)⟩,?_,by simp⟩
 ·have:=(((lA.new (w.alloc (.cells #[.int .i64 c.w,.int .i64 c.tl,.int .i64 c.ml,.int .i64 c.sh,.int .i64 c.ha,.int .i64 c.sg] 48)) #[.int .i64 now,.slice a n cap] 43).alloc (.cells #[.string t.name,.int .i64 t.limit,.slice a1 t.mets.length c1,.slice a2 t.sers.length c2] 95)).alloc (.cells #[.int .i64 0,.slice none 0 0] 43)).alloc (.cells #[] 95);simpa using this
 ·have:=((lA.new ((w.alloc (.cells #[.int .i64 c.w,.int .i64 c.tl,.int .i64 c.ml,.int .i64 c.sh,.int .i64 c.ha,.int .i64 c.sg] 48)).alloc (.cells #[.int .i64 now,.slice a n cap] 43)) #[.string t.name,.int .i64 t.limit,.slice a1 t.mets.length c1,.slice a2 t.sers.length c2] 95).alloc (.cells #[.int .i64 0,.slice none 0 0] 43)).alloc (.cells #[] 95);simpa using this
 ·have:=(lA.new (((w.alloc (.cells #[.int .i64 c.w,.int .i64 c.tl,.int .i64 c.ml,.int .i64 c.sh,.int .i64 c.ha,.int .i64 c.sg] 48)).alloc (.cells #[.int .i64 now,.slice a n cap] 43)).alloc (.cells #[.string t.name,.int .i64 t.limit,.slice a1 t.mets.length c1,.slice a2 t.sers.length c2] 95)) #[.int .i64 0,.slice none 0 0] 43).alloc (.cells #[] 95);simpa using this
 ·have:=World.ownsRow_made (e:=95) (size:=4) (base:=w.heap.size+4) ((((w.alloc (.cells #[.int .i64 c.w,.int .i64 c.tl,.int .i64 c.ml,.int .i64 c.sh,.int .i64 c.ha,.int .i64 c.sg] 48)).alloc (.cells #[.int .i64 now,.slice a n cap] 43)).alloc (.cells #[.string t.name,.int .i64 t.limit,.slice a1 t.mets.length c1,.slice a2 t.sers.length c2] 95)).alloc (.cells #[.int .i64 0,.slice none 0 0] 43)) #[] 0 (by simp) (by simp [maxLen]) (by simp);simpa using this
theorem PW.keep (h:PW w W c now a n cap t a1 c1 a2 c2) (hb:Below (w.heap.size+4) W W'):PW w W' c now a n cap t a1 c1 a2 c2:=
 ⟨(hb.block _ (by omega)).trans h.C,(hb.block _ (by omega)).trans h.S,(hb.block _ (by omega)).trans h.T,(hb.block _ (by omega)).trans h.R,h.B.trans (hb.mono (by omega))⟩
end
theorem iV (c:eC) (now0 now:Int) (a:Option Addr) (cap:Nat) (ts:List cA) (t:cA) (a1 a2:Option Addr) (c1 c2:Nat) (w:World) (hf:pB w a ts) (p1:sA w a1 t.mets) (p2:sA w a2 t.sers) (hlen:ts.length≤2000000) (hfit:∀x,x=t∨x∈ts→MX x) (hn0:0≤now) (hn1:now≤2000000000000):
 Calls Tryz.prog 97 #[wG c,.agg #[.int .i64 now0,.slice a ts.length cap],.int .i64 now,.agg #[.string t.name,.int .i64 t.limit,.slice a1 t.mets.length c1,.slice a2 t.sers.length c2]] w fun e w'=>∃a' cap',e=.returned (.agg #[.int .i64 now,.slice a' (mC c.w now (gY t t.name.toList.isEmpty ts)).length cap'])∧eB w' w.heap.size a' (mC c.w now (gY t t.name.toList.isEmpty ts))∧Below w.heap.size w w':=by
 have HF:=iA hf;have HP:=iA (And.intro p1 p2);have HFT:=iA hfit;clear hf p1 p2 hfit;obtain ⟨RES,hRES⟩:∃R,R=mC c.w now (gY t t.name.toList.isEmpty ts):=⟨_,rfl⟩
 rw [←hRES];have HRES:=iA hRES;clear hRES;have HW:=iA (PW.new (w:=w) (c:=c) (now:=now0) (a:=a) (n:=ts.length) (cap:=cap) (t:=t) (a1:=a1) (c1:=c1) (a2:=a2) (c2:=c2) rfl);unfold wG;go_enter Tryz.func97,Tryz.ntmps97;go_upto_region 3 with fail;generalize (((((w.alloc (.cells #[.int .i64 c.w,.int .i64 c.tl,.int .i64 c.ml,.int .i64 c.sh,.int .i64 c.ha,.int .i64 c.sg] 48)).alloc (.cells #[.int .i64 now0,.slice a ts.length cap] 43)).alloc (.cells #[.string t.name,.int .i64 t.limit,.slice a1 t.mets.length c1,.slice a2 t.sers.length c2] 95)).alloc (.cells #[.int .i64 0,.slice none 0 0] 43)).alloc (.cells #[] 95))=w1 at *;generalize t.name.toList.isEmpty=b0 at *;obtain ⟨hP,hL,hw1⟩:=HW.out;have P1:=iA hP;have L1:=iA hL;obtain ⟨-,y1⟩:=hP.S.c2;clear hP hL HW;go_wp2;clear y1;go_loopw [9,10,12,24] (fun al pl _ i wr=>∃(k:Nat) (va:Option Addr) (vc:Nat) (ys:List TV),k≤ts.length∧i=.int .i64 k∧al=.slice va ys.length vc∧pl=.bool (lQ t b0 (ts.take k)).2∧ys.length≤2 * k∧Hid (wr.ownsRow (w.heap.size+4) 95 4 (.slice va ys.length vc) ys.length (fD ys))∧Hid (ys.map (·.t)=(lQ t b0 (ts.take k)).1)∧Hid (MZ w ys)∧Hid (Below (w.heap.size+4) w1 wr)) (fun _ _ _ i _=>ts.length - (intOf i).toNat)
 case atStart=>exact ⟨0,_,_,[],Nat.zero_le _,rfl,rfl,rfl,Nat.zero_le _,L1.out,rfl,fun y hy=>(by cases hy),Below.refl _ _⟩
 case round=>
  obtain ⟨k,va,vc,ys,hk,rfl,rfl,rfl,hyl,HR,HYM,HOY,HBL⟩:=hrel;have hsr:=HBL.out.size;have Pr:=iA (P1.out.keep HBL.out);by_cases hlt:k<ts.length
  ·obtain ⟨pb,po,q1,d1,q2,d2,rfl,hpl,z0,z1,z2,z3,o1,o2⟩:=HF.out.at hlt;have HO:=iA (And.intro o1 o2);have HU:=iA (aBo t b0 ts k hlt);have v0:=(Pr.out.B.cell hpl).trans z0;have v1:=(Pr.out.B.cell hpl).trans z1;have v2:=(Pr.out.B.cell hpl).trans z2;have v3:=(Pr.out.B.cell hpl).trans z3;clear z0 z1 z2 z3 o1 o2;generalize lQ t b0 (ts.take k)=U at *;generalize ts[k]=P at *;obtain ⟨LU,PU⟩:=U;have hy:ys.map (·.t)=LU:=HYM.out;subst hy;obtain ⟨u0,u1,u2,u3⟩:=Pr.out.T.c4;have hnr:¬w.heap.size+1+1=wr.heap.size:=by omega
   have hlr:w.heap.size+1+1<wr.heap.size:=by omega
   rcases aNm t P (ys.map (·.t)) PU with ⟨rfl,hs,hU⟩ | ⟨rfl,hs,hU⟩ | ⟨rfl,hs,h1,h2,hU⟩ | ⟨rfl,hs,h2,hU⟩ | ⟨rfl,hs,h1,h2,hU⟩
   all_goals
    have HU2:=iA (HU.out.trans hU);clear HYM HU hU;go_wp2_with (at_builtin;first
     | (refine aW rfl _ _ rfl Tryz.underlying41 nJ rfl (by omega) (by omega) (v:=.slice (some ⟨g7,0,none⟩) (ys.length+1) cap7) rfl HR7.out rfl rfl rfl (by simp [Value.oneCell']) (by omega) hs7 ?_;intro g8 cap8 w8 HR8 HT8)
     | (refine aW rfl _ _ rfl Tryz.underlying41 nJ rfl (by omega) (by omega) (v:=.slice va ys.length vc) rfl (yA HR.out (bA _ _)) rfl (by simp) rfl (by simp [Value.oneCell']) (by omega) (by simp;omega) ?_;intro g7 cap7 w7 HR7 HT7;have hs7:w.heap.size+4≤w7.heap.size:=(by have:=HT7.out.size;simp at this;omega);clear u0 u1 u2 u3;obtain ⟨u0,u1,u2,u3⟩:=(HT7.out.blk (Pr.out.T.alloc _) (fun e=>by omega)).c4;obtain ⟨r0,r1,r2,r3⟩:=(HT7.out.blk (lA.new wr #[.string P.name,.int .i64 P.limit,.slice q1 P.mets.length d1,.slice q2 P.sers.length d2] 95) (fun e=>by have:=(HR.out.lt _ e.2).2;omega)).c4))
    first
     | (have q:=HR8;exact ⟨⟨k+1,some ⟨g8,0,none⟩,cap8,ys++[⟨t,a1,c1,a2,c2⟩]++[⟨P,q1,d1,q2,d2⟩],by omega,by go_num,by simp,by rw [HU2.out],by simp;omega,iA (by simpa [fD] using HR8.out),iA (by rw [HU2.out];simp),(HOY.out.snoc HP.out.1 HP.out.2).snoc HO.out.1 HO.out.2,iA ((HBL.out.trans (((bA _ _).mono (by omega)).trans (HT7.out.below (by simp;omega) fun i hi e=>by omega))).trans (HT8.out.below hs7 fun i hi e=>by omega))⟩,by simp [intOf];omega⟩)
     | (have q:=HR7;have q:(P.name.toList==t.name.toList)=false:=hs;exact ⟨⟨k+1,some ⟨g7,0,none⟩,cap7,ys++[⟨P,q1,d1,q2,d2⟩],by omega,by go_num,by simp,by rw [HU2.out],by simp;omega,iA (by simpa [fD] using HR7.out),iA (by rw [HU2.out];simp),HOY.out.snoc HO.out.1 HO.out.2,iA (HBL.out.trans (((bA _ _).mono (by omega)).trans (HT7.out.below (by simp;omega) fun i hi e=>by omega)))⟩,by simp [intOf];omega⟩)
     | (have q:=HR7;exact ⟨⟨k+1,some ⟨g7,0,none⟩,cap7,ys++[⟨t,a1,c1,a2,c2⟩],by omega,by go_num,by simp,by rw [HU2.out],by simp;omega,iA (by simpa [fD] using HR7.out),iA (by rw [HU2.out];simp),HOY.out.snoc HP.out.1 HP.out.2,iA (HBL.out.trans (((bA _ _).mono (by omega)).trans (HT7.out.below (by simp;omega) fun i hi e=>by omega)))⟩,by simp [intOf];omega⟩)
     | exact ⟨⟨k+1,va,vc,ys,by omega,by go_num,rfl,by rw [HU2.out],by omega,yA HR.out (bA _ _),iA (by rw [HU2.out]),HOY.out,HBL.out.trans ((bA _ _).mono (by omega))⟩,by simp [intOf];omega⟩
  ·have ek:ts.take k=ts:=List.take_of_length_le (by omega);rw [ek] at HYM ⊢;have HWA:Hid (gY t b0 ts=(lQ t b0 ts).1++if (lQ t b0 ts).2=true then [] else [t]):=rfl;generalize lQ t b0 ts=U at *;obtain ⟨LU,PU⟩:=U;have hy:ys.map (·.t)=LU:=HYM.out;subst hy;have hyl2:ys.length≤4000000:=by omega
   obtain ⟨u0,u1,u2,u3⟩:=Pr.out.T.c4;clear ek hyl HYM;go_upto_if 52 with fail;go_cut [9] (fun al wx=>∃(va:Option Addr) (vc:Nat) (ys:List TV),al=.slice va ys.length vc∧ys.length≤4000001∧wx.ownsRow (w.heap.size+4) 95 4 (.slice va ys.length vc) ys.length (fD ys)∧ys.map (·.t)=gY t b0 ts∧MZ w ys∧Below (w.heap.size+4) w1 wx)
   case first=>
    cases PU
    all_goals
     go_wp2_with (at_builtin;refine aW rfl _ _ rfl Tryz.underlying41 nJ rfl (by omega) (by omega) (v:=.slice va ys.length vc) rfl HR.out rfl rfl rfl (by simp [Value.oneCell']) (by omega) (by omega) ?_;intro g7 cap7 w7 HR7 HT7);go_meet;first
      | (have q:=HR7;exact ⟨some ⟨g7,0,none⟩,cap7,ys++[⟨t,a1,c1,a2,c2⟩],by simp,by simp;omega,by simpa [fD] using HR7.out,by rw [HWA.out];simp,HOY.out.snoc HP.out.1 HP.out.2,HBL.out.trans (HT7.out.below (by omega) fun i hi e=>by omega)⟩)
      | exact ⟨_,_,ys,rfl,by omega,HR.out,by rw [HWA.out];simp,HOY.out,HBL.out⟩
   clear HR HOY HBL Pr HWA u0 u1 u2 u3 hyl2;obtain ⟨va,vc,ys,rfl,hyl2,hR,hY,hO,hB⟩:=hcut;rename World=>w8;have HTA:=iA (aNa hR hO);have P8:=iA (P1.out.keep hB);have hs8:=hB.size;have HRL:Hid (RES=mC c.w now (ys.map (·.t))):=by show _=_;rw [HRES.out,hY]
   have HFY:Hid (∀i (h:i<ys.length),MX ys[i].t):=fun i h=>HFT.out _ (by
    have hm:ys[i].t∈ys.map (·.t):=List.mem_map_of_mem (List.getElem_mem h);rw [hY] at hm;exact aLh hm)
   clear hR hY hO hB HRES HFT P1 L1;go_wp2;have HX9:=iA (lA.new w8 #[.int .i64 now,.slice none 0 0] 43);have B9:=iA (bA w8 (.cells #[.int .i64 now,.slice none 0 0] 43));have hs9:w8.heap.size<(w8.alloc (.cells #[.int .i64 now,.slice none 0 0] 43)).heap.size:=by simp
   generalize w8.alloc (.cells #[.int .i64 now,.slice none 0 0] 43)=w9 at *;go_loopw [15,16,61] (fun _ _ i wr=>∃(k:Nat) (v:Value),k≤ys.length∧i=.int .i64 k∧Hid (lA wr w8.heap.size #[.int .i64 now,v] 43)∧Hid (qN wr w9.heap.size 95 v (mC c.w now ((ys.map (·.t)).take k)).length (mC c.w now ((ys.map (·.t)).take k)))∧Hid (dA (·=w8.heap.size) w9 wr)) (fun _ _ i _=>ys.length - (intOf i).toNat)
   case atStart=>exact ⟨0,.slice none 0 0,Nat.zero_le _,rfl,HX9.out,qN.nil _ _ _,dA.refl _ _⟩
   case round=>
    obtain ⟨k,v,hk,rfl,HX,HRV,HTU⟩:=hrel;have hs9r:=HTU.out.size;have BWr:=iA ((rA P8.out.B B9.out).trans (HTU.out.below (by omega) fun i hi e=>by omega));by_cases hlt:k<ys.length
    ·obtain ⟨b,hbe,hb8,z0,z1,z2,z3,o1,o2⟩:=HTA.out k hlt;have hcc:∀j,wr.cell? ⟨b,j,none⟩=w8.cell? ⟨b,j,none⟩:=fun j=>World.cell?_of_block ((HTU.out.block b (by omega) (by omega)).trans (B9.out.block b hb8));have v0:=(hcc _).trans z0;have v1:=(hcc _).trans z1;have v2:=(hcc _).trans z2;have v3:=(hcc _).trans z3;clear hcc z0 z1 z2 z3;cases hbe
     have HT:Hid (mC c.w now ((ys.map (·.t)).take (k+1))=mC c.w now ((ys.map (·.t)).take k)++if dD (eD c.w now ys[k].t)=true then [] else [eD c.w now ys[k].t]):=by
      show _=_;rw [aJc _ _ _ _ (by rw [List.length_map];exact hlt)];simp
     have hkl:(mC c.w now ((ys.map (·.t)).take k)).length≤4000001:=by
      have:=aOm c.w now (ys.map (·.t)) k;rw [List.length_map] at this;omega
     obtain ⟨f1,f2,f3⟩:=HFY.out k hlt;have HKT:Hid (∀W,Below w.heap.size w W→Calls Tryz.prog 98 #[.agg #[.string ys[k].t.name,.int .i64 ys[k].t.limit,.slice ys[k].a1 ys[k].t.mets.length ys[k].c1,.slice ys[k].a2 ys[k].t.sers.length ys[k].c2],.int .i64 now,.int .i64 c.w] W fun e w'=>oY W (eD c.w now ys[k].t).name (eD c.w now ys[k].t) e w'):=fun W hW=>ZS ys[k].t _ _ _ _ now c.w W (o1.later hW) (o2.later hW) f1 f2 hn0 hn1 f3;unfold oY at HKT;clear o1 o2 f1 f2 f3;generalize mC c.w now ((ys.map (·.t)).take k)=KL at *;generalize eD c.w now ys[k].t=K at *;generalize ys[k]=Y at *;obtain ⟨x0,-⟩:=((HTU.out.blk (P8.out.C.later B9.out) (by omega)).alloc (.cells #[.string Y.t.name,.int .i64 Y.t.limit,.slice Y.a1 Y.t.mets.length Y.c1,.slice Y.a2 Y.t.sers.length Y.c2] 95)).c6;have hww:w.heap.size<wr.heap.size:=by omega
     go_wp2_with fail;refine (HKT.out _ (rA BWr.out (bA _ _))).mono ?_;rintro e w4 ⟨M,x1,e1,x2,e2,rfl,hM,h1,h1M,h2,hM4,hb4⟩;have hM':wr.heap.size≤M:=by simp at hM;omega
     have HH1:Hid (fB w4 wr.heap.size x1 K.mets):=h1.mono (by simp);have HH2:=iA (And.intro h1M h2);have B4:=iA (rA (bA _ _) hb4);have hs4:=B4.out.size;clear hM h1 h1M h2 hb4 x0 v0 v1 v2 v3;go_wp2_with fail;refine (gV K _ _ _ _ _).mono ?_;rintro e w5 ⟨rfl,hb5⟩;have B45:Hid _:=rA (bA _ _) hb5;have B5:=iA (rA B4.out B45.out);have X5:=iA ((lA.new w4 #[.string K.name,.int .i64 K.limit,.slice x1 K.mets.length e1,.slice x2 K.sers.length e2] 95).later hb5);have O5:=iA (HX.out.later B5.out);have T5:Hid _:=HTU.out.trans (dA.of B5.out);have hs5:=aA X5.out;clear hb5 HKT;cases hidl:dD K with
     | true=>
       have HTT:Hid (mC c.w now ((ys.map (·.t)).take (k+1))=KL):=by show _=_;rw [HT.out,if_pos hidl,List.append_nil]
       clear hidl;go_wp2;refine ⟨⟨k+1,v,by omega,by go_num,O5.out,?_,T5.out⟩,by simp [intOf];omega⟩;rw [HTT.out];exact HRV.out.turn (dA.of (S:=fun _=>False) B5.out) (fun _ e=>e.elim)
     | false=>
       have HTT:Hid (mC c.w now ((ys.map (·.t)).take (k+1))=KL++[K]):=by show _=_;rw [HT.out,if_neg (by rw [hidl];simp)]
       clear hidl;obtain ⟨TG,zs,hV1,hV2,hV3,hV4⟩:=HRV.out;have HV1:=iA (yA hV1 B5.out);have HV2:=iA (⟨hV2,hV3,hV4⟩:_∧_∧_);have HOB:=iA (fun q (hq:v.ownBlock=some q)=>hV1.lt q hq);clear hV1 hV2 hV3 hV4;obtain ⟨-,s1⟩:=O5.out.c2;obtain ⟨r0,r1,r2,r3⟩:=X5.out.c4;go_wp2_with (at_builtin;refine aDc rfl _ _ rfl Tryz.underlying41 nJ rfl (by omega) (by omega) (v:=v) rfl HV1.out rfl rfl rfl (by simp [Value.oneCell']) (by omega) (by omega) ?_;intro gg cap6 w6 HO6 HT6 HAT6;have BX6:=iA (HT6.out.blk O5.out (fun e=>by omega));obtain ⟨-,s2⟩:=BX6.out.c2;have s3:=BX6.out.free);have hgg:(v.ownBlock=some gg∧gg<wr.heap.size)∨w4.heap.size≤gg:=HAT6.out.elim (fun h=>Or.inl ⟨h,(HOB.out _ h).2⟩) fun h=>Or.inr (by omega);have hgb:=hgg.elim (fun h=>(HOB.out _ h.1).1) fun h=>by omega
       have hset:dA (·=w8.heap.size) w6 (w6.setCell ⟨w8.heap.size,1,none⟩ (.slice (some ⟨gg,0,none⟩) (KL.length+1) cap6)):=(dA.refl (·=w8.heap.size) w6).setCell (Or.inl rfl) 1 _;have hgs:=HT6.out.size;have hk5:∀g,g<w5.heap.size→w9.heap.size≤g→v.ownBlock≠some g→(w6.setCell ⟨w8.heap.size,1,none⟩ (.slice (some ⟨gg,0,none⟩) (KL.length+1) cap6)).heap[g]?=w5.heap[g]?:=fun g hg hgR2 hne=>by
        rw [hset.block g (by omega) (by omega),HT6.out.block g hg (fun e=>hne e.2)]
       refine ⟨⟨k+1,.slice (some ⟨gg,0,none⟩) (KL.length+1) cap6,by omega,by go_num,iA (by have:=BX6.out.set 1 (.slice (some ⟨gg,0,none⟩) (KL.length+1) cap6);simpa using this),?_,(T5.out.trans (HT6.out.mono fun i _ e=>Or.inr e.1)).trans' hset⟩,by simp [intOf];omega⟩;rw [HTT.out,List.length_append];have hyk:zs.length=KL.length:=by rw [←HV2.out.1,List.length_map]
       exact qN.snoc (wr:=wr) (w4:=w4) (M:=M) (v:=v) (T:=TG) (ys:=zs) (hset.row HO6.out (fun q hq e=>by simp [Value.ownBlock] at hq;omega)) HV2.out.1 hyk HV2.out.2.1 HV2.out.2.2 (by omega) hM'
        (fun g hg hgR2 hne=>(hk5 g (by omega) hgR2 hne).trans (B5.out.block g hg))
        (fun g hg hg4=>(hk5 g (by omega) (by omega) (fun e=>by have:=(HOB.out _ e).2;omega)).trans (B45.out.block g hg4))
        HH1.out HH2.out.1 HH2.out.2 hgg hs4 hM4
    ·have ek:(ys.map (·.t)).take k=ys.map (·.t):=List.take_of_length_le (by rw [List.length_map];omega);rw [ek,←HRL.out] at HRV;obtain ⟨ra,rc,rfl⟩:=HRV.out.row;have Yr:=iA (HTU.out.blk (P8.out.R.later B9.out) (by omega));obtain ⟨x0,x1⟩:=HX.out.c2;obtain ⟨y0,y1⟩:=Yr.out.c2;have f0:=Yr.out.free;have hwl:=aA Yr.out;go_wp2;have HTE:dA (·=w.heap.size+1+1+1) wr ((wr.setCell ⟨w.heap.size+1+1+1,0,none⟩ (.int .i64 now)).setCell ⟨w.heap.size+1+1+1,1,none⟩ (.slice ra RES.length rc)):=((dA.refl (·=w.heap.size+1+1+1) wr).setCell (Or.inl rfl) 0 _).setCell (Or.inl rfl) 1 _;refine bodyPost_ret (v:=.agg #[.int .i64 now,.slice ra RES.length rc]) (by simp [results,Tryz.results97,go_sem,y0,y1]) rfl ⟨ra,⟨rc,rfl⟩,((HRV.out.turn HTE (fun g e=>by omega)).own rfl).mono (by omega),((dA.of (S:=fun i=>w.heap.size≤i) BWr.out).trans' (HTE.mono fun i _ e=>by omega)).below (Nat.le_refl _) fun i hi h=>by omega⟩
end Go.Proofs.YtcneojllbkacoaaGreatDoor
