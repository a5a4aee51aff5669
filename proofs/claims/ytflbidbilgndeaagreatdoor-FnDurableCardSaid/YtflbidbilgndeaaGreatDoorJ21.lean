import Derived.Test.YtflbidbilgndeaaGreatDoorJ37
import Derived.Test.YtflbidbilgndeaaGreatDoorJ19
set_option maxRecDepth 100000
set_option maxHeartbeats 16000000
set_option linter.defProp false
open Bool renaming true->dA,false->cA
open Option renaming none->aA,some->bA
open ByteArray renaming empty->kA
open List renaming length->yA
namespace Go.Proofs.YtflbidbilgndeaaGreatDoor
open Value renaming slice->pA,string->oA,agg->tA,int->lA,bool->qA
open Go renaming World->eA,Value->iA
open Obj renaming cells->vA
open IntKind renaming i64->mA
open Ending renaming returned->uA
open Go.RowKit Tryz
def ZA(x:fB):Prop:=yA x.M<=2000000/\yA x.Z<=2000000/\∀i(h:i<yA x.Z),0<=x.Z[i].n/\x.Z[i].n<=2000000000000
def aLi(t p:fB)(l:List fB)(b:Bool):b=dA/\(p.N.toList==t.N.toList)=dA/\mM t (l,b) p=(l,dA)\/b=dA/\(p.N.toList==t.N.toList)=cA/\mM t (l,b) p=(l++[p],dA)\/
 b=cA/\(p.N.toList==t.N.toList)=cA/\(t.N.toList==p.N.toList)=cA/\Op.bytesLess t.N.toList p.N.toList=cA/\mM t (l,b) p=(l++[p],cA)\/b=cA/\(p.N.toList==t.N.toList)=cA/\Op.bytesLess t.N.toList p.N.toList=dA/\mM t (l,b) p=(l++[t]++[p],dA)\/
 b=cA/\(p.N.toList==t.N.toList)=dA/\(t.N.toList==p.N.toList)=dA/\Op.bytesLess t.N.toList p.N.toList=cA/\mM t (l,b) p=(l++[t],dA):=by
 cases b with
 |true=>cases h:(p.N.toList==t.N.toList)<;>simp[mM,h]
 |false=>
  by_cases f:eK p.N t.N=dA
  .have d:=zD (qJ f);exact La (La (Ca ⟨rfl,d,zD (qJ f).symm,BK f,by simp[mM,f,d]⟩))
  have e:eK p.N t.N=cA:=by simpa using f
  by_cases g:eK t.N p.N=dA
  .have d:=zD (qJ g).symm;exact La (La (La (Ca ⟨rfl,d,g,by simp[mM,e,d]⟩)))
  have j:=Decidable.byContradiction λi=>g (eW e i);have d:=(kE _ _).2 j;exact La (La (La (La ⟨rfl,d,(kE _ _).2 j.symm,by simpa[eK]using g,by simp[mM,e,d]⟩)))
structure PW(w W:World)(c:iC)(now:Int)(a:mC)(n cap:Nat)(t:fB)(a1:mC)(c1:Nat)(a2:mC)(c2:Nat):Prop where
 C:nB W w.1.size #[zA c.w,zA c.tl,zA c.ml,zA c.sh,zA c.ha,zA c.sg] 24
 S:nB W (w.1.size+1) #[zA now,pA a n cap] 40
 T:nB W (w.1.size+1+1) #[oA t.N,zA t.L,pA a1 (yA t.M) c1,pA a2 (yA t.Z) c2] 94
 R:nB W (w.1.size+1+1+1) #[zA 0,pA aA 0 0] 40
 B:uB w W
section
variable {w W W':eA} {c:iC} {now:Int} {a:mC} {n cap:Nat} {t:fB} {a1:mC} {c1:Nat} {a2:mC} {c2:Nat}
theorem PW.new(h:W=((((w.alloc (vA #[zA c.w,zA c.tl,zA c.ml,zA c.sh,zA c.ha,zA c.sg] 24)).alloc (vA #[zA now,pA a n cap] 40)).alloc (vA #[oA t.N,zA t.L,pA a1 (yA t.M) c1,pA a2 (yA t.Z) c2] 94)).alloc (vA #[zA 0,pA aA 0 0] 40))):
 PW w (W.alloc (vA #[] 94)) c now a n cap t a1 c1 a2 c2/\(W.alloc (vA #[] 94)).ownsRow (w.1.size+4) 94 4 (pA (yB (w.1.size+1+1+1+1)) 0 0) 0 []/\w.1.size+4<(W.alloc (vA #[] 94)).1.size:=by
 subst h;refine⟨⟨((((nB.new _ _ _).alloc _).alloc _).alloc _).alloc _,?_,?_,?_,vB (vB (vB (vB zB zB) zB) zB) zB⟩,?_,by simp⟩;have:=(((nB.new (w.alloc (vA #[zA c.w,zA c.tl,zA c.ml,zA c.sh,zA c.ha,zA c.sg] 24)) #[zA now,pA a n cap] 40).alloc (vA #[oA t.N,zA t.L,pA a1 (yA t.M) c1,pA a2 (yA t.Z) c2] 94)).alloc (vA #[zA 0,pA aA 0 0] 40)).alloc (vA #[] 94);simpa using this;have:=((nB.new ((w.alloc (vA #[zA c.w,zA c.tl,zA c.ml,zA c.sh,zA c.ha,zA c.sg] 24)).alloc (vA #[zA now,pA a n cap] 40)) #[oA t.N,zA t.L,pA a1 (yA t.M) c1,pA a2 (yA t.Z) c2] 94).alloc (vA #[zA 0,pA aA 0 0] 40)).alloc (vA #[] 94);simpa using this;have:=(nB.new (((w.alloc (vA #[zA c.w,zA c.tl,zA c.ml,zA c.sh,zA c.ha,zA c.sg] 24)).alloc (vA #[zA now,pA a n cap] 40)).alloc (vA #[oA t.N,zA t.L,pA a1 (yA t.M) c1,pA a2 (yA t.Z) c2] 94)) #[zA 0,pA aA 0 0] 40).alloc (vA #[] 94);simpa using this;have:=eA.ownsRow_made (e:=94) (size:=4) (base:=w.1.size+4) ((((w.alloc (vA #[zA c.w,zA c.tl,zA c.ml,zA c.sh,zA c.ha,zA c.sg] 24)).alloc (vA #[zA now,pA a n cap] 40)).alloc (vA #[oA t.N,zA t.L,pA a1 (yA t.M) c1,pA a2 (yA t.Z) c2] 94)).alloc (vA #[zA 0,pA aA 0 0] 40)) #[] 0 (by simp) (by simp[maxLen]) (by simp);simpa using this
theorem PW.keep(h:PW w W c now a n cap t a1 c1 a2 c2)(b:Below (w.1.size+4) W W'):PW w W' c now a n cap t a1 c1 a2 c2:=
 ⟨(b.block _ (by omega)).trans h.C,(b.block _ (by omega)).trans h.S,(b.block _ (by omega)).trans h.T,(b.block _ (by omega)).trans h.R,h.B.trans (b.mono (by omega))⟩
end
def EJ(c:iC)(Q now:Int)(a:mC)(cap:Nat)(p:List fB)(t:fB)(a1 a2:mC)(c1 c2:Nat)(w:eA)(hf:xC w a p)(p1:jC w a1 t.M)(p2:jC w a2 t.Z)(hlen:yA p<=2000000)(hfit:∀x,x=t\/x∈p->ZA x)(hn0:0<=now)(hn1:now<=2000000000000):
 Calls prog 117 #[rE c,tA #[lA mA Q,pA a (yA p) cap],lA mA now,tA #[oA t.N,lA mA t.L,pA a1 (yA t.M) c1,pA a2 (yA t.Z) c2]] w λe w'=>∃a' cap',e=uA (tA #[lA mA now,.slice a' (yA (aE c.w now (FG t t.N.toList.isEmpty p))) cap'])/\cD w' w.1.size a' (aE c.w now (FG t t.N.toList.isEmpty p))/\uB w w':=by
 have HF:=bB hf;have HP:=bB (Vc p1 p2);have HFT:=bB hfit;obtain⟨RES,L⟩:∃R,R=aE c.w now (FG t t.N.toList.isEmpty p):=⟨_,rfl⟩
 rw[<-L];have HRES:=bB L;clear L;have HW:=bB (PW.new (w:=w) (c:=c) (now:=Q) (a:=a) (n:=yA p) (cap:=cap) (t:=t) (a1:=a1) (c1:=c1) (a2:=a2) (c2:=c2) rfl);unfold rE;go_enter func117,ntmps117;go_upto_region 3 with fail;generalize (((((w.alloc (vA #[lA mA c.w,lA mA c.tl,lA mA c.ml,lA mA c.sh,lA mA c.ha,lA mA c.sg] 24)).alloc (vA #[lA mA Q,pA a (yA p) cap] 40)).alloc (vA #[oA t.N,lA mA t.L,pA a1 (yA t.M) c1,pA a2 (yA t.Z) c2] 94)).alloc (vA #[lA mA 0,pA aA 0 0] 40)).alloc (vA #[] 94))=w1 at *;generalize t.N.toList.isEmpty=b0 at *;obtain⟨hP,hL,hw1⟩:=HW.o;have P1:=bB hP;have L1:=bB hL;obtain⟨-,y1⟩:=hP.S.c2;go_wp2;go_loopw [9,10,12,24] (λal pl _ i wr=>∃(k:Nat)(V:mC)(X:Nat)(o:List TV),k<=yA p/\i=lA mA k/\al=pA V (yA o) X/\pl=qA (bX t b0 (p.take k)).2/\yA o<=2*k/\cB (wr.ownsRow (w.1.size+4) 94 4 (pA V (yA o) X) (yA o) (lF o))/\cB (o.map (·.t)=(bX t b0 (p.take k)).1)/\cB (TU w o)/\cB (Below (w.1.size+4) w1 wr)) (λ_ _ _ i _=>yA p-(intOf i).toNat)
 case atStart=>exact⟨0,_,_,[],Oa _,rfl,rfl,rfl,Oa _,L1.o,rfl,λy hy=>(by cases hy),iD⟩
 case round=>
  obtain⟨k,V,X,o,hk,rfl,rfl,rfl,hyl,HR,J,D,r⟩:=hrel;have hsr:=r.o.size;have Pr:=bB (P1.o.keep r.o);by_cases G:k<yA p
  .obtain ⟨pb,po,q1,d1,q2,d2,rfl,hpl,z0,z1,z2,z3,o1,o2⟩:=HF.o.at G;have HO:=bB (Vc o1 o2);have HU:=bB (ue t b0 p k G);have v0:=(Pr.o.B.cell hpl).trans z0;have v1:=(Pr.o.B.cell hpl).trans z1;have v2:=(Pr.o.B.cell hpl).trans z2;have v3:=(Pr.o.B.cell hpl).trans z3;generalize bX t b0 (p.take k)=U at *;generalize p[k]=P at *;obtain⟨LU,PU⟩:=U;have hy:o.map (·.t)=LU:=J.o;subst hy;have u0:=Pr.o.T.c4;have hlr:w.1.size+1+1<wr.1.size:=by omega
   rcases aLi t P (o.map (·.t)) PU with⟨rfl,hs,hU⟩|⟨rfl,hs,hU⟩|⟨rfl,hs,h1,h2,hU⟩|⟨rfl,hs,h2,hU⟩|⟨rfl,hs,h1,h2,hU⟩
   all_goals
    have z:=bB (HU.o.trans hU);go_wp2_with(at_builtin;first
     |(refine pQ rfl _ _ rfl underlying38 nO rfl (by omega) (by omega) (v:=pA (bA ⟨g7,0,aA⟩) (yA o+1) A) rfl s.o rfl rfl rfl (by simp[iA.oneCell']) (by omega) hs7 ?_;intro g8 cap8 H HR8 HT8)
     |(refine pQ rfl _ _ rfl underlying38 nO rfl (by omega) (by omega) (v:=pA V (yA o) X) rfl (hC HR.o zB) rfl (by simp) rfl (by simp[iA.oneCell']) (by omega) (by simp;omega) ?_;intro g7 A w7 s u;have hs7:w.1.size+4<=w7.1.size:=(by have:=u.o.size;simp at this;omega);have u0:=(u.o.blk (Pr.o.T.alloc _) (λe=>by omega)).c4;have r0:=(u.o.blk (nB.new wr #[oA P.N,lA mA P.L,pA q1 (yA P.M) d1,pA q2 (yA P.Z) d2] 94) (λe=>by have:=(HR.o.lt _ e.2).2;omega)).c4))
    first
     |(have q:=HR8;exact⟨⟨k+1,bA ⟨g8,0,aA⟩,cap8,o++[⟨t,a1,c1,a2,c2⟩]++[⟨P,q1,d1,q2,d2⟩],by omega,by go_num,by simp,by rw[z.o],by simp;omega,bB (by simpa[lF]using HR8.o),bB (by rw[z.o];simp),(D.o.snoc HP.o.1 HP.o.2).snoc HO.o.1 HO.o.2,bB ((r.o.trans ((zB.mono (by omega)).trans (u.o.below (by simp;omega) λi hi e=>by omega))).trans (HT8.o.below hs7 λi hi e=>by omega))⟩,by simp[intOf];omega⟩)
     |(have q:=s;have q:(P.N.toList==t.N.toList)=cA:=hs;exact⟨⟨k+1,bA ⟨g7,0,aA⟩,A,o++[⟨P,q1,d1,q2,d2⟩],by omega,by go_num,by simp,by rw[z.o],by simp;omega,bB (by simpa[lF]using s.o),bB (by rw[z.o];simp),D.o.snoc HO.o.1 HO.o.2,bB (r.o.trans ((zB.mono (by omega)).trans (u.o.below (by simp;omega) λi hi e=>by omega)))⟩,by simp[intOf];omega⟩)
     |(have q:=s;exact⟨⟨k+1,bA ⟨g7,0,aA⟩,A,o++[⟨t,a1,c1,a2,c2⟩],by omega,by go_num,by simp,by rw[z.o],by simp;omega,bB (by simpa[lF]using s.o),bB (by rw[z.o];simp),D.o.snoc HP.o.1 HP.o.2,bB (r.o.trans ((zB.mono (by omega)).trans (u.o.below (by simp;omega) λi hi e=>by omega)))⟩,by simp[intOf];omega⟩)
     |exact⟨⟨k+1,V,X,o,by omega,by go_num,rfl,by rw[z.o],by omega,hC HR.o zB,bB (by rw[z.o]),D.o,r.o.trans (zB.mono (by omega))⟩,by simp[intOf];omega⟩
  have ek:p.take k=p:=Ra (by omega);rw[ek]at J |-
  have HWA:cB (FG t b0 p=(bX t b0 p).1++if (bX t b0 p).2=dA then [] else [t]):=rfl;generalize bX t b0 p=U at *;obtain⟨LU,PU⟩:=U;have hy:o.map (·.t)=LU:=J.o;subst hy;have hyl2:yA o<=4000000:=by omega
  have u0:=Pr.o.T.c4;go_upto_if 52 with fail;go_cut [9] (λal wx=>∃(V:mC)(X:Nat)(o:List TV),al=pA V (yA o) X/\yA o<=4000001/\wx.ownsRow (w.1.size+4) 94 4 (pA V (yA o) X) (yA o) (lF o)/\o.map (·.t)=FG t b0 p/\TU w o/\Below (w.1.size+4) w1 wx)
  case first=>
   cases PU
   all_goals
    go_wp2_with(at_builtin;refine pQ rfl _ _ rfl underlying38 nO rfl (by omega) (by omega) (v:=pA V (yA o) X) rfl HR.o rfl rfl rfl (by simp[iA.oneCell']) (by omega) (by omega) ?_;intro g7 A w7 s u);go_meet;first
     |(have q:=s;exact⟨bA ⟨g7,0,aA⟩,A,o++[⟨t,a1,c1,a2,c2⟩],by simp,by simp;omega,by simpa[lF]using s.o,by rw[HWA.o];simp,D.o.snoc HP.o.1 HP.o.2,r.o.trans (u.o.below (by omega) λi hi e=>by omega)⟩)
     |exact⟨_,_,o,rfl,by omega,HR.o,by rw[HWA.o];simp,D.o,r.o⟩
  obtain⟨V,X,o,rfl,hyl2,hR,hY,hO,hB⟩:=hcut;rename eA=>H;have HTA:=bB (aKr hR hO);have P8:=bB (P1.o.keep hB);have hs8:=hB.size;have HRL:cB (RES=aE c.w now (o.map (·.t))):=by show _=_;rw[HRES.o,hY]
  have HFY:cB (∀i(h:i<yA o),ZA o[i].t):=λi h=>HFT.o _ (by
   have hm:o[i].t∈o.map (·.t):=Tc (Gb h);rw[hY]at hm;exact aHp hm)
  go_wp2;have HX9:=bB (nB.new H #[lA mA now,pA aA 0 0] 40);have B9:=bB (wF H (vA #[lA mA now,pA aA 0 0] 40));have hs9:H.1.size<(H.alloc (vA #[lA mA now,pA aA 0 0] 40)).1.size:=by simp
  generalize H.alloc (vA #[lA mA now,pA aA 0 0] 40)=w9 at *;go_loopw [15,16,61] (λ_ _ i wr=>∃(k:Nat)(v:iA),k<=yA o/\i=lA mA k/\cB (nB wr H.1.size #[lA mA now,v] 40)/\cB (eR wr w9.1.size 94 v (yA (aE c.w now ((o.map (·.t)).take k))) (aE c.w now ((o.map (·.t)).take k)))/\cB (eB (·=H.1.size) w9 wr)) (λ_ _ i _=>yA o-(intOf i).toNat)
  case atStart=>exact⟨0,pA aA 0 0,Oa _,rfl,HX9.o,eR.nil _ _ _,eB.refl _ _⟩
  case round=>
   obtain⟨k,v,hk,rfl,HX,I,F⟩:=hrel;have hs9r:=F.o.size;have BWr:=bB ((vB P8.o.B B9.o).trans (F.o.below (by omega) λi hi e=>by omega));by_cases G:k<yA o
   .obtain ⟨b,hbe,hb8,z0,z1,z2,z3,o1,o2⟩:=HTA.o k G;have N:∀j,wr.cell? ⟨b,j,aA⟩=H.cell? ⟨b,j,aA⟩:=λj=>eA.cell?_of_block ((F.o.block b (by omega) (by omega)).trans (B9.o.block b hb8));have v0:=(N _).trans z0;have v1:=(N _).trans z1;have v2:=(N _).trans z2;have v3:=(N _).trans z3;cases hbe
    have HT:cB (aE c.w now ((o.map (·.t)).take (k+1))=aE c.w now ((o.map (·.t)).take k)++if cF (xE c.w now o[k].t)=dA then [] else [xE c.w now o[k].t]):=by
     show _=_;rw[aFk _ _ _ _ (by rw[Xa];exact G)];simp
    have hkl:yA (aE c.w now ((o.map (·.t)).take k))<=4000001:=by
     have:=aNa c.w now (o.map (·.t)) k;rw[Xa]at this;omega
    obtain⟨d,f,l⟩:=HFY.o k G;have HKT:cB (∀W,uB w W->Calls prog 118 #[tA #[oA o[k].t.N,lA mA o[k].t.L,.slice o[k].a1 (yA o[k].t.M) o[k].c1,.slice o[k].a2 (yA o[k].t.Z) o[k].c2],lA mA now,lA mA c.w] W λe w'=>JM W (xE c.w now o[k].t).N (xE c.w now o[k].t) e w'):=λW hW=>qw o[k].t _ _ _ _ now c.w W (o1.z hW) (o2.z hW) d f hn0 hn1 l;unfold JM at HKT;generalize aE c.w now ((o.map (·.t)).take k)=KL at *;generalize xE c.w now o[k].t=K at *;generalize o[k]=Y at *;obtain⟨x0,-⟩:=((F.o.blk (P8.o.C.z B9.o) (by omega)).alloc (vA #[oA Y.t.N,lA mA Y.t.L,pA Y.a1 (yA Y.t.M) Y.c1,pA Y.a2 (yA Y.t.Z) Y.c2] 94)).c6;go_wp2_with fail;refine(HKT.o _ (vB BWr.o zB)).mono ?_;rintro e w4 ⟨M,x1,e1,x2,e2,rfl,hM,h1,h1M,h2,hM4,hb4⟩;have hM':wr.1.size<=M:=by simp at hM;omega
    have HH1:cB (fD w4 wr.1.size x1 K.M):=h1.mono (by simp);have HH2:=bB (Vc h1M h2);have B4:=bB (vB zB hb4);have hs4:=B4.o.size;go_wp2_with fail;apply lC (EI K _ _ _ _ _);intro w5 hb5;have B45:cB _:=vB zB hb5;have B5:=bB (vB B4.o B45.o);have X5:=bB ((nB.new w4 #[oA K.N,lA mA K.L,pA x1 (yA K.M) e1,pA x2 (yA K.Z) e2] 94).z hb5);have O5:=bB (HX.o.z B5.o);have T5:cB _:=F.o.trans (eB.of B5.o);have hs5:=aB X5.o;cases hidl:cF K with
    |true=>
     have HTT:cB (aE c.w now ((o.map (·.t)).take (k+1))=KL):=by show _=_;rw[HT.o,Ma hidl,Cd]
     go_wp2;refine⟨⟨k+1,v,by omega,by go_num,O5.o,?_,T5.o⟩,by simp[intOf];omega⟩;rw[HTT.o];exact I.o.turn (eB.of (S:=λ_=>False) B5.o) (λ_ e=>e.elim)
    |false=>
     have HTT:cB (aE c.w now ((o.map (·.t)).take (k+1))=KL++[K]):=by show _=_;rw[HT.o,Ja (by rw[hidl];simp)]
     obtain⟨TG,zs,hV1,hV2,hV3,hV4⟩:=I.o;have HV1:=bB (hC hV1 B5.o);have a0:=bB (⟨hV2,hV3,hV4⟩:_/\_/\_);have HOB:=bB (λq(hq:v.ownBlock=bA q)=>hV1.lt q hq);obtain⟨-,s1⟩:=O5.o.c2;have r0:=X5.o.c4;go_wp2_with(at_builtin;refine kI rfl _ _ rfl underlying38 nO rfl (by omega) (by omega) (v:=v) rfl HV1.o rfl rfl rfl (by simp[iA.oneCell']) (by omega) (by omega) ?_;intro gg E w6 HO6 Z HAT6;have BX6:=bB (Z.o.blk O5.o (λe=>by omega));obtain⟨-,s2⟩:=BX6.o.c2;have s3:=BX6.o.free);have hgg:(v.ownBlock=bA gg/\gg<wr.1.size)\/w4.1.size<=gg:=HAT6.o.elim (λh=>Ca ⟨h,(HOB.o _ h).2⟩) λh=>La (by omega);have hgb:=hgg.elim (λh=>(HOB.o _ h.1).1) λh=>by omega
     have O:eB (·=H.1.size) w6 (w6.setCell ⟨H.1.size,1,aA⟩ (pA (bA ⟨gg,0,aA⟩) (yA KL+1) E)):=(eB.refl (·=H.1.size) w6).setCell (Ca rfl) 1 _;have hgs:=Z.o.size;have hk5:∀g,g<w5.1.size->w9.1.size<=g->v.ownBlock≠bA g->(w6.setCell ⟨H.1.size,1,aA⟩ (pA (bA ⟨gg,0,aA⟩) (yA KL+1) E)).heap[g]?=w5.heap[g]?:=λg hg hgR2 hne=>by
      rw[O.block g (by omega) (by omega),Z.o.block g hg (λe=>hne e.2)]
     refine⟨⟨k+1,pA (bA ⟨gg,0,aA⟩) (yA KL+1) E,by omega,by go_num,bB (by have:=BX6.o.set 1 (pA (bA ⟨gg,0,aA⟩) (yA KL+1) E);simpa using this),?_,(T5.o.trans (Z.o.mono λi _ e=>La e.1)).trans' O⟩,by simp[intOf];omega⟩;rw[HTT.o,Kb];have hyk:yA zs=yA KL:=by rw[<-a0.o.1,Xa]
     exact eR.snoc (wr:=wr) (w4:=w4) (M:=M) (v:=v) (T:=TG) (ys:=zs) (O.row HO6.o (λq hq e=>by simp[iA.ownBlock]at hq;omega)) a0.o.1 hyk a0.o.2.1 a0.o.2.2 (by omega) hM'
      (λg hg hgR2 hne=>(hk5 g (by omega) hgR2 hne).trans (B5.o.block g hg))
      (λg hg hg4=>(hk5 g (by omega) (by omega) (λe=>by have:=(HOB.o _ e).2;omega)).trans (B45.o.block g hg4))
      HH1.o HH2.o.1 HH2.o.2 hgg hs4 hM4
   have ek:(o.map (·.t)).take k=o.map (·.t):=Ra (by rw[Xa];omega);rw[ek,<-HRL.o]at I;obtain⟨ra,rc,rfl⟩:=I.o.row;have Yr:=bB (F.o.blk (P8.o.R.z B9.o) (by omega));have x0:=HX.o.c2;obtain⟨y0,y1⟩:=Yr.o.c2;have m:=Yr.o.free;go_wp2;have HTE:eB (·=w.1.size+1+1+1) wr ((wr.setCell ⟨w.1.size+1+1+1,0,aA⟩ (lA mA now)).setCell ⟨w.1.size+1+1+1,1,aA⟩ (pA ra (yA RES) rc)):=((eB.refl (·=w.1.size+1+1+1) wr).setCell (Ca rfl) 0 _).setCell (Ca rfl) 1 _;refine bodyPost_ret (v:=tA #[lA mA now,pA ra (yA RES) rc]) (by simp[results,results117,go_sem,y0,y1]) rfl ⟨ra,⟨rc,rfl⟩,((I.o.turn HTE (λg e=>by omega)).own rfl).mono (by omega),((eB.of (S:=λi=>w.1.size<=i) BWr.o).trans' (HTE.mono λi _ e=>by omega)).below (Ia _) λi hi h=>by omega⟩
def lR(v:Int)(w:eA):dF 167 #[zA v] w (oA (pB 4 v)):=by
 have c:=bB (jI 4 v w (by omega));generalize pB 4 v=N at *;go_enter func167,ntmps167;go_wp2_with fail;apply lC c.o;intro f a;have b:=bB a;go_wp2;go_ret;exact⟨rfl,b.o⟩
def eP(ps:List kB):List jB:=ps.flatMap λp=>[aG p.s,pB 8 p.n]
def ME(ps:List kB)(k:Nat)(h:k<yA ps):eP (ps.take (k+1))=eP (ps.take k)++[aG ps[k].s,pB 8 ps[k].n]:=by
 unfold eP;rw[Pa h,He];rfl
def lX:∀(ps:List kB),xF (eP ps)=mE ps
 |[]=>rfl
 |p::q=>by
  have e:eP (p::q)=[aG p.s,pB 8 p.n]++eP q:=rfl;rw[e,lG,lX q,mE];simp[xF,NK]
def aQb(t:fB):Decidable (cK t):=by unfold cK UD;exact inferInstance
def VD(t:fB):jB:=haveI:=aQb t;if cK t then kR t else kA
def OJ{t:fB}(h:¬cK t):VD t=kA:=by unfold VD;rw[Ja h]
def xb{t:fB}(h:cK t):VD t=kR t:=by unfold VD;rw[Ma h]
structure TR(ps:List jB)(ms:List kB)(k:Nat)(HD:List jB):Prop where
 eq:ps=HD++eP (ms.take k)
 all:∀j(h:j<yA ms),j<k→ms[j].s.size≤65535
structure TE(w W:World)(g cv:Nat)(ps:List jB):Prop where
 row:W.ownsRow w.1.size 9 1 (pA (yB g) (yA ps) cv) (yA ps) (ps.map iA.string)
 bel:uB w W
section
variable {w W W':eA} {g cv k:Nat} {ps HD:List jB} {ms:List kB}
theorem TR.next(h:TR ps ms k HD)(d:k<yA ms)(e:ms[k].s.size<=65535):TR (ps++[aG ms[k].s,pB 8 ms[k].n]) ms (k+1) HD:=
 ⟨by rw[ME ms k d,h.eq,Nd],λj b c=>by
  rcases Gc j k with a|a;exact h.all j b a;obtain rfl:j=k:=by omega
  exact e⟩
theorem TR.fin(h:TR ps ms k HD)(b:¬k<yA ms):ps=HD++eP ms/\UD ms:=⟨by rw[h.eq,Ra (by omega)],λj a=>h.all j a (by omega)⟩
theorem TE.z(h:TE w W g cv ps)(a:uB W W'):TE w W' g cv ps:=⟨hC h.row a,vB h.bel a⟩
theorem SY{H:Array Oper}{o:Oper}{a:Act}{K:Act->eA->Prop}{Q:Exit->Act->eA->Prop}{E:Prop}{p:Nat}{x y:jB}(h:TE w W g cv ps)(f:o.guard=aA)(s z:Operand)(B:o.op=.call { callee:=.builtin .append,args:=#[s,z],argTypes:=#[30,30] })(D:a.eval s=pA (yB g) (yA ps) cv)(F:a.eval z=pA (yB p) 2 2)(C:W.1.size=p)(L:yA ps<=100000000)
(k:∀d b c,TE w c d b (ps++[x,y])->(∀j,j<W.1.size->j≠g->c.heap[j]?=W.heap[j]?)->K (a.put o.dst (.slice (yB d) (yA (ps++[x,y])) b)) c):
 if Region.wanted o (yielded H a.tmps)=dA then Oper.wp prog o a (W.alloc (vA #[oA x,oA y] 9)) K Q else E:=by
 subst C;obtain⟨I,q,l,m,n⟩:=lW;have J:=h.bel.size;have G:W.1.size<(W.alloc (vA #[oA x,oA y] 9)).1.size:=by simp
 refine iJ _ f s z _ B w.1.size 9 I _ 1 16 underlying30 q l m n rfl (by omega) g (yA ps) cv _ D (hC h.row zB) _ 2 2 [oA x,oA y] F rfl (La ⟨_,rfl,eA.news_of_block (cs:=#[oA x,oA y]) (heap_alloc_new _ _)⟩) (by simp[iA.oneCell']) (by simp[maxLen];omega) (by omega) (by omega) λd b c r t u _ _ _=>?_;have A:=λj v i=>(u j (by omega) i).trans (zB.block j v);have e:yA ps+2=yA (ps++[x,y]):=by simp
 rw[e]at r |-
 exact k d b c ⟨by rw[Ld];exact r,(vB h.bel zB).trans (t.mono (by omega))⟩ A
theorem TE.one{b a:Nat}{x:jB}(h:TE w W g cv ps)(c:W'.ownsRow w.1.size 9 1 (pA (yB b) (yA ps+1) a) (yA ps+1) (ps.map iA.string++[oA x]))(d:eB (λi=>w.1.size<=i/\(iA.slice (yB g) (yA ps) cv).ownBlock=bA i) W W'):TE w W' b a (ps++[x]):=by
 rw[show yA ps+1=yA (ps++[x]) by simp]at c;exact⟨by rw[Ld];exact c,h.bel.trans (d.below (by have:=h.bel.size;omega) λi f e=>by omega)⟩
end
def iu(t:fB)(O S:mC)(T Y:Nat)(w:eA)(hm:jC w O t.M)(hs:jC w S t.Z)(hn:t.N.size<=1000000000)(hl1:yA t.M<=2000000)(hl2:yA t.Z<=2000000)(P:∀j(h:j<yA t.M),t.M[j].s.size<=1000000000)(m:∀j(h:j<yA t.Z),t.Z[j].s.size<=1000000000):
 dF 239 #[tA #[oA t.N,lA mA t.L,pA O (yA t.M) T,pA S (yA t.Z) Y]] w (oA (VD t)):=by
 obtain⟨p,y,ms,ss⟩:=t;simp only at hm hs hn hl1 hl2 P m |-
 by_cases z1:p.size > 255
 .have E:cB (VD ⟨p,y,ms,ss⟩=kA):=OJ λh=>by have:=h.1;simp only at this;omega
  have z1':(p.size:Int) > 255:=by omega
  rw[E.o];go_enter func239,ntmps239;go_wp2;go_ret;exact⟨rfl,zB⟩
 have z1':¬(p.size:Int) > 255:=by omega
 have HM:=bB hm;have HS:=bB hs;have HBM:=bB P;have HBS:=bB m;have HU1:=bB (λW=>sT p W hn);have HU2:=bB (λW=>mI y W);have HU3:=bB (λW=>lR (yA ms:Nat) W);have HU4:=bB (λW=>lR (yA ss:Nat) W);have hz1:=rF p;have hz2:=gB 8 y;have hz3:=gB 4 (yA ms:Nat);have hz4:=gB 4 (yA ss:Nat);have HKB:cB (UD ms->UD ss->VD ⟨p,y,ms,ss⟩=aN p++pB 8 y++pB 4 (yA ms:Nat)++mE ms++pB 4 (yA ss:Nat)++mE ss):=λh1 Z=>xb ⟨by simp only;omega,h1,Z⟩;have HN1:cB (∀k(h:k<yA ms),¬ms[k].s.size<=65535->VD ⟨p,y,ms,ss⟩=kA):=λk h Z=>OJ λhh=>Z (hh.2.1 k h);have HN2:cB (∀k(h:k<yA ss),¬ss[k].s.size<=65535->VD ⟨p,y,ms,ss⟩=kA):=λk h Z=>OJ λhh=>Z (hh.2.2 k h);generalize aN p=N1 at *;generalize pB 8 y=N2 at *;generalize pB 4 (yA ms:Nat)=N3 at *;generalize pB 4 (yA ss:Nat)=V at *;generalize VD ⟨p,y,ms,ss⟩=TV at *;go_enter func239,ntmps239;go_upto_region 3 with fail;have X6:cB (nB (w.alloc (vA #[oA p,lA mA y,pA O (yA ms) T,pA S (yA ss) Y] 94)) w.1.size #[oA p,lA mA y,pA O (yA ms) T,pA S (yA ss) Y] 94):=nB.new _ _ _;have B0:cB (uB w (w.alloc (vA #[oA p,lA mA y,pA O (yA ms) T,pA S (yA ss) Y] 94))):=zB;generalize w.alloc (vA #[oA p,lA mA y,pA O (yA ms) T,pA S (yA ss) Y] 94)=D at *;have HK:cB (∀d,uB D d->d.cell? ⟨w.1.size,0,aA⟩=bA (oA p)/\d.cell? ⟨w.1.size,1,aA⟩=bA (lA mA y)/\d.cell? ⟨w.1.size,2,aA⟩=bA (pA O (yA ms) T)):=λd h=>⟨(X6.o.z h).cell 0,(X6.o.z h).cell 1,(X6.o.z h).cell 2⟩
 have x0:=HK.o D iD;go_cut [3] (λs wx=>∃g,s=pA (bA ⟨g,0,aA⟩) 3 3/\TE D wx g 3 [N1,N2,N3])
 case first=>
  go_region_held3 (λd=>d.cell? ⟨w.1.size,0,aA⟩=bA (oA p)/\d.cell? ⟨w.1.size,1,aA⟩=bA (lA mA y)/\d.cell? ⟨w.1.size,2,aA⟩=bA (pA O (yA ms) T))
   (first|go_keep|exact HK.o _ k4|exact HK.o _ k3|exact HK.o _ k2)
   (first
    |(go_at_call 218;apply lC (HU1.o _);intro w2 m;have k2:uB D w2:=(by exact vB iD.drew m))
    |(go_at_call 165;apply lC (HU2.o _);intro w3 G;have k3:uB D w3:=(by exact vB k2 G))
    |(go_at_call 167;apply lC (HU3.o _);intro w4 r;have k4:uB D w4:=(by exact vB k3 r)))
  all_goals(go_wp2_with fail;go_meet)
  all_goals exact⟨_,rfl,⟨rfl,La ⟨_,3,_,rfl,k4.size,heap_alloc_new _ _,Ia _,by simp[maxLen],rfl,rfl⟩⟩,vB k4 zB⟩
 obtain⟨g0,rfl,b0⟩:=hcut;rename eA=>Q;have L:=bB b0;have y2:Q.cell? ⟨w.1.size,2,aA⟩=bA (pA O (yA ms) T):=(X6.o.z b0.bel).cell 2;go_wp2;go_loopw [3,5,26] (λd0 _ i wr=>∃(k:Nat)(ps:List jB)(g cv:Nat),k<=yA ms/\i=lA mA k/\d0=pA (bA ⟨g,0,aA⟩) (yA ps) cv/\yA ps<=3+2*k/\fG ps<=2000000000+k*70000/\cB (TR ps ms k [N1,N2,N3])/\cB (TE D wr g cv ps)) (λ_ _ i _=>yA ms-(intOf i).toNat)
 case atStart=>exact⟨0,[N1,N2,N3],_,_,Oa _,rfl,rfl,by simp,by simp[fG];omega,⟨by simp[eP],λj _ h=>absurd h (by omega)⟩,L.o⟩
 case round=>
  obtain⟨k,ps,g,cv,hk,rfl,rfl,hpl,hps,R,H⟩:=hrel;have a:=vB B0.o H.o.bel;by_cases f:k<yA ms
  .obtain ⟨b,o,rfl,hb,c0,X⟩:=(HM.o.z a).at f;have F:=bB (λW=>vL ms[k].s W (HBM.o k f));have U:=bB (λW=>mI ms[k].n W);have HX:=bB (R.o.next f);have E:=bB (HN1.o k f);have hq3:=iF ms[k].s;have hq4:=gB 8 ms[k].n;generalize aG ms[k].s=M at *;generalize pB 8 ms[k].n=N at *;generalize ms[k].s=z at *;generalize ms[k].n=C at *;by_cases hgt:(z.size:Int) > 65535
   .replace E:=bB (E.o (by omega));go_wp2;go_ret;exact⟨by rw[E.o];rfl,vB a zB⟩
   have x:=bB (nB.new wr #[oA z,lA mA C] 96);have H1:=bB (H.o.z (wF wr (vA #[oA z,lA mA C] 96)));have hgB:=(bH H.o.row).2.1;go_upto_region 9 with fail;generalize wr.alloc (vA #[oA z,lA mA C] 96)=W at *;have hBX:=aB x.o;generalize wr.1.size=v at *;have l:cB (∀d,uB W d->d.cell? ⟨v,0,aA⟩=bA (oA z)/\d.cell? ⟨v,1,aA⟩=bA (lA mA C)):=λd h=>⟨(x.o.z h).cell 0,(x.o.z h).cell 1⟩
   have x0:=l.o W iD;go_region_held3 (λd=>d.cell? ⟨v,0,aA⟩=bA (oA z)/\d.cell? ⟨v,1,aA⟩=bA (lA mA C))
    (first|go_keep|exact u|exact l.o _ (c.alloc c.size _)|exact l.o _ c|exact l.o _ I)
    (first
     |(go_at_call 168;apply lC (F.o _);intro w3 G;have I:uB W w3:=(Below.refl _ W).drew.trans G)
     |(go_at_call 165;apply lC (U.o _);intro w4 r;have c:uB W w4:=vB I r)
     |(refine SY (by exact H1.o.z c) (by rfl) _ _ (by rfl) (by rfl) (by rfl) (by rfl) (by omega) ?_;intro g5 A Q L J;have u:Q.cell? ⟨v,0,aA⟩=bA (oA z)/\Q.cell? ⟨v,1,aA⟩=bA (lA mA C):=(by have q:=l.o _ c;have K:=J v (by have:=c.size;omega) (by omega);exact⟨(eA.cell?_of_block K).trans q.1,(eA.cell?_of_block K).trans q.2⟩)))
   have B:yA (ps++[M,N])=yA ps+2:=by simp
   have a0:fG (ps++[M,N])=fG ps+(M.size+N.size):=by rw[rH];simp[fG]
   replace L:=bB L;rw[<-B];generalize ps++[M,N]=e0 at *;go_wp2;exact⟨⟨k+1,e0,g5,A,by omega,by go_num,rfl,by omega,by omega,HX.o (by omega),L.o⟩,by simp[intOf];omega⟩
  have HE:=bB (R.o.fin f);have y3:wr.cell? ⟨w.1.size,3,aA⟩=bA (pA S (yA ss) Y):=(X6.o.z H.o.bel).cell 3;go_wp2_with fail;apply lC (HU4.o _);intro w4 r;replace H:=bB (H.o.z r);have hww:=H.o.bel.size;go_wp2_with(at_builtin;refine pQ rfl _ _ rfl underlying30 xK rfl (by omega) (by omega) rfl H.o.row rfl rfl (cs:=#[oA V]) rfl (by simp[iA.oneCell']) (by omega) hww ?_;intro g5 A Q O5 T5;have H6:=bB (H.o.one O5.o T5.o);have y3:Q.cell? ⟨w.1.size,3,aA⟩=bA (pA S (yA ss) Y):=(X6.o.z H6.o.bel).cell 3);have B:yA (ps++[V])=yA ps+1:=by simp
  have a0:fG (ps++[V])=fG ps+V.size:=by rw[rH];simp[fG]
  rw[<-B];have HPP:cB (ps++[V]=[N1,N2,N3]++eP ms++[V]):=by show _=_;rw[HE.o.1]
  generalize hPP:ps++[V]=PP at *;go_loopw [3,7,54] (λd0 _ i wr=>∃(k:Nat)(ps:List jB)(g cv:Nat),k<=yA ss/\i=lA mA k/\d0=pA (bA ⟨g,0,aA⟩) (yA ps) cv/\yA ps<=4000010+2*k/\fG ps<=200000000000+k*70000/\cB (TR ps ss k PP)/\cB (TE D wr g cv ps)) (λ_ _ i _=>yA ss-(intOf i).toNat)
  case atStart=>exact⟨0,PP,_,_,Oa _,rfl,rfl,by omega,by omega,⟨by simp[eP],λj _ h=>absurd h (by omega)⟩,H6.o⟩
  case round=>
   clear hpl hps B a0 f hk y3 H6;obtain⟨k,ps,g,cv,hk,rfl,rfl,hpl,hps,R,H⟩:=hrel;have a:=vB B0.o H.o.bel;by_cases f:k<yA ss
   .obtain ⟨b,o,rfl,hb,c0,X⟩:=(HS.o.z a).at f;have F:=bB (λW=>vL ss[k].s W (HBS.o k f));have U:=bB (λW=>mI ss[k].n W);have HX:=bB (R.o.next f);have E:=bB (HN2.o k f);have hq3:=iF ss[k].s;have hq4:=gB 8 ss[k].n;generalize aG ss[k].s=M at *;generalize pB 8 ss[k].n=N at *;generalize ss[k].s=z at *;generalize ss[k].n=C at *;by_cases hgt:(z.size:Int) > 65535
    .replace E:=bB (E.o (by omega));go_wp2;go_ret;exact⟨by rw[E.o];rfl,vB a zB⟩
    have x:=bB (nB.new wr #[oA z,lA mA C] 98);have H1:=bB (H.o.z (wF wr (vA #[oA z,lA mA C] 98)));have hgB:=(bH H.o.row).2.1;clear R E H;go_upto_region 17 with fail;generalize wr.alloc (vA #[oA z,lA mA C] 98)=W at *;have hBX:=aB x.o;generalize wr.1.size=v at *;have l:cB (∀d,uB W d->d.cell? ⟨v,0,aA⟩=bA (oA z)/\d.cell? ⟨v,1,aA⟩=bA (lA mA C)):=λd h=>⟨(x.o.z h).cell 0,(x.o.z h).cell 1⟩
    have x0:=l.o W iD;go_region_held3 (λd=>d.cell? ⟨v,0,aA⟩=bA (oA z)/\d.cell? ⟨v,1,aA⟩=bA (lA mA C))
     (first|go_keep|exact u|exact l.o _ (c.alloc c.size _)|exact l.o _ c|exact l.o _ I)
     (first
      |(go_at_call 168;apply lC (F.o _);intro w3 G;have I:uB W w3:=(Below.refl _ W).drew.trans G)
      |(go_at_call 165;apply lC (U.o _);intro w4 r;have c:uB W w4:=vB I r)
      |(refine SY (by exact H1.o.z c) (by rfl) _ _ (by rfl) (by rfl) (by rfl) (by rfl) (by omega) ?_;intro g5 A Q L J;have u:Q.cell? ⟨v,0,aA⟩=bA (oA z)/\Q.cell? ⟨v,1,aA⟩=bA (lA mA C):=(by have q:=l.o _ c;have K:=J v (by have:=c.size;omega) (by omega);exact⟨(eA.cell?_of_block K).trans q.1,(eA.cell?_of_block K).trans q.2⟩)))
    have B:yA (ps++[M,N])=yA ps+2:=by simp
    have a0:fG (ps++[M,N])=fG ps+(M.size+N.size):=by rw[rH];simp[fG]
    replace L:=bB L;rw[<-B];generalize ps++[M,N]=e0 at *;go_wp2;exact⟨⟨k+1,e0,g5,A,by omega,by go_num,rfl,by omega,by omega,HX.o (by omega),L.o⟩,by simp[intOf];omega⟩
   have E2:cB (xF ps=TV):=by
    show _=_;obtain⟨h1,Z⟩:=R.o.fin f;rw[h1,lG,lX,HPP.o,lG,lG,lX,HKB.o HE.o.2 Z];simp[xF,Wa]
   obtain⟨hcv,hg,hcs⟩:=bH H.o.row;have HJ:=bB (uI g (yA ps) cv ps wr rfl hcs hg hcv (by omega) (by omega));rw[E2.o]at HJ;go_wp2_with fail;apply lC HJ.o;intro w2 m;have B2:=bB (vB a m);go_wp2;go_ret;exact⟨rfl,B2.o⟩
def lq(D:Nat)(t:TypeId)(c d f g h i:iA)(w:eA)(b:nB w D #[c,d,f,g,h,i] t):
 Calls prog 31 #[.pointer (yB D)] w λe j=>e=uA (.tuple #[])/\qD D w j/\nB j D #[c,zA 0,zA 0,qA cA,h,i] t:=by
 have l:tC w D 1 d:=b.cell 1;have m:tC w D 2 f:=b.cell 2;have n:tC w D 3 g:=b.cell 3;have a:=b.free;have k:=bB b;clear b;go_enter func31,ntmps31;go_wp2;go_end0;refine⟨rfl,(((qD.refl _ _).setCell _ _).setCell _ _).setCell _ _,?_⟩;have:=((k.o.set 1 (zA 0)).set 2 (zA 0)).set 3 (qA cA);simpa using this
def aHe{cs:Array iA}{i:Nat}{v:iA}(h:cs[i]?=bA v):cs.setIfInBounds i v=cs:=by
 refine Array.ext_getElem? λj=>?_;rw[Eb];grind
def aEc(b o:Nat)(c:Array iA)(t:TypeId)(d:jB)(w:eA)(g:nB w b c t)(h:c[o+1]?=bA (oA d))(i:c[o+2]?=bA (zA d.size))(v:d.size<=1000000000):
 Calls prog 30 #[.pointer (bA (dB b o)),zA 0] w λe k=>e=uA (.tuple #[])/\qD b w k/\nB k b c t:=by
 have q:=g.cell (o+1);rw[h]at q;have r:=g.cell (o+2);rw[i]at r;have a:=g.free;have E:=bB (Vc (aHe h) (aHe i));have p:=bB (λW(s:nB W b c t)=>nc b o c t d W s h (by have:=(Vb.1 i).1;omega));have m:=bB g;have u:d.extract 0 d.size=d:=by simp
 clear g h i;go_enter func30,ntmps30;go_wp2_with fail;go_quiet (fail)
 go_wp2_with fail;go_region
 go_wp2_with fail;have j:=(m.o.z (below_drewN iD (nq+1))).set (o+1) (oA d);rw[E.o.1]at j;apply lC (p.o _ j);intro k f;have l:=j.set (o+2) (zA d.size);rw[E.o.2,<-f]at l;have n:=bB (Vc (show qD b w k by rw[f];exact((qD.of (below_drewN iD _)).setCell _ _).setCell _ _) l);clear j l f;go_wp2;go_end0;exact⟨rfl,n.o⟩
def aGy{w:eA}{B:Nat}{e:TypeId}{a:mC}{n f:Nat}{d:List iB}(h:w.ownsRow B e 3 (pA a n f) (yA d) (flat d))(s:0<yA d):
 ∃g b,a=yB g/\n=yA d/\B<=g/\nB w g b e/\∀j(z:j<yA d),bI b 0 j d[j]:=by
 obtain⟨_,y⟩|⟨g,k,b,p,q,i,_,_,_,A⟩:=h.2;omega;simp only[iA.slice.injEq]at p;obtain⟨rfl,rfl,rfl⟩:=p;refine⟨g,b,rfl,rfl,q,i,?_⟩;obtain⟨u,v,o,t⟩:=mH h;simp only[iA.slice.injEq]at o;obtain⟨rfl,_⟩:=o;obtain rfl|⟨x,C,l,D,m,_,c,r⟩:=t;simp at s;simp only[Qa,Addr.mk.injEq,Cc]at m;obtain⟨rfl,rfl⟩:=m;rw[i]at c;simp only[Qa,Obj.cells.injEq]at c;obtain⟨rfl,rfl,_⟩:=c;exact NM i r
def aj(a:mC)(m:Nat)(d:List iB)(c k A B:Int)(x:Bool)(w:eA)(hf:tB w a d)(hs:xO d)(t:pC d<=1000000000)(hd:eF d c k A B=dA)(J:0<yA d)(hy:∀j(h:j<yA d),d[j].Y=d[j].data.size/\d[j].data.size<=1000000000):
 Calls prog 10 #[tA #[pA a (yA d) m,lA mA c,lA mA k,lA mA A,lA mA B,qA x],pA aA 0 0] w λe L=>
  ∃a' G,e=uA (tA #[pA a' (yA d) G,lA mA c,lA mA k,lA mA 0,lA mA 0,qA cA])/\tB L a' d/\uB w L:=by
 have T:=(rG hd).2.1;have E:=bB (λW(hW:uB w W)=>@oS a m _ _ _ _ _ x _ hd W (hf.z hW) hs (by unfold maxLen;omega) t);have F:=bB (λW(hW:uB w W)=>BZ a m d c k A B x W (hf.z hW) (by omega));have HY:=bB hy;clear hf hs t hd hy;go_enter func10,ntmps10;go_wp2_with fail;apply lC (E.o _ (vB zB zB));intro w1 q;have Z:=nB.new (w.alloc (vA #[pA a (yA d) m,lA mA c,lA mA k,lA mA A,lA mA B,qA x] 35)) #[pA aA 0 0,lA mA 0,lA mA 0,lA mA 0,lA mA 0,qA cA] 35;rw[eA.size_alloc]at Z;have X:=bB (Z.z q);have D1:=bB (((nB.new w #[pA a (yA d) m,lA mA c,lA mA k,lA mA A,lA mA B,qA x] 35).alloc _).z q);have S:=bB (vB (vB zB zB) q);obtain⟨M,N,O,P,Q,R⟩:=D1.o.c6;clear Z q E D1;go_wp2_with fail;refine(F.o _ S.o).mono ?_;rintro e w2 ⟨D,v,rfl,l,y⟩;obtain⟨a7,f,rfl⟩:=tF l.row;obtain⟨g,u,rfl,-,hgB,s,o⟩:=aGy l.row J;have H:g≠D:=l.apart g rfl;have hDf:=l.from';have hRlt:=aB X.o;have hz1:=S.o.size;have R2:=bB (X.o.z y);have B2:=bB (vB S.o y);have DB:=bB l.blk;have z:=bB s;have RW:=bB o;have d4:tC w2 D 4 (pA (bA ⟨g,0,aA⟩) (yA d) f):=l.blk.cell 4;clear M N O P Q R X S l y s o F;go_wp2;go_loopw [6,7,19] (λ_ _ i wr=>∃j:Nat,j<=yA d/\i=lA mA j/\cB (nB wr D #[lA mA k,lA mA A,lA mA B,qA x,pA (bA ⟨g,0,aA⟩) (yA d) f,lA mA c] 102)/\cB (nB wr g u 104)/\cB (nB wr (w.1.size+1) #[pA aA 0 0,lA mA 0,lA mA 0,lA mA 0,lA mA 0,qA cA] 35)/\cB (uB w wr)) (λ_ _ i _=>yA d-(intOf i).toNat)
 case atStart=>exact⟨0,Oa _,rfl,DB,z,R2,B2⟩
 case round=>
  clear DB z R2 B2 d4;obtain⟨j,hj,rfl,DB,z,RB,C⟩:=hrel;have q4:tC wr D 4 (pA (bA ⟨g,0,aA⟩) (yA d) f):=DB.o.cell 4;by_cases I:j<yA d
  .have V:cB (Calls prog 30 #[.pointer (bA ⟨g,j*3,aA⟩),lA mA 0] wr λe L=>e=uA (.tuple #[])/\qD g wr L/\nB L g u 104):=by
    obtain⟨_,U,K⟩:=RW.o j I;obtain⟨y1,y2⟩:=HY.o j I;rw[Ya]at U K;rw[y1]at K;exact aEc g (j*3) u _ _ wr z.o U K y2
   go_wp2_with fail;apply lC V.o;rintro w3 ⟨b,n⟩;have p:=bB (Vc (DB.o.but b (Ne.symm H)) (Vc n (Vc (RB.o.but b (by omega)) (C.o.trans (b.below (by omega) C.o.size)))));clear b n;go_wp2;exact⟨⟨j+1,by omega,by go_num,p.o.1,p.o.2.1,p.o.2.2.1,p.o.2.2.2⟩,by simp[intOf];omega⟩
  .obtain rfl:j=yA d:=by omega
   go_wp2_with fail;apply lC (lq D _ _ _ _ _ _ _ _ DB.o);rintro w3 ⟨b,n⟩;have G3:=bB (z.o.but b H);have R3:=bB (RB.o.but b (by omega));have B3:=bB (C.o.trans (b.below (by omega) C.o.size));have D3:=bB n;clear b n q4 DB z RB C;go_wp2_with fail;apply lC (nV D _ (bA ⟨g,0,aA⟩) (yA d) f c k 0 0 cA _ D3.o);intro w4 r;have Y:=R3.o.z r;obtain⟨r0,U,K,r3,r4,r5⟩:=Y.c6;have q0:=Y.free;have G4:=bB (G3.o.z r);have B4:=bB (vB B3.o r);clear Y r;go_wp2;have HT:=λM N O P Q R=>((((((eB.refl (·=w.1.size+1) w4).setCell (Ca rfl) 0 M).setCell (Ca rfl) 1 N).setCell (Ca rfl) 2 O).setCell (Ca rfl) 3 P).setCell (Ca rfl) 4 Q).setCell (Ca rfl) 5 R;refine bodyPost_ret (v:=tA #[pA (bA ⟨g,0,aA⟩) (yA d) f,lA mA c,lA mA k,lA mA 0,lA mA 0,qA cA]) (by simp[results,results10,go_sem,r0,U,K,r3,r4,r5]) rfl ⟨_,_,rfl,?_,B4.o.trans ((HT _ _ _ _ _ _).below B4.o.size λi hi e=>by omega)⟩;have hG:=λM N O P Q R=>(HT M N O P Q R).blk G4.o (by omega);exact La ⟨g,0,rfl,aB (hG _ _ _ _ _ _),vR (hG _ _ _ _ _ _) RW.o⟩
