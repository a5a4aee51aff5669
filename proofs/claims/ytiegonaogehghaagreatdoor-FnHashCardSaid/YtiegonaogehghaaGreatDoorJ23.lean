import Derived.Test.YtiegonaogehghaaGreatDoorJ49
import Derived.Test.YtiegonaogehghaaGreatDoorJ21
set_option maxRecDepth 100000
set_option maxHeartbeats 16000000
open Bool renaming true->dA,false->cA
open Option renaming none->aA,some->bA
open ByteArray renaming empty->kA
open List renaming length->yA
namespace Go.Proofs.YtiegonaogehghaaGreatDoor
open Value renaming slice->pA,string->oA,int->lA
open Go renaming World->eA,Value->iA
open Obj renaming cells->vA
open IntKind renaming i64->mA
open Go.RowKit Tryz
def WO(x:fB):Prop:=yA x.M<=2000000/\yA x.Z<=2000000/\∀i(h:i<yA x.Z),0<=x.Z[i].n/\x.Z[i].n<=2000000000000
theorem aJe(t p:fB)(l:List fB)(b:Bool):b=dA/\(p.N.toList==t.N.toList)=dA/\yL t (l,b) p=(l,dA)\/b=dA/\(p.N.toList==t.N.toList)=cA/\yL t (l,b) p=(l++[p],dA)\/
 b=cA/\(p.N.toList==t.N.toList)=cA/\(t.N.toList==p.N.toList)=cA/\Op.bytesLess t.N.toList p.N.toList=cA/\yL t (l,b) p=(l++[p],cA)\/b=cA/\(p.N.toList==t.N.toList)=cA/\Op.bytesLess t.N.toList p.N.toList=dA/\yL t (l,b) p=(l++[t]++[p],dA)\/
 b=cA/\(p.N.toList==t.N.toList)=dA/\(t.N.toList==p.N.toList)=dA/\Op.bytesLess t.N.toList p.N.toList=cA/\yL t (l,b) p=(l++[t],dA):=by
 cases b with
 |true=>cases h:(p.N.toList==t.N.toList)<;>simp[yL,h]
 |false=>
  by_cases f:uJ p.N t.N=dA
  .have d:=zD (eJ f);exact La (La (Ca ⟨rfl,d,zD (eJ f).symm,oZ f,by simp[yL,f,d]⟩))
  have e:uJ p.N t.N=cA:=by simpa using f
  by_cases g:uJ t.N p.N=dA
  .have d:=zD (eJ g).symm;exact La (La (La (Ca ⟨rfl,d,g,by simp[yL,e,d]⟩)))
  have j:=Decidable.byContradiction λi=>g (bV e i);have d:=(dE _ _).2 j;exact La (La (La (La ⟨rfl,d,(dE _ _).2 j.symm,by simpa[uJ]using g,by simp[yL,e,d]⟩)))
structure PW(w W:World)(c:gC)(now:Int)(a:jC)(n cap:Nat)(t:fB)(a1:jC)(c1:Nat)(a2:jC)(c2:Nat):Prop where
 C:gB W w.1.size #[zA c.w,zA c.tl,zA c.ml,zA c.sh,zA c.ha,zA c.sg] 24
 S:gB W (w.1.size+1) #[zA now,pA a n cap] 40
 T:gB W (w.1.size+1+1) #[oA t.N,zA t.L,pA a1 (yA t.M) c1,pA a2 (yA t.Z) c2] 54
 R:gB W (w.1.size+1+1+1) #[zA 0,pA aA 0 0] 40
 B:tB w W
section
variable {w W W':eA} {c:gC} {now:Int} {a:jC} {n cap:Nat} {t:fB} {a1:jC} {c1:Nat} {a2:jC} {c2:Nat}
theorem PW.new(h:W=((((w.alloc (vA #[zA c.w,zA c.tl,zA c.ml,zA c.sh,zA c.ha,zA c.sg] 24)).alloc (vA #[zA now,pA a n cap] 40)).alloc (vA #[oA t.N,zA t.L,pA a1 (yA t.M) c1,pA a2 (yA t.Z) c2] 54)).alloc (vA #[zA 0,pA aA 0 0] 40))):
 PW w (W.alloc (vA #[] 54)) c now a n cap t a1 c1 a2 c2/\(W.alloc (vA #[] 54)).ownsRow (w.1.size+4) 54 4 (pA (pB (w.1.size+1+1+1+1)) 0 0) 0 []/\w.1.size+4<(W.alloc (vA #[] 54)).1.size:=by
 subst h;refine⟨⟨((((gB.new _ _ _).alloc _).alloc _).alloc _).alloc _,?_,?_,?_,vB (vB (vB (vB yB yB) yB) yB) yB⟩,?_,by simp⟩;have:=(((gB.new (w.alloc (vA #[zA c.w,zA c.tl,zA c.ml,zA c.sh,zA c.ha,zA c.sg] 24)) #[zA now,pA a n cap] 40).alloc (vA #[oA t.N,zA t.L,pA a1 (yA t.M) c1,pA a2 (yA t.Z) c2] 54)).alloc (vA #[zA 0,pA aA 0 0] 40)).alloc (vA #[] 54);simpa using this;have:=((gB.new ((w.alloc (vA #[zA c.w,zA c.tl,zA c.ml,zA c.sh,zA c.ha,zA c.sg] 24)).alloc (vA #[zA now,pA a n cap] 40)) #[oA t.N,zA t.L,pA a1 (yA t.M) c1,pA a2 (yA t.Z) c2] 54).alloc (vA #[zA 0,pA aA 0 0] 40)).alloc (vA #[] 54);simpa using this;have:=(gB.new (((w.alloc (vA #[zA c.w,zA c.tl,zA c.ml,zA c.sh,zA c.ha,zA c.sg] 24)).alloc (vA #[zA now,pA a n cap] 40)).alloc (vA #[oA t.N,zA t.L,pA a1 (yA t.M) c1,pA a2 (yA t.Z) c2] 54)) #[zA 0,pA aA 0 0] 40).alloc (vA #[] 54);simpa using this;have:=eA.ownsRow_made (e:=54) (size:=4) (base:=w.1.size+4) ((((w.alloc (vA #[zA c.w,zA c.tl,zA c.ml,zA c.sh,zA c.ha,zA c.sg] 24)).alloc (vA #[zA now,pA a n cap] 40)).alloc (vA #[oA t.N,zA t.L,pA a1 (yA t.M) c1,pA a2 (yA t.Z) c2] 54)).alloc (vA #[zA 0,pA aA 0 0] 40)) #[] 0 (by simp) (by simp[maxLen]) (by simp);simpa using this
theorem PW.keep(h:PW w W c now a n cap t a1 c1 a2 c2)(b:Below (w.1.size+4) W W'):PW w W' c now a n cap t a1 c1 a2 c2:=
 ⟨(b.block _ (by omega)).trans h.C,(b.block _ (by omega)).trans h.S,(b.block _ (by omega)).trans h.T,(b.block _ (by omega)).trans h.R,h.B.trans (b.mono (by omega))⟩
end
theorem CG(c:gC)(Q now:Int)(a:jC)(cap:Nat)(p:List fB)(t:fB)(a1 a2:jC)(c1 c2:Nat)(w:eA)(o:uC w a p)(B:lC w a1 t.M)(C:lC w a2 t.Z)(h:yA p<=2000000)(h:∀x,x=t\/x∈p->WO x)(hn0:0<=now)(hn1:now<=2000000000000):
 Calls prog 119 #[jE c,.agg #[zA Q,pA a (yA p) cap],zA now,.agg #[oA t.N,zA t.L,pA a1 (yA t.M) c1,pA a2 (yA t.Z) c2]] w λe w'=>∃a' m,e=.returned (.agg #[zA now,.slice a' (yA (uD c.w now (DD t t.N.toList.isEmpty p))) m])/\zC w' w.1.size a' (uD c.w now (DD t t.N.toList.isEmpty p))/\tB w w':=by
 have I:=cB o;have O:=cB (Vc B C);have Z:=cB h;clear o B C h;obtain⟨RES,L⟩:∃R,R=uD c.w now (DD t t.N.toList.isEmpty p):=⟨_,rfl⟩
 rw[<-L];have m:=cB L;clear L;have B:=cB (PW.new (w:=w) (c:=c) (now:=Q) (a:=a) (n:=yA p) (cap:=cap) (t:=t) (a1:=a1) (c1:=c1) (a2:=a2) (c2:=c2) rfl);unfold jE;go_enter func119,ntmps119;go_upto_region 3 with fail;generalize (((((w.alloc (vA #[zA c.w,zA c.tl,zA c.ml,zA c.sh,zA c.ha,zA c.sg] 24)).alloc (vA #[zA Q,pA a (yA p) cap] 40)).alloc (vA #[oA t.N,zA t.L,pA a1 (yA t.M) c1,pA a2 (yA t.Z) c2] 54)).alloc (vA #[zA 0,pA aA 0 0] 40)).alloc (vA #[] 54))=w1 at *;generalize t.N.toList.isEmpty=h at *;obtain⟨o,C,G⟩:=B.o;have P1:=cB o;have L1:=cB C;obtain⟨-,y1⟩:=o.S.c2;clear o C B;go_wp2;clear y1;go_loopw [9,10,12,24] (λal B _ i wr=>∃(k:Nat)(V:jC)(X:Nat)(o:List TV),k<=yA p/\i=zA k/\al=pA V (yA o) X/\B=.bool (wV t h (p.take k)).2/\yA o<=2*k/\bB (wr.ownsRow (w.1.size+4) 54 4 (pA V (yA o) X) (yA o) (dF o))/\bB (o.map (·.t)=(wV t h (p.take k)).1)/\bB (RP w o)/\bB (Below (w.1.size+4) w1 wr)) (λ_ _ _ i _=>yA p-(intOf i).toNat)
 case atStart=>exact⟨0,_,_,[],Oa _,rfl,rfl,rfl,Oa _,L1.o,rfl,λy hy=>(by cases hy),bD⟩
 case round=>
  obtain⟨k,V,X,o,hk,rfl,rfl,rfl,hyl,Y,J,D,r⟩:=hrel;have B:=r.o.size;have B:=cB (P1.o.keep r.o);by_cases G:k<yA p
  .obtain ⟨pb,po,q1,d1,q2,d2,rfl,hpl,z0,z1,z2,z3,o1,o2⟩:=I.o.at G;have HO:=cB (Vc o1 o2);have I:=cB (qr t h p k G);have v0:=(B.o.B.cell hpl).trans z0;have v1:=(B.o.B.cell hpl).trans z1;have v2:=(B.o.B.cell hpl).trans z2;have v3:=(B.o.B.cell hpl).trans z3;clear z0 z1 z2 z3 o1 o2;generalize wV t h (p.take k)=U at *;generalize p[k]=P at *;obtain⟨LU,PU⟩:=U;have hy:o.map (·.t)=LU:=J.o;subst hy;obtain⟨u0,u1,u2,u3⟩:=B.o.T.c4;have C:w.1.size+1+1<wr.1.size:=by omega
   rcases aJe t P (o.map (·.t)) PU with⟨rfl,hs,C⟩|⟨rfl,hs,C⟩|⟨rfl,hs,h1,h2,C⟩|⟨rfl,hs,h2,C⟩|⟨rfl,hs,h1,h2,C⟩
   all_goals
    have z:=cB (I.o.trans C);clear J I C;go_wp2_with(at_builtin;first
     |(refine dQ rfl _ _ rfl underlying38 rQ rfl (by omega) (by omega) (v:=pA (bA ⟨g7,0,aA⟩) (yA o+1) A) rfl s.o rfl rfl rfl (by simp[iA.oneCell']) (by omega) C ?_;intro g8 I H HR8 HT8)
     |(refine dQ rfl _ _ rfl underlying38 rQ rfl (by omega) (by omega) (v:=pA V (yA o) X) rfl (eC Y.o yB) rfl (by simp) rfl (by simp[iA.oneCell']) (by omega) (by simp;omega) ?_;intro g7 A w7 s u;have C:w.1.size+4<=w7.1.size:=(by have:=u.o.size;simp at this;omega);clear u0 u1 u2 u3;obtain⟨u0,u1,u2,u3⟩:=(u.o.blk (B.o.T.alloc _) (λe=>by omega)).c4;obtain⟨r0,r1,r2,r3⟩:=(u.o.blk (gB.new wr #[oA P.N,lA mA P.L,pA q1 (yA P.M) d1,pA q2 (yA P.Z) d2] 54) (λe=>by have:=(Y.o.lt _ e.2).2;omega)).c4))
    first
     |(have q:=HR8;exact⟨⟨k+1,bA ⟨g8,0,aA⟩,I,o++[⟨t,a1,c1,a2,c2⟩]++[⟨P,q1,d1,q2,d2⟩],by omega,by go_num,by simp,by rw[z.o],by simp;omega,cB (by simpa[dF]using HR8.o),cB (by rw[z.o];simp),(D.o.snoc O.o.1 O.o.2).snoc HO.o.1 HO.o.2,cB ((r.o.trans ((yB.mono (by omega)).trans (u.o.below (by simp;omega) λi hi e=>by omega))).trans (HT8.o.below C λi hi e=>by omega))⟩,by simp[intOf];omega⟩)
     |(have q:=s;have q:(P.N.toList==t.N.toList)=cA:=hs;exact⟨⟨k+1,bA ⟨g7,0,aA⟩,A,o++[⟨P,q1,d1,q2,d2⟩],by omega,by go_num,by simp,by rw[z.o],by simp;omega,cB (by simpa[dF]using s.o),cB (by rw[z.o];simp),D.o.snoc HO.o.1 HO.o.2,cB (r.o.trans ((yB.mono (by omega)).trans (u.o.below (by simp;omega) λi hi e=>by omega)))⟩,by simp[intOf];omega⟩)
     |(have q:=s;exact⟨⟨k+1,bA ⟨g7,0,aA⟩,A,o++[⟨t,a1,c1,a2,c2⟩],by omega,by go_num,by simp,by rw[z.o],by simp;omega,cB (by simpa[dF]using s.o),cB (by rw[z.o];simp),D.o.snoc O.o.1 O.o.2,cB (r.o.trans ((yB.mono (by omega)).trans (u.o.below (by simp;omega) λi hi e=>by omega)))⟩,by simp[intOf];omega⟩)
     |exact⟨⟨k+1,V,X,o,by omega,by go_num,rfl,by rw[z.o],by omega,eC Y.o yB,cB (by rw[z.o]),D.o,r.o.trans (yB.mono (by omega))⟩,by simp[intOf];omega⟩
  have ek:p.take k=p:=Ra (by omega);rw[ek]at J |-
  have I:bB (DD t h p=(wV t h p).1++if (wV t h p).2=dA then [] else [t]):=rfl;generalize wV t h p=U at *;obtain⟨LU,PU⟩:=U;have hy:o.map (·.t)=LU:=J.o;subst hy;have C:yA o<=4000000:=by omega
  obtain⟨u0,u1,u2,u3⟩:=B.o.T.c4;clear ek hyl J;go_upto_if 52 with fail;go_cut [9] (λal J=>∃(V:jC)(X:Nat)(o:List TV),al=pA V (yA o) X/\yA o<=4000001/\J.ownsRow (w.1.size+4) 54 4 (pA V (yA o) X) (yA o) (dF o)/\o.map (·.t)=DD t h p/\RP w o/\Below (w.1.size+4) w1 J)
  case first=>
   cases PU
   all_goals
    go_wp2_with(at_builtin;refine dQ rfl _ _ rfl underlying38 rQ rfl (by omega) (by omega) (v:=pA V (yA o) X) rfl Y.o rfl rfl rfl (by simp[iA.oneCell']) (by omega) (by omega) ?_;intro g7 A w7 s u);go_meet;first
     |(have q:=s;exact⟨bA ⟨g7,0,aA⟩,A,o++[⟨t,a1,c1,a2,c2⟩],by simp,by simp;omega,by simpa[dF]using s.o,by rw[I.o];simp,D.o.snoc O.o.1 O.o.2,r.o.trans (u.o.below (by omega) λi hi e=>by omega)⟩)
     |exact⟨_,_,o,rfl,by omega,Y.o,by rw[I.o];simp,D.o,r.o⟩
  clear Y D r B I u0 u1 u2 u3 C;obtain⟨V,X,o,rfl,C,I,B,U,C⟩:=hcut;rename eA=>H;have J:=cB (aIp I U);have P8:=cB (P1.o.keep C);have h:=C.size;have HRL:bB (RES=uD c.w now (o.map (·.t))):=by show _=_;rw[m.o,B]
  have O:bB (∀i(h:i<yA o),WO o[i].t):=λi h=>Z.o _ (by
   have Y:o[i].t∈o.map (·.t):=Tc (Gb h);rw[B]at Y;exact aFs Y)
  clear I B U C m Z P1 L1;go_wp2;have m:=cB (gB.new H #[zA now,pA aA 0 0] 40);have B9:=cB (pF H (vA #[zA now,pA aA 0 0] 40));have B:H.1.size<(H.alloc (vA #[zA now,pA aA 0 0] 40)).1.size:=by simp
  generalize H.alloc (vA #[zA now,pA aA 0 0] 40)=w9 at *;go_loopw [15,16,61] (λ_ _ i wr=>∃(k:Nat)(v:iA),k<=yA o/\i=zA k/\bB (gB wr H.1.size #[zA now,v] 40)/\bB (cS wr w9.1.size 54 v (yA (uD c.w now ((o.map (·.t)).take k))) (uD c.w now ((o.map (·.t)).take k)))/\bB (eB (·=H.1.size) w9 wr)) (λ_ _ i _=>yA o-(intOf i).toNat)
  case atStart=>exact⟨0,pA aA 0 0,Oa _,rfl,m.o,cS.nil _ _ _,eB.refl _ _⟩
  case round=>
   obtain⟨k,v,hk,rfl,HX,I,F⟩:=hrel;have m:=F.o.size;have BWr:=cB ((vB P8.o.B B9.o).trans (F.o.below (by omega) λi hi e=>by omega));by_cases G:k<yA o
   .obtain ⟨b,hbe,hb8,z0,z1,z2,z3,o1,o2⟩:=J.o k G;have N:∀j,wr.cell? (dB b j)=H.cell? (dB b j):=λj=>eA.cell?_of_block ((F.o.block b (by omega) (by omega)).trans (B9.o.block b hb8));have v0:=(N _).trans z0;have v1:=(N _).trans z1;have v2:=(N _).trans z2;have v3:=(N _).trans z3;clear N z0 z1 z2 z3;cases hbe
    have J:bB (uD c.w now ((o.map (·.t)).take (k+1))=uD c.w now ((o.map (·.t)).take k)++if yE (uE c.w now o[k].t)=dA then [] else [uE c.w now o[k].t]):=by
     show _=_;rw[aDh _ _ _ _ (by rw[Xa];exact G)];simp
    have m:yA (uD c.w now ((o.map (·.t)).take k))<=4000001:=by
     have:=aLd c.w now (o.map (·.t)) k;rw[Xa]at this;omega
    obtain⟨d,f,l⟩:=O.o k G;have m:bB (∀W,tB w W->Calls prog 120 #[.agg #[oA o[k].t.N,zA o[k].t.L,.slice o[k].a1 (yA o[k].t.M) o[k].c1,.slice o[k].a2 (yA o[k].t.Z) o[k].c2],zA now,zA c.w] W λe w'=>GK W (uE c.w now o[k].t).N (uE c.w now o[k].t) e w'):=λW B=>oh o[k].t _ _ _ _ now c.w W (o1.z B) (o2.z B) d f hn0 hn1 l;unfold GK at m;clear o1 o2 d f l;generalize uD c.w now ((o.map (·.t)).take k)=B at *;generalize uE c.w now o[k].t=K at *;generalize o[k]=Y at *;obtain⟨x0,-⟩:=((F.o.blk (P8.o.C.z B9.o) (by omega)).alloc (vA #[oA Y.t.N,zA Y.t.L,pA Y.a1 (yA Y.t.M) Y.c1,pA Y.a2 (yA Y.t.Z) Y.c2] 54)).c6;go_wp2_with fail;refine(m.o _ (vB BWr.o yB)).mono ?_;rintro e w4 ⟨M,x1,Y,x2,Z,rfl,O,h1,C,h2,hM4,G⟩;have hM':wr.1.size<=M:=by simp at O;omega
    have HH1:bB (eD w4 wr.1.size x1 K.M):=h1.mono (by simp);have HH2:=cB (Vc C h2);have U:=cB (vB yB G);have hs4:=U.o.size;clear O h1 C h2 G x0 v0 v1 v2 v3;go_wp2_with fail;apply hC (CF K _ _ _ _ _);intro w5 C;have B45:bB _:=vB yB C;have B5:=cB (vB U.o B45.o);have X5:=cB ((gB.new w4 #[oA K.N,zA K.L,pA x1 (yA K.M) Y,pA x2 (yA K.Z) Z] 54).z C);have Y:=cB (HX.o.z B5.o);have T5:bB _:=F.o.trans (eB.of B5.o);have G:=aB X5.o;clear C m;cases hidl:yE K with
    |true=>
     have C:bB (uD c.w now ((o.map (·.t)).take (k+1))=B):=by show _=_;rw[J.o,Ma hidl,Cd]
     clear hidl;go_wp2;refine⟨⟨k+1,v,by omega,by go_num,Y.o,?_,T5.o⟩,by simp[intOf];omega⟩;rw[C.o];exact I.o.turn (eB.of (S:=λ_=>False) B5.o) (λ_ e=>e.elim)
    |false=>
     have C:bB (uD c.w now ((o.map (·.t)).take (k+1))=B++[K]):=by show _=_;rw[J.o,Ja (by rw[hidl];simp)]
     clear hidl;obtain⟨TG,zs,m,J,O,U⟩:=I.o;have Z:=cB (eC m B5.o);have a0:=cB (⟨J,O,U⟩:_/\_/\_);have G:=cB (λq(hq:v.ownBlock=bA q)=>m.lt q hq);clear m J O U;obtain⟨-,m⟩:=Y.o.c2;obtain⟨r0,r1,r2,r3⟩:=X5.o.c4;go_wp2_with(at_builtin;refine qM rfl _ _ rfl underlying38 rQ rfl (by omega) (by omega) (v:=v) rfl Z.o rfl rfl rfl (by simp[iA.oneCell']) (by omega) (by omega) ?_;intro J E w6 HO6 Z m;have U:=cB (Z.o.blk Y.o (λe=>by omega));obtain⟨-,O⟩:=U.o.c2;have O:=U.o.free);have hgg:(v.ownBlock=bA J/\J<wr.1.size)\/w4.1.size<=J:=m.o.elim (λh=>Ca ⟨h,(G.o _ h).2⟩) λh=>La (by omega);have m:=hgg.elim (λh=>(G.o _ h.1).1) λh=>by omega
     have O:eB (·=H.1.size) w6 (w6.setCell (dB H.1.size 1) (pA (pB J) (yA B+1) E)):=(eB.refl (·=H.1.size) w6).setCell (Ca rfl) 1 _;have m:=Z.o.size;have hk5:∀g,g<w5.1.size->w9.1.size<=g->v.ownBlock≠bA g->(w6.setCell (dB H.1.size 1) (pA (pB J) (yA B+1) E)).heap[g]?=w5.heap[g]?:=λg hg m Y=>by
      rw[O.block g (by omega) (by omega),Z.o.block g hg (λe=>Y e.2)]
     refine⟨⟨k+1,pA (pB J) (yA B+1) E,by omega,by go_num,cB (by have:=U.o.set 1 (pA (pB J) (yA B+1) E);simpa using this),?_,(T5.o.trans (Z.o.mono λi _ e=>La e.1)).trans' O⟩,by simp[intOf];omega⟩;rw[C.o,Kb];have C:yA zs=yA B:=by rw[<-a0.o.1,Xa]
     exact cS.snoc (wr:=wr) (w4:=w4) (M:=M) (v:=v) (T:=TG) (ys:=zs) (O.row HO6.o (λq hq e=>by simp[iA.ownBlock]at hq;omega)) a0.o.1 C a0.o.2.1 a0.o.2.2 (by omega) hM'
      (λg hg m Y=>(hk5 g (by omega) m Y).trans (B5.o.block g hg))
      (λg hg m=>(hk5 g (by omega) (by omega) (λe=>by have:=(G.o _ e).2;omega)).trans (B45.o.block g m))
      HH1.o HH2.o.1 HH2.o.2 hgg hs4 hM4
   have ek:(o.map (·.t)).take k=o.map (·.t):=Ra (by rw[Xa];omega);rw[ek,<-HRL.o]at I;obtain⟨o,rc,rfl⟩:=I.o.row;have B:=cB (F.o.blk (P8.o.R.z B9.o) (by omega));obtain⟨x0,x1⟩:=HX.o.c2;obtain⟨C,y1⟩:=B.o.c2;have m:=B.o.free;go_wp2;have m:eB (·=w.1.size+1+1+1) wr ((wr.setCell (dB (w.1.size+1+1+1) 0) (zA now)).setCell (dB (w.1.size+1+1+1) 1) (pA o (yA RES) rc)):=((eB.refl (·=w.1.size+1+1+1) wr).setCell (Ca rfl) 0 _).setCell (Ca rfl) 1 _;refine bodyPost_ret (v:=.agg #[zA now,pA o (yA RES) rc]) (by simp[results,results119,go_sem,C,y1]) rfl ⟨o,⟨rc,rfl⟩,((I.o.turn m (λg e=>by omega)).own rfl).mono (by omega),((eB.of (S:=λi=>w.1.size<=i) BWr.o).trans' (m.mono λi _ e=>by omega)).below (Ia _) λi hi h=>by omega⟩
theorem qQ(v:Int)(w:eA):vE 165 #[zA v] w (oA (qB 4 v)):=by
 have c:=cB (fH 4 v w (by omega));generalize qB 4 v=N at *;go_enter func165,ntmps165;go_wp2_with fail;apply hC c.o;intro f a;have b:=cB a;clear a;go_wp2;go_ret;exact⟨rfl,b.o⟩
theorem rO(v:Int)(w:eA):vE 164 #[zA v] w (oA (qB 8 v)):=by
 have c:=cB (fH 8 v w (by omega));generalize qB 8 v=N at *;go_enter func164,ntmps164;go_wp2_with fail;apply hC c.o;intro f a;have b:=cB a;clear a;go_wp2;go_ret;exact⟨rfl,b.o⟩
def tO(ps:List iB):List nB:=ps.flatMap λp=>[vF p.s,qB 8 p.n]
theorem KI(ps:List iB)(k:Nat)(h:k<yA ps):tO (ps.take (k+1))=tO (ps.take k)++[vF ps[k].s,qB 8 ps[k].n]:=by
 unfold tO;rw[Pa h,He];rfl
theorem cW:∀(ps:List iB),qF (tO ps)=oG ps
 |[]=>rfl
 |p::q=>by
  have e:tO (p::q)=[vF p.s,qB 8 p.n]++tO q:=rfl;rw[e,eG,cW q,oG];simp[qF,NR]
def aNv(t:fB):Decidable (vK t):=by unfold vK WW;exact inferInstance
def SQ(t:fB):nB:=haveI:=aNv t;if vK t then lU t else kA
theorem MH{t:fB}(h:¬vK t):SQ t=kA:=by unfold SQ;rw[Ja h]
theorem tr{t:fB}(h:vK t):SQ t=lU t:=by unfold SQ;rw[Ma h]
structure TR(ps:List nB)(ms:List iB)(k:Nat)(HD:List nB):Prop where
 eq:ps=HD++tO (ms.take k)
 all:∀j(h:j<yA ms),j<k→ms[j].s.size≤65535
structure TE(w W:World)(g cv:Nat)(ps:List nB):Prop where
 row:W.ownsRow w.1.size 9 1 (pA (pB g) (yA ps) cv) (yA ps) (ps.map iA.string)
 bel:tB w W
section
variable {w W W':eA} {g cv k:Nat} {ps HD:List nB} {ms:List iB}
theorem TR.next(h:TR ps ms k HD)(d:k<yA ms)(e:ms[k].s.size<=65535):TR (ps++[vF ms[k].s,qB 8 ms[k].n]) ms (k+1) HD:=
 ⟨by rw[KI ms k d,h.eq,Nd],λj b c=>by
  rcases Gc j k with a|a;exact h.all j b a;obtain rfl:j=k:=by omega
  exact e⟩
theorem TR.fin(h:TR ps ms k HD)(b:¬k<yA ms):ps=HD++tO ms/\WW ms:=⟨by rw[h.eq,Ra (by omega)],λj a=>h.all j a (by omega)⟩
theorem TE.z(h:TE w W g cv ps)(a:tB W W'):TE w W' g cv ps:=⟨eC h.row a,vB h.bel a⟩
theorem QU{H:Array Oper}{o:Oper}{a:Act}{K:Act->eA->Prop}{Q:Exit->Act->eA->Prop}{E:Prop}{p:Nat}{x y:nB}(h:TE w W g cv ps)(f:o.guard=aA)(s z:Operand)(B:o.op=.call { callee:=.builtin .append,args:=#[s,z],argTypes:=#[30,30] })(D:a.eval s=pA (pB g) (yA ps) cv)(F:a.eval z=pA (pB p) 2 2)(C:W.1.size=p)(L:yA ps<=100000000)
(k:∀d b c,TE w c d b (ps++[x,y])->(∀j,j<W.1.size->j≠g->c.heap[j]?=W.heap[j]?)->K (a.put o.dst (.slice (pB d) (yA (ps++[x,y])) b)) c):
 if Region.wanted o (yielded H a.tmps)=dA then Oper.wp prog o a (W.alloc (vA #[oA x,oA y] 9)) K Q else E:=by
 subst C;obtain⟨I,q,l,m,n⟩:=wZ;have J:=h.bel.size;have G:W.1.size<(W.alloc (vA #[oA x,oA y] 9)).1.size:=by simp
 refine tI _ f s z _ B w.1.size 9 I _ 1 16 underlying30 q l m n rfl (by omega) g (yA ps) cv _ D (eC h.row yB) _ 2 2 [oA x,oA y] F rfl (La ⟨_,rfl,eA.news_of_block (cs:=#[oA x,oA y]) (heap_alloc_new _ _)⟩) (by simp[iA.oneCell']) (by simp[maxLen];omega) (by omega) (by omega) λd b c r t u _ _ _=>?_;have A:=λj v i=>(u j (by omega) i).trans (yB.block j v);have e:yA ps+2=yA (ps++[x,y]):=by simp
 rw[e]at r |-
 exact k d b c ⟨by rw[Ld];exact r,(vB h.bel yB).trans (t.mono (by omega))⟩ A
theorem UQ:(prog.info? 9).map (λi=>(i.zero,i.size,i.bytes))=bA (bA (oA kA),1,16):=by kernel_rfl
theorem TE.one{b a:Nat}{x:nB}(h:TE w W g cv ps)(c:W'.ownsRow w.1.size 9 1 (pA (pB b) (yA ps+1) a) (yA ps+1) (ps.map iA.string++[oA x]))(d:eB (λi=>w.1.size<=i/\(iA.slice (pB g) (yA ps) cv).ownBlock=bA i) W W'):TE w W' b a (ps++[x]):=by
 rw[show yA ps+1=yA (ps++[x]) by simp]at c;exact⟨by rw[Ld];exact c,h.bel.trans (d.below (by have:=h.bel.size;omega) λi f e=>by omega)⟩
end
theorem eh(t:fB)(O S:jC)(T Y:Nat)(w:eA)(hm:lC w O t.M)(hs:lC w S t.Z)(hn:t.N.size<=1000000000)(hl1:yA t.M<=2000000)(hl2:yA t.Z<=2000000)(P:∀j(h:j<yA t.M),t.M[j].s.size<=1000000000)(m:∀j(h:j<yA t.Z),t.Z[j].s.size<=1000000000):
 vE 239 #[.agg #[oA t.N,lA mA t.L,pA O (yA t.M) T,pA S (yA t.Z) Y]] w (oA (SQ t)):=by
 obtain⟨p,y,ms,ss⟩:=t;simp only at hm hs hn hl1 hl2 P m |-
 by_cases z1:p.size > 255
 .have E:bB (SQ ⟨p,y,ms,ss⟩=kA):=MH λh=>by have:=h.1;simp only at this;omega
  have z1':(p.size:Int) > 255:=by omega
  rw[E.o];clear hm hs P m;go_enter func239,ntmps239;go_wp2;go_ret;exact⟨rfl,yB⟩
 have z1':¬(p.size:Int) > 255:=by omega
 have HM:=cB hm;have HS:=cB hs;have HBM:=cB P;have HBS:=cB m;have HU1:=cB (λW=>mS p W hn);have HU2:=cB (λW=>rO y W);have HU3:=cB (λW=>qQ (yA ms:Nat) W);have HU4:=cB (λW=>qQ (yA ss:Nat) W);have hz1:=lF p;have hz2:=kB 8 y;have hz3:=kB 4 (yA ms:Nat);have hz4:=kB 4 (yA ss:Nat);have HKB:bB (WW ms->WW ss->SQ ⟨p,y,ms,ss⟩=xM p++qB 8 y++qB 4 (yA ms:Nat)++oG ms++qB 4 (yA ss:Nat)++oG ss):=λh1 Z=>tr ⟨by simp only;omega,h1,Z⟩;have HN1:bB (∀k(h:k<yA ms),¬ms[k].s.size<=65535->SQ ⟨p,y,ms,ss⟩=kA):=λk h Z=>MH λhh=>Z (hh.2.1 k h);have HN2:bB (∀k(h:k<yA ss),¬ss[k].s.size<=65535->SQ ⟨p,y,ms,ss⟩=kA):=λk h Z=>MH λhh=>Z (hh.2.2 k h);generalize xM p=N1 at *;generalize qB 8 y=N2 at *;generalize qB 4 (yA ms:Nat)=N3 at *;generalize qB 4 (yA ss:Nat)=V at *;generalize SQ ⟨p,y,ms,ss⟩=TV at *;clear hm hs P m;go_enter func239,ntmps239;go_upto_region 3 with fail;have X6:bB (gB (w.alloc (vA #[oA p,lA mA y,pA O (yA ms) T,pA S (yA ss) Y] 54)) w.1.size #[oA p,lA mA y,pA O (yA ms) T,pA S (yA ss) Y] 54):=gB.new _ _ _;have B0:bB (tB w (w.alloc (vA #[oA p,lA mA y,pA O (yA ms) T,pA S (yA ss) Y] 54))):=yB;generalize w.alloc (vA #[oA p,lA mA y,pA O (yA ms) T,pA S (yA ss) Y] 54)=D at *;have HK:bB (∀d,tB D d->d.cell? ⟨w.1.size,0,aA⟩=bA (oA p)/\d.cell? ⟨w.1.size,1,aA⟩=bA (lA mA y)/\d.cell? ⟨w.1.size,2,aA⟩=bA (pA O (yA ms) T)):=λd h=>⟨(X6.o.z h).cell 0,(X6.o.z h).cell 1,(X6.o.z h).cell 2⟩
 obtain⟨x0,x1,x2⟩:=HK.o D bD;go_cut [3] (λs wx=>∃g,s=pA (bA ⟨g,0,aA⟩) 3 3/\TE D wx g 3 [N1,N2,N3])
 case first=>
  go_region_held3 (λd=>d.cell? ⟨w.1.size,0,aA⟩=bA (oA p)/\d.cell? ⟨w.1.size,1,aA⟩=bA (lA mA y)/\d.cell? ⟨w.1.size,2,aA⟩=bA (pA O (yA ms) T))
   (first|go_keep|exact HK.o _ k4|exact HK.o _ k3|exact HK.o _ k2)
   (first
    |(go_at_call 218;apply hC (HU1.o _);intro w2 m;have k2:tB D w2:=(by exact vB bD.drew m))
    |(go_at_call 164;apply hC (HU2.o _);intro w3 G;have k3:tB D w3:=(by exact vB k2 G))
    |(go_at_call 165;apply hC (HU3.o _);intro w4 r;have k4:tB D w4:=(by exact vB k3 r)))
  all_goals(go_wp2_with fail;go_meet)
  all_goals exact⟨_,rfl,⟨rfl,La ⟨_,3,_,rfl,k4.size,heap_alloc_new _ _,Ia _,by simp[maxLen],rfl,rfl⟩⟩,vB k4 yB⟩
 obtain⟨g0,rfl,b0⟩:=hcut;rename eA=>Q;have L:=cB b0;have y2:Q.cell? ⟨w.1.size,2,aA⟩=bA (pA O (yA ms) T):=(X6.o.z b0.bel).cell 2;clear x0 x1 x2 HK b0 HU1 HU2 HU3;go_wp2;go_loopw [3,5,26] (λd0 _ i wr=>∃(k:Nat)(ps:List nB)(g cv:Nat),k<=yA ms/\i=lA mA k/\d0=pA (bA ⟨g,0,aA⟩) (yA ps) cv/\yA ps<=3+2*k/\yF ps<=2000000000+k*70000/\bB (TR ps ms k [N1,N2,N3])/\bB (TE D wr g cv ps)) (λ_ _ i _=>yA ms-(intOf i).toNat)
 case atStart=>exact⟨0,[N1,N2,N3],_,_,Oa _,rfl,rfl,by simp,by simp[yF];omega,⟨by simp[tO],λj _ h=>absurd h (by omega)⟩,L.o⟩
 case round=>
  obtain⟨k,ps,g,cv,hk,rfl,rfl,hpl,hps,R,H⟩:=hrel;have a:=vB B0.o H.o.bel;by_cases f:k<yA ms
  .obtain ⟨b,o,rfl,hb,c0,X⟩:=(HM.o.z a).at f;have F:=cB (λW=>mL ms[k].s W (HBM.o k f));have U:=cB (λW=>rO ms[k].n W);have HX:=cB (R.o.next f);have E:=cB (HN1.o k f);have hq3:=bF ms[k].s;have hq4:=kB 8 ms[k].n;generalize vF ms[k].s=M at *;generalize qB 8 ms[k].n=N at *;generalize ms[k].s=z at *;generalize ms[k].n=C at *;by_cases hgt:(z.size:Int) > 65535
   .replace E:=cB (E.o (by omega));go_wp2;go_ret;exact⟨by rw[E.o];rfl,vB a yB⟩
   have x:=cB (gB.new wr #[oA z,lA mA C] 203);have H1:=cB (H.o.z (pF wr (vA #[oA z,lA mA C] 203)));have hgB:=(xG H.o.row).2.1;clear R E H;go_upto_region 9 with fail;generalize wr.alloc (vA #[oA z,lA mA C] 203)=W at *;have hBX:=aB x.o;clear hb c0 X a;generalize wr.1.size=v at *;clear wr;have l:bB (∀d,tB W d->d.cell? ⟨v,0,aA⟩=bA (oA z)/\d.cell? ⟨v,1,aA⟩=bA (lA mA C)):=λd h=>⟨(x.o.z h).cell 0,(x.o.z h).cell 1⟩
   obtain⟨x0,x1⟩:=l.o W bD;go_region_held3 (λd=>d.cell? ⟨v,0,aA⟩=bA (oA z)/\d.cell? ⟨v,1,aA⟩=bA (lA mA C))
    (first|go_keep|exact u|exact l.o _ (c.alloc c.size _)|exact l.o _ c|exact l.o _ I)
    (first
     |(go_at_call 166;apply hC (F.o _);intro w3 G;have I:tB W w3:=(Below.refl _ W).drew.trans G)
     |(go_at_call 164;apply hC (U.o _);intro w4 r;have c:tB W w4:=vB I r)
     |(refine QU (by exact H1.o.z c) (by rfl) _ _ (by rfl) (by rfl) (by rfl) (by rfl) (by omega) ?_;intro g5 A Q L J;have u:Q.cell? ⟨v,0,aA⟩=bA (oA z)/\Q.cell? ⟨v,1,aA⟩=bA (lA mA C):=(by have q:=l.o _ c;have K:=J v (by have:=c.size;omega) (by omega);exact⟨(eA.cell?_of_block K).trans q.1,(eA.cell?_of_block K).trans q.2⟩)))
   have B:yA (ps++[M,N])=yA ps+2:=by simp
   have a0:yF (ps++[M,N])=yF ps+(M.size+N.size):=by rw[oH];simp[yF]
   replace L:=cB L;rw[<-B];clear u J;generalize ps++[M,N]=e0 at *;go_wp2;exact⟨⟨k+1,e0,g5,A,by omega,by go_num,rfl,by omega,by omega,HX.o (by omega),L.o⟩,by simp[intOf];omega⟩
  have HE:=cB (R.o.fin f);have y3:wr.cell? ⟨w.1.size,3,aA⟩=bA (pA S (yA ss) Y):=(X6.o.z H.o.bel).cell 3;clear R HM HBM HN1 L;go_wp2_with fail;apply hC (HU4.o _);intro w4 r;replace H:=cB (H.o.z r);have hww:=H.o.bel.size;clear r a y3 HU4;go_wp2_with(at_builtin;refine dQ rfl _ _ rfl underlying30 UQ rfl (by omega) (by omega) rfl H.o.row rfl rfl (cs:=#[oA V]) rfl (by simp[iA.oneCell']) (by omega) hww ?_;intro g5 A Q O5 T5;have H6:=cB (H.o.one O5.o T5.o);have y3:Q.cell? ⟨w.1.size,3,aA⟩=bA (pA S (yA ss) Y):=(X6.o.z H6.o.bel).cell 3);have B:yA (ps++[V])=yA ps+1:=by simp
  have a0:yF (ps++[V])=yF ps+V.size:=by rw[oH];simp[yF]
  rw[<-B];have HPP:bB (ps++[V]=[N1,N2,N3]++tO ms++[V]):=by show _=_;rw[HE.o.1]
  clear O5 T5 H;generalize hPP:ps++[V]=PP at *;clear hPP;go_loopw [3,7,54] (λd0 _ i wr=>∃(k:Nat)(ps:List nB)(g cv:Nat),k<=yA ss/\i=lA mA k/\d0=pA (bA ⟨g,0,aA⟩) (yA ps) cv/\yA ps<=4000010+2*k/\yF ps<=200000000000+k*70000/\bB (TR ps ss k PP)/\bB (TE D wr g cv ps)) (λ_ _ i _=>yA ss-(intOf i).toNat)
  case atStart=>exact⟨0,PP,_,_,Oa _,rfl,rfl,by omega,by omega,⟨by simp[tO],λj _ h=>absurd h (by omega)⟩,H6.o⟩
  case round=>
   clear hpl hps B a0 f hk y3 H6;obtain⟨k,ps,g,cv,hk,rfl,rfl,hpl,hps,R,H⟩:=hrel;have a:=vB B0.o H.o.bel;by_cases f:k<yA ss
   .obtain ⟨b,o,rfl,hb,c0,X⟩:=(HS.o.z a).at f;have F:=cB (λW=>mL ss[k].s W (HBS.o k f));have U:=cB (λW=>rO ss[k].n W);have HX:=cB (R.o.next f);have E:=cB (HN2.o k f);have hq3:=bF ss[k].s;have hq4:=kB 8 ss[k].n;generalize vF ss[k].s=M at *;generalize qB 8 ss[k].n=N at *;generalize ss[k].s=z at *;generalize ss[k].n=C at *;by_cases hgt:(z.size:Int) > 65535
    .replace E:=cB (E.o (by omega));go_wp2;go_ret;exact⟨by rw[E.o];rfl,vB a yB⟩
    have x:=cB (gB.new wr #[oA z,lA mA C] 58);have H1:=cB (H.o.z (pF wr (vA #[oA z,lA mA C] 58)));have hgB:=(xG H.o.row).2.1;clear R E H;go_upto_region 17 with fail;generalize wr.alloc (vA #[oA z,lA mA C] 58)=W at *;have hBX:=aB x.o;clear hb c0 X a;generalize wr.1.size=v at *;clear wr;have l:bB (∀d,tB W d->d.cell? ⟨v,0,aA⟩=bA (oA z)/\d.cell? ⟨v,1,aA⟩=bA (lA mA C)):=λd h=>⟨(x.o.z h).cell 0,(x.o.z h).cell 1⟩
    obtain⟨x0,x1⟩:=l.o W bD;go_region_held3 (λd=>d.cell? ⟨v,0,aA⟩=bA (oA z)/\d.cell? ⟨v,1,aA⟩=bA (lA mA C))
     (first|go_keep|exact u|exact l.o _ (c.alloc c.size _)|exact l.o _ c|exact l.o _ I)
     (first
      |(go_at_call 166;apply hC (F.o _);intro w3 G;have I:tB W w3:=(Below.refl _ W).drew.trans G)
      |(go_at_call 164;apply hC (U.o _);intro w4 r;have c:tB W w4:=vB I r)
      |(refine QU (by exact H1.o.z c) (by rfl) _ _ (by rfl) (by rfl) (by rfl) (by rfl) (by omega) ?_;intro g5 A Q L J;have u:Q.cell? ⟨v,0,aA⟩=bA (oA z)/\Q.cell? ⟨v,1,aA⟩=bA (lA mA C):=(by have q:=l.o _ c;have K:=J v (by have:=c.size;omega) (by omega);exact⟨(eA.cell?_of_block K).trans q.1,(eA.cell?_of_block K).trans q.2⟩)))
    have B:yA (ps++[M,N])=yA ps+2:=by simp
    have a0:yF (ps++[M,N])=yF ps+(M.size+N.size):=by rw[oH];simp[yF]
    replace L:=cB L;rw[<-B];clear u J;generalize ps++[M,N]=e0 at *;go_wp2;exact⟨⟨k+1,e0,g5,A,by omega,by go_num,rfl,by omega,by omega,HX.o (by omega),L.o⟩,by simp[intOf];omega⟩
   have E2:bB (qF ps=TV):=by
    show _=_;obtain⟨h1,Z⟩:=R.o.fin f;rw[h1,eG,cW,HPP.o,eG,eG,cW,HKB.o HE.o.2 Z];simp[qF,Wa]
   obtain⟨hcv,hg,hcs⟩:=xG H.o.row;have HJ:=cB (iI g (yA ps) cv ps wr rfl hcs hg hcv (by omega) (by omega));rw[E2.o]at HJ;clear hcs;go_wp2_with fail;apply hC HJ.o;intro w2 m;have B2:=cB (vB a m);clear m;go_wp2;go_ret;exact⟨rfl,B2.o⟩
