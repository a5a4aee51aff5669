import Derived.Test.YtcmdjimlmnaojaaGreatDoorJ49
import Derived.Test.YtcmdjimlmnaojaaGreatDoorJ21
set_option maxRecDepth 100000
set_option maxHeartbeats 16000000
open Bool renaming true->eA,false->dA
open Option renaming none->aA,some->cA
open ByteArray renaming empty->lA
open List renaming length->zA
namespace Go.Proofs.YtcmdjimlmnaojaaGreatDoor
open Value renaming slice->qA,string->pA,int->mA
open Go renaming World->fA,Value->jA
open Obj renaming cells->xA
open IntKind renaming i64->oA
open Go.RowKit Tryz
def WT(x:gB):Prop:=zA x.M<=2000000/\zA x.Z<=2000000/\∀i(h:i<zA x.Z),0<=x.Z[i].n/\x.Z[i].n<=2000000000000
theorem aJa(t p:gB)(l:List gB)(b:Bool):b=eA/\(p.N.toList==t.N.toList)=eA/\eM t (l,b) p=(l,eA)\/b=eA/\(p.N.toList==t.N.toList)=dA/\eM t (l,b) p=(l++[p],eA)\/
 b=dA/\(p.N.toList==t.N.toList)=dA/\(t.N.toList==p.N.toList)=dA/\Op.bytesLess t.N.toList p.N.toList=dA/\eM t (l,b) p=(l++[p],dA)\/b=dA/\(p.N.toList==t.N.toList)=dA/\Op.bytesLess t.N.toList p.N.toList=eA/\eM t (l,b) p=(l++[t]++[p],eA)\/
 b=dA/\(p.N.toList==t.N.toList)=eA/\(t.N.toList==p.N.toList)=eA/\Op.bytesLess t.N.toList p.N.toList=dA/\eM t (l,b) p=(l++[t],eA):=by
 cases b with
 |true=>cases h:(p.N.toList==t.N.toList)<;>simp[eM,h]
 |false=>
  by_cases f:bK p.N t.N=eA
  .have d:=yD (mI f);exact La (La (Ca ⟨rfl,d,yD (mI f).symm,oZ f,by simp[eM,f,d]⟩))
  have e:bK p.N t.N=dA:=by simpa using f
  by_cases g:bK t.N p.N=eA
  .have d:=yD (mI g).symm;exact La (La (La (Ca ⟨rfl,d,g,by simp[eM,e,d]⟩)))
  have j:=Decidable.byContradiction λi=>g (aV e i);have d:=(gE _ _).2 j;exact La (La (La (La ⟨rfl,d,(gE _ _).2 j.symm,by simpa[bK]using g,by simp[eM,e,d]⟩)))
structure PW(w W:World)(c:lC)(now:Int)(a:nC)(n cap:Nat)(t:gB)(a1:nC)(c1:Nat)(a2:nC)(c2:Nat):Prop where
 C:jB W w.1.size #[aB c.w,aB c.tl,aB c.ml,aB c.sh,aB c.ha,aB c.sg] 24
 S:jB W (w.1.size+1) #[aB now,qA a n cap] 40
 T:jB W (w.1.size+1+1) #[pA t.N,aB t.L,qA a1 (zA t.M) c1,qA a2 (zA t.Z) c2] 131
 R:jB W (w.1.size+1+1+1) #[aB 0,qA aA 0 0] 40
 B:xB w W
section
variable {w W W':fA} {c:lC} {now:Int} {a:nC} {n cap:Nat} {t:gB} {a1:nC} {c1:Nat} {a2:nC} {c2:Nat}
theorem PW.new(h:W=((((w.alloc (xA #[aB c.w,aB c.tl,aB c.ml,aB c.sh,aB c.ha,aB c.sg] 24)).alloc (xA #[aB now,qA a n cap] 40)).alloc (xA #[pA t.N,aB t.L,qA a1 (zA t.M) c1,qA a2 (zA t.Z) c2] 131)).alloc (xA #[aB 0,qA aA 0 0] 40))):
 PW w (W.alloc (xA #[] 131)) c now a n cap t a1 c1 a2 c2/\(W.alloc (xA #[] 131)).ownsRow (w.1.size+4) 131 4 (qA (vB (w.1.size+1+1+1+1)) 0 0) 0 []/\w.1.size+4<(W.alloc (xA #[] 131)).1.size:=by
 subst h;refine⟨⟨((((jB.new _ _ _).alloc _).alloc _).alloc _).alloc _,?_,?_,?_,aC (aC (aC (aC bC bC) bC) bC) bC⟩,?_,by simp⟩;have:=(((jB.new (w.alloc (xA #[aB c.w,aB c.tl,aB c.ml,aB c.sh,aB c.ha,aB c.sg] 24)) #[aB now,qA a n cap] 40).alloc (xA #[pA t.N,aB t.L,qA a1 (zA t.M) c1,qA a2 (zA t.Z) c2] 131)).alloc (xA #[aB 0,qA aA 0 0] 40)).alloc (xA #[] 131);simpa using this;have:=((jB.new ((w.alloc (xA #[aB c.w,aB c.tl,aB c.ml,aB c.sh,aB c.ha,aB c.sg] 24)).alloc (xA #[aB now,qA a n cap] 40)) #[pA t.N,aB t.L,qA a1 (zA t.M) c1,qA a2 (zA t.Z) c2] 131).alloc (xA #[aB 0,qA aA 0 0] 40)).alloc (xA #[] 131);simpa using this;have:=(jB.new (((w.alloc (xA #[aB c.w,aB c.tl,aB c.ml,aB c.sh,aB c.ha,aB c.sg] 24)).alloc (xA #[aB now,qA a n cap] 40)).alloc (xA #[pA t.N,aB t.L,qA a1 (zA t.M) c1,qA a2 (zA t.Z) c2] 131)) #[aB 0,qA aA 0 0] 40).alloc (xA #[] 131);simpa using this;have:=fA.ownsRow_made (e:=131) (size:=4) (base:=w.1.size+4) ((((w.alloc (xA #[aB c.w,aB c.tl,aB c.ml,aB c.sh,aB c.ha,aB c.sg] 24)).alloc (xA #[aB now,qA a n cap] 40)).alloc (xA #[pA t.N,aB t.L,qA a1 (zA t.M) c1,qA a2 (zA t.Z) c2] 131)).alloc (xA #[aB 0,qA aA 0 0] 40)) #[] 0 (by simp) (by simp[maxLen]) (by simp);simpa using this
theorem PW.keep(h:PW w W c now a n cap t a1 c1 a2 c2)(b:Below (w.1.size+4) W W'):PW w W' c now a n cap t a1 c1 a2 c2:=
 ⟨(b.block _ (by omega)).trans h.C,(b.block _ (by omega)).trans h.S,(b.block _ (by omega)).trans h.T,(b.block _ (by omega)).trans h.R,h.B.trans (b.mono (by omega))⟩
end
theorem CL(c:lC)(Q now:Int)(a:nC)(cap:Nat)(p:List gB)(t:gB)(a1 a2:nC)(c1 c2:Nat)(w:fA)(o:aD w a p)(B:mC w a1 t.M)(C:mC w a2 t.Z)(h:zA p<=2000000)(h:∀x,x=t\/x∈p->WT x)(hn0:0<=now)(hn1:now<=2000000000000):
 Calls prog 111 #[uE c,.agg #[aB Q,qA a (zA p) cap],aB now,.agg #[pA t.N,aB t.L,qA a1 (zA t.M) c1,qA a2 (zA t.Z) c2]] w λe w'=>∃a' m,e=.returned (.agg #[aB now,.slice a' (zA (kD c.w now (DH t t.N.toList.isEmpty p))) m])/\dD w' w.1.size a' (kD c.w now (DH t t.N.toList.isEmpty p))/\xB w w':=by
 have I:=dB o;have O:=dB (Vc B C);have Z:=dB h;clear o B C h;obtain⟨RES,L⟩:∃R,R=kD c.w now (DH t t.N.toList.isEmpty p):=⟨_,rfl⟩
 rw[<-L];have m:=dB L;clear L;have B:=dB (PW.new (w:=w) (c:=c) (now:=Q) (a:=a) (n:=zA p) (cap:=cap) (t:=t) (a1:=a1) (c1:=c1) (a2:=a2) (c2:=c2) rfl);unfold uE;go_enter func111,ntmps111;go_upto_region 3 with fail;generalize (((((w.alloc (xA #[aB c.w,aB c.tl,aB c.ml,aB c.sh,aB c.ha,aB c.sg] 24)).alloc (xA #[aB Q,qA a (zA p) cap] 40)).alloc (xA #[pA t.N,aB t.L,qA a1 (zA t.M) c1,qA a2 (zA t.Z) c2] 131)).alloc (xA #[aB 0,qA aA 0 0] 40)).alloc (xA #[] 131))=w1 at *;generalize t.N.toList.isEmpty=h at *;obtain⟨o,C,G⟩:=B.o;have P1:=dB o;have L1:=dB C;obtain⟨-,y1⟩:=o.S.c2;clear o C B;go_wp2;clear y1;go_loopw [9,10,12,24] (λal B _ i wr=>∃(k:Nat)(V:nC)(X:Nat)(o:List TV),k<=zA p/\i=aB k/\al=qA V (zA o) X/\B=.bool (vV t h (p.take k)).2/\zA o<=2*k/\cB (wr.ownsRow (w.1.size+4) 131 4 (qA V (zA o) X) (zA o) (iF o))/\cB (o.map (·.t)=(vV t h (p.take k)).1)/\cB (RW w o)/\cB (Below (w.1.size+4) w1 wr)) (λ_ _ _ i _=>zA p-(intOf i).toNat)
 case atStart=>exact⟨0,_,_,[],Oa _,rfl,rfl,rfl,Oa _,L1.o,rfl,λy hy=>(by cases hy),gD⟩
 case round=>
  obtain⟨k,V,X,o,hk,rfl,rfl,rfl,hyl,Y,J,D,r⟩:=hrel;have B:=r.o.size;have B:=dB (P1.o.keep r.o);by_cases G:k<zA p
  .obtain ⟨pb,po,q1,d1,q2,d2,rfl,hpl,z0,z1,z2,z3,o1,o2⟩:=I.o.at G;have HO:=dB (Vc o1 o2);have I:=dB (qq t h p k G);have v0:=(B.o.B.cell hpl).trans z0;have v1:=(B.o.B.cell hpl).trans z1;have v2:=(B.o.B.cell hpl).trans z2;have v3:=(B.o.B.cell hpl).trans z3;clear z0 z1 z2 z3 o1 o2;generalize vV t h (p.take k)=U at *;generalize p[k]=P at *;obtain⟨LU,PU⟩:=U;have hy:o.map (·.t)=LU:=J.o;subst hy;obtain⟨u0,u1,u2,u3⟩:=B.o.T.c4;have C:w.1.size+1+1<wr.1.size:=by omega
   rcases aJa t P (o.map (·.t)) PU with⟨rfl,hs,C⟩|⟨rfl,hs,C⟩|⟨rfl,hs,h1,h2,C⟩|⟨rfl,hs,h2,C⟩|⟨rfl,hs,h1,h2,C⟩
   all_goals
    have z:=dB (I.o.trans C);clear J I C;go_wp2_with(at_builtin;first
     |(refine iQ rfl _ _ rfl underlying38 wQ rfl (by omega) (by omega) (v:=qA (cA ⟨g7,0,aA⟩) (zA o+1) A) rfl s.o rfl rfl rfl (by simp[jA.oneCell']) (by omega) C ?_;intro g8 I H HR8 HT8)
     |(refine iQ rfl _ _ rfl underlying38 wQ rfl (by omega) (by omega) (v:=qA V (zA o) X) rfl (hC Y.o bC) rfl (by simp) rfl (by simp[jA.oneCell']) (by omega) (by simp;omega) ?_;intro g7 A w7 s u;have C:w.1.size+4<=w7.1.size:=(by have:=u.o.size;simp at this;omega);clear u0 u1 u2 u3;obtain⟨u0,u1,u2,u3⟩:=(u.o.blk (B.o.T.alloc _) (λe=>by omega)).c4;obtain⟨r0,r1,r2,r3⟩:=(u.o.blk (jB.new wr #[pA P.N,mA oA P.L,qA q1 (zA P.M) d1,qA q2 (zA P.Z) d2] 131) (λe=>by have:=(Y.o.lt _ e.2).2;omega)).c4))
    first
     |(have q:=HR8;exact⟨⟨k+1,cA ⟨g8,0,aA⟩,I,o++[⟨t,a1,c1,a2,c2⟩]++[⟨P,q1,d1,q2,d2⟩],by omega,by go_num,by simp,by rw[z.o],by simp;omega,dB (by simpa[iF]using HR8.o),dB (by rw[z.o];simp),(D.o.snoc O.o.1 O.o.2).snoc HO.o.1 HO.o.2,dB ((r.o.trans ((bC.mono (by omega)).trans (u.o.below (by simp;omega) λi hi e=>by omega))).trans (HT8.o.below C λi hi e=>by omega))⟩,by simp[intOf];omega⟩)
     |(have q:=s;have q:(P.N.toList==t.N.toList)=dA:=hs;exact⟨⟨k+1,cA ⟨g7,0,aA⟩,A,o++[⟨P,q1,d1,q2,d2⟩],by omega,by go_num,by simp,by rw[z.o],by simp;omega,dB (by simpa[iF]using s.o),dB (by rw[z.o];simp),D.o.snoc HO.o.1 HO.o.2,dB (r.o.trans ((bC.mono (by omega)).trans (u.o.below (by simp;omega) λi hi e=>by omega)))⟩,by simp[intOf];omega⟩)
     |(have q:=s;exact⟨⟨k+1,cA ⟨g7,0,aA⟩,A,o++[⟨t,a1,c1,a2,c2⟩],by omega,by go_num,by simp,by rw[z.o],by simp;omega,dB (by simpa[iF]using s.o),dB (by rw[z.o];simp),D.o.snoc O.o.1 O.o.2,dB (r.o.trans ((bC.mono (by omega)).trans (u.o.below (by simp;omega) λi hi e=>by omega)))⟩,by simp[intOf];omega⟩)
     |exact⟨⟨k+1,V,X,o,by omega,by go_num,rfl,by rw[z.o],by omega,hC Y.o bC,dB (by rw[z.o]),D.o,r.o.trans (bC.mono (by omega))⟩,by simp[intOf];omega⟩
  have ek:p.take k=p:=Ra (by omega);rw[ek]at J |-
  have I:cB (DH t h p=(vV t h p).1++if (vV t h p).2=eA then [] else [t]):=rfl;generalize vV t h p=U at *;obtain⟨LU,PU⟩:=U;have hy:o.map (·.t)=LU:=J.o;subst hy;have C:zA o<=4000000:=by omega
  obtain⟨u0,u1,u2,u3⟩:=B.o.T.c4;clear ek hyl J;go_upto_if 52 with fail;go_cut [9] (λal J=>∃(V:nC)(X:Nat)(o:List TV),al=qA V (zA o) X/\zA o<=4000001/\J.ownsRow (w.1.size+4) 131 4 (qA V (zA o) X) (zA o) (iF o)/\o.map (·.t)=DH t h p/\RW w o/\Below (w.1.size+4) w1 J)
  case first=>
   cases PU
   all_goals
    go_wp2_with(at_builtin;refine iQ rfl _ _ rfl underlying38 wQ rfl (by omega) (by omega) (v:=qA V (zA o) X) rfl Y.o rfl rfl rfl (by simp[jA.oneCell']) (by omega) (by omega) ?_;intro g7 A w7 s u);go_meet;first
     |(have q:=s;exact⟨cA ⟨g7,0,aA⟩,A,o++[⟨t,a1,c1,a2,c2⟩],by simp,by simp;omega,by simpa[iF]using s.o,by rw[I.o];simp,D.o.snoc O.o.1 O.o.2,r.o.trans (u.o.below (by omega) λi hi e=>by omega)⟩)
     |exact⟨_,_,o,rfl,by omega,Y.o,by rw[I.o];simp,D.o,r.o⟩
  clear Y D r B I u0 u1 u2 u3 C;obtain⟨V,X,o,rfl,C,I,B,Y,C⟩:=hcut;rename fA=>H;have J:=dB (aIn I Y);have P8:=dB (P1.o.keep C);have h:=C.size;have HRL:cB (RES=kD c.w now (o.map (·.t))):=by show _=_;rw[m.o,B]
  have O:cB (∀i(h:i<zA o),WT o[i].t):=λi h=>Z.o _ (by
   have hm:o[i].t∈o.map (·.t):=Tc (Gb h);rw[B]at hm;exact aFp hm)
  clear I B Y C m Z P1 L1;go_wp2;have m:=dB (jB.new H #[aB now,qA aA 0 0] 40);have B9:=dB (zF H (xA #[aB now,qA aA 0 0] 40));have B:H.1.size<(H.alloc (xA #[aB now,qA aA 0 0] 40)).1.size:=by simp
  generalize H.alloc (xA #[aB now,qA aA 0 0] 40)=w9 at *;go_loopw [15,16,61] (λ_ _ i wr=>∃(k:Nat)(v:jA),k<=zA o/\i=aB k/\cB (jB wr H.1.size #[aB now,v] 40)/\cB (iS wr w9.1.size 131 v (zA (kD c.w now ((o.map (·.t)).take k))) (kD c.w now ((o.map (·.t)).take k)))/\cB (fB (·=H.1.size) w9 wr)) (λ_ _ i _=>zA o-(intOf i).toNat)
  case atStart=>exact⟨0,qA aA 0 0,Oa _,rfl,m.o,iS.nil _ _ _,fB.refl _ _⟩
  case round=>
   obtain⟨k,v,hk,rfl,HX,I,F⟩:=hrel;have m:=F.o.size;have BWr:=dB ((aC P8.o.B B9.o).trans (F.o.below (by omega) λi hi e=>by omega));by_cases G:k<zA o
   .obtain ⟨b,hbe,hb8,z0,z1,z2,z3,o1,o2⟩:=J.o k G;have N:∀j,wr.cell? (eB b j)=H.cell? (eB b j):=λj=>fA.cell?_of_block ((F.o.block b (by omega) (by omega)).trans (B9.o.block b hb8));have v0:=(N _).trans z0;have v1:=(N _).trans z1;have v2:=(N _).trans z2;have v3:=(N _).trans z3;clear N z0 z1 z2 z3;cases hbe
    have J:cB (kD c.w now ((o.map (·.t)).take (k+1))=kD c.w now ((o.map (·.t)).take k)++if xE (oE c.w now o[k].t)=eA then [] else [oE c.w now o[k].t]):=by
     show _=_;rw[aDe _ _ _ _ (by rw[Xa];exact G)];simp
    have m:zA (kD c.w now ((o.map (·.t)).take k))<=4000001:=by
     have:=aLc c.w now (o.map (·.t)) k;rw[Xa]at this;omega
    obtain⟨d,f,l⟩:=O.o k G;have m:cB (∀W,xB w W->Calls prog 112 #[.agg #[pA o[k].t.N,aB o[k].t.L,.slice o[k].a1 (zA o[k].t.M) o[k].c1,.slice o[k].a2 (zA o[k].t.Z) o[k].c2],aB now,aB c.w] W λe w'=>GU W (oE c.w now o[k].t).N (oE c.w now o[k].t) e w'):=λW B=>oh o[k].t _ _ _ _ now c.w W (o1.z B) (o2.z B) d f hn0 hn1 l;unfold GU at m;clear o1 o2 d f l;generalize kD c.w now ((o.map (·.t)).take k)=B at *;generalize oE c.w now o[k].t=K at *;generalize o[k]=Y at *;obtain⟨x0,-⟩:=((F.o.blk (P8.o.C.z B9.o) (by omega)).alloc (xA #[pA Y.t.N,aB Y.t.L,qA Y.a1 (zA Y.t.M) Y.c1,qA Y.a2 (zA Y.t.Z) Y.c2] 131)).c6;go_wp2_with fail;refine(m.o _ (aC BWr.o bC)).mono ?_;rintro e w4 ⟨M,x1,Z,x2,e2,rfl,O,h1,C,h2,hM4,G⟩;have hM':wr.1.size<=M:=by simp at O;omega
    have HH1:cB (lD w4 wr.1.size x1 K.M):=h1.mono (by simp);have HH2:=dB (Vc C h2);have Y:=dB (aC bC G);have hs4:=Y.o.size;clear O h1 C h2 G x0 v0 v1 v2 v3;go_wp2_with fail;apply jC (CK K _ _ _ _ _);intro w5 C;have B45:cB _:=aC bC C;have B5:=dB (aC Y.o B45.o);have X5:=dB ((jB.new w4 #[pA K.N,aB K.L,qA x1 (zA K.M) Z,qA x2 (zA K.Z) e2] 131).z C);have O5:=dB (HX.o.z B5.o);have T5:cB _:=F.o.trans (fB.of B5.o);have G:=bB X5.o;clear C m;cases hidl:xE K with
    |true=>
     have C:cB (kD c.w now ((o.map (·.t)).take (k+1))=B):=by show _=_;rw[J.o,Ma hidl,Cd]
     clear hidl;go_wp2;refine⟨⟨k+1,v,by omega,by go_num,O5.o,?_,T5.o⟩,by simp[intOf];omega⟩;rw[C.o];exact I.o.turn (fB.of (S:=λ_=>False) B5.o) (λ_ e=>e.elim)
    |false=>
     have C:cB (kD c.w now ((o.map (·.t)).take (k+1))=B++[K]):=by show _=_;rw[J.o,Ja (by rw[hidl];simp)]
     clear hidl;obtain⟨TG,zs,m,J,O,Y⟩:=I.o;have Z:=dB (hC m B5.o);have a0:=dB (⟨J,O,Y⟩:_/\_/\_);have G:=dB (λq(hq:v.ownBlock=cA q)=>m.lt q hq);clear m J O Y;obtain⟨-,m⟩:=O5.o.c2;obtain⟨r0,r1,r2,r3⟩:=X5.o.c4;go_wp2_with(at_builtin;refine zM rfl _ _ rfl underlying38 wQ rfl (by omega) (by omega) (v:=v) rfl Z.o rfl rfl rfl (by simp[jA.oneCell']) (by omega) (by omega) ?_;intro J E w6 HO6 Z m;have Y:=dB (Z.o.blk O5.o (λe=>by omega));obtain⟨-,O⟩:=Y.o.c2;have O:=Y.o.free);have hgg:(v.ownBlock=cA J/\J<wr.1.size)\/w4.1.size<=J:=m.o.elim (λh=>Ca ⟨h,(G.o _ h).2⟩) λh=>La (by omega);have m:=hgg.elim (λh=>(G.o _ h.1).1) λh=>by omega
     have O:fB (·=H.1.size) w6 (w6.setCell (eB H.1.size 1) (qA (vB J) (zA B+1) E)):=(fB.refl (·=H.1.size) w6).setCell (Ca rfl) 1 _;have m:=Z.o.size;have hk5:∀g,g<w5.1.size->w9.1.size<=g->v.ownBlock≠cA g->(w6.setCell (eB H.1.size 1) (qA (vB J) (zA B+1) E)).heap[g]?=w5.heap[g]?:=λg hg m hne=>by
      rw[O.block g (by omega) (by omega),Z.o.block g hg (λe=>hne e.2)]
     refine⟨⟨k+1,qA (vB J) (zA B+1) E,by omega,by go_num,dB (by have:=Y.o.set 1 (qA (vB J) (zA B+1) E);simpa using this),?_,(T5.o.trans (Z.o.mono λi _ e=>La e.1)).trans' O⟩,by simp[intOf];omega⟩;rw[C.o,Kb];have C:zA zs=zA B:=by rw[<-a0.o.1,Xa]
     exact iS.snoc (wr:=wr) (w4:=w4) (M:=M) (v:=v) (T:=TG) (ys:=zs) (O.row HO6.o (λq hq e=>by simp[jA.ownBlock]at hq;omega)) a0.o.1 C a0.o.2.1 a0.o.2.2 (by omega) hM'
      (λg hg m hne=>(hk5 g (by omega) m hne).trans (B5.o.block g hg))
      (λg hg m=>(hk5 g (by omega) (by omega) (λe=>by have:=(G.o _ e).2;omega)).trans (B45.o.block g m))
      HH1.o HH2.o.1 HH2.o.2 hgg hs4 hM4
   have ek:(o.map (·.t)).take k=o.map (·.t):=Ra (by rw[Xa];omega);rw[ek,<-HRL.o]at I;obtain⟨o,rc,rfl⟩:=I.o.row;have B:=dB (F.o.blk (P8.o.R.z B9.o) (by omega));obtain⟨x0,x1⟩:=HX.o.c2;obtain⟨C,y1⟩:=B.o.c2;have m:=B.o.free;go_wp2;have m:fB (·=w.1.size+1+1+1) wr ((wr.setCell (eB (w.1.size+1+1+1) 0) (aB now)).setCell (eB (w.1.size+1+1+1) 1) (qA o (zA RES) rc)):=((fB.refl (·=w.1.size+1+1+1) wr).setCell (Ca rfl) 0 _).setCell (Ca rfl) 1 _;refine bodyPost_ret (v:=.agg #[aB now,qA o (zA RES) rc]) (by simp[results,results111,go_sem,C,y1]) rfl ⟨o,⟨rc,rfl⟩,((I.o.turn m (λg e=>by omega)).own rfl).mono (by omega),((fB.of (S:=λi=>w.1.size<=i) BWr.o).trans' (m.mono λi _ e=>by omega)).below (Ia _) λi hi h=>by omega⟩
theorem vQ(v:Int)(w:fA):cF 161 #[aB v] w (pA (tB 4 v)):=by
 have c:=dB (oH 4 v w (by omega));generalize tB 4 v=N at *;go_enter func161,ntmps161;go_wp2_with fail;apply jC c.o;intro f a;have b:=dB a;clear a;go_wp2;go_ret;exact⟨rfl,b.o⟩
theorem wO(v:Int)(w:fA):cF 159 #[aB v] w (pA (tB 8 v)):=by
 have c:=dB (oH 8 v w (by omega));generalize tB 8 v=N at *;go_enter func159,ntmps159;go_wp2_with fail;apply jC c.o;intro f a;have b:=dB a;clear a;go_wp2;go_ret;exact⟨rfl,b.o⟩
def xO(ps:List kB):List pB:=ps.flatMap λp=>[dG p.s,tB 8 p.n]
theorem KO(ps:List kB)(k:Nat)(h:k<zA ps):xO (ps.take (k+1))=xO (ps.take k)++[dG ps[k].s,tB 8 ps[k].n]:=by
 unfold xO;rw[Pa h,He];rfl
theorem cW:∀(ps:List kB),vF (xO ps)=xG ps
 |[]=>rfl
 |p::q=>by
  have e:xO (p::q)=[dG p.s,tB 8 p.n]++xO q:=rfl;rw[e,oG,cW q,xG];simp[vF,OA]
def aNv(t:gB):Decidable (xK t):=by unfold xK WY;exact inferInstance
def SZ(t:gB):pB:=haveI:=aNv t;if xK t then mU t else lA
theorem MS{t:gB}(h:¬xK t):SZ t=lA:=by unfold SZ;rw[Ja h]
theorem tv{t:gB}(h:xK t):SZ t=mU t:=by unfold SZ;rw[Ma h]
structure TR(ps:List pB)(ms:List kB)(k:Nat)(HD:List pB):Prop where
 eq:ps=HD++xO (ms.take k)
 all:∀j(h:j<zA ms),j<k→ms[j].s.size≤65535
structure TE(w W:World)(g cv:Nat)(ps:List pB):Prop where
 row:W.ownsRow w.1.size 9 1 (qA (vB g) (zA ps) cv) (zA ps) (ps.map jA.string)
 bel:xB w W
section
variable {w W W':fA} {g cv k:Nat} {ps HD:List pB} {ms:List kB}
theorem TR.next(h:TR ps ms k HD)(d:k<zA ms)(e:ms[k].s.size<=65535):TR (ps++[dG ms[k].s,tB 8 ms[k].n]) ms (k+1) HD:=
 ⟨by rw[KO ms k d,h.eq,Nd],λj b c=>by
  rcases Gc j k with a|a;exact h.all j b a;obtain rfl:j=k:=by omega
  exact e⟩
theorem TR.fin(h:TR ps ms k HD)(b:¬k<zA ms):ps=HD++xO ms/\WY ms:=⟨by rw[h.eq,Ra (by omega)],λj a=>h.all j a (by omega)⟩
theorem TE.z(h:TE w W g cv ps)(a:xB W W'):TE w W' g cv ps:=⟨hC h.row a,aC h.bel a⟩
theorem RF{H:Array Oper}{o:Oper}{a:Act}{K:Act->fA->Prop}{Q:Exit->Act->fA->Prop}{E:Prop}{p:Nat}{x y:pB}(h:TE w W g cv ps)(f:o.guard=aA)(s z:Operand)(B:o.op=.call { callee:=.builtin .append,args:=#[s,z],argTypes:=#[30,30] })(D:a.eval s=qA (vB g) (zA ps) cv)(F:a.eval z=qA (vB p) 2 2)(C:W.1.size=p)(L:zA ps<=100000000)
(k:∀d b c,TE w c d b (ps++[x,y])->(∀j,j<W.1.size->j≠g->c.heap[j]?=W.heap[j]?)->K (a.put o.dst (.slice (vB d) (zA (ps++[x,y])) b)) c):
 if Region.wanted o (yielded H a.tmps)=eA then Oper.wp prog o a (W.alloc (xA #[pA x,pA y] 9)) K Q else E:=by
 subst C;obtain⟨I,q,l,m,n⟩:=xZ;have J:=h.bel.size;have G:W.1.size<(W.alloc (xA #[pA x,pA y] 9)).1.size:=by simp
 refine dJ _ f s z _ B w.1.size 9 I _ 1 16 underlying30 q l m n rfl (by omega) g (zA ps) cv _ D (hC h.row bC) _ 2 2 [pA x,pA y] F rfl (La ⟨_,rfl,fA.news_of_block (cs:=#[pA x,pA y]) (heap_alloc_new _ _)⟩) (by simp[jA.oneCell']) (by simp[maxLen];omega) (by omega) (by omega) λd b c r t u _ _ _=>?_;have A:=λj v i=>(u j (by omega) i).trans (bC.block j v);have e:zA ps+2=zA (ps++[x,y]):=by simp
 rw[e]at r |-
 exact k d b c ⟨by rw[Ld];exact r,(aC h.bel bC).trans (t.mono (by omega))⟩ A
theorem UU:(prog.info? 9).map (λi=>(i.zero,i.size,i.bytes))=cA (cA (pA lA),1,16):=by kernel_rfl
theorem TE.one{b a:Nat}{x:pB}(h:TE w W g cv ps)(c:W'.ownsRow w.1.size 9 1 (qA (vB b) (zA ps+1) a) (zA ps+1) (ps.map jA.string++[pA x]))(d:fB (λi=>w.1.size<=i/\(jA.slice (vB g) (zA ps) cv).ownBlock=cA i) W W'):TE w W' b a (ps++[x]):=by
 rw[show zA ps+1=zA (ps++[x]) by simp]at c;exact⟨by rw[Ld];exact c,h.bel.trans (d.below (by have:=h.bel.size;omega) λi f e=>by omega)⟩
end
theorem en(t:gB)(O S:nC)(T Y:Nat)(w:fA)(hm:mC w O t.M)(hs:mC w S t.Z)(hn:t.N.size<=1000000000)(hl1:zA t.M<=2000000)(hl2:zA t.Z<=2000000)(P:∀j(h:j<zA t.M),t.M[j].s.size<=1000000000)(m:∀j(h:j<zA t.Z),t.Z[j].s.size<=1000000000):
 cF 234 #[.agg #[pA t.N,mA oA t.L,qA O (zA t.M) T,qA S (zA t.Z) Y]] w (pA (SZ t)):=by
 obtain⟨p,y,ms,ss⟩:=t;simp only at hm hs hn hl1 hl2 P m |-
 by_cases z1:p.size > 255
 .have E:cB (SZ ⟨p,y,ms,ss⟩=lA):=MS λh=>by have:=h.1;simp only at this;omega
  have z1':(p.size:Int) > 255:=by omega
  rw[E.o];clear hm hs P m;go_enter func234,ntmps234;go_wp2;go_ret;exact⟨rfl,bC⟩
 have z1':¬(p.size:Int) > 255:=by omega
 have HM:=dB hm;have HS:=dB hs;have HBM:=dB P;have HBS:=dB m;have HU1:=dB (λW=>pS p W hn);have HU2:=dB (λW=>wO y W);have HU3:=dB (λW=>vQ (zA ms:Nat) W);have HU4:=dB (λW=>vQ (zA ss:Nat) W);have hz1:=sF p;have hz2:=nB 8 y;have hz3:=nB 4 (zA ms:Nat);have hz4:=nB 4 (zA ss:Nat);have HKB:cB (WY ms->WY ss->SZ ⟨p,y,ms,ss⟩=gN p++tB 8 y++tB 4 (zA ms:Nat)++xG ms++tB 4 (zA ss:Nat)++xG ss):=λh1 Z=>tv ⟨by simp only;omega,h1,Z⟩;have HN1:cB (∀k(h:k<zA ms),¬ms[k].s.size<=65535->SZ ⟨p,y,ms,ss⟩=lA):=λk h Z=>MS λhh=>Z (hh.2.1 k h);have HN2:cB (∀k(h:k<zA ss),¬ss[k].s.size<=65535->SZ ⟨p,y,ms,ss⟩=lA):=λk h Z=>MS λhh=>Z (hh.2.2 k h);generalize gN p=N1 at *;generalize tB 8 y=N2 at *;generalize tB 4 (zA ms:Nat)=N3 at *;generalize tB 4 (zA ss:Nat)=V at *;generalize SZ ⟨p,y,ms,ss⟩=TV at *;clear hm hs P m;go_enter func234,ntmps234;go_upto_region 3 with fail;have X6:cB (jB (w.alloc (xA #[pA p,mA oA y,qA O (zA ms) T,qA S (zA ss) Y] 131)) w.1.size #[pA p,mA oA y,qA O (zA ms) T,qA S (zA ss) Y] 131):=jB.new _ _ _;have B0:cB (xB w (w.alloc (xA #[pA p,mA oA y,qA O (zA ms) T,qA S (zA ss) Y] 131))):=bC;generalize w.alloc (xA #[pA p,mA oA y,qA O (zA ms) T,qA S (zA ss) Y] 131)=D at *;have HK:cB (∀d,xB D d->d.cell? ⟨w.1.size,0,aA⟩=cA (pA p)/\d.cell? ⟨w.1.size,1,aA⟩=cA (mA oA y)/\d.cell? ⟨w.1.size,2,aA⟩=cA (qA O (zA ms) T)):=λd h=>⟨(X6.o.z h).cell 0,(X6.o.z h).cell 1,(X6.o.z h).cell 2⟩
 obtain⟨x0,x1,x2⟩:=HK.o D gD;go_cut [3] (λs wx=>∃g,s=qA (cA ⟨g,0,aA⟩) 3 3/\TE D wx g 3 [N1,N2,N3])
 case first=>
  go_region_held3 (λd=>d.cell? ⟨w.1.size,0,aA⟩=cA (pA p)/\d.cell? ⟨w.1.size,1,aA⟩=cA (mA oA y)/\d.cell? ⟨w.1.size,2,aA⟩=cA (qA O (zA ms) T))
   (first|go_keep|exact HK.o _ k4|exact HK.o _ k3|exact HK.o _ k2)
   (first
    |(go_at_call 213;apply jC (HU1.o _);intro w2 m;have k2:xB D w2:=(by exact aC gD.drew m))
    |(go_at_call 159;apply jC (HU2.o _);intro w3 G;have k3:xB D w3:=(by exact aC k2 G))
    |(go_at_call 161;apply jC (HU3.o _);intro w4 r;have k4:xB D w4:=(by exact aC k3 r)))
  all_goals(go_wp2_with fail;go_meet)
  all_goals exact⟨_,rfl,⟨rfl,La ⟨_,3,_,rfl,k4.size,heap_alloc_new _ _,Ia _,by simp[maxLen],rfl,rfl⟩⟩,aC k4 bC⟩
 obtain⟨g0,rfl,b0⟩:=hcut;rename fA=>Q;have L:=dB b0;have y2:Q.cell? ⟨w.1.size,2,aA⟩=cA (qA O (zA ms) T):=(X6.o.z b0.bel).cell 2;clear x0 x1 x2 HK b0 HU1 HU2 HU3;go_wp2;go_loopw [3,5,26] (λd0 _ i wr=>∃(k:Nat)(ps:List pB)(g cv:Nat),k<=zA ms/\i=mA oA k/\d0=qA (cA ⟨g,0,aA⟩) (zA ps) cv/\zA ps<=3+2*k/\iG ps<=2000000000+k*70000/\cB (TR ps ms k [N1,N2,N3])/\cB (TE D wr g cv ps)) (λ_ _ i _=>zA ms-(intOf i).toNat)
 case atStart=>exact⟨0,[N1,N2,N3],_,_,Oa _,rfl,rfl,by simp,by simp[iG];omega,⟨by simp[xO],λj _ h=>absurd h (by omega)⟩,L.o⟩
 case round=>
  obtain⟨k,ps,g,cv,hk,rfl,rfl,hpl,hps,R,H⟩:=hrel;have a:=aC B0.o H.o.bel;by_cases f:k<zA ms
  .obtain ⟨b,o,rfl,hb,c0,X⟩:=(HM.o.z a).at f;have F:=dB (λW=>rL ms[k].s W (HBM.o k f));have U:=dB (λW=>wO ms[k].n W);have HX:=dB (R.o.next f);have E:=dB (HN1.o k f);have hq3:=eF ms[k].s;have hq4:=nB 8 ms[k].n;generalize dG ms[k].s=M at *;generalize tB 8 ms[k].n=N at *;generalize ms[k].s=z at *;generalize ms[k].n=C at *;by_cases hgt:(z.size:Int) > 65535
   .replace E:=dB (E.o (by omega));go_wp2;go_ret;exact⟨by rw[E.o];rfl,aC a bC⟩
   have x:=dB (jB.new wr #[pA z,mA oA C] 184);have H1:=dB (H.o.z (zF wr (xA #[pA z,mA oA C] 184)));have hgB:=(fH H.o.row).2.1;clear R E H;go_upto_region 9 with fail;generalize wr.alloc (xA #[pA z,mA oA C] 184)=W at *;have hBX:=bB x.o;clear hb c0 X a;generalize wr.1.size=v at *;clear wr;have l:cB (∀d,xB W d->d.cell? ⟨v,0,aA⟩=cA (pA z)/\d.cell? ⟨v,1,aA⟩=cA (mA oA C)):=λd h=>⟨(x.o.z h).cell 0,(x.o.z h).cell 1⟩
   obtain⟨x0,x1⟩:=l.o W gD;go_region_held3 (λd=>d.cell? ⟨v,0,aA⟩=cA (pA z)/\d.cell? ⟨v,1,aA⟩=cA (mA oA C))
    (first|go_keep|exact u|exact l.o _ (c.alloc c.size _)|exact l.o _ c|exact l.o _ I)
    (first
     |(go_at_call 162;apply jC (F.o _);intro w3 G;have I:xB W w3:=(Below.refl _ W).drew.trans G)
     |(go_at_call 159;apply jC (U.o _);intro w4 r;have c:xB W w4:=aC I r)
     |(refine RF (by exact H1.o.z c) (by rfl) _ _ (by rfl) (by rfl) (by rfl) (by rfl) (by omega) ?_;intro g5 A Q L J;have u:Q.cell? ⟨v,0,aA⟩=cA (pA z)/\Q.cell? ⟨v,1,aA⟩=cA (mA oA C):=(by have q:=l.o _ c;have K:=J v (by have:=c.size;omega) (by omega);exact⟨(fA.cell?_of_block K).trans q.1,(fA.cell?_of_block K).trans q.2⟩)))
   have B:zA (ps++[M,N])=zA ps+2:=by simp
   have a0:iG (ps++[M,N])=iG ps+(M.size+N.size):=by rw[wH];simp[iG]
   replace L:=dB L;rw[<-B];clear u J;generalize ps++[M,N]=e0 at *;go_wp2;exact⟨⟨k+1,e0,g5,A,by omega,by go_num,rfl,by omega,by omega,HX.o (by omega),L.o⟩,by simp[intOf];omega⟩
  have HE:=dB (R.o.fin f);have y3:wr.cell? ⟨w.1.size,3,aA⟩=cA (qA S (zA ss) Y):=(X6.o.z H.o.bel).cell 3;clear R HM HBM HN1 L;go_wp2_with fail;apply jC (HU4.o _);intro w4 r;replace H:=dB (H.o.z r);have hww:=H.o.bel.size;clear r a y3 HU4;go_wp2_with(at_builtin;refine iQ rfl _ _ rfl underlying30 UU rfl (by omega) (by omega) rfl H.o.row rfl rfl (cs:=#[pA V]) rfl (by simp[jA.oneCell']) (by omega) hww ?_;intro g5 A Q O5 T5;have H6:=dB (H.o.one O5.o T5.o);have y3:Q.cell? ⟨w.1.size,3,aA⟩=cA (qA S (zA ss) Y):=(X6.o.z H6.o.bel).cell 3);have B:zA (ps++[V])=zA ps+1:=by simp
  have a0:iG (ps++[V])=iG ps+V.size:=by rw[wH];simp[iG]
  rw[<-B];have HPP:cB (ps++[V]=[N1,N2,N3]++xO ms++[V]):=by show _=_;rw[HE.o.1]
  clear O5 T5 H;generalize hPP:ps++[V]=PP at *;clear hPP;go_loopw [3,7,54] (λd0 _ i wr=>∃(k:Nat)(ps:List pB)(g cv:Nat),k<=zA ss/\i=mA oA k/\d0=qA (cA ⟨g,0,aA⟩) (zA ps) cv/\zA ps<=4000010+2*k/\iG ps<=200000000000+k*70000/\cB (TR ps ss k PP)/\cB (TE D wr g cv ps)) (λ_ _ i _=>zA ss-(intOf i).toNat)
  case atStart=>exact⟨0,PP,_,_,Oa _,rfl,rfl,by omega,by omega,⟨by simp[xO],λj _ h=>absurd h (by omega)⟩,H6.o⟩
  case round=>
   clear hpl hps B a0 f hk y3 H6;obtain⟨k,ps,g,cv,hk,rfl,rfl,hpl,hps,R,H⟩:=hrel;have a:=aC B0.o H.o.bel;by_cases f:k<zA ss
   .obtain ⟨b,o,rfl,hb,c0,X⟩:=(HS.o.z a).at f;have F:=dB (λW=>rL ss[k].s W (HBS.o k f));have U:=dB (λW=>wO ss[k].n W);have HX:=dB (R.o.next f);have E:=dB (HN2.o k f);have hq3:=eF ss[k].s;have hq4:=nB 8 ss[k].n;generalize dG ss[k].s=M at *;generalize tB 8 ss[k].n=N at *;generalize ss[k].s=z at *;generalize ss[k].n=C at *;by_cases hgt:(z.size:Int) > 65535
    .replace E:=dB (E.o (by omega));go_wp2;go_ret;exact⟨by rw[E.o];rfl,aC a bC⟩
    have x:=dB (jB.new wr #[pA z,mA oA C] 134);have H1:=dB (H.o.z (zF wr (xA #[pA z,mA oA C] 134)));have hgB:=(fH H.o.row).2.1;clear R E H;go_upto_region 17 with fail;generalize wr.alloc (xA #[pA z,mA oA C] 134)=W at *;have hBX:=bB x.o;clear hb c0 X a;generalize wr.1.size=v at *;clear wr;have l:cB (∀d,xB W d->d.cell? ⟨v,0,aA⟩=cA (pA z)/\d.cell? ⟨v,1,aA⟩=cA (mA oA C)):=λd h=>⟨(x.o.z h).cell 0,(x.o.z h).cell 1⟩
    obtain⟨x0,x1⟩:=l.o W gD;go_region_held3 (λd=>d.cell? ⟨v,0,aA⟩=cA (pA z)/\d.cell? ⟨v,1,aA⟩=cA (mA oA C))
     (first|go_keep|exact u|exact l.o _ (c.alloc c.size _)|exact l.o _ c|exact l.o _ I)
     (first
      |(go_at_call 162;apply jC (F.o _);intro w3 G;have I:xB W w3:=(Below.refl _ W).drew.trans G)
      |(go_at_call 159;apply jC (U.o _);intro w4 r;have c:xB W w4:=aC I r)
      |(refine RF (by exact H1.o.z c) (by rfl) _ _ (by rfl) (by rfl) (by rfl) (by rfl) (by omega) ?_;intro g5 A Q L J;have u:Q.cell? ⟨v,0,aA⟩=cA (pA z)/\Q.cell? ⟨v,1,aA⟩=cA (mA oA C):=(by have q:=l.o _ c;have K:=J v (by have:=c.size;omega) (by omega);exact⟨(fA.cell?_of_block K).trans q.1,(fA.cell?_of_block K).trans q.2⟩)))
    have B:zA (ps++[M,N])=zA ps+2:=by simp
    have a0:iG (ps++[M,N])=iG ps+(M.size+N.size):=by rw[wH];simp[iG]
    replace L:=dB L;rw[<-B];clear u J;generalize ps++[M,N]=e0 at *;go_wp2;exact⟨⟨k+1,e0,g5,A,by omega,by go_num,rfl,by omega,by omega,HX.o (by omega),L.o⟩,by simp[intOf];omega⟩
   have E2:cB (vF ps=TV):=by
    show _=_;obtain⟨h1,Z⟩:=R.o.fin f;rw[h1,oG,cW,HPP.o,oG,oG,cW,HKB.o HE.o.2 Z];simp[vF,Wa]
   obtain⟨hcv,hg,hcs⟩:=fH H.o.row;have HJ:=dB (nI g (zA ps) cv ps wr rfl hcs hg hcv (by omega) (by omega));rw[E2.o]at HJ;clear hcs;go_wp2_with fail;apply jC HJ.o;intro w2 m;have B2:=dB (aC a m);clear m;go_wp2;go_ret;exact⟨rfl,B2.o⟩
