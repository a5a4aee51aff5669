import Derived.Test.YtejebmgbenmimaaGreatDoorJ42
import Derived.Test.YtejebmgbenmimaaGreatDoorJ20
set_option maxRecDepth 100000
set_option maxHeartbeats 16000000
set_option linter.defProp false
open Bool renaming true->iA,false->gA
open Option renaming none->eA,some->fA
open ByteArray renaming empty->pA
open List renaming length->cB
namespace Go.Proofs.YtejebmgbenmimaaGreatDoor
open Value renaming slice->uA,string->tA,agg->yA,bool->vA,int->qA
open Go renaming World->jA,Value->mA
open Obj renaming cells->aB
open Ending renaming returned->zA
open IntKind renaming i64->sA
open Go.RowKit Tryz
def VO(x:kB):Prop:=cB x.M<=2000000/\cB x.Z<=2000000/\∀i(h:i<cB x.Z),0<=x.Z[i].n/\x.Z[i].n<=2000000000000
def aHd(t p:kB)(l:List kB)(b:Bool):b=iA/\(p.N.toList==t.N.toList)=iA/\aM t (l,b) p=(l,iA)\/b=iA/\(p.N.toList==t.N.toList)=gA/\aM t (l,b) p=(l++[p],iA)\/
 b=gA/\(p.N.toList==t.N.toList)=gA/\(t.N.toList==p.N.toList)=gA/\Op.bytesLess t.N.toList p.N.toList=gA/\aM t (l,b) p=(l++[p],gA)\/b=gA/\(p.N.toList==t.N.toList)=gA/\Op.bytesLess t.N.toList p.N.toList=iA/\aM t (l,b) p=(l++[t]++[p],iA)\/
 b=gA/\(p.N.toList==t.N.toList)=iA/\(t.N.toList==p.N.toList)=iA/\Op.bytesLess t.N.toList p.N.toList=gA/\aM t (l,b) p=(l++[t],iA):=by
 cases b with
 |true=>cases h:(p.N.toList==t.N.toList)<;>simp[aM,h]
 |false=>
  by_cases f:vJ p.N t.N=iA
  .have d:=aE (iJ f);exact La (La (Ca ⟨rfl,d,aE (iJ f).symm,tZ f,by simp[aM,f,d]⟩))
  have e:vJ p.N t.N=gA:=by simpa using f
  by_cases g:vJ t.N p.N=iA
  .have d:=aE (iJ g).symm;exact La (La (La (Ca ⟨rfl,d,g,by simp[aM,e,d]⟩)))
  have j:=Decidable.byContradiction λi=>g (yU e i);have d:=(mE _ _).2 j;exact La (La (La (La ⟨rfl,d,(mE _ _).2 j.symm,by simpa[vJ]using g,by simp[aM,e,d]⟩)))
structure PW(w W:World)(c:kC)(now:Int)(a:nC)(n cap:Nat)(t:kB)(a1:nC)(c1:Nat)(a2:nC)(c2:Nat):Prop where
 C:rB W w.1.size #[dB c.w,dB c.tl,dB c.ml,dB c.sh,dB c.ha,dB c.sg] 24
 S:rB W (w.1.size+1) #[dB now,uA a n cap] 40
 T:rB W (w.1.size+1+1) #[tA t.N,dB t.L,uA a1 (cB t.M) c1,uA a2 (cB t.Z) c2] 105
 R:rB W (w.1.size+1+1+1) #[dB 0,uA eA 0 0] 40
 B:zB w W
section
variable {w W W':jA} {c:kC} {now:Int} {a:nC} {n cap:Nat} {t:kB} {a1:nC} {c1:Nat} {a2:nC} {c2:Nat}
theorem PW.new(h:W=((((w.alloc (aB #[dB c.w,dB c.tl,dB c.ml,dB c.sh,dB c.ha,dB c.sg] 24)).alloc (aB #[dB now,uA a n cap] 40)).alloc (aB #[tA t.N,dB t.L,uA a1 (cB t.M) c1,uA a2 (cB t.Z) c2] 105)).alloc (aB #[dB 0,uA eA 0 0] 40))):
 PW w (W.alloc (aB #[] 105)) c now a n cap t a1 c1 a2 c2/\(W.alloc (aB #[] 105)).ownsRow (w.1.size+4) 105 4 (uA (cC (w.1.size+1+1+1+1)) 0 0) 0 []/\w.1.size+4<(W.alloc (aB #[] 105)).1.size:=by
 subst h;refine⟨⟨((((rB.new _ _ _).alloc _).alloc _).alloc _).alloc _,?_,?_,?_,xB (xB (xB (xB aC aC) aC) aC) aC⟩,?_,by simp⟩;have:=(((rB.new (w.alloc (aB #[dB c.w,dB c.tl,dB c.ml,dB c.sh,dB c.ha,dB c.sg] 24)) #[dB now,uA a n cap] 40).alloc (aB #[tA t.N,dB t.L,uA a1 (cB t.M) c1,uA a2 (cB t.Z) c2] 105)).alloc (aB #[dB 0,uA eA 0 0] 40)).alloc (aB #[] 105);simpa using this;have:=((rB.new ((w.alloc (aB #[dB c.w,dB c.tl,dB c.ml,dB c.sh,dB c.ha,dB c.sg] 24)).alloc (aB #[dB now,uA a n cap] 40)) #[tA t.N,dB t.L,uA a1 (cB t.M) c1,uA a2 (cB t.Z) c2] 105).alloc (aB #[dB 0,uA eA 0 0] 40)).alloc (aB #[] 105);simpa using this;have:=(rB.new (((w.alloc (aB #[dB c.w,dB c.tl,dB c.ml,dB c.sh,dB c.ha,dB c.sg] 24)).alloc (aB #[dB now,uA a n cap] 40)).alloc (aB #[tA t.N,dB t.L,uA a1 (cB t.M) c1,uA a2 (cB t.Z) c2] 105)) #[dB 0,uA eA 0 0] 40).alloc (aB #[] 105);simpa using this;have:=jA.ownsRow_made (e:=105) (size:=4) (base:=w.1.size+4) ((((w.alloc (aB #[dB c.w,dB c.tl,dB c.ml,dB c.sh,dB c.ha,dB c.sg] 24)).alloc (aB #[dB now,uA a n cap] 40)).alloc (aB #[tA t.N,dB t.L,uA a1 (cB t.M) c1,uA a2 (cB t.Z) c2] 105)).alloc (aB #[dB 0,uA eA 0 0] 40)) #[] 0 (by simp) (by simp[maxLen]) (by simp);simpa using this
theorem PW.keep(h:PW w W c now a n cap t a1 c1 a2 c2)(b:Below (w.1.size+4) W W'):PW w W' c now a n cap t a1 c1 a2 c2:=
 ⟨(b.block _ (by omega)).trans h.C,(b.block _ (by omega)).trans h.S,(b.block _ (by omega)).trans h.T,(b.block _ (by omega)).trans h.R,h.B.trans (b.mono (by omega))⟩
end
def CI(c:kC)(Q now:Int)(a:nC)(cap:Nat)(p:List kB)(t:kB)(a1 a2:nC)(c1 c2:Nat)(w:jA)(o:uC w a p)(B:jC w a1 t.M)(C:jC w a2 t.Z)(h:cB p<=2000000)(h:∀x,x=t\/x∈p->VO x)(hn0:0<=now)(hn1:now<=2000000000000):
 Calls prog 46 #[oE c,yA #[dB Q,uA a (cB p) cap],dB now,yA #[tA t.N,dB t.L,uA a1 (cB t.M) c1,uA a2 (cB t.Z) c2]] w λe w'=>∃a' m,e=zA (yA #[dB now,.slice a' (cB (xD c.w now (DE t t.N.toList.isEmpty p))) m])/\cD w' w.1.size a' (xD c.w now (DE t t.N.toList.isEmpty p))/\zB w w':=by
 have I:=gB o;have O:=gB (Vc B C);have Z:=gB h;clear o B C h;obtain⟨RES,L⟩:∃R,R=xD c.w now (DE t t.N.toList.isEmpty p):=⟨_,rfl⟩
 rw[<-L];have m:=gB L;clear L;have B:=gB (PW.new (w:=w) (c:=c) (now:=Q) (a:=a) (n:=cB p) (cap:=cap) (t:=t) (a1:=a1) (c1:=c1) (a2:=a2) (c2:=c2) rfl);unfold oE;go_enter func46,ntmps46;go_upto_region 3 with fail;generalize (((((w.alloc (aB #[dB c.w,dB c.tl,dB c.ml,dB c.sh,dB c.ha,dB c.sg] 24)).alloc (aB #[dB Q,uA a (cB p) cap] 40)).alloc (aB #[tA t.N,dB t.L,uA a1 (cB t.M) c1,uA a2 (cB t.Z) c2] 105)).alloc (aB #[dB 0,uA eA 0 0] 40)).alloc (aB #[] 105))=w1 at *;generalize t.N.toList.isEmpty=h at *;obtain⟨o,C,G⟩:=B.o;have P1:=gB o;have L1:=gB C;obtain⟨-,y1⟩:=o.S.c2;clear o C B;go_wp2;clear y1;go_loopw [9,10,12,24] (λal B _ i wr=>∃(k:Nat)(V:nC)(X:Nat)(o:List TV),k<=cB p/\i=dB k/\al=uA V (cB o) X/\B=vA (uV t h (p.take k)).2/\cB o<=2*k/\fB (wr.ownsRow (w.1.size+4) 105 4 (uA V (cB o) X) (cB o) (mF o))/\fB (o.map (·.t)=(uV t h (p.take k)).1)/\fB (QN w o)/\fB (Below (w.1.size+4) w1 wr)) (λ_ _ _ i _=>cB p-(intOf i).toNat)
 case atStart=>exact⟨0,_,_,[],Oa _,rfl,rfl,rfl,Oa _,L1.o,rfl,λy hy=>(by cases hy),jD⟩
 case round=>
  obtain⟨k,V,X,o,hk,rfl,rfl,rfl,hyl,Y,J,D,r⟩:=hrel;have B:=r.o.size;have B:=gB (P1.o.keep r.o);by_cases G:k<cB p
  .obtain ⟨pb,po,q1,d1,q2,d2,rfl,hpl,z0,z1,z2,z3,o1,o2⟩:=I.o.at G;have HO:=gB (Vc o1 o2);have I:=gB (od t h p k G);have v0:=(B.o.B.cell hpl).trans z0;have v1:=(B.o.B.cell hpl).trans z1;have v2:=(B.o.B.cell hpl).trans z2;have v3:=(B.o.B.cell hpl).trans z3;clear z0 z1 z2 z3 o1 o2;generalize uV t h (p.take k)=U at *;generalize p[k]=P at *;obtain⟨LU,PU⟩:=U;have hy:o.map (·.t)=LU:=J.o;subst hy;obtain⟨u0,u1,u2,u3⟩:=B.o.T.c4;have C:w.1.size+1+1<wr.1.size:=by omega
   rcases aHd t P (o.map (·.t)) PU with⟨rfl,hs,C⟩|⟨rfl,hs,C⟩|⟨rfl,hs,h1,h2,C⟩|⟨rfl,hs,h2,C⟩|⟨rfl,hs,h1,h2,C⟩
   all_goals
    have z:=gB (I.o.trans C);clear J I C;go_wp2_with(at_builtin;first
     |(refine yP rfl _ _ rfl underlying38 wN rfl (by omega) (by omega) (v:=uA (fA ⟨g7,0,eA⟩) (cB o+1) A) rfl s.o rfl rfl rfl (by simp[mA.oneCell']) (by omega) C ?_;intro g8 I H HR8 HT8)
     |(refine yP rfl _ _ rfl underlying38 wN rfl (by omega) (by omega) (v:=uA V (cB o) X) rfl (lC Y.o aC) rfl (by simp) rfl (by simp[mA.oneCell']) (by omega) (by simp;omega) ?_;intro g7 A w7 s u;have C:w.1.size+4<=w7.1.size:=(by have:=u.o.size;simp at this;omega);clear u0 u1 u2 u3;obtain⟨u0,u1,u2,u3⟩:=(u.o.blk (B.o.T.alloc _) (λe=>by omega)).c4;obtain⟨r0,r1,r2,r3⟩:=(u.o.blk (rB.new wr #[tA P.N,qA sA P.L,uA q1 (cB P.M) d1,uA q2 (cB P.Z) d2] 105) (λe=>by have:=(Y.o.lt _ e.2).2;omega)).c4))
    first
     |(have q:=HR8;exact⟨⟨k+1,fA ⟨g8,0,eA⟩,I,o++[⟨t,a1,c1,a2,c2⟩]++[⟨P,q1,d1,q2,d2⟩],by omega,by go_num,by simp,by rw[z.o],by simp;omega,gB (by simpa[mF]using HR8.o),gB (by rw[z.o];simp),(D.o.snoc O.o.1 O.o.2).snoc HO.o.1 HO.o.2,gB ((r.o.trans ((aC.mono (by omega)).trans (u.o.below (by simp;omega) λi hi e=>by omega))).trans (HT8.o.below C λi hi e=>by omega))⟩,by simp[intOf];omega⟩)
     |(have q:=s;have q:(P.N.toList==t.N.toList)=gA:=hs;exact⟨⟨k+1,fA ⟨g7,0,eA⟩,A,o++[⟨P,q1,d1,q2,d2⟩],by omega,by go_num,by simp,by rw[z.o],by simp;omega,gB (by simpa[mF]using s.o),gB (by rw[z.o];simp),D.o.snoc HO.o.1 HO.o.2,gB (r.o.trans ((aC.mono (by omega)).trans (u.o.below (by simp;omega) λi hi e=>by omega)))⟩,by simp[intOf];omega⟩)
     |(have q:=s;exact⟨⟨k+1,fA ⟨g7,0,eA⟩,A,o++[⟨t,a1,c1,a2,c2⟩],by omega,by go_num,by simp,by rw[z.o],by simp;omega,gB (by simpa[mF]using s.o),gB (by rw[z.o];simp),D.o.snoc O.o.1 O.o.2,gB (r.o.trans ((aC.mono (by omega)).trans (u.o.below (by simp;omega) λi hi e=>by omega)))⟩,by simp[intOf];omega⟩)
     |exact⟨⟨k+1,V,X,o,by omega,by go_num,rfl,by rw[z.o],by omega,lC Y.o aC,gB (by rw[z.o]),D.o,r.o.trans (aC.mono (by omega))⟩,by simp[intOf];omega⟩
  have ek:p.take k=p:=Ra (by omega);rw[ek]at J |-
  have I:fB (DE t h p=(uV t h p).1++if (uV t h p).2=iA then [] else [t]):=rfl;generalize uV t h p=U at *;obtain⟨LU,PU⟩:=U;have hy:o.map (·.t)=LU:=J.o;subst hy;have C:cB o<=4000000:=by omega
  obtain⟨u0,u1,u2,u3⟩:=B.o.T.c4;clear ek hyl J;go_upto_if 52 with fail;go_cut [9] (λal J=>∃(V:nC)(X:Nat)(o:List TV),al=uA V (cB o) X/\cB o<=4000001/\J.ownsRow (w.1.size+4) 105 4 (uA V (cB o) X) (cB o) (mF o)/\o.map (·.t)=DE t h p/\QN w o/\Below (w.1.size+4) w1 J)
  case first=>
   cases PU
   all_goals
    go_wp2_with(at_builtin;refine yP rfl _ _ rfl underlying38 wN rfl (by omega) (by omega) (v:=uA V (cB o) X) rfl Y.o rfl rfl rfl (by simp[mA.oneCell']) (by omega) (by omega) ?_;intro g7 A w7 s u);go_meet;first
     |(have q:=s;exact⟨fA ⟨g7,0,eA⟩,A,o++[⟨t,a1,c1,a2,c2⟩],by simp,by simp;omega,by simpa[mF]using s.o,by rw[I.o];simp,D.o.snoc O.o.1 O.o.2,r.o.trans (u.o.below (by omega) λi hi e=>by omega)⟩)
     |exact⟨_,_,o,rfl,by omega,Y.o,by rw[I.o];simp,D.o,r.o⟩
  clear Y D r B I u0 u1 u2 u3 C;obtain⟨V,X,o,rfl,C,I,B,U,C⟩:=hcut;rename jA=>H;have J:=gB (aGk I U);have P8:=gB (P1.o.keep C);have h:=C.size;have HRL:fB (RES=xD c.w now (o.map (·.t))):=by show _=_;rw[m.o,B]
  have O:fB (∀i(h:i<cB o),VO o[i].t):=λi h=>Z.o _ (by
   have Y:o[i].t∈o.map (·.t):=Tc (Gb h);rw[B]at Y;exact aDq Y)
  clear I B U C m Z P1 L1;go_wp2;have m:=gB (rB.new H #[dB now,uA eA 0 0] 40);have B9:=gB (uF H (aB #[dB now,uA eA 0 0] 40));have B:H.1.size<(H.alloc (aB #[dB now,uA eA 0 0] 40)).1.size:=by simp
  generalize H.alloc (aB #[dB now,uA eA 0 0] 40)=w9 at *;go_loopw [15,16,61] (λ_ _ i wr=>∃(k:Nat)(v:mA),k<=cB o/\i=dB k/\fB (rB wr H.1.size #[dB now,v] 40)/\fB (jQ wr w9.1.size 105 v (cB (xD c.w now ((o.map (·.t)).take k))) (xD c.w now ((o.map (·.t)).take k)))/\fB (jB (·=H.1.size) w9 wr)) (λ_ _ i _=>cB o-(intOf i).toNat)
  case atStart=>exact⟨0,uA eA 0 0,Oa _,rfl,m.o,jQ.nil _ _ _,jB.refl _ _⟩
  case round=>
   obtain⟨k,v,hk,rfl,HX,I,F⟩:=hrel;have m:=F.o.size;have BWr:=gB ((xB P8.o.B B9.o).trans (F.o.below (by omega) λi hi e=>by omega));by_cases G:k<cB o
   .obtain ⟨b,hbe,hb8,z0,z1,z2,z3,o1,o2⟩:=J.o k G;have N:∀j,wr.cell? (iB b j)=H.cell? (iB b j):=λj=>jA.cell?_of_block ((F.o.block b (by omega) (by omega)).trans (B9.o.block b hb8));have v0:=(N _).trans z0;have v1:=(N _).trans z1;have v2:=(N _).trans z2;have v3:=(N _).trans z3;clear N z0 z1 z2 z3;cases hbe
    have J:fB (xD c.w now ((o.map (·.t)).take (k+1))=xD c.w now ((o.map (·.t)).take k)++if eF (aF c.w now o[k].t)=iA then [] else [aF c.w now o[k].t]):=by
     show _=_;rw[aBe _ _ _ _ (by rw[Xa];exact G)];simp
    have m:cB (xD c.w now ((o.map (·.t)).take k))<=4000001:=by
     have:=aJb c.w now (o.map (·.t)) k;rw[Xa]at this;omega
    obtain⟨d,f,l⟩:=O.o k G;have m:fB (∀W,zB w W->Calls prog 124 #[yA #[tA o[k].t.N,dB o[k].t.L,.slice o[k].a1 (cB o[k].t.M) o[k].c1,.slice o[k].a2 (cB o[k].t.Z) o[k].c2],dB now,dB c.w] W λe w'=>GF W (aF c.w now o[k].t).N (aF c.w now o[k].t) e w'):=λW B=>lw o[k].t _ _ _ _ now c.w W (o1.z B) (o2.z B) d f hn0 hn1 l;unfold GF at m;clear o1 o2 d f l;generalize xD c.w now ((o.map (·.t)).take k)=B at *;generalize aF c.w now o[k].t=K at *;generalize o[k]=Y at *;obtain⟨x0,-⟩:=((F.o.blk (P8.o.C.z B9.o) (by omega)).alloc (aB #[tA Y.t.N,dB Y.t.L,uA Y.a1 (cB Y.t.M) Y.c1,uA Y.a2 (cB Y.t.Z) Y.c2] 105)).c6;go_wp2_with fail;refine(m.o _ (xB BWr.o aC)).mono ?_;rintro e w4 ⟨M,x1,Y,x2,e2,rfl,O,h1,C,h2,hM4,G⟩;have hM':wr.1.size<=M:=by simp at O;omega
    have HH1:fB (kD w4 wr.1.size x1 K.M):=h1.mono (by simp);have HH2:=gB (Vc C h2);have U:=gB (xB aC G);have hs4:=U.o.size;clear O h1 C h2 G x0 v0 v1 v2 v3;go_wp2_with fail;apply oC (CH K _ _ _ _ _);intro w5 C;have B45:fB _:=xB aC C;have B5:=gB (xB U.o B45.o);have Z:=gB ((rB.new w4 #[tA K.N,dB K.L,uA x1 (cB K.M) Y,uA x2 (cB K.Z) e2] 105).z C);have O5:=gB (HX.o.z B5.o);have T5:fB _:=F.o.trans (jB.of B5.o);have G:=eB Z.o;clear C m;cases hidl:eF K with
    |true=>
     have C:fB (xD c.w now ((o.map (·.t)).take (k+1))=B):=by show _=_;rw[J.o,Ma hidl,Cd]
     clear hidl;go_wp2;refine⟨⟨k+1,v,by omega,by go_num,O5.o,?_,T5.o⟩,by simp[intOf];omega⟩;rw[C.o];exact I.o.turn (jB.of (S:=λ_=>False) B5.o) (λ_ e=>e.elim)
    |false=>
     have C:fB (xD c.w now ((o.map (·.t)).take (k+1))=B++[K]):=by show _=_;rw[J.o,Ja (by rw[hidl];simp)]
     clear hidl;obtain⟨TG,zs,m,J,O,U⟩:=I.o;have Y:=gB (lC m B5.o);have a0:=gB (⟨J,O,U⟩:_/\_/\_);have G:=gB (λq(hq:v.ownBlock=fA q)=>m.lt q hq);clear m J O U;obtain⟨-,m⟩:=O5.o.c2;obtain⟨r0,r1,r2,r3⟩:=Z.o.c4;go_wp2_with(at_builtin;refine gI rfl _ _ rfl underlying38 wN rfl (by omega) (by omega) (v:=v) rfl Y.o rfl rfl rfl (by simp[mA.oneCell']) (by omega) (by omega) ?_;intro J E Y HO6 Z m;have U:=gB (Z.o.blk O5.o (λe=>by omega));obtain⟨-,O⟩:=U.o.c2;have O:=U.o.free);have hgg:(v.ownBlock=fA J/\J<wr.1.size)\/w4.1.size<=J:=m.o.elim (λh=>Ca ⟨h,(G.o _ h).2⟩) λh=>La (by omega);have m:=hgg.elim (λh=>(G.o _ h.1).1) λh=>by omega
     have O:jB (·=H.1.size) Y (Y.setCell (iB H.1.size 1) (uA (cC J) (cB B+1) E)):=(jB.refl (·=H.1.size) Y).setCell (Ca rfl) 1 _;have m:=Z.o.size;have hk5:∀g,g<w5.1.size->w9.1.size<=g->v.ownBlock≠fA g->(Y.setCell (iB H.1.size 1) (uA (cC J) (cB B+1) E)).heap[g]?=w5.heap[g]?:=λg hg m Y=>by
      rw[O.block g (by omega) (by omega),Z.o.block g hg (λe=>Y e.2)]
     refine⟨⟨k+1,uA (cC J) (cB B+1) E,by omega,by go_num,gB (by have:=U.o.set 1 (uA (cC J) (cB B+1) E);simpa using this),?_,(T5.o.trans (Z.o.mono λi _ e=>La e.1)).trans' O⟩,by simp[intOf];omega⟩;rw[C.o,Kb];have C:cB zs=cB B:=by rw[<-a0.o.1,Xa]
     exact jQ.snoc (wr:=wr) (w4:=w4) (M:=M) (v:=v) (T:=TG) (ys:=zs) (O.row HO6.o (λq hq e=>by simp[mA.ownBlock]at hq;omega)) a0.o.1 C a0.o.2.1 a0.o.2.2 (by omega) hM'
      (λg hg m Y=>(hk5 g (by omega) m Y).trans (B5.o.block g hg))
      (λg hg m=>(hk5 g (by omega) (by omega) (λe=>by have:=(G.o _ e).2;omega)).trans (B45.o.block g m))
      HH1.o HH2.o.1 HH2.o.2 hgg hs4 hM4
   have ek:(o.map (·.t)).take k=o.map (·.t):=Ra (by rw[Xa];omega);rw[ek,<-HRL.o]at I;obtain⟨o,rc,rfl⟩:=I.o.row;have B:=gB (F.o.blk (P8.o.R.z B9.o) (by omega));obtain⟨x0,x1⟩:=HX.o.c2;obtain⟨C,y1⟩:=B.o.c2;have m:=B.o.free;go_wp2;have m:jB (·=w.1.size+1+1+1) wr ((wr.setCell (iB (w.1.size+1+1+1) 0) (dB now)).setCell (iB (w.1.size+1+1+1) 1) (uA o (cB RES) rc)):=((jB.refl (·=w.1.size+1+1+1) wr).setCell (Ca rfl) 0 _).setCell (Ca rfl) 1 _;refine bodyPost_ret (v:=yA #[dB now,uA o (cB RES) rc]) (by simp[results,results46,go_sem,C,y1]) rfl ⟨o,⟨rc,rfl⟩,((I.o.turn m (λg e=>by omega)).own rfl).mono (by omega),((jB.of (S:=λi=>w.1.size<=i) BWr.o).trans' (m.mono λi _ e=>by omega)).below (Ia _) λi hi h=>by omega⟩
def oQ(v:Int)(w:jA):gF 106 #[dB v] w (tA (uB 4 v)):=by
 have c:=gB (oH 4 v w (by omega));generalize uB 4 v=N at *;go_enter func106,ntmps106;go_wp2_with fail;apply oC c.o;intro f a;have b:=gB a;clear a;go_wp2;go_ret;exact⟨rfl,b.o⟩
def oO(v:Int)(w:jA):gF 105 #[dB v] w (tA (uB 8 v)):=by
 have c:=gB (oH 8 v w (by omega));generalize uB 8 v=N at *;go_enter func105,ntmps105;go_wp2_with fail;apply oC c.o;intro f a;have b:=gB a;clear a;go_wp2;go_ret;exact⟨rfl,b.o⟩
def pO(ps:List pB):List vB:=ps.flatMap λp=>[eG p.s,uB 8 p.n]
def KA(ps:List pB)(k:Nat)(h:k<cB ps):pO (ps.take (k+1))=pO (ps.take k)++[eG ps[k].s,uB 8 ps[k].n]:=by
 unfold pO;rw[Pa h,He];rfl
def dW:∀(ps:List pB),xF (pO ps)=nE ps
 |[]=>rfl
 |p::q=>by
  have e:pO (p::q)=[eG p.s,uB 8 p.n]++pO q:=rfl;rw[e,oG,dW q,nE];simp[xF,KY]
def aLz(t:kB):Decidable (sJ t):=by unfold sJ QP;exact inferInstance
def RO(t:kB):vB:=haveI:=aLz t;if sJ t then mQ t else pA
def LZ{t:kB}(h:¬sJ t):RO t=pA:=by unfold RO;rw[Ja h]
def qp{t:kB}(h:sJ t):RO t=mQ t:=by unfold RO;rw[Ma h]
structure TR(ps:List vB)(ms:List pB)(k:Nat)(HD:List vB):Prop where
 eq:ps=HD++pO (ms.take k)
 all:∀j(h:j<cB ms),j<k→ms[j].s.size≤65535
structure TE(w W:World)(g cv:Nat)(ps:List vB):Prop where
 row:W.ownsRow w.1.size 9 1 (uA (cC g) (cB ps) cv) (cB ps) (ps.map mA.string)
 bel:zB w W
section
variable {w W W':jA} {g cv k:Nat} {ps HD:List vB} {ms:List pB}
theorem TR.next(h:TR ps ms k HD)(d:k<cB ms)(e:ms[k].s.size<=65535):TR (ps++[eG ms[k].s,uB 8 ms[k].n]) ms (k+1) HD:=
 ⟨by rw[KA ms k d,h.eq,Nd],λj b c=>by
  rcases Gc j k with a|a;exact h.all j b a;obtain rfl:j=k:=by omega
  exact e⟩
theorem TR.fin(h:TR ps ms k HD)(b:¬k<cB ms):ps=HD++pO ms/\QP ms:=⟨by rw[h.eq,Ra (by omega)],λj a=>h.all j a (by omega)⟩
theorem TE.z(h:TE w W g cv ps)(a:zB W W'):TE w W' g cv ps:=⟨lC h.row a,xB h.bel a⟩
theorem PY{H:Array Oper}{o:Oper}{a:Act}{K:Act->jA->Prop}{Q:Exit->Act->jA->Prop}{E:Prop}{p:Nat}{x y:vB}(h:TE w W g cv ps)(f:o.guard=eA)(s z:Operand)(B:o.op=.call { callee:=.builtin .append,args:=#[s,z],argTypes:=#[30,30] })(D:a.eval s=uA (cC g) (cB ps) cv)(F:a.eval z=uA (cC p) 2 2)(C:W.1.size=p)(L:cB ps<=100000000)
(k:∀d b c,TE w c d b (ps++[x,y])->(∀j,j<W.1.size->j≠g->c.heap[j]?=W.heap[j]?)->K (a.put o.dst (.slice (cC d) (cB (ps++[x,y])) b)) c):
 if Region.wanted o (yielded H a.tmps)=iA then Oper.wp prog o a (W.alloc (aB #[tA x,tA y] 9)) K Q else E:=by
 subst C;obtain⟨I,q,l,m,n⟩:=AC;have J:=h.bel.size;have G:W.1.size<(W.alloc (aB #[tA x,tA y] 9)).1.size:=by simp
 refine yI _ f s z _ B w.1.size 9 I _ 1 16 underlying30 q l m n rfl (by omega) g (cB ps) cv _ D (lC h.row aC) _ 2 2 [tA x,tA y] F rfl (La ⟨_,rfl,jA.news_of_block (cs:=#[tA x,tA y]) (heap_alloc_new _ _)⟩) (by simp[mA.oneCell']) (by simp[maxLen];omega) (by omega) (by omega) λd b c r t u _ _ _=>?_;have A:=λj v i=>(u j (by omega) i).trans (aC.block j v);have e:cB ps+2=cB (ps++[x,y]):=by simp
 rw[e]at r |-
 exact k d b c ⟨by rw[Ld];exact r,(xB h.bel aC).trans (t.mono (by omega))⟩ A
theorem TL:(prog.info? 9).map (λi=>(i.zero,i.size,i.bytes))=fA (fA (tA pA),1,16):=by kernel_rfl
theorem TE.one{b a:Nat}{x:vB}(h:TE w W g cv ps)(c:W'.ownsRow w.1.size 9 1 (uA (cC b) (cB ps+1) a) (cB ps+1) (ps.map mA.string++[tA x]))(d:jB (λi=>w.1.size<=i/\(mA.slice (cC g) (cB ps) cv).ownBlock=fA i) W W'):TE w W' b a (ps++[x]):=by
 rw[show cB ps+1=cB (ps++[x]) by simp]at c;exact⟨by rw[Ld];exact c,h.bel.trans (d.below (by have:=h.bel.size;omega) λi f e=>by omega)⟩
end
def cq(t:kB)(O S:nC)(T Y:Nat)(w:jA)(hm:jC w O t.M)(hs:jC w S t.Z)(hn:t.N.size<=1000000000)(hl1:cB t.M<=2000000)(hl2:cB t.Z<=2000000)(P:∀j(h:j<cB t.M),t.M[j].s.size<=1000000000)(m:∀j(h:j<cB t.Z),t.Z[j].s.size<=1000000000):
 gF 107 #[yA #[tA t.N,qA sA t.L,uA O (cB t.M) T,uA S (cB t.Z) Y]] w (tA (RO t)):=by
 obtain⟨p,y,ms,ss⟩:=t;simp only at hm hs hn hl1 hl2 P m |-
 by_cases z1:p.size > 255
 .have E:fB (RO ⟨p,y,ms,ss⟩=pA):=LZ λh=>by have:=h.1;simp only at this;omega
  have z1':(p.size:Int) > 255:=by omega
  rw[E.o];clear hm hs P m;go_enter func107,ntmps107;go_wp2;go_ret;exact⟨rfl,aC⟩
 have z1':¬(p.size:Int) > 255:=by omega
 have HM:=gB hm;have HS:=gB hs;have HBM:=gB P;have HBS:=gB m;have HU1:=gB (λW=>sS p W hn);have HU2:=gB (λW=>oO y W);have HU3:=gB (λW=>oQ (cB ms:Nat) W);have HU4:=gB (λW=>oQ (cB ss:Nat) W);have hz1:=sF p;have hz2:=oB 8 y;have hz3:=oB 4 (cB ms:Nat);have hz4:=oB 4 (cB ss:Nat);have HKB:fB (QP ms->QP ss->RO ⟨p,y,ms,ss⟩=vM p++uB 8 y++uB 4 (cB ms:Nat)++nE ms++uB 4 (cB ss:Nat)++nE ss):=λh1 Z=>qp ⟨by simp only;omega,h1,Z⟩;have HN1:fB (∀k(h:k<cB ms),¬ms[k].s.size<=65535->RO ⟨p,y,ms,ss⟩=pA):=λk h Z=>LZ λhh=>Z (hh.2.1 k h);have HN2:fB (∀k(h:k<cB ss),¬ss[k].s.size<=65535->RO ⟨p,y,ms,ss⟩=pA):=λk h Z=>LZ λhh=>Z (hh.2.2 k h);generalize vM p=N1 at *;generalize uB 8 y=N2 at *;generalize uB 4 (cB ms:Nat)=N3 at *;generalize uB 4 (cB ss:Nat)=V at *;generalize RO ⟨p,y,ms,ss⟩=TV at *;clear hm hs P m;go_enter func107,ntmps107;go_upto_region 3 with fail;have X6:fB (rB (w.alloc (aB #[tA p,qA sA y,uA O (cB ms) T,uA S (cB ss) Y] 105)) w.1.size #[tA p,qA sA y,uA O (cB ms) T,uA S (cB ss) Y] 105):=rB.new _ _ _;have B0:fB (zB w (w.alloc (aB #[tA p,qA sA y,uA O (cB ms) T,uA S (cB ss) Y] 105))):=aC;generalize w.alloc (aB #[tA p,qA sA y,uA O (cB ms) T,uA S (cB ss) Y] 105)=D at *;have HK:fB (∀d,zB D d->d.cell? ⟨w.1.size,0,eA⟩=fA (tA p)/\d.cell? ⟨w.1.size,1,eA⟩=fA (qA sA y)/\d.cell? ⟨w.1.size,2,eA⟩=fA (uA O (cB ms) T)):=λd h=>⟨(X6.o.z h).cell 0,(X6.o.z h).cell 1,(X6.o.z h).cell 2⟩
 obtain⟨x0,x1,x2⟩:=HK.o D jD;go_cut [3] (λs wx=>∃g,s=uA (fA ⟨g,0,eA⟩) 3 3/\TE D wx g 3 [N1,N2,N3])
 case first=>
  go_region_held3 (λd=>d.cell? ⟨w.1.size,0,eA⟩=fA (tA p)/\d.cell? ⟨w.1.size,1,eA⟩=fA (qA sA y)/\d.cell? ⟨w.1.size,2,eA⟩=fA (uA O (cB ms) T))
   (first|go_keep|exact HK.o _ k4|exact HK.o _ k3|exact HK.o _ k2)
   (first
    |(go_at_call 116;apply oC (HU1.o _);intro w2 m;have k2:zB D w2:=(by exact xB jD.drew m))
    |(go_at_call 105;apply oC (HU2.o _);intro w3 G;have k3:zB D w3:=(by exact xB k2 G))
    |(go_at_call 106;apply oC (HU3.o _);intro w4 r;have k4:zB D w4:=(by exact xB k3 r)))
  all_goals(go_wp2_with fail;go_meet)
  all_goals exact⟨_,rfl,⟨rfl,La ⟨_,3,_,rfl,k4.size,heap_alloc_new _ _,Ia _,by simp[maxLen],rfl,rfl⟩⟩,xB k4 aC⟩
 obtain⟨g0,rfl,b0⟩:=hcut;rename jA=>Q;have L:=gB b0;have y2:Q.cell? ⟨w.1.size,2,eA⟩=fA (uA O (cB ms) T):=(X6.o.z b0.bel).cell 2;clear x0 x1 x2 HK b0 HU1 HU2 HU3;go_wp2;go_loopw [3,5,26] (λd0 _ i wr=>∃(k:Nat)(ps:List vB)(g cv:Nat),k<=cB ms/\i=qA sA k/\d0=uA (fA ⟨g,0,eA⟩) (cB ps) cv/\cB ps<=3+2*k/\jG ps<=2000000000+k*70000/\fB (TR ps ms k [N1,N2,N3])/\fB (TE D wr g cv ps)) (λ_ _ i _=>cB ms-(intOf i).toNat)
 case atStart=>exact⟨0,[N1,N2,N3],_,_,Oa _,rfl,rfl,by simp,by simp[jG];omega,⟨by simp[pO],λj _ h=>absurd h (by omega)⟩,L.o⟩
 case round=>
  obtain⟨k,ps,g,cv,hk,rfl,rfl,hpl,hps,R,H⟩:=hrel;have a:=xB B0.o H.o.bel;by_cases f:k<cB ms
  .obtain ⟨b,o,rfl,hb,c0,X⟩:=(HM.o.z a).at f;have F:=gB (λW=>jL ms[k].s W (HBM.o k f));have U:=gB (λW=>oO ms[k].n W);have HX:=gB (R.o.next f);have E:=gB (HN1.o k f);have hq3:=kF ms[k].s;have hq4:=oB 8 ms[k].n;generalize eG ms[k].s=M at *;generalize uB 8 ms[k].n=N at *;generalize ms[k].s=z at *;generalize ms[k].n=C at *;by_cases hgt:(z.size:Int) > 65535
   .replace E:=gB (E.o (by omega));go_wp2;go_ret;exact⟨by rw[E.o];rfl,xB a aC⟩
   have x:=gB (rB.new wr #[tA z,qA sA C] 107);have H1:=gB (H.o.z (uF wr (aB #[tA z,qA sA C] 107)));have hgB:=(cH H.o.row).2.1;clear R E H;go_upto_region 9 with fail;generalize wr.alloc (aB #[tA z,qA sA C] 107)=W at *;have hBX:=eB x.o;clear hb c0 X a;generalize wr.1.size=v at *;clear wr;have l:fB (∀d,zB W d->d.cell? ⟨v,0,eA⟩=fA (tA z)/\d.cell? ⟨v,1,eA⟩=fA (qA sA C)):=λd h=>⟨(x.o.z h).cell 0,(x.o.z h).cell 1⟩
   obtain⟨x0,x1⟩:=l.o W jD;go_region_held3 (λd=>d.cell? ⟨v,0,eA⟩=fA (tA z)/\d.cell? ⟨v,1,eA⟩=fA (qA sA C))
    (first|go_keep|exact u|exact l.o _ (c.alloc c.size _)|exact l.o _ c|exact l.o _ I)
    (first
     |(go_at_call 117;apply oC (F.o _);intro w3 G;have I:zB W w3:=(Below.refl _ W).drew.trans G)
     |(go_at_call 105;apply oC (U.o _);intro w4 r;have c:zB W w4:=xB I r)
     |(refine PY (by exact H1.o.z c) (by rfl) _ _ (by rfl) (by rfl) (by rfl) (by rfl) (by omega) ?_;intro g5 A Q L J;have u:Q.cell? ⟨v,0,eA⟩=fA (tA z)/\Q.cell? ⟨v,1,eA⟩=fA (qA sA C):=(by have q:=l.o _ c;have K:=J v (by have:=c.size;omega) (by omega);exact⟨(jA.cell?_of_block K).trans q.1,(jA.cell?_of_block K).trans q.2⟩)))
   have B:cB (ps++[M,N])=cB ps+2:=by simp
   have a0:jG (ps++[M,N])=jG ps+(M.size+N.size):=by rw[vH];simp[jG]
   replace L:=gB L;rw[<-B];clear u J;generalize ps++[M,N]=e0 at *;go_wp2;exact⟨⟨k+1,e0,g5,A,by omega,by go_num,rfl,by omega,by omega,HX.o (by omega),L.o⟩,by simp[intOf];omega⟩
  have HE:=gB (R.o.fin f);have y3:wr.cell? ⟨w.1.size,3,eA⟩=fA (uA S (cB ss) Y):=(X6.o.z H.o.bel).cell 3;clear R HM HBM HN1 L;go_wp2_with fail;apply oC (HU4.o _);intro w4 r;replace H:=gB (H.o.z r);have hww:=H.o.bel.size;clear r a y3 HU4;go_wp2_with(at_builtin;refine yP rfl _ _ rfl underlying30 TL rfl (by omega) (by omega) rfl H.o.row rfl rfl (cs:=#[tA V]) rfl (by simp[mA.oneCell']) (by omega) hww ?_;intro g5 A Q O5 T5;have H6:=gB (H.o.one O5.o T5.o);have y3:Q.cell? ⟨w.1.size,3,eA⟩=fA (uA S (cB ss) Y):=(X6.o.z H6.o.bel).cell 3);have B:cB (ps++[V])=cB ps+1:=by simp
  have a0:jG (ps++[V])=jG ps+V.size:=by rw[vH];simp[jG]
  rw[<-B];have HPP:fB (ps++[V]=[N1,N2,N3]++pO ms++[V]):=by show _=_;rw[HE.o.1]
  clear O5 T5 H;generalize hPP:ps++[V]=PP at *;clear hPP;go_loopw [3,7,54] (λd0 _ i wr=>∃(k:Nat)(ps:List vB)(g cv:Nat),k<=cB ss/\i=qA sA k/\d0=uA (fA ⟨g,0,eA⟩) (cB ps) cv/\cB ps<=4000010+2*k/\jG ps<=200000000000+k*70000/\fB (TR ps ss k PP)/\fB (TE D wr g cv ps)) (λ_ _ i _=>cB ss-(intOf i).toNat)
  case atStart=>exact⟨0,PP,_,_,Oa _,rfl,rfl,by omega,by omega,⟨by simp[pO],λj _ h=>absurd h (by omega)⟩,H6.o⟩
  case round=>
   clear hpl hps B a0 f hk y3 H6;obtain⟨k,ps,g,cv,hk,rfl,rfl,hpl,hps,R,H⟩:=hrel;have a:=xB B0.o H.o.bel;by_cases f:k<cB ss
   .obtain ⟨b,o,rfl,hb,c0,X⟩:=(HS.o.z a).at f;have F:=gB (λW=>jL ss[k].s W (HBS.o k f));have U:=gB (λW=>oO ss[k].n W);have HX:=gB (R.o.next f);have E:=gB (HN2.o k f);have hq3:=kF ss[k].s;have hq4:=oB 8 ss[k].n;generalize eG ss[k].s=M at *;generalize uB 8 ss[k].n=N at *;generalize ss[k].s=z at *;generalize ss[k].n=C at *;by_cases hgt:(z.size:Int) > 65535
    .replace E:=gB (E.o (by omega));go_wp2;go_ret;exact⟨by rw[E.o];rfl,xB a aC⟩
    have x:=gB (rB.new wr #[tA z,qA sA C] 109);have H1:=gB (H.o.z (uF wr (aB #[tA z,qA sA C] 109)));have hgB:=(cH H.o.row).2.1;clear R E H;go_upto_region 17 with fail;generalize wr.alloc (aB #[tA z,qA sA C] 109)=W at *;have hBX:=eB x.o;clear hb c0 X a;generalize wr.1.size=v at *;clear wr;have l:fB (∀d,zB W d->d.cell? ⟨v,0,eA⟩=fA (tA z)/\d.cell? ⟨v,1,eA⟩=fA (qA sA C)):=λd h=>⟨(x.o.z h).cell 0,(x.o.z h).cell 1⟩
    obtain⟨x0,x1⟩:=l.o W jD;go_region_held3 (λd=>d.cell? ⟨v,0,eA⟩=fA (tA z)/\d.cell? ⟨v,1,eA⟩=fA (qA sA C))
     (first|go_keep|exact u|exact l.o _ (c.alloc c.size _)|exact l.o _ c|exact l.o _ I)
     (first
      |(go_at_call 117;apply oC (F.o _);intro w3 G;have I:zB W w3:=(Below.refl _ W).drew.trans G)
      |(go_at_call 105;apply oC (U.o _);intro w4 r;have c:zB W w4:=xB I r)
      |(refine PY (by exact H1.o.z c) (by rfl) _ _ (by rfl) (by rfl) (by rfl) (by rfl) (by omega) ?_;intro g5 A Q L J;have u:Q.cell? ⟨v,0,eA⟩=fA (tA z)/\Q.cell? ⟨v,1,eA⟩=fA (qA sA C):=(by have q:=l.o _ c;have K:=J v (by have:=c.size;omega) (by omega);exact⟨(jA.cell?_of_block K).trans q.1,(jA.cell?_of_block K).trans q.2⟩)))
    have B:cB (ps++[M,N])=cB ps+2:=by simp
    have a0:jG (ps++[M,N])=jG ps+(M.size+N.size):=by rw[vH];simp[jG]
    replace L:=gB L;rw[<-B];clear u J;generalize ps++[M,N]=e0 at *;go_wp2;exact⟨⟨k+1,e0,g5,A,by omega,by go_num,rfl,by omega,by omega,HX.o (by omega),L.o⟩,by simp[intOf];omega⟩
   have E2:fB (xF ps=TV):=by
    show _=_;obtain⟨h1,Z⟩:=R.o.fin f;rw[h1,oG,dW,HPP.o,oG,oG,dW,HKB.o HE.o.2 Z];simp[xF,Wa]
   obtain⟨hcv,hg,hcs⟩:=cH H.o.row;have HJ:=gB (mI g (cB ps) cv ps wr rfl hcs hg hcv (by omega) (by omega));rw[E2.o]at HJ;clear hcs;go_wp2_with fail;apply oC HJ.o;intro w2 m;have B2:=gB (xB a m);clear m;go_wp2;go_ret;exact⟨rfl,B2.o⟩
def fq(D:Nat)(t:TypeId)(c d f g h i:mA)(w:jA)(b:rB w D #[c,d,f,g,h,i] t):
 Calls prog 39 #[.pointer (cC D)] w λe j=>e=zA (.tuple #[])/\uD D w j/\rB j D #[c,dB 0,dB 0,vA gA,h,i] t:=by
 have l:gD w D 1 d:=b.cell 1;have m:gD w D 2 f:=b.cell 2;have n:gD w D 3 g:=b.cell 3;have a:=b.free;have k:=gB b;clear b;go_enter func39,ntmps39;go_wp2;go_end0;refine⟨rfl,(((uD.refl _ _).setCell _ _).setCell _ _).setCell _ _,?_⟩;have:=((k.o.set 1 (dB 0)).set 2 (dB 0)).set 3 (vA gA);simpa using this
def aDd{cs:Array mA}{i:Nat}{v:mA}(h:cs[i]?=fA v):cs.setIfInBounds i v=cs:=by
 refine Array.ext_getElem? λj=>?_;rw[Eb];grind
def zr(b o:Nat)(c:Array mA)(t:TypeId)(d:vB)(w:jA)(g:rB w b c t)(h:c[o+1]?=fA (tA d))(i:c[o+2]?=fA (dB d.size))(v:d.size<=1000000000):
 Calls prog 38 #[.pointer (fA (iB b o)),dB 0] w λe k=>e=zA (.tuple #[])/\uD b w k/\rB k b c t:=by
 have q:=g.cell (o+1);rw[h]at q;have r:=g.cell (o+2);rw[i]at r;have a:=g.free;have E:=gB (Vc (aDd h) (aDd i));have p:=gB (λW(s:rB W b c t)=>QC b o c t d W s h (by have:=(Vb.1 i).1;omega));have m:=gB g;have u:d.extract 0 d.size=d:=by simp
 clear g h i;go_enter func38,ntmps38;go_wp2_with fail;go_quiet (fail)
 go_wp2_with fail;go_region
 go_wp2_with fail;have j:=(m.o.z (below_drewN jD (nq+1))).set (o+1) (tA d);rw[E.o.1]at j;apply oC (p.o _ j);intro k f;have l:=j.set (o+2) (dB d.size);rw[E.o.2,<-f]at l;have n:=gB (Vc (show uD b w k by rw[f];exact((uD.of (below_drewN jD _)).setCell _ _).setCell _ _) l);clear j l f;go_wp2;go_end0;exact⟨rfl,n.o⟩
def aCw{w:jA}{B:Nat}{e:TypeId}{a:nC}{n f:Nat}{d:List nB}(h:w.ownsRow B e 3 (uA a n f) (cB d) (flat d))(s:0<cB d):
 ∃g b,a=cC g/\n=cB d/\B<=g/\rB w g b e/\∀j(z:j<cB d),lH b 0 j d[j]:=by
 obtain⟨_,y⟩|⟨g,k,b,p,q,i,_,_,_,A⟩:=h.2;omega;simp only[mA.slice.injEq]at p;obtain⟨rfl,rfl,rfl⟩:=p;refine⟨g,b,rfl,rfl,q,i,?_⟩;obtain⟨u,v,o,t⟩:=pH h;simp only[mA.slice.injEq]at o;obtain⟨rfl,_⟩:=o;obtain rfl|⟨x,C,l,D,m,_,c,r⟩:=t;simp at s;simp only[Qa,Addr.mk.injEq,Cc]at m;obtain⟨rfl,rfl⟩:=m;rw[i]at c;simp only[Qa,Obj.cells.injEq]at c;obtain⟨rfl,rfl,_⟩:=c;exact LD i r
def XJ(a:nC)(m:Nat)(d:List nB)(c k A B:Int)(x:Bool)(w:jA)(hf:wB w a d)(hs:gO d)(t:tC d<=1000000000)(hd:rE d c k A B=iA)(J:0<cB d)(hy:∀j(h:j<cB d),d[j].Y=d[j].data.size/\d[j].data.size<=1000000000):
 Calls prog 11 #[yA #[uA a (cB d) m,qA sA c,qA sA k,qA sA A,qA sA B,vA x],uA eA 0 0] w λe L=>
  ∃a' G,e=zA (yA #[uA a' (cB d) G,qA sA c,qA sA k,qA sA 0,qA sA 0,vA gA])/\wB L a' d/\zB w L:=by
 have T:=(nH hd).2.1;have E:=gB (λW(hW:zB w W)=>@qR a m _ _ _ _ _ x _ hd W (hf.z hW) hs (by unfold maxLen;omega) t);have F:=gB (λW(hW:zB w W)=>AH a m d c k A B x W (hf.z hW) (by omega));have HY:=gB hy;clear hf hs t hd hy;go_enter func11,ntmps11;go_wp2_with fail;apply oC (E.o _ (xB aC aC));intro w1 q;have Z:=rB.new (w.alloc (aB #[uA a (cB d) m,qA sA c,qA sA k,qA sA A,qA sA B,vA x] 35)) #[uA eA 0 0,qA sA 0,qA sA 0,qA sA 0,qA sA 0,vA gA] 35;rw[jA.size_alloc]at Z;have X:=gB (Z.z q);have D1:=gB (((rB.new w #[uA a (cB d) m,qA sA c,qA sA k,qA sA A,qA sA B,vA x] 35).alloc _).z q);have S:=gB (xB (xB aC aC) q);obtain⟨M,N,O,P,Q,R⟩:=D1.o.six;clear Z q E D1;go_wp2_with fail;refine(F.o _ S.o).mono ?_;rintro e w2 ⟨D,v,rfl,l,y⟩;obtain⟨a7,f,rfl⟩:=nK l.row;obtain⟨g,u,rfl,-,hgB,s,o⟩:=aCw l.row J;have H:g≠D:=l.apart g rfl;have hDf:=l.from';have hRlt:=eB X.o;have hz1:=S.o.size;have R2:=gB (X.o.z y);have B2:=gB (xB S.o y);have DB:=gB l.blk;have z:=gB s;have RW:=gB o;have d4:gD w2 D 4 (uA (fA ⟨g,0,eA⟩) (cB d) f):=l.blk.cell 4;clear M N O P Q R X S l y s o F;go_wp2;go_loopw [6,7,19] (λ_ _ i wr=>∃j:Nat,j<=cB d/\i=qA sA j/\fB (rB wr D #[qA sA k,qA sA A,qA sA B,vA x,uA (fA ⟨g,0,eA⟩) (cB d) f,qA sA c] 113)/\fB (rB wr g u 115)/\fB (rB wr (w.1.size+1) #[uA eA 0 0,qA sA 0,qA sA 0,qA sA 0,qA sA 0,vA gA] 35)/\fB (zB w wr)) (λ_ _ i _=>cB d-(intOf i).toNat)
 case atStart=>exact⟨0,Oa _,rfl,DB,z,R2,B2⟩
 case round=>
  clear DB z R2 B2 d4;obtain⟨j,hj,rfl,DB,z,RB,C⟩:=hrel;have q4:gD wr D 4 (uA (fA ⟨g,0,eA⟩) (cB d) f):=DB.o.cell 4;by_cases I:j<cB d
  .have V:fB (Calls prog 38 #[.pointer (fA ⟨g,j*3,eA⟩),qA sA 0] wr λe L=>e=zA (.tuple #[])/\uD g wr L/\rB L g u 115):=by
    obtain⟨_,U,K⟩:=RW.o j I;obtain⟨y1,y2⟩:=HY.o j I;rw[Ya]at U K;rw[y1]at K;exact zr g (j*3) u _ _ wr z.o U K y2
   go_wp2_with fail;apply oC V.o;rintro w3 ⟨b,n⟩;have p:=gB (Vc (DB.o.but b (Ne.symm H)) (Vc n (Vc (RB.o.but b (by omega)) (C.o.trans (b.below (by omega) C.o.size)))));clear b n;go_wp2;exact⟨⟨j+1,by omega,by go_num,p.o.1,p.o.2.1,p.o.2.2.1,p.o.2.2.2⟩,by simp[intOf];omega⟩
  .obtain rfl:j=cB d:=by omega
   go_wp2_with fail;apply oC (fq D _ _ _ _ _ _ _ _ DB.o);rintro w3 ⟨b,n⟩;have G3:=gB (z.o.but b H);have R3:=gB (RB.o.but b (by omega));have B3:=gB (C.o.trans (b.below (by omega) C.o.size));have D3:=gB n;clear b n q4 DB z RB C;go_wp2_with fail;apply oC (dU D _ (fA ⟨g,0,eA⟩) (cB d) f c k 0 0 gA _ D3.o);intro w4 r;have Y:=R3.o.z r;obtain⟨r0,U,K,r3,r4,r5⟩:=Y.six;have q0:=Y.free;have G4:=gB (G3.o.z r);have B4:=gB (xB B3.o r);clear Y r;go_wp2;have HT:=λM N O P Q R=>((((((jB.refl (·=w.1.size+1) w4).setCell (Ca rfl) 0 M).setCell (Ca rfl) 1 N).setCell (Ca rfl) 2 O).setCell (Ca rfl) 3 P).setCell (Ca rfl) 4 Q).setCell (Ca rfl) 5 R;refine bodyPost_ret (v:=yA #[uA (fA ⟨g,0,eA⟩) (cB d) f,qA sA c,qA sA k,qA sA 0,qA sA 0,vA gA]) (by simp[results,results11,go_sem,r0,U,K,r3,r4,r5]) rfl ⟨_,_,rfl,?_,B4.o.trans ((HT _ _ _ _ _ _).below B4.o.size λi hi e=>by omega)⟩;have hG:=λM N O P Q R=>(HT M N O P Q R).blk G4.o (by omega);exact La ⟨g,0,rfl,eB (hG _ _ _ _ _ _),wQ (hG _ _ _ _ _ _) RW.o⟩
