import Derived.Test.YtejebmgbenmimaaGreatDoorJ27
set_option maxRecDepth 100000
set_option maxHeartbeats 16000000
set_option linter.defProp false
open Option renaming none->eA,some->fA
open Bool renaming false->gA,true->iA
open List renaming length->cB
namespace Go.Proofs.YtejebmgbenmimaaGreatDoor
open Go renaming World->jA,Value->mA,Calls->lA
open Value renaming slice->uA,string->tA,agg->yA,int->qA,pointer->xA,tuple->bB
open Obj renaming cells->aB
open IntKind renaming i64->sA
open Go.RowKit Tryz
def ZU{y:Array Oper}{b:List Oper}{o:Oper}{a:Act}{Q:Exit->Act->jA->Prop}{w:jA}(l:o.guard=eA)(s x:Operand)(E:o.op=.call { callee:=.builtin .append,args:=#[s,x],argTypes:=#[103,103] }){B k n j:Nat}{u:List mA}(G:a.eval s=uA (cC k) n j)(F:w.ownsRow B 109 2 (uA (cC k) n j) n u)
{i:nC}{m v:Nat}(f:List pB)(H:a.eval x=uA i m v)(D:cB f=m)(d:gS w i m (flatK f))(J:n+m<=4000000)(C:B<=w.1.size)
(h:∀g cap e,fB (e.ownsRow B 109 2 (uA (cC g) (n+m) cap) (n+m) (u++flatK f))->fB (Below B w e)->wpList prog y Q b (a.put o.dst (uA (cC g) (n+m) cap)) e):wpList prog y Q (o::b) a w:=by
 obtain⟨I,p,q,r,t⟩:=info_parts vY;exact DF _ l s x _ E B 109 I _ 2 24 underlying103 p q r t rfl (by omega) k n j u G F i m v (flatK f) H (by rw[dM,D]) d (lP _) (by simp[maxLen];omega) (by omega) C λg cap e z A _ _ _ _=>h g cap e z A
def aDr{l:Array Oper}{b:List Oper}{o:Oper}{a:Act}{Q:Exit->Act->jA->Prop}{w:jA}(i:o.guard=eA)(s x:Operand)(t:o.op=.call { callee:=.builtin .append,args:=#[s,x],argTypes:=#[103,103] })(u:a.eval s=uA (cC w.1.size) 0 0){j:nC}{m p:Nat}(f:List pB)(v:a.eval x=uA j m p)(r:cB f=m)(d:gS (w.alloc (aB #[] 109)) j m (flatK f))(y:m<=4000000)
(h:∀g cap e,fB (e.ownsRow w.1.size 109 2 (uA (cC g) m cap) m (flatK f))->fB (zB w e)->wpList prog l Q b (a.put o.dst (uA (cC g) m cap)) e):wpList prog l Q (o::b) a (w.alloc (aB #[] 109)):=by
 refine ZU i s x t (B:=w.1.size) u (jA.ownsRow_made w #[] 0 (Ia _) (by simp[maxLen]) (by simp)) f v r d (by omega) aC.size λg cap e k q=>?_;rw[Ya]at k |-
 exact h g cap e k (aC.trans q.o)
structure AB(wv W:World)(X M:Nat)(q1:nC)(e1:Nat)(q2:nC)(e2:Nat)(tn:kB):Prop where
 X:rB W X #[tA tn.N,dB tn.L,uA q1 (cB tn.M) e1,uA q2 (cB tn.Z) e2] 105
 P:kD W wv.1.size q1 tn.M
 R:W.ownsRow M 109 2 (uA q2 (cB tn.Z) e2) (cB tn.Z) (flatK tn.Z)
section
variable {w wv W W':jA} {X M e1 e2 n cap:Nat} {q1 q2 a:nC} {tn:kB} {c:kC} {now:Int} {key:vB}
theorem AB.z(h:AB wv W X M q1 e1 q2 e2 tn)(b:zB W W'):AB wv W' X M q1 e1 q2 e2 tn:=⟨h.X.z b,h.P.z b,lC h.R b⟩
theorem aEb{g k:Nat}(A:AB wv W X M q1 e1 (cC g) e2 tn)(P:AN w W c now a n cap)(v:∀g o,q1=fA (iB g o)->g<M)(u:g≠X)(y:w.1.size+1+1<M)(b:k<cB tn.Z)(d:tn.Z[k].s=key)(i:zC (·.s) tn.Z):
 rB (W.setCell (iB g (k*2+1)) (dB now)) X #[tA tn.N,dB tn.L,uA q1 (cB tn.M) e1,uA (cC g) (cB tn.Z) e2] 105/\jC (W.setCell (iB g (k*2+1)) (dB now)) q1 tn.M/\jC (W.setCell (iB g (k*2+1)) (dB now)) (cC g) (iC (·.s) ⟨key,now⟩ tn.Z)/\AN w (W.setCell (iB g (k*2+1)) (dB now)) c now a n cap/\cB (iC (·.s) (⟨key,now⟩:pB) tn.Z)=cB tn.Z/\W.frozen? (iB g (k*2+1))=gA:=by
 have t:=(A.R.lt g rfl).1;have m:iC (·.s) ⟨key,now⟩ tn.Z=tn.Z.set k ⟨tn.Z[k].s,now⟩:=by rw[aBa i b d,d]
 have p:cB (iC (·.s) (⟨key,now⟩:pB) tn.Z)=cB tn.Z:=by rw[m,Pd]
 have f:jB (·=g) W (W.setCell (iB g (k*2+1)) (dB now)):=(jB.refl (·=g) W).setCell (Ca rfl) _ _;refine⟨f.blk A.X u.symm,ez A.P f (λl o e _ x=>by have:=v l o e;omega),?_,P.turn f (by omega),p,?_⟩
 .have h:(W.setCell (iB g (k*2+1)) (dB now)).ownsRow M 109 2 (uA (cC g) (cB tn.Z) e2) (cB tn.Z) (flatK (iC (·.s) ⟨key,now⟩ tn.Z)):=by
   rw[m,ub _ _ b];exact aCx A.R
  rw[<-p]at h;exact(rD h).pairs
 .rcases A.R.2 with⟨e,_⟩|⟨l,j,r,e,_,q,_⟩
  .cases e
  simp only[mA.slice.injEq,Qa,Addr.mk.injEq,Cc]at e;rw[<-e.1]at q;exact rB.free q _
theorem ot{d:jA}{g m b:Nat}{l:List mA}{y:List pB}(A:AB wv d X M q1 e1 q2 e2 tn)(P:AN w d c now a n cap)(j:∀g o,q1=fA (iB g o)->tn.M≠[]->g≠X)(s:w.1.size+1+1<X)(h:zB d W)(k:W.ownsRow d.1.size 109 2 (uA (cC g) m b) m l)(v:flatK y=l)(t:cB y=m):
 rB (W.setCell (iB X 3) (uA (cC g) m b)) X #[tA tn.N,dB tn.L,uA q1 (cB tn.M) e1,uA (cC g) m b] 105/\jC (W.setCell (iB X 3) (uA (cC g) m b)) q1 tn.M/\jC (W.setCell (iB X 3) (uA (cC g) m b)) (cC g) y/\AN w (W.setCell (iB X 3) (uA (cC g) m b)) c now a n cap:=by
 subst v t;have f:jB (·=X) W (W.setCell (iB X 3) (uA (cC g) (cB y) b)):=(jB.refl (·=X) W).setCell (Ca rfl) 3 _;have x:=eB A.X;exact⟨by have:=(A.X.z h).set 3 (uA (cC g) (cB y) b);simpa using this,ez (A.P.z h) f (λr o e i p=>j r o e i p),(rD (f.row k (λq u e=>by have:=(k.lt q u).1;omega))).pairs,(P.z h).turn f s⟩
end
def RE(c:kC)(now:Int)(a:nC)(cap:Nat)(j:List kB)(h key:vB)(w:jA)(y:uC w a j)(k:cB j+fC j<=1900000)(Y:h.size<=1900000)(V:key.size<=1900000)(t:pC c now j=iA)(i:(xC h&&gK key)=gA):
 lA prog 138 #[oE c,yA #[dB now,uA a (cB j) cap],tA h,tA key] w λe N=>RQ (now,j,5) w e N:=by
 obtain⟨d,b,f,g⟩:=nO k;have r:=gB (λW(u:zB w W)=>rH c now a cap j W (y.z u) b (by omega));have p:=gB (λW=>qG h W (by unfold maxLen;omega));have l:=gB (λW=>GX key W (by omega));have o:=gB (λW(u:zB w W)=>xS c now a cap j W (y.z u) t k);rw[t]at r;have x:xC h=gA\/xC h=iA/\gK key=gA:=by revert i;cases xC h<;>simp
 have P:=gB (AN.new (w:=w) (c:=c) (now:=now) (a:=a) (n:=cB j) (cap:=cap));clear y k d b f g t i;unfold RQ;unfold oE at *;obtain J|⟨J,Q⟩:=x
 all_goals
  rw[J]at p;try rw[Q]at l
  go_enter func138,ntmps138;go_wp2_with(first
   |(go_at_call 44;apply oC (r.o _ P.o.B);intro wv i;replace P:=gB (P.o.z i);clear i r;obtain⟨z,A,C,D,E,F,G,H,-,-,-,-,q⟩:=P.o.cells)
   |(go_at_call 66;apply oC (p.o _);intro N h;subst h)
   |(go_at_call 123;apply oC (l.o _);intro Z i;replace P:=gB (P.o.z i);clear i z A C D E F G H q;obtain⟨z,A,C,D,E,F,G,H,-,-,-,-,q⟩:=P.o.cells)
   |(go_at_call 45;refine(o.o _ P.o.B).mono ?_;rintro e h ⟨K,L,rfl,I,i⟩;have s:=gB (P.o.z i);have m:=gB I;clear I i z A C D E F G H o;obtain⟨-,-,-,-,-,-,-,-,R,S,T,U,O⟩:=s.o.cells))
  refine bodyPost_ret (v:=?_) (by simp[results,results138,go_sem,R,S];rfl) rfl ?_;first
   |exact⟨K,⟨L,rfl⟩,s.o.done m.o q⟩
   |exact⟨K,L,rfl,s.o.done m.o q⟩
def YU{c:kC}{now:Int}{a:nC}{cap:Nat}{f:List kB}{L key:vB}{w:jA}{tn:kB}{V:Int×List kB×Nat}(H:fB (SC w c now a cap f L tn))(hk:key.size<=1900000)(hky:gK key=iA)(HFK:fB (∀p∈tn.Z,p.s.size<=1900000))(HKA:fB (xD c.w now (iC (·.N) ⟨tn.N,tn.L,tn.M,iC (·.s) ⟨key,now⟩ tn.Z⟩ f)=iC (·.N) (zI tn key now) f))
(HFI:fB (VO ⟨tn.N,tn.L,tn.M,iC (·.s) ⟨key,now⟩ tn.Z⟩))
(HV:fB (V=if (eD (·.s) key tn.Z).isSome=iA then(now,iC (·.N) (zI tn key now) f,1) else if (uE c tn ⟨#[]⟩).2<=(uE c tn ⟨#[]⟩).1\/(eF tn=iA/\cB f=10000) then(now,f,3) else if (uE c tn (cE key)).2<=(uE c tn (cE key)).1 then(now,f,4) else(now,iC (·.N) (zI tn key now) f,2))):
 lA prog 138 #[oE c,yA #[qA sA now,uA a (cB f) cap],tA L,tA key] w λe w'=>RQ V w e w':=by
 obtain⟨hml,hsl⟩:=H.o.len;obtain⟨hn0,hn1⟩:=H.o.now0;have HKY:=gB (λW=>GX key W (by omega));have HMT:fB (∀W,gF 200 #[tA key] W (tA (cE key))):=λW=>nZ key W (by omega);have HCT:=gB (λW m a1 a2 c1 c2(p1:jC W a1 tn.M)(p2:jC W a2 tn.Z)=>JU c tn a1 a2 c1 c2 m W p1 p2 (λi h=>by have:=HFK.o _ (Gb h);omega) (by omega) (by omega));have HID:=gB (λW a1 a2 c1 c2=>CH tn a1 a2 c1 c2 W);have P:=gB (AN.new (w:=w) (c:=c) (now:=now) (a:=a) (n:=cB f) (cap:=cap));rw[hky]at HKY;unfold RQ;unfold oE at *;go_enter func138,ntmps138;go_upto_region 5 with(first
  |(go_at_call 44;apply oC (H.o.ok _ P.o.B);intro wo o;replace P:=gB (P.o.z o);clear o)
  |(go_at_call 66;apply oC (H.o.nm _);intro w' hw;subst hw)
  |(go_at_call 123;apply oC (HKY.o _);intro wv o;replace P:=gB (P.o.z o);clear o))
 have N:=gB P.o.kin;obtain⟨vy0,vy1,vx0⟩:=P.o.kin wv jD;have hsv:=P.o.lt;clear HKY;go_cut [10] (λp wx=>∃X,p=xA (fA ⟨X,0,eA⟩)/\KXR wv X tn wx)
 case first=>
  go_region_held3 (λw'=>w'.cell? ⟨w.1.size+1,0,eA⟩=fA (qA sA now)/\w'.cell? ⟨w.1.size+1,1,eA⟩=fA (uA a (cB f) cap)/\w'.cell? ⟨w.1.size,0,eA⟩=fA (qA sA c.w))
   (first|go_keep|with_reducible exact N.o _ (YS k4 (Ia _))|with_reducible exact N.o _ (YS k4 k3.size)|with_reducible exact N.o _ k4|with_reducible exact N.o _ k3|with_reducible exact N.o _ (xB k3 aC)|with_reducible exact N.o _ (aC.drew)|with_reducible exact N.o _ (xB k4 aC))
   (first
    |(go_at_call 74;refine(H.o.te _ (by with_reducible exact P.o.B.drew)).mono ?_;rintro e w3 ⟨⟨a1,c1,a2,c2,rfl,p1,p2⟩,F⟩;have k3:zB wv w3:=(by with_reducible exact xB jD.drew F);have c3:=N.o _ k3)
    |(go_at_call 74;refine(H.o.te _ (by with_reducible exact(xB P.o.B aC).drew)).mono ?_;rintro e w3 ⟨⟨a1,c1,a2,c2,rfl,p1,p2⟩,F⟩;have k3:zB wv w3:=(by with_reducible exact xB (aC.drew) F);have c3:=N.o _ k3;have hX3:rB w3 wv.1.size #[tA ⟨#[]⟩,qA sA 0,uA eA 0 0,uA eA 0 0] 105:=RZ F)
    |(have q:=hX3;clear q;go_at_call 124;refine(H.o.kp _ a1 a2 c1 c2 (by with_reducible exact p1) (by with_reducible exact p2)).mono ?_;rintro e w4 ⟨M,q1,e1,q2,e2,rfl,hM,u,h1M,Q,hM4,G⟩;have k4:zB wv w4:=(by with_reducible exact xB k3 G);have c4:=N.o _ k4;have C:=gB (hX3.z G);obtain⟨s0,s1,s2,s3⟩:=C.o.c4;have d:=C.o.free)
    |((fail_if_success (have q:=hX3));go_at_call 124;refine(H.o.kp _ a1 a2 c1 c2 (by with_reducible exact p1) (by with_reducible exact p2)).mono ?_;rintro e w4 ⟨M,q1,e1,q2,e2,rfl,hM,u,h1M,Q,hM4,G⟩;have k4:zB wv w4:=(by with_reducible exact xB k3 G);have c4:=N.o _ k4)
    |(go_at_call 124;refine(H.o.kp _ a1 a2 c1 c2 (by with_reducible exact p1.z aC) (by with_reducible exact p2.z aC)).mono ?_;rintro e w4 ⟨M,q1,e1,q2,e2,rfl,hM,u,h1M,Q,hM4,G⟩;have k4:zB wv w4:=(by with_reducible exact xB (xB k3 aC) G);have c4:=N.o _ k4;have C:fB (rB w4 w3.1.size #[tA ⟨#[]⟩,qA sA 0,uA eA 0 0,uA eA 0 0] 105):=gB ((rB.new w3 _ _).z G);obtain⟨s0,s1,s2,s3⟩:=C.o.c4;have d:=C.o.free))
  all_goals(go_wp2_with fail;go_meet)
  all_goals first
   |with_reducible exact⟨_,rfl,aFh k3.size u h1M Q hM k4⟩
   |exact⟨_,rfl,pi u h1M Q (by have:=eB hX3;omega) hM (Ia _) C.o k4⟩
   |exact⟨_,rfl,pi u h1M Q (by simp) hM k3.size C.o k4⟩
 obtain⟨X,rfl,M,q1,e1,q2,e2,hXb,hP1,hq1M,hRow,hRX,hqX,hXw,hMw,F⟩:=hcut;rename jA=>w3;replace P:=gB (P.o.z F);have A:fB (AB wv w3 X M q1 e1 q2 e2 tn):=⟨hXb,hP1,hRow⟩
 have HQ:=gB (⟨hq1M,hRX,hqX⟩:_/\_/\_);have hX3:=eB hXb;have hXP:w.1.size+1+1<X:=by omega
 clear N vy0 vy1 vx0 hXb hP1 hq1M hRow hRX hqX F;obtain⟨U,Y,Z,t⟩:=A.o.X.c4;go_wp2;go_loopw [11,44] (λ_ i wr=>∃k:Nat,k<=cB tn.Z/\i=qA sA k/\fB (∀j(h:j<k)(h':j<cB tn.Z),tn.Z[j].s≠key)/\w3=wr) (λ_ i _=>cB tn.Z-(intOf i).toNat)
 case atStart=>exact⟨0,Oa _,rfl,(λj h=>absurd h (by omega)),rfl⟩
 case round=>
  obtain⟨k,hkl,rfl,HN,hw⟩:=hrel;subst hw;by_cases hlt:k<cB tn.Z
  .obtain ⟨g,rfl⟩:=fu A.o.R (by omega);obtain⟨pb,po,ep,hpl,v0,v1⟩:=((rD A.o.R).pairs).at hlt;simp only[Qa,Addr.mk.injEq,Cc]at ep;obtain⟨rfl,rfl⟩:=ep;rw[Ya]at v0 v1;cases hsm:(tn.Z[k].s.toList==key.toList) with
   |true=>
    have HS:=gB (aEb A.o P.o HQ.o.1 (HQ.o.2.1 g rfl) (by omega) hlt ((mE _ _).1 hsm) H.o.rs);have E:fB (V=(now,iC (·.N) (zI tn key now) f,1)):=by
     show _=_;rw[HV.o,Ma];cases hgg:eD (·.s) key tn.Z with
     |some _=>rfl
     |none=>exact absurd ((mE _ _).1 hsm) (qW hgg _ (Gb hlt))
    have fz:=HS.o.2.2.2.2.2;obtain⟨-,-,-,-,-,-,z,K,-⟩:=P.o.cells;go_upto_region 11 with fail;clear v0 v1 fz U Y Z t z K;generalize w3.setCell ⟨g,k*2+1,eA⟩ (qA sA now)=w7 at *;obtain⟨X7,p1,p2,P7,hL,-⟩:=HS.o;have HWF:=gB (H.o.wi w7 tn.L tn.M (iC (·.s) ⟨key,now⟩ tn.Z) q1 (fA ⟨g,0,eA⟩) e1 e2 P7.B p1 p2 HFI.o);rw[HKA.o,hL]at HWF;replace P:=gB P7;obtain⟨U,Y,Z,t⟩:=X7.c4;obtain⟨x0,x1,x2,x3,x4,x5,z,K,-,-,-,-,S⟩:=P7.cells;clear X7 p1 p2 P7 HS;generalize iC (·.N) (zI tn key now) f=RL at *;go_wp2_with fail;refine HWF.o.mono ?_;rintro e w9 ⟨ra,rc,rfl,ho,o⟩;have D:=gB (P.o.z o);have r:=gB ho;clear ho o x0 x1 x2 x3 x4 x5 z K U Y Z t;obtain⟨-,-,-,-,-,-,-,-,z0,z1,g0,g1,hz9⟩:=D.o.cells;go_wp2;refine bodyPost_ret (v:=?_) (by simp[results,results138,go_sem,z0,z1];rfl) rfl ?_;rw[E.o];first
     |exact⟨ra,⟨rc,rfl⟩,D.o.done r.o S⟩
     |exact⟨ra,rc,rfl,D.o.done r.o S⟩
   |false=>
    have HN2:fB (∀j(h:j<k+1)(h':j<cB tn.Z),tn.Z[j].s≠key):=λj hj hj'=>by
     by_cases e:j=k
     .subst e;exact λe'=>absurd ((mE _ _).2 e') (by rw[hsm];simp)
     exact HN.o j (by omega) hj'
    generalize tn.Z[k].s=kk at *;go_wp2;exact⟨⟨k+1,by omega,by go_num,HN2.o,by first|rfl|trivial⟩,by simp[intOf];omega⟩
  have HNO:fB (eD (·.s) key tn.Z=eA):=bN λp hp=>by
   obtain⟨j,hj,rfl⟩:=Ib hp;exact HN.o j (by omega) hj
  have HC1:=gB (HCT.o w3 ⟨#[]⟩ q1 q2 e1 e2 A.o.P.pairs (rD A.o.R).pairs);have HV2:fB (V=if (uE c tn ⟨#[]⟩).2<=(uE c tn ⟨#[]⟩).1\/(eF tn=iA/\cB f=10000) then(now,f,3) else if (uE c tn (cE key)).2<=(uE c tn (cE key)).1 then(now,f,4) else(now,iC (·.N) (zI tn key now) f,2)):=by show _=_;rw[HV.o,Ja (by rw[HNO.o];simp)]
  have hkn:¬((k:Int)<cB tn.Z):=by omega
  clear HV HN hlt hkl;obtain⟨x0,x1,x2,x3,x4,x5,z,K,-,-,-,-,S⟩:=P.o.cells;generalize uE c tn ⟨#[]⟩=CV at *;obtain⟨n1,l1⟩:=CV;go_upto_region 15 with(first
   |(go_at_call 145;apply oC HC1.o;intro w4 o;replace A:=gB (A.o.z o);replace P:=gB (P.o.z o);clear o x0 x1 x2 x3 x4 x5 z K U Y Z t S;obtain⟨U,Y,Z,t⟩:=A.o.X.c4;obtain⟨x0,x1,x2,x3,x4,x5,z,K,-,-,-,-,S⟩:=P.o.cells)
   |(go_at_call 121;apply oC (HID.o _ q1 q2 e1 e2);intro w5 o;replace A:=gB (A.o.z o);replace P:=gB (P.o.z o);clear o x0 x1 x2 x3 x4 x5 z K U Y Z t S;obtain⟨U,Y,Z,t⟩:=A.o.X.c4;obtain⟨x0,x1,x2,x3,x4,x5,z,K,-,-,-,-,S⟩:=P.o.cells))
  generalize eF tn=IB at *;go_cut [88] (λs wx=>s=.bool (decide (l1<=n1) ||(IB&&decide (cB f=10000)))/\w5=wx)
  case first=>
   have h3:l1<=n1/\(decide (l1<=n1) ||(IB&&decide (cB f=10000)))=iA\/¬l1<=n1/\(IB=gA/\(decide (l1<=n1) ||(IB&&decide (cB f=10000)))=gA\/IB=iA/\(((cB f:Int)==10000)=iA/\(decide (l1<=n1) ||(IB&&decide (cB f=10000)))=iA\/((cB f:Int)==10000)=gA/\(decide (l1<=n1) ||(IB&&decide (cB f=10000)))=gA)):=by
    by_cases u:l1<=n1
    .exact Ca ⟨u,by simp[u]⟩
    refine La ⟨u,?_⟩;cases IB
    .exact Ca ⟨rfl,by simp[u]⟩
    refine La ⟨rfl,?_⟩;by_cases Q:cB f=10000
    .exact Ca ⟨by simp[Q],by simp[Q]⟩
    exact La ⟨by simp;omega,by simp[u,Q]⟩
   obtain⟨u,HD⟩|⟨u,⟨rfl,HD⟩|⟨rfl,⟨Q,HD⟩|⟨Q,HD⟩⟩⟩:=h3
   all_goals
    have HD:=gB HD;go_wp2_with fail;go_meet;exact⟨by rw[HD.o],rfl⟩
  obtain⟨rfl,hw⟩:=hcut;subst hw;have O:fB (V=if (decide (l1<=n1) ||(IB&&decide (cB f=10000)))=iA then(now,f,3) else if (uE c tn (cE key)).2<=(uE c tn (cE key)).1 then(now,f,4) else(now,iC (·.N) (zI tn key now) f,2)):=by
   refine gB ?_;rw[HV2.o];simp only[Fe,Sa,Ab]
  clear HV2 HC1;cases hcb:(decide (l1<=n1) ||(IB&&decide (cB f=10000))) with
  |true=>
   rw[hcb,Ma rfl]at O;clear hcb;go_wp2_with(go_at_call 45;refine(H.o.sm _ P.o.B).mono ?_;rintro e w9 ⟨ra,rc,rfl,ho,o⟩;have D:=gB (P.o.z o);have r:=gB ho;clear ho o x0 x1 x2 x3 x4 x5 z K;obtain⟨-,-,-,-,-,-,-,-,z0,z1,g0,g1,hz9⟩:=D.o.cells);refine bodyPost_ret (v:=?_) (by simp[results,results138,go_sem,z0,z1];rfl) rfl ?_;rw[O.o];first
    |exact⟨ra,⟨rc,rfl⟩,D.o.done r.o S⟩
    |exact⟨ra,rc,rfl,D.o.done r.o S⟩
  |false=>
   rw[hcb,Ja (by simp)]at O;clear hcb x0 x1 x2 x3 x4 x5 z K U Y Z t S;have dx:=λx:mC w5=>(P.o.z x.h).cells;have dm:=λx:mC w5=>(A.o.z x.h).X.c4;simp only[forall_and]at dx dm;obtain⟨dx0,dx1,dx2,dx3,dx4,dx5,-⟩:=dx;obtain⟨dm0,dm1,dm2,dm3⟩:=dm;have HC2:=gB (λy:mC w5=>HCT.o y.w' (cE key) q1 q2 e1 e2 (A.o.P.pairs.z y.h) ((rD A.o.R).pairs.z y.h));have hnel:=mC.there w5;generalize uE c tn (cE key)=CV at *;obtain⟨n2,l2⟩:=CV;generalize hmk:cE key=mk at *;clear hmk HCT;go_wp2_with fail;refine bC (by kernel_rfl) (by kernel_rfl) ?_;repeat (go_big_quiet_step (first|(go_at_call 200;exact rC (HMT.o _))|(go_at_call 145;exact rC (HC2.o _))|fail))
   refine wpQuiet_nil ?_;rintro _ ⟨y,rfl⟩;replace P:=gB (P.o.z y.h);replace A:=gB (A.o.z y.h);clear dx0 dx1 dx2 dx3 dx4 dx5 dm0 dm1 dm2 dm3 hnel HC2 HMT;generalize y.w'=w6 at *;clear y;obtain⟨U,Y,Z,t⟩:=A.o.X.c4;obtain⟨x0,x1,x2,x3,x4,x5,z,K,-,-,-,-,S⟩:=P.o.cells;by_cases hme:l2<=n2
   .have E:fB (V=(now,f,4)):=by show _=_;rw[O.o,Ma hme]
    go_wp2_with(go_at_call 45;refine(H.o.sm _ P.o.B).mono ?_;rintro e w9 ⟨ra,rc,rfl,ho,o⟩;have D:=gB (P.o.z o);have r:=gB ho;clear ho o x0 x1 x2 x3 x4 x5 z K;obtain⟨-,-,-,-,-,-,-,-,z0,z1,g0,g1,hz9⟩:=D.o.cells);refine bodyPost_ret (v:=?_) (by simp[results,results138,go_sem,z0,z1];rfl) rfl ?_;rw[E.o];first
     |exact⟨ra,⟨rc,rfl⟩,D.o.done r.o S⟩
     |exact⟨ra,rc,rfl,D.o.done r.o S⟩
   have E:fB (V=(now,iC (·.N) (zI tn key now) f,2)):=by show _=_;rw[O.o,Ja hme]
   clear O x0 x1 x2 x3 x4 x5 K U Y Z HID;go_wp2;go_loopw [15] (λi wr=>∃j:Nat,j<=cB tn.Z/\i=qA sA j/\fB (∀i(h:i<cB tn.Z),i<j->vJ tn.Z[i].s key=iA)/\w6=wr) (λi _=>cB tn.Z-(intOf i).toNat)
   case atStart=>exact⟨0,Oa _,rfl,(λi _ hi=>absurd hi (by omega)),rfl⟩
   case round=>
    obtain⟨j,hj,rfl,HJ,hw⟩:=hrel;subst hw;have hcs:(∃h:j<cB tn.Z,vJ tn.Z[j].s key=iA)\/((¬(j:Int)<cB tn.Z/\j=cB tn.Z)\/∃h:j<cB tn.Z,Op.bytesLess tn.Z[j].s.toList key.toList=gA)/\iC (·.s) ⟨key,now⟩ tn.Z=tn.Z.take j++⟨key,now⟩:: tn.Z.drop j:=by
     by_cases J:j<cB tn.Z
     .cases I:vJ tn.Z[j].s key
      .exact La ⟨La ⟨J,I⟩,TM hj (λi h hi=>HJ.o i h hi) (λ_=>I) HNO.o⟩
      exact Ca ⟨J,I⟩
     exact La ⟨Ca ⟨by omega,by omega⟩,TM hj (λi h hi=>HJ.o i h hi) (λh=>absurd h J) HNO.o⟩
    obtain⟨J,I⟩|⟨hx,hcut⟩:=hcs
    .obtain ⟨g,rfl⟩:=fu A.o.R (by omega);obtain⟨pb,po,ep,hpl,v0,-⟩:=((rD A.o.R).pairs).at J;simp only[Qa,Addr.mk.injEq,Cc]at ep;obtain⟨rfl,rfl⟩:=ep;rw[Ya]at v0;have hq2:Op.bytesLess tn.Z[j].s.toList key.toList=iA:=I;have HJ2:fB (∀i(h:i<cB tn.Z),i<j+1->vJ tn.Z[i].s key=iA):=λi h hi=>by
      by_cases e:i=j
      .subst e;exact I
      exact HJ.o i h (by omega)
     clear I;generalize tn.Z[j].s=kk at *;go_wp2;exact⟨⟨j+1,by omega,by go_num,HJ2.o,by first|rfl|trivial⟩,by simp[intOf];omega⟩
    have HQ2:fB (flatK (iC (·.s) ⟨key,now⟩ tn.Z)=flatK (tn.Z.take j)++[tA key,qA sA now]++flatK (tn.Z.drop j)/\cB (iC (·.s) (⟨key,now⟩:pB) tn.Z)=j+1+(cB tn.Z-j)):=by
     refine gB ?_;rw[hcut];refine⟨?_,by simp;omega⟩;rw[show tn.Z.take j++(⟨key,now⟩:pB):: tn.Z.drop j=(tn.Z.take j++[(⟨key,now⟩:pB)])++tn.Z.drop j by simp,nW,nW];rfl
    have hl1:cB (tn.Z.take j)=j:=by simp;omega
    have hl2:cB (tn.Z.drop j)=cB tn.Z-j:=by simp
    clear hcut;have hc3:(q2=eA/\e2=0/\cB tn.Z=0/\j=0)\/∃g,q2=fA ⟨g,0,eA⟩/\((¬(j:Int)<cB tn.Z/\j=cB tn.Z)\/∃h:j<cB tn.Z,Op.bytesLess tn.Z[j].s.toList key.toList=gA):=by
     rcases aKc A.o.R with⟨u,Q,h3⟩|⟨g,u⟩;exact Ca ⟨u,Q,h3,by omega⟩;exact La ⟨g,u,hx⟩
    clear hx;obtain⟨rfl,rfl,T,rfl⟩|⟨g,rfl,hx⟩:=hc3
    rotate_left;have HSH:=gB (λW(hW:zB w6 W)=>aGs (lC A.o.R hW) hj);have hce:=aGj A.o.R;have hje:j<=e2:=by omega
    obtain⟨hjn,-⟩|⟨J,hq2⟩:=hx;rcases Decidable.em (e2=j) with he|he
    all_goals first
     |(have q:=T;rw[T]at t;go_upto_region 23 with fail;obtain⟨-,-,-,xa3⟩:=(A.o.X.alloc (aB #[] 109)).c4;rw[T]at xa3)
     |(have q:=hjn;go_upto_region 23 with fail;obtain⟨-,-,-,xa3⟩:=(A.o.X.alloc (aB #[] 109)).c4)
     |(obtain⟨pb,po,ep,hpl,v0,-⟩:=((rD A.o.R).pairs).at J;simp only[Qa,Addr.mk.injEq,Cc]at ep;obtain⟨rfl,rfl⟩:=ep;rw[Ya]at v0;generalize tn.Z[j].s=kk at *;go_upto_region 23 with fail;clear v0 hq2 hpl;obtain⟨-,-,-,xa3⟩:=(A.o.X.alloc (aB #[] 109)).c4)
    all_goals
     clear t;go_upto_region 24 with(at_builtin;refine aDr rfl _ _ rfl rfl _ rfl hl1 (by first|exact(HSH.o _ aC).1|exact Ca rfl) (by omega) ?_;intro g8 cap8 w8 O8 B8;clear z xa3;obtain⟨-,-,-,-,-,-,z,-⟩:=(P.o.z B8.o).cells)
     have hs8:=B8.o.size;go_upto_region 25 with(at_builtin;refine yP rfl _ _ rfl underlying103 vY rfl (by omega) (by omega) rfl O8.o rfl rfl rfl (by simp[mA.oneCell']) (by omega) hs8 ?_;intro g10 cap10 w10 O10 T10;have B10:=gB (B8.o.trans (T10.o.below hs8 λi hi e=>by omega));clear z;obtain⟨-,-,-,t⟩:=(A.o.X.z B10.o).c4;try rw[T]at t)
     have hs10:=B10.o.size;go_upto_region 26 with(at_builtin;first
      |(refine ZU rfl _ _ rfl rfl O10.o (tn.Z.drop j) rfl hl2 (by first|exact(HSH.o _ B10.o).2|exact Ca (by omega)) (by omega) hs10 ?_;intro g12 cap12 w12 O12 B12;have l:=gB (B10.o.trans B12.o);have HA:=gB (ot A.o P.o HQ.o.2.2 hXP l.o O12.o HQ2.o.1 (by have:=HQ2.o.2;omega));clear t;obtain⟨U,Y,Z,t⟩:=(A.o.X.z l.o).c4;(try rw[T]at t);have b:=(A.o.X.z l.o).free 3)
      |(refine ZU rfl _ _ rfl rfl O10.o (tn.Z.drop 0) rfl (by rw[hl2];omega) (Ca rfl) (by omega) hs10 ?_;intro g12 cap12 w12 O12 B12;have l:=gB (B10.o.trans B12.o);have HA:=gB (ot A.o P.o HQ.o.2.2 hXP l.o O12.o HQ2.o.1 (by have:=HQ2.o.2;omega));clear t;obtain⟨U,Y,Z,t⟩:=(A.o.X.z l.o).c4;(try rw[T]at t);have b:=(A.o.X.z l.o).free 3))
     obtain⟨x0,x1,x2,x3,x4,x5,z,K,-,-,-,-,-⟩:=(P.o.z l.o).cells;go_wp2_with fail;refine(H.o.wn HKA.o rfl (by have:=HQ2.o.2;omega) HA.o.2.2.2.B HA.o.2.1 HA.o.2.2.1 HFI.o).mono ?_;rintro e w9 ⟨ra,rc,rfl,ho,o⟩;have D:=gB (HA.o.2.2.2.z o);have r:=gB ho;have HZ:=gB HA.o.2.2.2.lt;clear ho o x0 x1 x2 x3 x4 x5 z K U Y Z t b HA;obtain⟨-,-,-,-,-,-,-,-,z0,z1,g0,g1,hz9⟩:=D.o.cells;generalize iC (·.N) (zI tn key now) f=RL at *;go_wp2;refine bodyPost_ret (v:=?_) (by simp[results,results138,go_sem,z0,z1];rfl) rfl ?_;rw[E.o];first
      |exact⟨ra,⟨rc,rfl⟩,D.o.done r.o HZ.o⟩
      |exact⟨ra,rc,rfl,D.o.done r.o HZ.o⟩
def BG(c:kC)(now:Int)(a:nC)(cap:Nat)(d:List kB)(b key:vB)(w:jA)(t:uC w a d)(k:cB d+fC d<=1900000)(q:b.size<=1900000)(u:key.size<=1900000)(l:pC c now d=iA):
 lA prog 138 #[oE c,yA #[dB now,uA a (cB d) cap],tA b,tA key] w λe A=>RQ (cI c now d b key) w e A:=by
 cases hb:(xC b&&gK key) with
 |false=>
  rw[show cI c now d b key=(now,d,5) by unfold cI;rw[Ja (by rw[l];simp),Ma hb]];exact RE c now a cap d b key w t k q u l hb
 |true=>
  have g:=hb;rw[Sa]at g;obtain⟨m,r,z,-,f⟩:=dH l;have o:1<=c.w:=by simp only[mH,Sa]at m;exact(gL m.1.1.1.1.1).1
  have S:=aHs (cap:=cap) t k q l g.1;refine YU S u g.2 (IM (nR k) q).2.2.1 (lp f (yR f) o) ?_ (by show _=_;unfold cI;rw[Ja (by rw[l];simp),Ja (by rw[hb];simp)];rfl);have x:=EK (key:=λp:pB=>p.s) (a:=⟨key,now⟩) (eC d b).Z;have B:=S.len;refine⟨S.fit.1,by show(iC (·.s) (⟨key,now⟩:pB) (eC d b).Z).length<=_;omega,λi h=>?_⟩;rcases lK (Gb h) with e|e;show 0<=((iC (·.s) (⟨key,now⟩:pB) (eC d b).Z)[i]'h).n/\_;rw[e];exact⟨r,by show now<=_;omega⟩;obtain ⟨j,y,v⟩:=Ib e;have:=S.fit.2.2 j y;rw[v]at this;exact this
def LH(c:kC)(k:Int)(a:nC)(l:Nat)(m:List kB)(i h:vB)(j:Int)(w:jA)(J:uC w a m)(s:cB m+fC m<=1900000)(o:i.size<=1900000)(o:h.size<=1900000)(G:pC c k m=iA)
(B:(xC i&&(h.toList.isEmpty||dF h) &&dC j (-1) 1000000)=gA):
 lA prog 71 #[oE c,yA #[dB k,uA a (cB m) l],tA i,tA h,dB j] w λe M=>iS (k,m,gA) w e M:=by
 obtain⟨d,b,f,g⟩:=nO s;have D:=gB (λW(H:zB w W)=>rH c k a l m W (J.z H) b (by omega));have r:=gB (λW=>qG i W (by unfold maxLen;omega));have q:=gB (λW=>kM h W (by omega));have p:=gB (λW=>zD j (-1) 1000000 W);have t:=gB (λW(H:zB w W)=>xS c k a l m W (J.z H) G s);rw[G]at D;clear J s d b f g G;unfold oE at *;have F:=gB (AN.new (w:=w) (c:=c) (now:=k) (a:=a) (n:=cB m) (cap:=l));go_enter func71,ntmps71;go_wp2_with fail;apply oC (D.o _ F.o.B);intro o o;have P:=gB (F.o.z o);clear o F D;obtain⟨N,O,Q,R,S,T,U,V,x,y,z,A,K⟩:=P.o.cells;have I:xC i=gA\/(xC i=iA/\h.toList.isEmpty=gA/\dF h=gA)\/(xC i=iA/\h.toList.isEmpty=iA/\dC j (-1) 1000000=gA)\/(xC i=iA/\h.toList.isEmpty=gA/\dF h=iA/\dC j (-1) 1000000=gA):=by
  revert B;cases xC i<;>cases h.toList.isEmpty<;>cases dF h<;>cases dC j (-1) 1000000<;>simp
 clear B;obtain C|⟨C,h,B⟩|⟨C,h,G⟩|⟨C,h,B,G⟩:=I
 all_goals
  rw[C]at r;try rw[B]at q
  try rw[G]at p
  go_wp2_with(first
   |(go_at_call 66;apply oC (r.o _);intro M h;subst h)
   |(go_at_call 103;apply oC (p.o _);intro M h;subst h)
   |(go_at_call 122;apply oC (q.o _);intro h o;replace P:=gB (P.o.z o);clear o N O Q R S T U V x y z A K;obtain⟨N,O,Q,R,S,T,U,V,x,y,z,A,K⟩:=P.o.cells))
  refine(t.o _ P.o.B).mono ?_;rintro e h ⟨L,u,rfl,Z,o⟩;have X:=gB (P.o.z o);have E:=gB Z;clear Z o N O Q R S T U V x y z A t r q p;obtain⟨_,_,_,_,_,_,_,_,x,y,z,A,h⟩:=X.o.cells;go_wp2;refine bodyPost_ret (v:=bB #[yA #[dB k,uA L (cB m) u],.bool gA]) (by simp[results,results71,go_sem,x,y]) rfl ?_;have Y:=X.o.done (v:=k) (rc:=u) E.o K;first
   |exact⟨L,⟨u,rfl⟩,Y⟩
   |exact⟨L,u,rfl,Y⟩
def aGd(t:pB)(b:Bool)(a:List pB)(c:zC (·.s) a):cB (fc t b a)<=cB a+1:=by
 cases b with
 |true=>
  rw[wT];have:cB (yE (·.s) t.s a)<=cB a:=Pc _ _;omega
 |false=>rw[fd c];exact EK _
def aGe(t p:pB)(l:List pB)(b:Bool):b=iA/\(p.s.toList==t.s.toList)=iA/\uL t (l,b) p=(l,iA)\/b=iA/\(p.s.toList==t.s.toList)=gA/\uL t (l,b) p=(l++[p],iA)\/
 b=gA/\(p.s.toList==t.s.toList)=gA/\(t.s.toList==p.s.toList)=gA/\Op.bytesLess t.s.toList p.s.toList=gA/\uL t (l,b) p=(l++[p],gA)\/b=gA/\(p.s.toList==t.s.toList)=gA/\Op.bytesLess t.s.toList p.s.toList=iA/\uL t (l,b) p=(l++[t]++[p],iA)\/
 b=gA/\(p.s.toList==t.s.toList)=iA/\(t.s.toList==p.s.toList)=iA/\Op.bytesLess t.s.toList p.s.toList=gA/\uL t (l,b) p=(l++[t],iA):=by
 cases b with
 |true=>cases h:(p.s.toList==t.s.toList)<;>simp[uL,h]
 |false=>
  by_cases d:vJ p.s t.s=iA
  .have a:=aE (iJ d);exact La (La (Ca ⟨rfl,a,aE (iJ d).symm,tZ d,by simp[uL,d,a]⟩))
  have c:vJ p.s t.s=gA:=by simpa using d
  by_cases e:vJ t.s p.s=iA
  .have a:=aE (iJ e).symm;exact La (La (La (Ca ⟨rfl,a,e,by simp[uL,c,a]⟩)))
  have g:=Decidable.byContradiction λf=>e (yU c f);have a:=(mE _ _).2 g;exact La (La (La (La ⟨rfl,a,(mE _ _).2 g.symm,by simpa[vJ]using e,by simp[uL,c,a]⟩)))
def qj{w g W:jA}{c:kC}{i:Int}{a:nC}{n h X:Nat}{t u B:mA}{A k b:nC}{s f d:Nat}{z m j:List pB}(x:cB j=d)(P:AN w g c i a n h)(r:rB g X #[t,u,B,uA k (cB m) s] 105)(v:w.1.size+1+1<X)(l:∀W,jB (·=X) g W->jC W A z/\jC W k m)(o:zB g W)(p:W.ownsRow g.1.size 107 2 (uA b d f) d (flatK j)):
 rB (W.setCell (iB X 2) (uA b d f)) X #[t,u,uA b d f,uA k (cB m) s] 105/\jC (W.setCell (iB X 2) (uA b d f)) b j/\jC (W.setCell (iB X 2) (uA b d f)) k m/\AN w (W.setCell (iB X 2) (uA b d f)) c i a n h:=by
 subst x;have m:jB (·=X) W (W.setCell (iB X 2) (uA b (cB j) f)):=(jB.refl (·=X) W).setCell (Ca rfl) 2 _;have C:=eB r;exact⟨by have:=(r.z o).set 2 (uA b (cB j) f);simpa using this,(rD (m.row p (λq y e=>by have:=(p.lt q y).1;omega))).pairs,(l _ ((jB.of o).trans' m)).2,(P.z o).turn m v⟩
def LG{c:kC}{l:Int}{a:nC}{A:Nat}{Z:List kB}{G h:vB}{j:Int}{w:jA}{m:kB}{V:Int×List kB×Bool}(H:fB (SC w c l a A Z G m))(o:h.size<=1900000)(B:h.toList.isEmpty=iA\/h.toList.isEmpty=gA/\dF h=iA)(J:dC j (-1) 1000000=iA)
(HV:fB (V=if 10000<cB (xD c.w l (iC (·.N) (xH m h j) Z)) then(l,Z,gA) else(l,xD c.w l (iC (·.N) (xH m h j) Z),iA))):
 lA prog 71 #[oE c,yA #[dB l,uA a (cB Z) A],tA G,tA h,dB j] w λe w'=>iS V w e w':=by
 have s:=gB (λW=>kM h W (by omega));have P:=gB (AN.new (w:=w) (c:=c) (now:=l) (a:=a) (n:=cB Z) (cap:=A));obtain⟨o,o⟩:=H.o.len;obtain⟨o,o⟩:=H.o.now0;unfold iS oE;go_enter func71,ntmps71;go_wp2_with fail;apply oC (H.o.ok _ P.o.B);intro I W;replace P:=gB (P.o.z W);clear W;go_upto_region 3 with fail;go_cut [39] (λb o=>b=.bool gA/\AN w o c l a (cB Z) A)
 case first=>
  obtain B|⟨B,Y⟩:=B
  all_goals
   go_wp2_with(first
    |(go_at_call 66;apply oC (H.o.nm _);intro w' B;subst B)
    |(go_at_call 103;apply oC (gE J _);intro w' B;subst B)
    |(go_at_call 122;apply oC (s.o _);intro B W;replace P:=gB (P.o.z W);clear W))
   go_meet;exact⟨by simp,P.o⟩
 clear P s;obtain⟨rfl,s⟩:=hcut;rename jA=>I;have P:=gB s;have J:=gB s.kin;obtain⟨vy0,vy1,vx0⟩:=s.kin I jD;have B:=s.lt;clear s;go_upto_region 5 with fail;go_cut [12] (λp o=>∃X,p=.pointer (cC X)/\KX I X m o)
 case first=>
  go_region_held3 (λw'=>w'.cell? (iB (w.1.size+1) 0)=fA (dB l)/\w'.cell? (iB (w.1.size+1) 1)=fA (uA a (cB Z) A)/\w'.cell? (iB w.1.size 0)=fA (dB c.w))
   (first|go_keep|with_reducible exact J.o _ (YS R (Ia _))|with_reducible exact J.o _ (YS R Y.size)|with_reducible exact J.o _ R|with_reducible exact J.o _ Y|with_reducible exact J.o _ (xB Y aC)|with_reducible exact J.o _ (aC.drew)|with_reducible exact J.o _ (xB R aC))
   (first
    |(go_at_call 74;refine(H.o.te _ (by with_reducible exact P.o.B.drew)).mono ?_;rintro e t ⟨⟨a1,c1,a2,c2,rfl,B,p2⟩,C⟩;have Y:zB I t:=(by with_reducible exact xB jD.drew C);have G:=J.o _ Y)
    |(go_at_call 74;refine(H.o.te _ (by with_reducible exact(xB P.o.B aC).drew)).mono ?_;rintro e t ⟨⟨a1,c1,a2,c2,rfl,B,p2⟩,C⟩;have Y:zB I t:=(by with_reducible exact xB (aC.drew) C);have G:=J.o _ Y;have T:rB t I.1.size #[tA ⟨#[]⟩,qA sA 0,uA eA 0 0,uA eA 0 0] 105:=RZ C)
    |(have q:=T;clear q;go_at_call 124;refine(H.o.kp _ a1 a2 c1 c2 (by with_reducible exact B) (by with_reducible exact p2)).mono ?_;rintro e w4 ⟨M,q1,e1,q2,e2,rfl,hM,h1,O,G,U,D⟩;have R:zB I w4:=(by with_reducible exact xB Y D);have c4:=J.o _ R;have y:=gB (T.z D);obtain⟨s0,s1,s2,s3⟩:=y.o.c4;have f:=y.o.free)
    |((fail_if_success (have q:=T));go_at_call 124;refine(H.o.kp _ a1 a2 c1 c2 (by with_reducible exact B) (by with_reducible exact p2)).mono ?_;rintro e w4 ⟨M,q1,e1,q2,e2,rfl,hM,h1,O,G,U,D⟩;have R:zB I w4:=(by with_reducible exact xB Y D);have c4:=J.o _ R)
    |(go_at_call 124;refine(H.o.kp _ a1 a2 c1 c2 (by with_reducible exact B.z aC) (by with_reducible exact p2.z aC)).mono ?_;rintro e w4 ⟨M,q1,e1,q2,e2,rfl,hM,h1,O,G,U,D⟩;have R:zB I w4:=(by with_reducible exact xB (xB Y aC) D);have c4:=J.o _ R;have y:fB (rB w4 t.1.size #[tA ⟨#[]⟩,qA sA 0,uA eA 0 0,uA eA 0 0] 105):=gB ((rB.new t _ _).z D);obtain⟨s0,s1,s2,s3⟩:=y.o.c4;have f:=y.o.free))
  all_goals(go_wp2_with fail;go_meet)
  all_goals first
   |with_reducible exact⟨_,rfl,aJc h1 (rD G) R⟩
   |exact⟨_,rfl,aBf h1 (rD G) (by have:=eB T;omega) hM (Ia _) y.o R⟩
   |exact⟨_,rfl,aBf h1 (rD G) (by simp) hM Y.size y.o R⟩
 obtain⟨X,rfl,q1,e1,q2,e2,N,I,O,C⟩:=hcut;rename jA=>t;replace P:=gB (P.o.z C);have Q:=gB N;have K:=gB I;have T:=eB N;have Y:w.1.size+1+1<X:=by omega
 clear J vy0 vy1 vx0 N I C;obtain⟨-,-,g2,-⟩:=Q.o.c4;go_upto_if 52 with fail;go_cut [13,14] (λ_ _ o=>∃L J n1 B d1,List.length J=n1/\xH m h j=⟨m.N,L,J,m.Z⟩/\cB J<=1900001/\rB o X #[tA m.N,dB L,uA B n1 d1,uA q2 (cB m.Z) e2] 105/\jC o B J/\jC o q2 m.Z/\AN w o c l a (cB Z) A)
 case first=>
  cases hme:h.toList.isEmpty with
  |true=>
   have o:=gB hme;obtain⟨-,g1,-,-⟩:=Q.o.c4;have g:=Q.o.free;go_wp2;go_meet;have hT:jB (·=X) t (t.setCell (iB X 1) (dB j)):=(jB.refl (·=X) t).setCell (Ca rfl) 1 _;exact⟨j,m.M,_,q1,e1,rfl,by unfold xH;rw[Ma o.o],by omega,by have:=Q.o.set 1 (dB j);simpa using this,(K.o _ hT).1,(K.o _ hT).2,P.o.turn hT Y⟩
  |false=>
   have HLA:=gB (aBo (limit:=j) H.o.rm hme);have HLE:=gB (λb=>aGd ⟨h,j⟩ b _ H.o.rm);have o:fB ((t.alloc (aB #[] 107)).ownsRow t.1.size 107 2 (uA (cC t.1.size) 0 0) 0 []):=gB (jA.ownsRow_made t #[] 0 (Ia _) (by simp[maxLen]) (by simp));have O:=gB (uF t (aB #[] 107));obtain⟨-,-,U,-⟩:=(Q.o.alloc (aB #[] 107)).c4;have HP1:=gB (K.o _ (jB.refl _ _)).1;go_upto_region 10 with fail;generalize (t.alloc (aB #[] 107))=w4 at *;generalize decide (j<0)=I at *;go_wp2;clear U;go_loopw [13,14,16,61] (λU pl _ i wr=>∃(k:Nat)(va:nC)(vc:Nat)(r:List pB),k<=cB m.M/\i=dB k/\U=uA va (cB r) vc/\pl=.bool (lX ⟨h,j⟩ I (m.M.take k)).2/\cB r<=2*k/\fB (r=(lX ⟨h,j⟩ I (m.M.take k)).1)/\fB (wr.ownsRow t.1.size 107 2 (uA va (cB r) vc) (cB r) (flatK r))/\fB (zB t wr)) (λ_ _ _ i _=>cB m.M-(intOf i).toNat)
   case atStart=>exact⟨0,_,_,[],Oa _,rfl,rfl,rfl,Oa _,rfl,o.o,O.o⟩
   case round=>
    obtain⟨k,va,vc,r,o,rfl,rfl,rfl,hyl,S,HR,o⟩:=hrel;have O:=o.o.size;by_cases U:k<cB m.M
    .obtain ⟨pb,po,rfl,hpl,v0,v1⟩:=(HP1.o.z o.o).at U;have HU:=gB (mq ⟨h,j⟩ I m.M k U);generalize lX ⟨h,j⟩ I (m.M.take k)=U at *;generalize m.M[k]=p at *;obtain⟨LU,PU⟩:=U;have hy:r=LU:=S.o;subst hy;rcases aGe ⟨h,j⟩ p r PU with⟨rfl,hs,hU⟩|⟨rfl,hs,hU⟩|⟨rfl,hs,h1,G,hU⟩|⟨rfl,hs,G,hU⟩|⟨rfl,hs,h1,G,hU⟩
     all_goals
      have x:=gB (HU.o.trans hU);clear S HU hU;dsimp only at hs;try dsimp only at h1
      try dsimp only at G
      go_wp2_with(at_builtin;first
       |(refine yP rfl _ _ rfl underlying102 cV rfl (by omega) (by omega) (v:=uA (fA ⟨g7,0,eA⟩) (cB r+1) F) rfl u.o rfl rfl rfl (by simp[mA.oneCell']) (by omega) (by omega) ?_;intro g8 G w8 HR8 HT8)
       |(refine yP rfl _ _ rfl underlying102 cV rfl (by omega) (by omega) (v:=uA va (cB r) vc) rfl (lC HR.o aC) rfl (by simp) rfl (by simp[mA.oneCell']) (by omega) (by simp;omega) ?_;intro g7 F w7 u z;have hs7:t.1.size<=w7.1.size:=(by have:=z.o.size;simp at this;omega);obtain⟨r0,r1⟩:=(z.o.blk (rB.new wr #[tA p.s,qA sA p.n] 107) (λe=>by have:=(HR.o.lt _ e.2).2;omega)).c2))
      first
       |(have q:=HR8;exact⟨⟨k+1,fA ⟨g8,0,eA⟩,G,r++[⟨h,j⟩]++[p],by omega,by go_num,by simp,by rw[x.o],by simp;omega,gB (by rw[x.o]),gB (by simpa[flatK]using HR8.o),gB (o.o.trans ((aC.mono O).trans ((z.o.below (by simp;omega) λi hi e=>by omega).trans (HT8.o.below hs7 λi hi e=>by omega))))⟩,by simp[intOf];omega⟩)
       |(have q:=u;have q:(p.s.toList==h.toList)=gA:=hs;exact⟨⟨k+1,fA ⟨g7,0,eA⟩,F,r++[p],by omega,by go_num,by simp,by rw[x.o],by simp;omega,gB (by rw[x.o]),gB (by simpa[flatK]using u.o),gB (o.o.trans ((aC.mono O).trans (z.o.below (by simp;omega) λi hi e=>by omega)))⟩,by simp[intOf];omega⟩)
       |(have q:=u;exact⟨⟨k+1,fA ⟨g7,0,eA⟩,F,r++[⟨h,j⟩],by omega,by go_num,by simp,by rw[x.o],by simp;omega,gB (by rw[x.o]),gB (by simpa[flatK]using u.o),gB (o.o.trans ((aC.mono O).trans (z.o.below (by simp;omega) λi hi e=>by omega)))⟩,by simp[intOf];omega⟩)
       |exact⟨⟨k+1,va,vc,r,by omega,by go_num,rfl,by rw[x.o],by omega,gB (by rw[x.o]),lC HR.o aC,o.o.trans (aC.mono O)⟩,by simp[intOf];omega⟩
    have ek:m.M.take k=m.M:=Ra (by omega);rw[ek]at S |-
    have G:fB (fc ⟨h,j⟩ I m.M=(lX ⟨h,j⟩ I m.M).1++if (lX ⟨h,j⟩ I m.M).2=iA then [] else [(⟨h,j⟩:pB)]):=rfl;have hle:=HLE.o I;rw[G.o,Kb]at hle;generalize lX ⟨h,j⟩ I m.M=U at *;obtain⟨LU,PU⟩:=U;have hy:r=LU:=S.o;subst hy;have U:cB r<=1900001:=by have:cB r<=cB m.M+1:=Ua (Nat.le_add_right _ _) hle;omega
    obtain⟨-,-,g2,-⟩:=(Q.o.z o.o).c4;have d:=(Q.o.z o.o).free;clear ek hyl S;cases PU
    all_goals
     go_wp2_with(at_builtin;refine yP rfl _ _ rfl underlying102 cV rfl (by omega) (by omega) (v:=uA va (cB r) vc) rfl HR.o rfl rfl rfl (by simp[mA.oneCell']) (by omega) O ?_;intro g7 F w7 u z;have I:=gB (o.o.trans (z.o.below O λi hi e=>by omega));clear g2 d;obtain⟨-,-,g2,-⟩:=(Q.o.z I.o).c4;have d:=(Q.o.z I.o).free);go_meet;first
      |(have q:=u;exact⟨m.L,r++[⟨h,j⟩],_,_,_,by simp,by rw[HLA.o,G.o];simp,by simp at hle |-;omega,qj (by simp) P.o Q.o Y K.o I.o (by simpa[flatK]using u.o)⟩)
      |exact⟨m.L,r,_,_,_,rfl,by rw[HLA.o,G.o];simp,U,qj rfl P.o Q.o Y K.o o.o HR.o⟩
 clear P Q K g2;obtain⟨L,J,n1,B,d1,rfl,hT,h,N,o,G,s⟩:=hcut;rename jA=>w7;have P:=gB s;have h:=gB (Vc o G);rw[hT]at HV;obtain⟨m0,m1,m2,m3⟩:=N.c4;obtain⟨I,O,U,Y,x4,x5,y0,y1,-,-,-,-,hz⟩:=s.cells;clear o G N hT s;go_wp2_with fail;refine(H.o.wi _ L J m.Z B q2 d1 e2 P.o.B h.o.1 h.o.2 ⟨by show cB J<=_;omega,H.o.fit.2⟩).mono ?_;rintro e w8 ⟨o,rc,rfl,B,s⟩;clear m0 m1 m2 m3 I O U Y x4 x5 y0 y1 h;generalize xD c.w l (iC (·.N) ⟨m.N,L,J,m.Z⟩ Z)=h at *;obtain⟨I,O,U,Y,x4,x5,y0,y1,G,J,g0,g1,m⟩:=(P.o.z s).cells;have m:=gB ((P.o.z s).z (uF w8 (aB #[dB l,uA o (cB h) rc] 40)));have HO8:=gB (B.z (uF w8 (aB #[dB l,uA o (cB h) rc] 40)));obtain⟨a0,a1⟩:=(rB.new w8 #[dB l,uA o (cB h) rc] 40).c2;clear B s I O U Y x4 x5 y0 y1 G J g0 g1;by_cases s:10000<cB h
 .have E:fB (V=(l,Z,gA)):=by show _=_;rw[HV.o,Ma s]
  have hgi:(10000:Int)<cB h:=by omega
  go_upto_region 24 with fail;generalize w8.alloc (aB #[dB l,uA o (cB h) rc] 40)=wA at *;obtain⟨I,O,U,Y,x4,x5,y0,y1,-,-,-,-,-⟩:=m.o.cells;go_wp2_with(go_at_call 45;refine(H.o.sm _ m.o.B).mono ?_;rintro e B ⟨B,Z,rfl,ho,W⟩;have P9:=gB (m.o.z W);have HO9:=gB ho;clear ho W I O U Y x4 x5 y0 y1;obtain⟨-,-,-,-,-,-,-,-,G,J,g0,g1,I⟩:=P9.o.cells);refine bodyPost_ret (v:=?_) (by simp[results,results71,go_sem,G,J];rfl) rfl ?_;rw[E.o];first
   |exact⟨B,⟨Z,rfl⟩,P9.o.done HO9.o m.o.lt⟩
   |exact⟨B,Z,rfl,P9.o.done HO9.o m.o.lt⟩
 have E:fB (V=(l,h,iA)):=by show _=_;rw[HV.o,Ja s]
 have hgi:¬((10000:Int)<cB h):=by omega
 go_upto_region 25 with fail;generalize w8.alloc (aB #[dB l,uA o (cB h) rc] 40)=wA at *;obtain⟨-,-,-,-,-,-,-,-,G,J,g0,g1,I⟩:=m.o.cells;go_wp2;refine bodyPost_ret (v:=?_) (by simp[results,results71,go_sem,G,J];rfl) rfl ?_;rw[E.o];first
  |exact⟨o,⟨rc,rfl⟩,m.o.done HO8.o hz⟩
  |exact⟨o,rc,rfl,m.o.done HO8.o hz⟩
def pV(c:kC)(g:Int)(a:nC)(j:Nat)(h:List kB)(d b:vB)(f:Int)(w:jA)(n:uC w a h)(k:cB h+fC h<=1900000)(p:d.size<=1900000)(o:b.size<=1900000)(l:pC c g h=iA):
 lA prog 71 #[oE c,yA #[dB g,uA a (cB h) j],tA d,tA b,dB f] w λe q=>iS (xR c g h d b f) w e q:=by
 by_cases m:(xC d&&(b.toList.isEmpty||dF b) &&dC f (-1) 1000000)=gA
 .rw[show xR c g h d b f=(g,h,gA) by unfold xR;rw[Ja (by rw[l];simp),Ma m]];exact LH c g a j h d b f w n k p o l m
 have i:(xC d=iA/\(b.toList.isEmpty=iA\/dF b=iA))/\dC f (-1) 1000000=iA:=by simpa only[Bool.not_eq_false,Sa,Fe]using m
 refine LG (aHs n k p l i.1.1) o ?_ i.2 (by show _=_;unfold xR;rw[Ja (by rw[l];simp),Ja m]);cases he:b.toList.isEmpty
 .exact La ⟨rfl,i.1.2.resolve_left (by rw[he];simp)⟩
 exact Ca rfl
def xz(X b:Nat):wrap64 (wrap64 ((X:Int)*256)+(b:Int))=vQ (X*256+b):=by
 rw[QL];unfold wrap64;split<;>omega
def YV(s:vB)(p n:Nat)(w:jA)(m:s.size<=maxLen)(h:p+n<=s.size)(u:n<=8):
 bM 203 #[tA s,dB p,dB n] w (dB (vQ (uX (sQ s p n)))):=by
 unfold maxLen at m;go_enter func203,ntmps203;go_wp2;go_loop [7,8] (λv i=>∃(k V:Nat)(Z:Int),k<=n/\i=dB k/\v=dB Z/\fB (Z=vQ V)/\fB (V=uX (sQ s p k))) (λ_ i=>n-(intOf i).toNat)
 case atStart=>exact⟨0,0,0,Oa _,rfl,rfl,by show _=_;rw[eJ (by omega)];rfl,rfl⟩
 case round=>
  obtain⟨k,V,Z,t,rfl,rfl,c,a⟩:=hrel;by_cases l:k<n
  .have f:V<72057594037927936:=by
    have d:=GH (sQ s p k);rw[vR (by omega),<-a.o]at d;have q:256 ^ k<=256 ^ 7:=Sc (by omega) (by omega);omega
   obtain rfl:Z=(V:Int):=by rw[c.o,eJ (by omega)]
   have g:(0:Int)<=(p:Int)+(k:Int):=by omega
   have j:(p:Int)+(k:Int)<(s.size:Int):=by omega
   have b:p+k<s.size:=by omega
   have r:=s[p+k].toNat_lt;have h:=xz V s[p+k].toNat;go_wp2;refine⟨⟨k+1,V*256+s[p+k].toNat,vQ (V*256+s[p+k].toNat),by omega,by go_num,?_,rfl,by show _=_;rw[PM b,DP,a.o]⟩,by simp[intOf];omega⟩;exact Kd (mA.int .i64) h
  .go_wp2;go_ret;have e:k=n:=by omega
   subst e;exact⟨vF (by rw[c.o,a.o]),rfl⟩
def aCs{a b:Int}{c d:Int}(e:a=b)(f:c=d):Ending.returned (bB #[dB a,dB c])=.returned (bB #[dB b,dB d]):=by rw[e,f]
def jT{s:vB}{p n:Nat}{v:Int}(h:DJ s p (uB n v))(f:n<=8)(d:vQ (uX (uB n v).data.toList)=v)(j:s.size<=1000000)(w:jA):
 bM 131 #[tA s,dB (p:Nat),dB (n:Nat)] w (bB #[dB v,dB ((p+n:Nat):Int)]):=by
 have c:=h.le;have a:=h.sect;rw[oB]at c a;have b:=gB (λW=>YV s p n W (by unfold maxLen;omega) c f);rw[a,d]at b;have i:¬((p:Int)+(n:Int) > (s.size:Int)):=by omega
 clear a d h;go_enter func131,ntmps131;go_wp2_with fail;refine tD (b.o _) ?_;go_wp2;go_ret2;exact⟨aCs rfl (by omega),rfl⟩
def zT{s t:vB}{p n:Nat}(h:DJ s p (uB n (t.size:Nat)++t))(a:n<=2)(b:t.size<256 ^ n)(d:s.size<=1000000)(w:jA):
 bM 132 #[tA s,dB (p:Nat),dB (n:Nat)] w (bB #[tA t,dB ((p+n+t.size:Nat):Int)]):=eQ s p n t _ w (by omega) a (h.part b)
def DQ{n v:Nat}(h:v<256 ^ n)(a:v<9223372036854775808):vQ (uX (uB n (v:Nat)).data.toList)=v:=by rw[pT n v h,eJ a]
def xE(l:List rI)(k:Nat):Nat:=if 2*k+2<cB l/\(qD l (2*k+2)).t<(qD l (2*k+1)).t then 2*k+2 else 2*k+1
def iL(l:List rI)(k:Nat):xE l k=2*k+1\/xE l k=2*k+2:=by
 unfold xE;split;exact La rfl;exact Ca rfl
def DT{l:List rI}{k i:Nat}(a:0<i)(b:i<cB l)(c:(i-1) / 2=k):xE l k<cB l/\(qD l (xE l k)).t<=(qD l i).t:=by grind [xE,qD]
def yX(l:List rI)(k:Nat):Prop:=(∀i,0<i->i<cB l->(i-1) / 2≠k->(qD l ((i-1) / 2)).t<=(qD l i).t)/\∀i,0<i->i<cB l->(i-1) / 2=k->0<k->(qD l ((k-1) / 2)).t<=(qD l i).t
def yX.done{l:List rI}{k:Nat}(h:yX l k)(f:¬(xE l k<cB l/\(qD l (xE l k)).t<(qD l k).t)):nJ l:=by
 intro i a b;by_cases e:(i-1) / 2=k
 .obtain ⟨d,g⟩:=DT a b e;rw[e];have:¬(qD l (xE l k)).t<(qD l k).t:=λc=>f ⟨d,c⟩;omega
 exact h.1 i a b e
def yX.step{l:List rI}{k:Nat}(h:yX l k)(g:xE l k<cB l)(s:(qD l (xE l k)).t<(qD l k).t):yX (gH l k (xE l k)) (xE l k):=by
 have u:=iL l k;have b:∀i,0<i->i<cB l->(i-1) / 2=k->(qD l (xE l k)).t<=(qD l i).t:=λi r d e=>(DT r d e).2;generalize xE l k=c at *;have f:(c-1) / 2=k:=by omega
 have m:k<cB l:=by omega
 refine⟨λi a d n=>?_,λi a d o _=>?_⟩
 .rw[sD]at d;rw[xI m g,xI m g,Ja n];by_cases p:i=c
  .subst p;rw[Ma rfl,Ma f];omega
  rw[Ja p];by_cases j:(i-1) / 2=k
  .rw[Ma j,Ja (by omega:i≠k)];exact b i a d j
  rw[Ja j];by_cases q:i=k
  .subst q;rw[Ma rfl];exact h.2 c (by omega) g f a
  rw[Ja q];exact h.1 i a d j
 rw[sD]at d;rw[xI m g,xI m g,f,Ja (by omega:k≠c),Ma rfl,Ja (by omega:i≠c),Ja (by omega:i≠k)];have:=h.1 i a d (by omega);rw[o]at this;exact this
def lN:Nat->List rI->Nat->List rI
 |0,l,_=>l
 |n+1,l,k=>if xE l k<cB l/\(qD l (xE l k)).t<(qD l k).t then lN n (gH l k (xE l k)) (xE l k) else l
def FM:∀(n m k:Nat)(l:List rI),cB l-k<=n->cB l-k<=m->lN n l k=lN m l k
 |0,0,_,_,_,_=>rfl
 |0,m+1,k,l,b,_=>by
  have:=iL l k;rw[lN,lN,Ja λh=>by omega]
 |n+1,0,k,l,_,a=>by
  have:=iL l k;rw[lN,lN,Ja λh=>by omega]
 |n+1,m+1,k,l,b,a=>by
  have c:=iL l k;rw[lN,lN];by_cases h:xE l k<cB l/\(qD l (xE l k)).t<(qD l k).t
  .rw[Ma h,Ma h];exact FM n m _ _ (by rw[sD];omega) (by rw[sD];omega)
  rw[Ja h,Ja h]
def tO(l:List rI)(k:Nat):List rI:=lN (cB l-k) l k
def VB{l:List rI}{k:Nat}(h:xE l k<cB l/\(qD l (xE l k)).t<(qD l k).t):tO l k=tO (gH l k (xE l k)) (xE l k):=by
 have b:=iL l k;obtain⟨n,a⟩:∃n,cB l-k=n+1:=⟨cB l-k-1,by have:=h.1;omega⟩
 unfold tO;rw[a,lN,Ma h];exact FM _ _ _ _ (by rw[sD];omega) (by rw[sD];omega)
def CX{l:List rI}{k:Nat}(h:¬(xE l k<cB l/\(qD l (xE l k)).t<(qD l k).t)):tO l k=l:=by
 unfold tO;cases cB l-k with
 |zero=>rfl
 |succ n=>rw[lN,Ja h]
def KH:∀(n k:Nat)(l:List rI),cB l-k<=n->k<=cB l->yX l k->nJ (tO l k)/\(tO l k).Perm l/\cB (tO l k)=cB l
 |0,k,l,g,f,h=>by
  have e:¬(xE l k<cB l/\(qD l (xE l k)).t<(qD l k).t):=λd=>by
   have:=iL l k;have:=d.1;omega
  rw[CX e];exact⟨h.done e,Lf _,rfl⟩
 |n+1,k,l,g,f,h=>by
  by_cases d:xE l k<cB l/\(qD l (xE l k)).t<(qD l k).t
  .have i:=iL l k;rw[VB d];obtain⟨a,b,c⟩:=KH n (xE l k) (gH l k (xE l k)) (by rw[sD];have:=d.1;omega) (by rw[sD];have:=d.1;omega) (h.step d.1 d.2);exact⟨a,b.trans (DA (by have:=d.1;omega) d.1),c.trans (sD _ _ _)⟩
  rw[CX d];exact⟨h.done d,Lf _,rfl⟩
def KV(l:List rI):List rI:=(gH l 0 (cB l-1)).take (cB l-1)
def yO(l:List rI):List rI:=tO (KV l) 0
theorem IZ(l:List rI):cB (KV l)=cB l-1:=by simp[KV,sD]
theorem zy{l:List rI}(h:0<cB l){i:Nat}(a:i<cB l-1):qD (KV l) i=if i=0 then qD l (cB l-1) else qD l i:=by grind [qD,KV,gH,xI]
def aEu{l:List rI}(h:nJ l)(a:0<cB l):yX (KV l) 0:=by grind [nJ,yX,KV,IZ,zy]
def su{l:List rI}(h:0<cB l):(qD l 0::KV l).Perm l:=by
 have c:=DA (l:=l) (i:=0) (j:=cB l-1) h (by omega);have d:(gH l 0 (cB l-1)).length=cB l:=sD _ _ _;have a:(gH l 0 (cB l-1)).drop (cB l-1)=[qD l 0]:=by
  have b:cB l-1<(gH l 0 (cB l-1)).length:=by omega
  rw[Cb b,<-EI b,xI h (by omega),Ma rfl,Ie (by omega)]
 have e:KV l++[qD l 0]=gH l 0 (cB l-1):=by rw[<-a];exact Za _ _
 exact(List.perm_append_singleton (qD l 0) (KV l)).symm.trans (e ▸ c)
def qP{l:List rI}(h:nJ l)(d:0<cB l):nJ (yO l)/\(qD l 0::yO l).Perm l/\cB (yO l)=cB l-1:=by
 obtain⟨a,b,c⟩:=KH (cB (KV l)) 0 (KV l) (by omega) (Oa _) (aEu h d);exact⟨a,(b.cons _).trans (su d),c.trans (IZ l)⟩
def ce{l:List rI}(h:nJ l):∀(n i:Nat),i<=n->i<cB l->(qD l 0).t<=(qD l i).t
 |0,i,b,_=>by
  obtain rfl:i=0:=by omega
  exact Xd _
 |n+1,i,b,a=>by
  by_cases e:i=0
  .subst e;exact Xd _
  exact Int.le_trans (ce h n ((i-1) / 2) (by omega) (by omega)) (h i (by omega) a)
def aKl{l:List rI}(h:nJ l){x:rI}(b:x∈l):(qD l 0).t<=x.t:=by
 obtain⟨i,a,rfl⟩:=Ib b;have:=ce h i i (Ia _) a;rw[EI a]at this;exact this
def yH.take{w:jA}{g cap n:Nat}{hs:List rI}(h:yH w g cap hs)(m:n<=cB hs):yH w g cap (hs.take n):=by
 obtain⟨a,b,c,j,d,f⟩:=h;refine⟨a,b,c,by rw[Hb];omega,d,λk i=>?_⟩;rw[Hb]at i;have e:qD (hs.take n) k=qD hs k:=by simp[qD,List.getD,Jb (show k<n by omega)]
 rw[e];exact f k (by omega)
def NY(x o g n cap k:Nat)(a:List rI)(w:jA)(s:w.cell? (iB x o)=fA (uA (cC g) n cap))(m:n=cB a)(j:yH w g cap a)(Q:k<=1000000000):
 gF 342 #[xA (fA (iB x o)),dB k] w (dB (xE a k:Nat)):=by
 have f:fB (xE a k=if 2*k+2<cB a/\(qD a (2*k+2)).t<(qD a (2*k+1)).t then 2*k+2 else 2*k+1):=rfl;obtain⟨r,d⟩:∃r,r=2*k+2:=⟨_,rfl⟩
 obtain⟨q,c⟩:∃q,q=2*k+1:=⟨_,rfl⟩
 rw[<-d,<-c]at f;have S:2*(k:Int)+2=(r:Nat):=by omega
 have R:2*(k:Int)+1=(q:Nat):=by omega
 have O:r<=2000000002:=by omega
 have M:q<=2000000001:=by omega
 have E:=mC.cells s;have b:=mC.there w;clear d c;by_cases F:r<n
 .obtain ⟨v,z,_,_⟩:=j.cells (k:=r) (by omega);obtain⟨B,D,_,_⟩:=j.cells (k:=q) (by omega);have I:=mC.cells v;have J:=mC.cells z;have K:=mC.cells B;have L:=mC.cells D;have G:fB _:=m;clear v z B D s j m;generalize xE a k=u at *;generalize qD a r=A at *;generalize qD a q=C at *;have N:q<n:=by omega
  go_enter func342,ntmps342;go_wp2_with fail;refine bC (by kernel_rfl) (by kernel_rfl) ?_;repeat (go_big_quiet_step (fail))
  refine uU (by rfl) (λW=>qY _ _ _ _ _ _ rfl rfl rfl (sW _ _ W)) (by rintro _ ⟨x,rfl⟩;exact rC (BO _ _ _ _ _)) ?_;simp only[Act.put,Ud,Jd,Ze];repeat (go_big_quiet_step (fail))
  refine wpQuiet_nil ?_;rintro _ ⟨y,rfl⟩;have p:fB _:=y.h;clear E I J K L b;generalize y.w'=H at *;clear y;have i:fB (u=if decide (A.t<C.t)=iA then r else q):=by show _=_;rw[f.o];simp only[Ab,<-G.o,F,true_and]
  cases hd:decide (A.t<C.t)
  all_goals
   rw[hd]at i;go_wp2;go_ret;exact⟨vF (by rw[i.o];rfl),p.o⟩
 have i:fB (xE a k=q):=by show _=_;rw[f.o,Ja (λh=>F (by rw[m];exact h.1))]
 clear s j m f;generalize xE a k=u at *;go_enter func342,ntmps342;go_wp2_with fail;refine bC (by kernel_rfl) (by kernel_rfl) ?_;repeat (go_big_quiet_step (fail))
 refine wpQuiet_nil ?_;rintro _ ⟨y,rfl⟩;have p:fB _:=y.h;clear E b;generalize y.w'=H at *;clear y;go_wp2;go_ret;exact⟨vF (by rw[i.o]),p.o⟩
structure PI(w W:World)(x g cap q:Nat)(cx:Array Value)(tx:TypeId)(l:List rI)(TP:rI):Prop where
 X:rB W x cx tx
 M:yH W g cap l
 P:rB W w.1.size #[xA eA,dB 0] 342
 Q:rB W q #[.pointer (cC TP.b),dB TP.t] 342
 T:jB (λk=>k=x∨k=g) w W
section
variable {w W W':jA} {x g cap q:Nat} {cx:Array mA} {tx:TypeId} {l l':List rI} {TP:rI}
theorem PI.z(h:PI w W x g cap q cx tx l TP)(a:zB W W'):PI w W' x g cap q cx tx l TP:=⟨h.X.z a,h.M.z a,h.P.z a,h.Q.z a,h.T.trans' (jB.of a)⟩
theorem PI.but(h:PI w W x g cap q cx tx l TP)(c:yH W' g cap l')(a:uD g W W')(b:g≠x)(d:g<w.1.size)(f:g<q):PI w W' x g cap q cx tx l' TP:=⟨h.X.but a b.symm,c,h.P.but a (by omega),h.Q.but a (by omega),h.T.trans' ((jB.but a).mono λi _ e=>La e)⟩
end
def aGg(x o g cap:Nat)(f:List rI)(w:jA)(cx:Array mA)(tx:TypeId)(m:rB w x cx tx)(G:cx[o]?=fA (uA (cC g) (cB f) cap))(J:yH w g cap f)(q:g≠x)(t:0<cB f)(h:cB f<=1000000000):
 lA prog 316 #[xA (fA (iB x o))] w λe w'=>e=.returned (yA #[.pointer (cC ((qD f 0).b)),dB (qD f 0).t])/\rB w' x (cx.setIfInBounds o (uA (cC g) (cB f-1) cap)) tx/\yH w' g cap (yO f)/\jB (λk=>k=x\/k=g) w w':=by
 obtain⟨d,I⟩:∃d,d=cB f-1:=⟨_,rfl⟩
 have h:(cB f:Int)-1=(d:Nat):=by omega
 have h:d<cB f:=by omega
 have M:cB f=d+1:=by omega
 have M:cB f<=cap:=by obtain⟨N,_,_,M,_⟩:=J;exact M
 have M:d<=cap:=by omega
 have hgl:=J.lt;have Q:=eB m;have M:fB (yO f=tO ((gH f 0 d).take d) 0):=by show _=_;rw[I];rfl
 have U:fB (qD (gH f 0 d) d=qD f 0):=by show _=_;rw[xI t h,Ma rfl]
 have S:fB (∀W,zB w W->lA prog 304 #[xA (fA (iB x o)),dB 0,dB d] W λe w'=>e=.returned (bB #[])/\yH w' g cap (gH f 0 d)/\uD g W w'):=λW O=>by
  have:=QA x o g (cB f) cap 0 d f W (by rw[(m.z O).cell];exact G) rfl (J.z O) t h;simpa using this
 have c0:w.cell? (iB x o)=fA (uA (cC g) (cB f) cap):=by rw[m.cell];exact G
 have t:=(Vb.1 G).1;obtain⟨F,O⟩:∃c,c=cx.setIfInBounds o (uA (cC g) d cap):=⟨_,rfl⟩
 have Y:F[o]?=fA (uA (cC g) d cap):=by rw[O];simp[t]
 have HX:=gB m;have Z:fB _:=G;rw[<-I,<-O];have HCD:fB _:=O;have HFC:fB _:=fun(k:Nat)(l:List rI)(W:jA)(T:rB W x F tx)(X:yH W g cap l)(t:cB l=d)(hk:k<=1000000000)=>NY x o g d cap k l W (by rw[T.cell];exact Y) t.symm X hk;have P:fB _:=fun(i:Nat)(j:Nat)(l:List rI)(W:jA)(T:rB W x F tx)(X:yH W g cap l)(t:cB l=d)(hi:i<d)(hj:j<d)=>QA x o g d cap i j l W (by rw[T.cell];exact Y) t.symm X hi hj;generalize T:yO f=X at *;generalize htp:qD f 0=TP at *;clear m G J O I T htp;have m:fB (zB w (w.alloc (aB #[xA eA,dB 0] 342))):=aC;have P0:fB (rB (w.alloc (aB #[xA eA,dB 0] 342)) w.1.size #[xA eA,dB 0] 342):=rB.new _ _ _;have e0:=(m.o.cell Q).trans c0;go_enter func316,ntmps316;go_wp2_with fail;apply oC (S.o _ m.o);rintro n ⟨J,G⟩;have I:=gB J;have T:=G.size;have hsa:(w.alloc (aB #[xA eA,dB 0] 342)).1.size=w.1.size+1:=by simp
 have O:fB (rB n x cx tx):=(HX.o.z m.o).but G q.symm;have P1:fB (rB n w.1.size #[xA eA,dB 0] 342):=P0.o.but G (by omega);have T1:fB (jB (λk=>k=x\/k=g) w n):=(jB.of m.o).trans' ((jB.but G).mono λi _ e=>La e);have Q:w.1.size+1<=n.1.size:=by omega
 obtain⟨Q,a1,_,_⟩:=J.cells (k:=d) (by rw[sD];exact h);rw[U.o]at Q a1;have x0:n.cell? (iB x o)=fA (uA (cC g) (cB f) cap):=by rw[O.o.cell];exact Z.o
 clear J G S m P0 e0 c0 HX hsa T;obtain⟨h,J⟩:∃h,h=n.alloc (aB #[.pointer (cC TP.b),dB TP.t] 342):=⟨_,rfl⟩
 have m:zB n h:=by rw[J];exact aC
 have G:n.1.size<h.1.size:=by rw[J];simp
 have xa:=((O.o.z m).cell o).trans Z.o;have fa:=(O.o.z m).free o;have D:jB (·=x) h (h.setCell (iB x o) (uA (cC g) d cap)):=(jB.refl (·=x) _).setCell (Ca rfl) o _;have T:fB (PI w (h.setCell (iB x o) (uA (cC g) d cap)) x g cap n.1.size F tx ((gH f 0 d).take d) TP):=by
  obtain⟨N,h,m2⟩:=I.o.z m;exact⟨by rw[HCD.o];exact(O.o.z m).set o _,yH.take (hs:=gH f 0 d) ⟨N,D.blk h q,m2⟩ (by rw[sD];omega),D.blk (P1.o.z m) (by omega),D.blk (by rw[J];exact rB.new _ _ _) (by omega),(T1.o.trans' (jB.of m)).trans' (D.mono λi _ e=>Ca e)⟩
 have h:fB (cB ((gH f 0 d).take d)=d):=by show _=_;rw[Hb,sD];omega
 clear D I O P1 T1 Z U m;generalize (gH f 0 d).take d=m at *;rw[J]at xa fa G T;clear J;go_wp2;clear xa fa Q a1 x0 G;generalize ((n.alloc (aB #[.pointer (cC TP.b),dB TP.t] 342)).setCell (iB x o) (uA (cC g) d cap))=w2 at *;go_loopw [5] (λa wr=>∃(k:Nat)(l:List rI),a=dB k/\k<=d/\cB l=d/\fB (X=tO l k)/\fB (PI w wr x g cap n.1.size F tx l TP)) (λa _=>d-(intOf a).toNat)
 case atStart=>exact⟨0,m,rfl,Oa _,h.o,M.o,T.o⟩
 case round=>
  obtain⟨k,l,rfl,hk,t,B,I⟩:=hrel;have m:=gB t;have G:=iL l k;have K:fB (xE l k<cB l->(qD l (xE l k)).t<(qD l k).t->tO l k=tO (gH l k (xE l k)) (xE l k)):=λa b=>VB ⟨a,b⟩;have s:=gB (CX (l:=l) (k:=k));have R:=gB (HFC.o k l wr I.o.X I.o.M t (by omega));clear t;generalize h:xE l k=E at *;clear h;go_wp2_with fail;apply oC R.o;intro J h;have Z:=gB (I.o.z h);clear h R I;have t:J.cell? (iB x o)=fA (uA (cC g) d cap):=by rw[Z.o.X.cell];exact Y
  have I:=mC.cells t;have Y:=mC.there J;by_cases h:d<=E
  case' pos=>
   have L:fB (X=l):=by show _=_;rw[B.o];exact s.o (λh=>by have:=m.o;omega)
   have o:¬((E:Int)<d):=by omega
   clear K s P;go_wp2_with fail;refine bC (by kernel_rfl) (by kernel_rfl) ?_;repeat (go_big_quiet_step (fail))
   refine wpQuiet_nil ?_;rintro _ ⟨y,rfl⟩;have p:=gB (Z.o.z y.h);clear I Y t Z;generalize y.w'=V at *;clear y
  case' neg=>
   have H:E<d:=by omega
   have o:k<d:=by omega
   obtain⟨Q,a1,_,_⟩:=Z.o.M.cells (k:=E) (by rw[m.o];exact H);obtain⟨M,O,_,_⟩:=Z.o.M.cells (k:=k) (by rw[m.o];exact o);have T:=mC.cells Q;have U:=mC.cells a1;have d3:=mC.cells M;have d4:=mC.cells O;have u:=gB (λW J G=>P.o k E l W J G m.o o H);clear Q a1 M O t;generalize qD l E=A at *;generalize qD l k=C at *;go_wp2_with fail;refine bC (by kernel_rfl) (by kernel_rfl) ?_;repeat (go_big_quiet_step (fail))
   refine uU (by rfl) (λW=>qY _ _ _ _ _ _ rfl rfl rfl (sW _ _ W)) (by rintro _ ⟨x,rfl⟩;exact rC (BO _ _ _ _ _)) ?_;simp only[Act.put,Ud,Jd,Ze];repeat (go_big_quiet_step (fail))
   refine wpQuiet_nil ?_;rintro _ ⟨y,rfl⟩;have p:=gB (Z.o.z y.h);clear I T U d3 d4 Y Z;generalize y.w'=V at *;clear y;by_cases r:A.t<C.t
   .have o:decide (A.t<C.t)=iA:=by simpa using r
    rw[o];have L:fB (X=tO (gH l k E) E):=by show _=_;rw[B.o];exact K.o (by rw[m.o];exact H) r
    have t:k<E:=by omega
    clear K s B r o G;go_wp2_with fail;apply oC (u.o _ p.o.X p.o.M);rintro w4 ⟨t,I⟩;have M:=gB (p.o.but t I q hgl (by omega));clear t I u;go_wp2;exact⟨⟨E,gH l k E,rfl,by omega,by rw[sD];exact m.o,L.o,M.o⟩,by simp[intOf];omega⟩
   have o:decide (A.t<C.t)=gA:=by simpa using r
   rw[o];have L:fB (X=l):=by show _=_;rw[B.o];exact s.o (λh=>r h.2)
   clear K s B r o G u
  all_goals
   have h:V.cell? (iB w.1.size 0)=fA (xA eA):=p.o.P.cell 0;have m:V.cell? (iB w.1.size 1)=fA (dB 0):=p.o.P.cell 1;have o:=p.o.P.free 0;have o:=p.o.P.free 1;have o:V.cell? (iB n.1.size 0)=fA (.pointer (cC TP.b)):=p.o.Q.cell 0;have o:V.cell? (iB n.1.size 1)=fA (dB TP.t):=p.o.Q.cell 1;go_wp2;have z:jB (·=w.1.size) V ((V.setCell (iB w.1.size 0) (.pointer (cC TP.b))).setCell (iB w.1.size 1) (dB TP.t)):=((jB.refl (·=w.1.size) V).setCell (Ca rfl) 0 _).setCell (Ca rfl) 1 _;refine bodyPost_ret (v:=yA #[.pointer (cC TP.b),dB TP.t]) (by simp[results,results316,go_sem,h,m]) rfl ⟨rfl,z.blk p.o.X (by omega),?_,p.o.T.trans (z.mono λi _ e=>La (by omega))⟩;rw[L.o];obtain⟨N,J,G⟩:=p.o.M;exact⟨N,z.blk J (by omega),G⟩
