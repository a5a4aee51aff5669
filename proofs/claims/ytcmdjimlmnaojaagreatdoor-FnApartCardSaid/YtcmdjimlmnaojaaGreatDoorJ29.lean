import Derived.Test.YtcmdjimlmnaojaaGreatDoorJ28
set_option maxRecDepth 100000
set_option maxHeartbeats 16000000
set_option linter.defProp false
open Option renaming none->aA,some->cA
open Bool renaming false->dA,true->eA
open List renaming length->zA
namespace Go.Proofs.YtcmdjimlmnaojaaGreatDoor
open Go renaming World->fA,Value->jA,Calls->iA
open Value renaming slice->qA,string->pA,agg->uA,int->mA,pointer->tA,tuple->yA
open Obj renaming cells->xA
open IntKind renaming i64->oA
open Go.RowKit Tryz
def az{y:Array Oper}{b:List Oper}{o:Oper}{a:Act}{Q:Exit->Act->fA->Prop}{w:fA}(l:o.guard=aA)(s x:Operand)(E:o.op=.call { callee:=.builtin .append,args:=#[s,x],argTypes:=#[129,129] }){B k n j:Nat}{u:List jA}(G:a.eval s=qA (vB k) n j)(F:w.ownsRow B 134 2 (qA (vB k) n j) n u)
{i:nC}{m v:Nat}(f:List kB)(H:a.eval x=qA i m v)(D:zA f=m)(d:jS w i m (flatK f))(J:n+m<=4000000)(C:B<=w.1.size)
(h:∀g cap e,cB (e.ownsRow B 134 2 (qA (vB g) (n+m) cap) (n+m) (u++flatK f))->cB (Below B w e)->wpList prog y Q b (a.put o.dst (qA (vB g) (n+m) cap)) e):wpList prog y Q (o::b) a w:=by
 obtain⟨I,p,q,r,t⟩:=info_parts EY;exact DI _ l s x _ E B 134 I _ 2 24 underlying129 p q r t rfl (by omega) k n j u G F i m v (flatK f) H (by rw[iM,D]) d (tP _) (by simp[maxLen];omega) (by omega) C λg cap e z A _ _ _ _=>h g cap e z A
def aFq{l:Array Oper}{b:List Oper}{o:Oper}{a:Act}{Q:Exit->Act->fA->Prop}{w:fA}(i:o.guard=aA)(s x:Operand)(t:o.op=.call { callee:=.builtin .append,args:=#[s,x],argTypes:=#[129,129] })(u:a.eval s=qA (vB w.1.size) 0 0){j:nC}{m p:Nat}(f:List kB)(v:a.eval x=qA j m p)(r:zA f=m)(d:jS (w.alloc (xA #[] 134)) j m (flatK f))(y:m<=4000000)
(h:∀g cap e,cB (e.ownsRow w.1.size 134 2 (qA (vB g) m cap) m (flatK f))->cB (xB w e)->wpList prog l Q b (a.put o.dst (qA (vB g) m cap)) e):wpList prog l Q (o::b) a (w.alloc (xA #[] 134)):=by
 refine az i s x t (B:=w.1.size) u (fA.ownsRow_made w #[] 0 (Ia _) (by simp[maxLen]) (by simp)) f v r d (by omega) bC.size λg cap e k q=>?_;rw[Ya]at k |-
 exact h g cap e k (bC.trans q.o)
structure AB(wv W:World)(X M:Nat)(q1:nC)(e1:Nat)(q2:nC)(e2:Nat)(tn:gB):Prop where
 X:jB W X #[pA tn.N,aB tn.L,qA q1 (zA tn.M) e1,qA q2 (zA tn.Z) e2] 131
 P:lD W wv.1.size q1 tn.M
 R:W.ownsRow M 134 2 (qA q2 (zA tn.Z) e2) (zA tn.Z) (flatK tn.Z)
section
variable {w wv W W':fA} {X M e1 e2 n cap:Nat} {q1 q2 a:nC} {tn:gB} {c:lC} {now:Int} {key:pB}
theorem AB.z(h:AB wv W X M q1 e1 q2 e2 tn)(b:xB W W'):AB wv W' X M q1 e1 q2 e2 tn:=⟨h.X.z b,h.P.z b,hC h.R b⟩
theorem aFz{g k:Nat}(A:AB wv W X M q1 e1 (vB g) e2 tn)(P:AL w W c now a n cap)(v:∀g o,q1=cA (eB g o)->g<M)(u:g≠X)(y:w.1.size+1+1<M)(b:k<zA tn.Z)(d:tn.Z[k].s=key)(i:tC (·.s) tn.Z):
 jB (W.setCell (eB g (k*2+1)) (aB now)) X #[pA tn.N,aB tn.L,qA q1 (zA tn.M) e1,qA (vB g) (zA tn.Z) e2] 131/\mC (W.setCell (eB g (k*2+1)) (aB now)) q1 tn.M/\mC (W.setCell (eB g (k*2+1)) (aB now)) (vB g) (fC (·.s) ⟨key,now⟩ tn.Z)/\AL w (W.setCell (eB g (k*2+1)) (aB now)) c now a n cap/\zA (fC (·.s) (⟨key,now⟩:kB) tn.Z)=zA tn.Z/\W.frozen? (eB g (k*2+1))=dA:=by
 have t:=(A.R.lt g rfl).1;have m:fC (·.s) ⟨key,now⟩ tn.Z=tn.Z.set k ⟨tn.Z[k].s,now⟩:=by rw[aCy i b d,d]
 have p:zA (fC (·.s) (⟨key,now⟩:kB) tn.Z)=zA tn.Z:=by rw[m,Pd]
 have f:fB (·=g) W (W.setCell (eB g (k*2+1)) (aB now)):=(fB.refl (·=g) W).setCell (Ca rfl) _ _;refine⟨f.blk A.X u.symm,ig A.P f (λl o e _ x=>by have:=v l o e;omega),?_,P.turn f (by omega),p,?_⟩
 .have h:(W.setCell (eB g (k*2+1)) (aB now)).ownsRow M 134 2 (qA (vB g) (zA tn.Z) e2) (zA tn.Z) (flatK (fC (·.s) ⟨key,now⟩ tn.Z)):=by
   rw[m,wm _ _ b];exact aEw A.R
  rw[<-p]at h;exact(bE h).pairs
 .rcases A.R.2 with⟨e,_⟩|⟨l,j,r,e,_,q,_⟩
  .cases e
  simp only[jA.slice.injEq,Qa,Addr.mk.injEq,Cc]at e;rw[<-e.1]at q;exact jB.free q _
theorem qy{d:fA}{g m b:Nat}{l:List jA}{y:List kB}(A:AB wv d X M q1 e1 q2 e2 tn)(P:AL w d c now a n cap)(j:∀g o,q1=cA (eB g o)->tn.M≠[]->g≠X)(s:w.1.size+1+1<X)(h:xB d W)(k:W.ownsRow d.1.size 134 2 (qA (vB g) m b) m l)(v:flatK y=l)(t:zA y=m):
 jB (W.setCell (eB X 3) (qA (vB g) m b)) X #[pA tn.N,aB tn.L,qA q1 (zA tn.M) e1,qA (vB g) m b] 131/\mC (W.setCell (eB X 3) (qA (vB g) m b)) q1 tn.M/\mC (W.setCell (eB X 3) (qA (vB g) m b)) (vB g) y/\AL w (W.setCell (eB X 3) (qA (vB g) m b)) c now a n cap:=by
 subst v t;have f:fB (·=X) W (W.setCell (eB X 3) (qA (vB g) (zA y) b)):=(fB.refl (·=X) W).setCell (Ca rfl) 3 _;have x:=bB A.X;exact⟨by have:=(A.X.z h).set 3 (qA (vB g) (zA y) b);simpa using this,ig (A.P.z h) f (λr o e i p=>j r o e i p),(bE (f.row k (λq u e=>by have:=(k.lt q u).1;omega))).pairs,(P.z h).turn f s⟩
end
def SO(c:lC)(now:Int)(a:nC)(cap:Nat)(j:List gB)(h key:pB)(w:fA)(y:aD w a j)(k:zA j+eC j<=1900000)(Y:h.size<=1900000)(V:key.size<=1900000)(t:iC c now j=eA)(i:(uC h&&qK key)=dA):
 iA prog 102 #[uE c,uA #[aB now,qA a (zA j) cap],pA h,pA key] w λe N=>TD (now,j,5) w e N:=by
 obtain⟨d,b,f,g⟩:=gR k;have r:=dB (λW(u:xB w W)=>tH c now a cap j W (y.z u) b (by omega));have p:=dB (λW=>rG h W (by unfold maxLen;omega));have l:=dB (λW=>IM key W (by omega));have o:=dB (λW(u:xB w W)=>uS c now a cap j W (y.z u) t k);rw[t]at r;have x:uC h=dA\/uC h=eA/\qK key=dA:=by revert i;cases uC h<;>simp
 have P:=dB (AL.new (w:=w) (c:=c) (now:=now) (a:=a) (n:=zA j) (cap:=cap));clear y k d b f g t i;unfold TD;unfold uE at *;obtain J|⟨J,Q⟩:=x
 all_goals
  rw[J]at p;try rw[Q]at l
  go_enter func102,ntmps102;go_wp2_with(first
   |(go_at_call 44;apply jC (r.o _ P.o.B);intro wv i;replace P:=dB (P.o.z i);clear i r;obtain⟨z,A,C,D,E,F,G,H,-,-,-,-,q⟩:=P.o.cells)
   |(go_at_call 47;apply jC (p.o _);intro N h;subst h)
   |(go_at_call 105;apply jC (l.o _);intro Z i;replace P:=dB (P.o.z i);clear i z A C D E F G H q;obtain⟨z,A,C,D,E,F,G,H,-,-,-,-,q⟩:=P.o.cells)
   |(go_at_call 101;refine(o.o _ P.o.B).mono ?_;rintro e h ⟨K,L,rfl,I,i⟩;have s:=dB (P.o.z i);have m:=dB I;clear I i z A C D E F G H o;obtain⟨-,-,-,-,-,-,-,-,R,S,T,U,O⟩:=s.o.cells))
  refine bodyPost_ret (v:=?_) (by simp[results,results102,go_sem,R,S];rfl) rfl ?_;first
   |exact⟨K,⟨L,rfl⟩,s.o.done m.o q⟩
   |exact⟨K,L,rfl,s.o.done m.o q⟩
def ZO{c:lC}{now:Int}{a:nC}{cap:Nat}{f:List gB}{L key:pB}{w:fA}{tn:gB}{V:Int×List gB×Nat}(H:cB (SC w c now a cap f L tn))(hk:key.size<=1900000)(hky:qK key=eA)(HFK:cB (∀p∈tn.Z,p.s.size<=1900000))(HKA:cB (kD c.w now (fC (·.N) ⟨tn.N,tn.L,tn.M,fC (·.s) ⟨key,now⟩ tn.Z⟩ f)=fC (·.N) (sI tn key now) f))
(HFI:cB (WT ⟨tn.N,tn.L,tn.M,fC (·.s) ⟨key,now⟩ tn.Z⟩))
(HV:cB (V=if (xC (·.s) key tn.Z).isSome=eA then(now,fC (·.N) (sI tn key now) f,1) else if (pE c tn ⟨#[]⟩).2<=(pE c tn ⟨#[]⟩).1\/(xE tn=eA/\zA f=10000) then(now,f,3) else if (pE c tn (dE key)).2<=(pE c tn (dE key)).1 then(now,f,4) else(now,fC (·.N) (sI tn key now) f,2))):
 iA prog 102 #[uE c,uA #[mA oA now,qA a (zA f) cap],pA L,pA key] w λe w'=>TD V w e w':=by
 obtain⟨hml,hsl⟩:=H.o.len;obtain⟨hn0,hn1⟩:=H.o.now0;have HKY:=dB (λW=>IM key W (by omega));have HMT:cB (∀W,cF 169 #[pA key] W (pA (dE key))):=λW=>lZ key W (by omega);have HCT:=dB (λW m a1 a2 c1 c2(p1:mC W a1 tn.M)(p2:mC W a2 tn.Z)=>KJ c tn a1 a2 c1 c2 m W p1 p2 (λi h=>by have:=HFK.o _ (Gb h);omega) (by omega) (by omega));have HID:=dB (λW a1 a2 c1 c2=>CK tn a1 a2 c1 c2 W);have P:=dB (AL.new (w:=w) (c:=c) (now:=now) (a:=a) (n:=zA f) (cap:=cap));rw[hky]at HKY;unfold TD;unfold uE at *;go_enter func102,ntmps102;go_upto_region 5 with(first
  |(go_at_call 44;apply jC (H.o.ok _ P.o.B);intro wo o;replace P:=dB (P.o.z o);clear o)
  |(go_at_call 47;apply jC (H.o.nm _);intro w' hw;subst hw)
  |(go_at_call 105;apply jC (HKY.o _);intro wv o;replace P:=dB (P.o.z o);clear o))
 have N:=dB P.o.kin;obtain⟨vy0,vy1,vx0⟩:=P.o.kin wv gD;have hsv:=P.o.lt;clear HKY;go_cut [10] (λp wx=>∃X,p=tA (cA ⟨X,0,aA⟩)/\KXR wv X tn wx)
 case first=>
  go_region_held3 (λw'=>w'.cell? ⟨w.1.size+1,0,aA⟩=cA (mA oA now)/\w'.cell? ⟨w.1.size+1,1,aA⟩=cA (qA a (zA f) cap)/\w'.cell? ⟨w.1.size,0,aA⟩=cA (mA oA c.w))
   (first|go_keep|with_reducible exact N.o _ (ZM k4 (Ia _))|with_reducible exact N.o _ (ZM k4 k3.size)|with_reducible exact N.o _ k4|with_reducible exact N.o _ k3|with_reducible exact N.o _ (aC k3 bC)|with_reducible exact N.o _ (bC.drew)|with_reducible exact N.o _ (aC k4 bC))
   (first
    |(go_at_call 56;refine(H.o.te _ (by with_reducible exact P.o.B.drew)).mono ?_;rintro e w3 ⟨⟨a1,c1,a2,c2,rfl,p1,p2⟩,F⟩;have k3:xB wv w3:=(by with_reducible exact aC gD.drew F);have c3:=N.o _ k3)
    |(go_at_call 56;refine(H.o.te _ (by with_reducible exact(aC P.o.B bC).drew)).mono ?_;rintro e w3 ⟨⟨a1,c1,a2,c2,rfl,p1,p2⟩,F⟩;have k3:xB wv w3:=(by with_reducible exact aC (bC.drew) F);have c3:=N.o _ k3;have hX3:jB w3 wv.1.size #[pA ⟨#[]⟩,mA oA 0,qA aA 0 0,qA aA 0 0] 131:=TO F)
    |(have q:=hX3;clear q;go_at_call 112;refine(H.o.kp _ a1 a2 c1 c2 (by with_reducible exact p1) (by with_reducible exact p2)).mono ?_;rintro e w4 ⟨M,q1,e1,q2,e2,rfl,hM,u,h1M,Q,hM4,G⟩;have k4:xB wv w4:=(by with_reducible exact aC k3 G);have c4:=N.o _ k4;have C:=dB (hX3.z G);obtain⟨s0,s1,s2,s3⟩:=C.o.c4;have d:=C.o.free)
    |((fail_if_success (have q:=hX3));go_at_call 112;refine(H.o.kp _ a1 a2 c1 c2 (by with_reducible exact p1) (by with_reducible exact p2)).mono ?_;rintro e w4 ⟨M,q1,e1,q2,e2,rfl,hM,u,h1M,Q,hM4,G⟩;have k4:xB wv w4:=(by with_reducible exact aC k3 G);have c4:=N.o _ k4)
    |(go_at_call 112;refine(H.o.kp _ a1 a2 c1 c2 (by with_reducible exact p1.z bC) (by with_reducible exact p2.z bC)).mono ?_;rintro e w4 ⟨M,q1,e1,q2,e2,rfl,hM,u,h1M,Q,hM4,G⟩;have k4:xB wv w4:=(by with_reducible exact aC (aC k3 bC) G);have c4:=N.o _ k4;have C:cB (jB w4 w3.1.size #[pA ⟨#[]⟩,mA oA 0,qA aA 0 0,qA aA 0 0] 131):=dB ((jB.new w3 _ _).z G);obtain⟨s0,s1,s2,s3⟩:=C.o.c4;have d:=C.o.free))
  all_goals(go_wp2_with fail;go_meet)
  all_goals first
   |with_reducible exact⟨_,rfl,aHk k3.size u h1M Q hM k4⟩
   |exact⟨_,rfl,ru u h1M Q (by have:=bB hX3;omega) hM (Ia _) C.o k4⟩
   |exact⟨_,rfl,ru u h1M Q (by simp) hM k3.size C.o k4⟩
 obtain⟨X,rfl,M,q1,e1,q2,e2,hXb,hP1,hq1M,hRow,hRX,hqX,hXw,hMw,F⟩:=hcut;rename fA=>w3;replace P:=dB (P.o.z F);have A:cB (AB wv w3 X M q1 e1 q2 e2 tn):=⟨hXb,hP1,hRow⟩
 have HQ:=dB (⟨hq1M,hRX,hqX⟩:_/\_/\_);have hX3:=bB hXb;have hXP:w.1.size+1+1<X:=by omega
 clear N vy0 vy1 vx0 hXb hP1 hq1M hRow hRX hqX F;obtain⟨U,Y,Z,t⟩:=A.o.X.c4;go_wp2;go_loopw [11,44] (λ_ i wr=>∃k:Nat,k<=zA tn.Z/\i=mA oA k/\cB (∀j(h:j<k)(h':j<zA tn.Z),tn.Z[j].s≠key)/\w3=wr) (λ_ i _=>zA tn.Z-(intOf i).toNat)
 case atStart=>exact⟨0,Oa _,rfl,(λj h=>absurd h (by omega)),rfl⟩
 case round=>
  obtain⟨k,hkl,rfl,HN,hw⟩:=hrel;subst hw;by_cases hlt:k<zA tn.Z
  .obtain ⟨g,rfl⟩:=iz A.o.R (by omega);obtain⟨pb,po,ep,hpl,v0,v1⟩:=((bE A.o.R).pairs).at hlt;simp only[Qa,Addr.mk.injEq,Cc]at ep;obtain⟨rfl,rfl⟩:=ep;rw[Ya]at v0 v1;cases hsm:(tn.Z[k].s.toList==key.toList) with
   |true=>
    have HS:=dB (aFz A.o P.o HQ.o.1 (HQ.o.2.1 g rfl) (by omega) hlt ((gE _ _).1 hsm) H.o.rs);have E:cB (V=(now,fC (·.N) (sI tn key now) f,1)):=by
     show _=_;rw[HV.o,Ma];cases hgg:xC (·.s) key tn.Z with
     |some _=>rfl
     |none=>exact absurd ((gE _ _).1 hsm) (pW hgg _ (Gb hlt))
    have fz:=HS.o.2.2.2.2.2;obtain⟨-,-,-,-,-,-,z,K,-⟩:=P.o.cells;go_upto_region 11 with fail;clear v0 v1 fz U Y Z t z K;generalize w3.setCell ⟨g,k*2+1,aA⟩ (mA oA now)=w7 at *;obtain⟨X7,p1,p2,P7,hL,-⟩:=HS.o;have HWF:=dB (H.o.wi w7 tn.L tn.M (fC (·.s) ⟨key,now⟩ tn.Z) q1 (cA ⟨g,0,aA⟩) e1 e2 P7.B p1 p2 HFI.o);rw[HKA.o,hL]at HWF;replace P:=dB P7;obtain⟨U,Y,Z,t⟩:=X7.c4;obtain⟨x0,x1,x2,x3,x4,x5,z,K,-,-,-,-,S⟩:=P7.cells;clear X7 p1 p2 P7 HS;generalize fC (·.N) (sI tn key now) f=RL at *;go_wp2_with fail;refine HWF.o.mono ?_;rintro e w9 ⟨ra,rc,rfl,ho,o⟩;have D:=dB (P.o.z o);have r:=dB ho;clear ho o x0 x1 x2 x3 x4 x5 z K U Y Z t;obtain⟨-,-,-,-,-,-,-,-,z0,z1,g0,g1,hz9⟩:=D.o.cells;go_wp2;refine bodyPost_ret (v:=?_) (by simp[results,results102,go_sem,z0,z1];rfl) rfl ?_;rw[E.o];first
     |exact⟨ra,⟨rc,rfl⟩,D.o.done r.o S⟩
     |exact⟨ra,rc,rfl,D.o.done r.o S⟩
   |false=>
    have HN2:cB (∀j(h:j<k+1)(h':j<zA tn.Z),tn.Z[j].s≠key):=λj hj hj'=>by
     by_cases e:j=k
     .subst e;exact λe'=>absurd ((gE _ _).2 e') (by rw[hsm];simp)
     exact HN.o j (by omega) hj'
    generalize tn.Z[k].s=kk at *;go_wp2;exact⟨⟨k+1,by omega,by go_num,HN2.o,by first|rfl|trivial⟩,by simp[intOf];omega⟩
  have HNO:cB (xC (·.s) key tn.Z=aA):=qJ λp hp=>by
   obtain⟨j,hj,rfl⟩:=Ib hp;exact HN.o j (by omega) hj
  have HC1:=dB (HCT.o w3 ⟨#[]⟩ q1 q2 e1 e2 A.o.P.pairs (bE A.o.R).pairs);have HV2:cB (V=if (pE c tn ⟨#[]⟩).2<=(pE c tn ⟨#[]⟩).1\/(xE tn=eA/\zA f=10000) then(now,f,3) else if (pE c tn (dE key)).2<=(pE c tn (dE key)).1 then(now,f,4) else(now,fC (·.N) (sI tn key now) f,2)):=by show _=_;rw[HV.o,Ja (by rw[HNO.o];simp)]
  have hkn:¬((k:Int)<zA tn.Z):=by omega
  clear HV HN hlt hkl;obtain⟨x0,x1,x2,x3,x4,x5,z,K,-,-,-,-,S⟩:=P.o.cells;generalize pE c tn ⟨#[]⟩=CV at *;obtain⟨n1,l1⟩:=CV;go_upto_region 15 with(first
   |(go_at_call 114;apply jC HC1.o;intro w4 o;replace A:=dB (A.o.z o);replace P:=dB (P.o.z o);clear o x0 x1 x2 x3 x4 x5 z K U Y Z t S;obtain⟨U,Y,Z,t⟩:=A.o.X.c4;obtain⟨x0,x1,x2,x3,x4,x5,z,K,-,-,-,-,S⟩:=P.o.cells)
   |(go_at_call 103;apply jC (HID.o _ q1 q2 e1 e2);intro w5 o;replace A:=dB (A.o.z o);replace P:=dB (P.o.z o);clear o x0 x1 x2 x3 x4 x5 z K U Y Z t S;obtain⟨U,Y,Z,t⟩:=A.o.X.c4;obtain⟨x0,x1,x2,x3,x4,x5,z,K,-,-,-,-,S⟩:=P.o.cells))
  generalize xE tn=IB at *;go_cut [88] (λs wx=>s=.bool (decide (l1<=n1) ||(IB&&decide (zA f=10000)))/\w5=wx)
  case first=>
   have h3:l1<=n1/\(decide (l1<=n1) ||(IB&&decide (zA f=10000)))=eA\/¬l1<=n1/\(IB=dA/\(decide (l1<=n1) ||(IB&&decide (zA f=10000)))=dA\/IB=eA/\(((zA f:Int)==10000)=eA/\(decide (l1<=n1) ||(IB&&decide (zA f=10000)))=eA\/((zA f:Int)==10000)=dA/\(decide (l1<=n1) ||(IB&&decide (zA f=10000)))=dA)):=by
    by_cases u:l1<=n1
    .exact Ca ⟨u,by simp[u]⟩
    refine La ⟨u,?_⟩;cases IB
    .exact Ca ⟨rfl,by simp[u]⟩
    refine La ⟨rfl,?_⟩;by_cases Q:zA f=10000
    .exact Ca ⟨by simp[Q],by simp[Q]⟩
    exact La ⟨by simp;omega,by simp[u,Q]⟩
   obtain⟨u,HD⟩|⟨u,⟨rfl,HD⟩|⟨rfl,⟨Q,HD⟩|⟨Q,HD⟩⟩⟩:=h3
   all_goals
    have HD:=dB HD;go_wp2_with fail;go_meet;exact⟨by rw[HD.o],rfl⟩
  obtain⟨rfl,hw⟩:=hcut;subst hw;have O:cB (V=if (decide (l1<=n1) ||(IB&&decide (zA f=10000)))=eA then(now,f,3) else if (pE c tn (dE key)).2<=(pE c tn (dE key)).1 then(now,f,4) else(now,fC (·.N) (sI tn key now) f,2)):=by
   refine dB ?_;rw[HV2.o];simp only[Fe,Sa,Ab]
  clear HV2 HC1;cases hcb:(decide (l1<=n1) ||(IB&&decide (zA f=10000))) with
  |true=>
   rw[hcb,Ma rfl]at O;clear hcb;go_wp2_with(go_at_call 101;refine(H.o.sm _ P.o.B).mono ?_;rintro e w9 ⟨ra,rc,rfl,ho,o⟩;have D:=dB (P.o.z o);have r:=dB ho;clear ho o x0 x1 x2 x3 x4 x5 z K;obtain⟨-,-,-,-,-,-,-,-,z0,z1,g0,g1,hz9⟩:=D.o.cells);refine bodyPost_ret (v:=?_) (by simp[results,results102,go_sem,z0,z1];rfl) rfl ?_;rw[O.o];first
    |exact⟨ra,⟨rc,rfl⟩,D.o.done r.o S⟩
    |exact⟨ra,rc,rfl,D.o.done r.o S⟩
  |false=>
   rw[hcb,Ja (by simp)]at O;clear hcb x0 x1 x2 x3 x4 x5 z K U Y Z t S;have dx:=λx:kC w5=>(P.o.z x.h).cells;have dm:=λx:kC w5=>(A.o.z x.h).X.c4;simp only[forall_and]at dx dm;obtain⟨dx0,dx1,dx2,dx3,dx4,dx5,-⟩:=dx;obtain⟨dm0,dm1,dm2,dm3⟩:=dm;have HC2:=dB (λy:kC w5=>HCT.o y.w' (dE key) q1 q2 e1 e2 (A.o.P.pairs.z y.h) ((bE A.o.R).pairs.z y.h));have hnel:=kC.there w5;generalize pE c tn (dE key)=CV at *;obtain⟨n2,l2⟩:=CV;generalize hmk:dE key=mk at *;clear hmk HCT;go_wp2_with fail;refine zB (by kernel_rfl) (by kernel_rfl) ?_;repeat (go_big_quiet_step (first|(go_at_call 169;exact oC (HMT.o _))|(go_at_call 114;exact oC (HC2.o _))|fail))
   refine wpQuiet_nil ?_;rintro _ ⟨y,rfl⟩;replace P:=dB (P.o.z y.h);replace A:=dB (A.o.z y.h);clear dx0 dx1 dx2 dx3 dx4 dx5 dm0 dm1 dm2 dm3 hnel HC2 HMT;generalize y.w'=w6 at *;clear y;obtain⟨U,Y,Z,t⟩:=A.o.X.c4;obtain⟨x0,x1,x2,x3,x4,x5,z,K,-,-,-,-,S⟩:=P.o.cells;by_cases hme:l2<=n2
   .have E:cB (V=(now,f,4)):=by show _=_;rw[O.o,Ma hme]
    go_wp2_with(go_at_call 101;refine(H.o.sm _ P.o.B).mono ?_;rintro e w9 ⟨ra,rc,rfl,ho,o⟩;have D:=dB (P.o.z o);have r:=dB ho;clear ho o x0 x1 x2 x3 x4 x5 z K;obtain⟨-,-,-,-,-,-,-,-,z0,z1,g0,g1,hz9⟩:=D.o.cells);refine bodyPost_ret (v:=?_) (by simp[results,results102,go_sem,z0,z1];rfl) rfl ?_;rw[E.o];first
     |exact⟨ra,⟨rc,rfl⟩,D.o.done r.o S⟩
     |exact⟨ra,rc,rfl,D.o.done r.o S⟩
   have E:cB (V=(now,fC (·.N) (sI tn key now) f,2)):=by show _=_;rw[O.o,Ja hme]
   clear O x0 x1 x2 x3 x4 x5 K U Y Z HID;go_wp2;go_loopw [15] (λi wr=>∃j:Nat,j<=zA tn.Z/\i=mA oA j/\cB (∀i(h:i<zA tn.Z),i<j->bK tn.Z[i].s key=eA)/\w6=wr) (λi _=>zA tn.Z-(intOf i).toNat)
   case atStart=>exact⟨0,Oa _,rfl,(λi _ hi=>absurd hi (by omega)),rfl⟩
   case round=>
    obtain⟨j,hj,rfl,HJ,hw⟩:=hrel;subst hw;have hcs:(∃h:j<zA tn.Z,bK tn.Z[j].s key=eA)\/((¬(j:Int)<zA tn.Z/\j=zA tn.Z)\/∃h:j<zA tn.Z,Op.bytesLess tn.Z[j].s.toList key.toList=dA)/\fC (·.s) ⟨key,now⟩ tn.Z=tn.Z.take j++⟨key,now⟩:: tn.Z.drop j:=by
     by_cases J:j<zA tn.Z
     .cases I:bK tn.Z[j].s key
      .exact La ⟨La ⟨J,I⟩,UW hj (λi h hi=>HJ.o i h hi) (λ_=>I) HNO.o⟩
      exact Ca ⟨J,I⟩
     exact La ⟨Ca ⟨by omega,by omega⟩,UW hj (λi h hi=>HJ.o i h hi) (λh=>absurd h J) HNO.o⟩
    obtain⟨J,I⟩|⟨hx,hcut⟩:=hcs
    .obtain ⟨g,rfl⟩:=iz A.o.R (by omega);obtain⟨pb,po,ep,hpl,v0,-⟩:=((bE A.o.R).pairs).at J;simp only[Qa,Addr.mk.injEq,Cc]at ep;obtain⟨rfl,rfl⟩:=ep;rw[Ya]at v0;have hq2:Op.bytesLess tn.Z[j].s.toList key.toList=eA:=I;have HJ2:cB (∀i(h:i<zA tn.Z),i<j+1->bK tn.Z[i].s key=eA):=λi h hi=>by
      by_cases e:i=j
      .subst e;exact I
      exact HJ.o i h (by omega)
     clear I;generalize tn.Z[j].s=kk at *;go_wp2;exact⟨⟨j+1,by omega,by go_num,HJ2.o,by first|rfl|trivial⟩,by simp[intOf];omega⟩
    have HQ2:cB (flatK (fC (·.s) ⟨key,now⟩ tn.Z)=flatK (tn.Z.take j)++[pA key,mA oA now]++flatK (tn.Z.drop j)/\zA (fC (·.s) (⟨key,now⟩:kB) tn.Z)=j+1+(zA tn.Z-j)):=by
     refine dB ?_;rw[hcut];refine⟨?_,by simp;omega⟩;rw[show tn.Z.take j++(⟨key,now⟩:kB):: tn.Z.drop j=(tn.Z.take j++[(⟨key,now⟩:kB)])++tn.Z.drop j by simp,mW,mW];rfl
    have hl1:zA (tn.Z.take j)=j:=by simp;omega
    have hl2:zA (tn.Z.drop j)=zA tn.Z-j:=by simp
    clear hcut;have hc3:(q2=aA/\e2=0/\zA tn.Z=0/\j=0)\/∃g,q2=cA ⟨g,0,aA⟩/\((¬(j:Int)<zA tn.Z/\j=zA tn.Z)\/∃h:j<zA tn.Z,Op.bytesLess tn.Z[j].s.toList key.toList=dA):=by
     rcases aLz A.o.R with⟨u,Q,h3⟩|⟨g,u⟩;exact Ca ⟨u,Q,h3,by omega⟩;exact La ⟨g,u,hx⟩
    clear hx;obtain⟨rfl,rfl,T,rfl⟩|⟨g,rfl,hx⟩:=hc3
    rotate_left;have HSH:=dB (λW(hW:xB w6 W)=>aIu (hC A.o.R hW) hj);have hce:=aIl A.o.R;have hje:j<=e2:=by omega
    obtain⟨hjn,-⟩|⟨J,hq2⟩:=hx;rcases Decidable.em (e2=j) with he|he
    all_goals first
     |(have q:=T;rw[T]at t;go_upto_region 23 with fail;obtain⟨-,-,-,xa3⟩:=(A.o.X.alloc (xA #[] 134)).c4;rw[T]at xa3)
     |(have q:=hjn;go_upto_region 23 with fail;obtain⟨-,-,-,xa3⟩:=(A.o.X.alloc (xA #[] 134)).c4)
     |(obtain⟨pb,po,ep,hpl,v0,-⟩:=((bE A.o.R).pairs).at J;simp only[Qa,Addr.mk.injEq,Cc]at ep;obtain⟨rfl,rfl⟩:=ep;rw[Ya]at v0;generalize tn.Z[j].s=kk at *;go_upto_region 23 with fail;clear v0 hq2 hpl;obtain⟨-,-,-,xa3⟩:=(A.o.X.alloc (xA #[] 134)).c4)
    all_goals
     clear t;go_upto_region 24 with(at_builtin;refine aFq rfl _ _ rfl rfl _ rfl hl1 (by first|exact(HSH.o _ bC).1|exact Ca rfl) (by omega) ?_;intro g8 cap8 w8 O8 B8;clear z xa3;obtain⟨-,-,-,-,-,-,z,-⟩:=(P.o.z B8.o).cells)
     have hs8:=B8.o.size;go_upto_region 25 with(at_builtin;refine iQ rfl _ _ rfl underlying129 EY rfl (by omega) (by omega) rfl O8.o rfl rfl rfl (by simp[jA.oneCell']) (by omega) hs8 ?_;intro g10 cap10 w10 O10 T10;have B10:=dB (B8.o.trans (T10.o.below hs8 λi hi e=>by omega));clear z;obtain⟨-,-,-,t⟩:=(A.o.X.z B10.o).c4;try rw[T]at t)
     have hs10:=B10.o.size;go_upto_region 26 with(at_builtin;first
      |(refine az rfl _ _ rfl rfl O10.o (tn.Z.drop j) rfl hl2 (by first|exact(HSH.o _ B10.o).2|exact Ca (by omega)) (by omega) hs10 ?_;intro g12 cap12 w12 O12 B12;have l:=dB (B10.o.trans B12.o);have HA:=dB (qy A.o P.o HQ.o.2.2 hXP l.o O12.o HQ2.o.1 (by have:=HQ2.o.2;omega));clear t;obtain⟨U,Y,Z,t⟩:=(A.o.X.z l.o).c4;(try rw[T]at t);have b:=(A.o.X.z l.o).free 3)
      |(refine az rfl _ _ rfl rfl O10.o (tn.Z.drop 0) rfl (by rw[hl2];omega) (Ca rfl) (by omega) hs10 ?_;intro g12 cap12 w12 O12 B12;have l:=dB (B10.o.trans B12.o);have HA:=dB (qy A.o P.o HQ.o.2.2 hXP l.o O12.o HQ2.o.1 (by have:=HQ2.o.2;omega));clear t;obtain⟨U,Y,Z,t⟩:=(A.o.X.z l.o).c4;(try rw[T]at t);have b:=(A.o.X.z l.o).free 3))
     obtain⟨x0,x1,x2,x3,x4,x5,z,K,-,-,-,-,-⟩:=(P.o.z l.o).cells;go_wp2_with fail;refine(H.o.wn HKA.o rfl (by have:=HQ2.o.2;omega) HA.o.2.2.2.B HA.o.2.1 HA.o.2.2.1 HFI.o).mono ?_;rintro e w9 ⟨ra,rc,rfl,ho,o⟩;have D:=dB (HA.o.2.2.2.z o);have r:=dB ho;have HZ:=dB HA.o.2.2.2.lt;clear ho o x0 x1 x2 x3 x4 x5 z K U Y Z t b HA;obtain⟨-,-,-,-,-,-,-,-,z0,z1,g0,g1,hz9⟩:=D.o.cells;generalize fC (·.N) (sI tn key now) f=RL at *;go_wp2;refine bodyPost_ret (v:=?_) (by simp[results,results102,go_sem,z0,z1];rfl) rfl ?_;rw[E.o];first
      |exact⟨ra,⟨rc,rfl⟩,D.o.done r.o HZ.o⟩
      |exact⟨ra,rc,rfl,D.o.done r.o HZ.o⟩
def BF(c:lC)(now:Int)(a:nC)(cap:Nat)(d:List gB)(b key:pB)(w:fA)(t:aD w a d)(k:zA d+eC d<=1900000)(q:b.size<=1900000)(u:key.size<=1900000)(l:iC c now d=eA):
 iA prog 102 #[uE c,uA #[aB now,qA a (zA d) cap],pA b,pA key] w λe A=>TD (dI c now d b key) w e A:=by
 cases hb:(uC b&&qK key) with
 |false=>
  rw[show dI c now d b key=(now,d,5) by unfold dI;rw[Ja (by rw[l];simp),Ma hb]];exact SO c now a cap d b key w t k q u l hb
 |true=>
  have g:=hb;rw[Sa]at g;obtain⟨m,r,z,-,f⟩:=bG l;have o:1<=c.w:=by simp only[lG,Sa]at m;exact(nL m.1.1.1.1.1).1
  have S:=aJr (cap:=cap) t k q l g.1;refine ZO S u g.2 (JG (lW k) q).2.2.1 (ob f (gL f) o) ?_ (by show _=_;unfold dI;rw[Ja (by rw[l];simp),Ja (by rw[hb];simp)];rfl);have x:=EZ (key:=λp:kB=>p.s) (a:=⟨key,now⟩) (rB d b).Z;have B:=S.len;refine⟨S.fit.1,by show(fC (·.s) (⟨key,now⟩:kB) (rB d b).Z).length<=_;omega,λi h=>?_⟩;rcases uK (Gb h) with e|e;show 0<=((fC (·.s) (⟨key,now⟩:kB) (rB d b).Z)[i]'h).n/\_;rw[e];exact⟨r,by show now<=_;omega⟩;obtain ⟨j,y,v⟩:=Ib e;have:=S.fit.2.2 j y;rw[v]at this;exact this
def LV(c:lC)(k:Int)(a:nC)(l:Nat)(m:List gB)(i h:pB)(j:Int)(w:fA)(J:aD w a m)(s:zA m+eC m<=1900000)(o:i.size<=1900000)(o:h.size<=1900000)(G:iC c k m=eA)
(B:(uC i&&(h.toList.isEmpty||aF h) &&yB j (-1) 1000000)=dA):
 iA prog 53 #[uE c,uA #[aB k,qA a (zA m) l],pA i,pA h,aB j] w λe M=>oT (k,m,dA) w e M:=by
 obtain⟨d,b,f,g⟩:=gR s;have D:=dB (λW(H:xB w W)=>tH c k a l m W (J.z H) b (by omega));have r:=dB (λW=>rG i W (by unfold maxLen;omega));have q:=dB (λW=>qM h W (by omega));have p:=dB (λW=>uD j (-1) 1000000 W);have t:=dB (λW(H:xB w W)=>uS c k a l m W (J.z H) G s);rw[G]at D;clear J s d b f g G;unfold uE at *;have F:=dB (AL.new (w:=w) (c:=c) (now:=k) (a:=a) (n:=zA m) (cap:=l));go_enter func53,ntmps53;go_wp2_with fail;apply jC (D.o _ F.o.B);intro o o;have P:=dB (F.o.z o);clear o F D;obtain⟨N,O,Q,R,S,T,U,V,x,y,z,A,K⟩:=P.o.cells;have I:uC i=dA\/(uC i=eA/\h.toList.isEmpty=dA/\aF h=dA)\/(uC i=eA/\h.toList.isEmpty=eA/\yB j (-1) 1000000=dA)\/(uC i=eA/\h.toList.isEmpty=dA/\aF h=eA/\yB j (-1) 1000000=dA):=by
  revert B;cases uC i<;>cases h.toList.isEmpty<;>cases aF h<;>cases yB j (-1) 1000000<;>simp
 clear B;obtain C|⟨C,h,B⟩|⟨C,h,G⟩|⟨C,h,B,G⟩:=I
 all_goals
  rw[C]at r;try rw[B]at q
  try rw[G]at p
  go_wp2_with(first
   |(go_at_call 47;apply jC (r.o _);intro M h;subst h)
   |(go_at_call 86;apply jC (p.o _);intro M h;subst h)
   |(go_at_call 104;apply jC (q.o _);intro h o;replace P:=dB (P.o.z o);clear o N O Q R S T U V x y z A K;obtain⟨N,O,Q,R,S,T,U,V,x,y,z,A,K⟩:=P.o.cells))
  refine(t.o _ P.o.B).mono ?_;rintro e h ⟨L,u,rfl,Z,o⟩;have X:=dB (P.o.z o);have E:=dB Z;clear Z o N O Q R S T U V x y z A t r q p;obtain⟨_,_,_,_,_,_,_,_,x,y,z,A,h⟩:=X.o.cells;go_wp2;refine bodyPost_ret (v:=yA #[uA #[aB k,qA L (zA m) u],.bool dA]) (by simp[results,results53,go_sem,x,y]) rfl ?_;have Y:=X.o.done (v:=k) (rc:=u) E.o K;first
   |exact⟨L,⟨u,rfl⟩,Y⟩
   |exact⟨L,u,rfl,Y⟩
def aIg(t:kB)(b:Bool)(a:List kB)(c:tC (·.s) a):zA (ih t b a)<=zA a+1:=by
 cases b with
 |true=>
  rw[xT];have:zA (sE (·.s) t.s a)<=zA a:=Pc _ _;omega
 |false=>rw[ij c];exact EZ _
def aIh(t p:kB)(l:List kB)(b:Bool):b=eA/\(p.s.toList==t.s.toList)=eA/\zL t (l,b) p=(l,eA)\/b=eA/\(p.s.toList==t.s.toList)=dA/\zL t (l,b) p=(l++[p],eA)\/
 b=dA/\(p.s.toList==t.s.toList)=dA/\(t.s.toList==p.s.toList)=dA/\Op.bytesLess t.s.toList p.s.toList=dA/\zL t (l,b) p=(l++[p],dA)\/b=dA/\(p.s.toList==t.s.toList)=dA/\Op.bytesLess t.s.toList p.s.toList=eA/\zL t (l,b) p=(l++[t]++[p],eA)\/
 b=dA/\(p.s.toList==t.s.toList)=eA/\(t.s.toList==p.s.toList)=eA/\Op.bytesLess t.s.toList p.s.toList=dA/\zL t (l,b) p=(l++[t],eA):=by
 cases b with
 |true=>cases h:(p.s.toList==t.s.toList)<;>simp[zL,h]
 |false=>
  by_cases d:bK p.s t.s=eA
  .have a:=yD (mI d);exact La (La (Ca ⟨rfl,a,yD (mI d).symm,oZ d,by simp[zL,d,a]⟩))
  have c:bK p.s t.s=dA:=by simpa using d
  by_cases e:bK t.s p.s=eA
  .have a:=yD (mI e).symm;exact La (La (La (Ca ⟨rfl,a,e,by simp[zL,c,a]⟩)))
  have g:=Decidable.byContradiction λf=>e (aV c f);have a:=(gE _ _).2 g;exact La (La (La (La ⟨rfl,a,(gE _ _).2 g.symm,by simpa[bK]using e,by simp[zL,c,a]⟩)))
def tf{w g W:fA}{c:lC}{i:Int}{a:nC}{n h X:Nat}{t u B:jA}{A k b:nC}{s f d:Nat}{z m j:List kB}(x:zA j=d)(P:AL w g c i a n h)(r:jB g X #[t,u,B,qA k (zA m) s] 131)(v:w.1.size+1+1<X)(l:∀W,fB (·=X) g W->mC W A z/\mC W k m)(o:xB g W)(p:W.ownsRow g.1.size 184 2 (qA b d f) d (flatK j)):
 jB (W.setCell (eB X 2) (qA b d f)) X #[t,u,qA b d f,qA k (zA m) s] 131/\mC (W.setCell (eB X 2) (qA b d f)) b j/\mC (W.setCell (eB X 2) (qA b d f)) k m/\AL w (W.setCell (eB X 2) (qA b d f)) c i a n h:=by
 subst x;have m:fB (·=X) W (W.setCell (eB X 2) (qA b (zA j) f)):=(fB.refl (·=X) W).setCell (Ca rfl) 2 _;have C:=bB r;exact⟨by have:=(r.z o).set 2 (qA b (zA j) f);simpa using this,(bE (m.row p (λq y e=>by have:=(p.lt q y).1;omega))).pairs,(l _ ((fB.of o).trans' m)).2,(P.z o).turn m v⟩
def LS{c:lC}{l:Int}{a:nC}{A:Nat}{Z:List gB}{G h:pB}{j:Int}{w:fA}{m:gB}{V:Int×List gB×Bool}(H:cB (SC w c l a A Z G m))(o:h.size<=1900000)(B:h.toList.isEmpty=eA\/h.toList.isEmpty=dA/\aF h=eA)(J:yB j (-1) 1000000=eA)
(HV:cB (V=if 10000<zA (kD c.w l (fC (·.N) (pH m h j) Z)) then(l,Z,dA) else(l,kD c.w l (fC (·.N) (pH m h j) Z),eA))):
 iA prog 53 #[uE c,uA #[aB l,qA a (zA Z) A],pA G,pA h,aB j] w λe w'=>oT V w e w':=by
 have s:=dB (λW=>qM h W (by omega));have P:=dB (AL.new (w:=w) (c:=c) (now:=l) (a:=a) (n:=zA Z) (cap:=A));obtain⟨o,o⟩:=H.o.len;obtain⟨o,o⟩:=H.o.now0;unfold oT uE;go_enter func53,ntmps53;go_wp2_with fail;apply jC (H.o.ok _ P.o.B);intro I W;replace P:=dB (P.o.z W);clear W;go_upto_region 3 with fail;go_cut [39] (λb o=>b=.bool dA/\AL w o c l a (zA Z) A)
 case first=>
  obtain B|⟨B,Y⟩:=B
  all_goals
   go_wp2_with(first
    |(go_at_call 47;apply jC (H.o.nm _);intro w' B;subst B)
    |(go_at_call 86;apply jC (eE J _);intro w' B;subst B)
    |(go_at_call 104;apply jC (s.o _);intro B W;replace P:=dB (P.o.z W);clear W))
   go_meet;exact⟨by simp,P.o⟩
 clear P s;obtain⟨rfl,s⟩:=hcut;rename fA=>I;have P:=dB s;have J:=dB s.kin;obtain⟨vy0,vy1,vx0⟩:=s.kin I gD;have B:=s.lt;clear s;go_upto_region 5 with fail;go_cut [12] (λp o=>∃X,p=.pointer (vB X)/\KX I X m o)
 case first=>
  go_region_held3 (λw'=>w'.cell? (eB (w.1.size+1) 0)=cA (aB l)/\w'.cell? (eB (w.1.size+1) 1)=cA (qA a (zA Z) A)/\w'.cell? (eB w.1.size 0)=cA (aB c.w))
   (first|go_keep|with_reducible exact J.o _ (ZM R (Ia _))|with_reducible exact J.o _ (ZM R Y.size)|with_reducible exact J.o _ R|with_reducible exact J.o _ Y|with_reducible exact J.o _ (aC Y bC)|with_reducible exact J.o _ (bC.drew)|with_reducible exact J.o _ (aC R bC))
   (first
    |(go_at_call 56;refine(H.o.te _ (by with_reducible exact P.o.B.drew)).mono ?_;rintro e t ⟨⟨a1,c1,a2,c2,rfl,B,p2⟩,C⟩;have Y:xB I t:=(by with_reducible exact aC gD.drew C);have G:=J.o _ Y)
    |(go_at_call 56;refine(H.o.te _ (by with_reducible exact(aC P.o.B bC).drew)).mono ?_;rintro e t ⟨⟨a1,c1,a2,c2,rfl,B,p2⟩,C⟩;have Y:xB I t:=(by with_reducible exact aC (bC.drew) C);have G:=J.o _ Y;have T:jB t I.1.size #[pA ⟨#[]⟩,mA oA 0,qA aA 0 0,qA aA 0 0] 131:=TO C)
    |(have q:=T;clear q;go_at_call 112;refine(H.o.kp _ a1 a2 c1 c2 (by with_reducible exact B) (by with_reducible exact p2)).mono ?_;rintro e w4 ⟨M,q1,e1,q2,e2,rfl,hM,h1,O,G,hM4,D⟩;have R:xB I w4:=(by with_reducible exact aC Y D);have c4:=J.o _ R;have y:=dB (T.z D);obtain⟨s0,s1,s2,s3⟩:=y.o.c4;have f:=y.o.free)
    |((fail_if_success (have q:=T));go_at_call 112;refine(H.o.kp _ a1 a2 c1 c2 (by with_reducible exact B) (by with_reducible exact p2)).mono ?_;rintro e w4 ⟨M,q1,e1,q2,e2,rfl,hM,h1,O,G,hM4,D⟩;have R:xB I w4:=(by with_reducible exact aC Y D);have c4:=J.o _ R)
    |(go_at_call 112;refine(H.o.kp _ a1 a2 c1 c2 (by with_reducible exact B.z bC) (by with_reducible exact p2.z bC)).mono ?_;rintro e w4 ⟨M,q1,e1,q2,e2,rfl,hM,h1,O,G,hM4,D⟩;have R:xB I w4:=(by with_reducible exact aC (aC Y bC) D);have c4:=J.o _ R;have y:cB (jB w4 t.1.size #[pA ⟨#[]⟩,mA oA 0,qA aA 0 0,qA aA 0 0] 131):=dB ((jB.new t _ _).z D);obtain⟨s0,s1,s2,s3⟩:=y.o.c4;have f:=y.o.free))
  all_goals(go_wp2_with fail;go_meet)
  all_goals first
   |with_reducible exact⟨_,rfl,aLd h1 (bE G) R⟩
   |exact⟨_,rfl,aDf h1 (bE G) (by have:=bB T;omega) hM (Ia _) y.o R⟩
   |exact⟨_,rfl,aDf h1 (bE G) (by simp) hM Y.size y.o R⟩
 obtain⟨X,rfl,q1,e1,q2,e2,N,I,O,C⟩:=hcut;rename fA=>t;replace P:=dB (P.o.z C);have Q:=dB N;have K:=dB I;have T:=bB N;have Y:w.1.size+1+1<X:=by omega
 clear J vy0 vy1 vx0 N I C;obtain⟨-,-,g2,-⟩:=Q.o.c4;go_upto_if 52 with fail;go_cut [13,14] (λ_ _ o=>∃L J n1 B d1,List.length J=n1/\pH m h j=⟨m.N,L,J,m.Z⟩/\zA J<=1900001/\jB o X #[pA m.N,aB L,qA B n1 d1,qA q2 (zA m.Z) e2] 131/\mC o B J/\mC o q2 m.Z/\AL w o c l a (zA Z) A)
 case first=>
  cases hme:h.toList.isEmpty with
  |true=>
   have o:=dB hme;obtain⟨-,g1,-,-⟩:=Q.o.c4;have g:=Q.o.free;go_wp2;go_meet;have hT:fB (·=X) t (t.setCell (eB X 1) (aB j)):=(fB.refl (·=X) t).setCell (Ca rfl) 1 _;exact⟨j,m.M,_,q1,e1,rfl,by unfold pH;rw[Ma o.o],by omega,by have:=Q.o.set 1 (aB j);simpa using this,(K.o _ hT).1,(K.o _ hT).2,P.o.turn hT Y⟩
  |false=>
   have HLA:=dB (aDo (limit:=j) H.o.rm hme);have HLE:=dB (λb=>aIg ⟨h,j⟩ b _ H.o.rm);have o:cB ((t.alloc (xA #[] 184)).ownsRow t.1.size 184 2 (qA (vB t.1.size) 0 0) 0 []):=dB (fA.ownsRow_made t #[] 0 (Ia _) (by simp[maxLen]) (by simp));have O:=dB (zF t (xA #[] 184));obtain⟨-,-,g4,-⟩:=(Q.o.alloc (xA #[] 184)).c4;have HP1:=dB (K.o _ (fB.refl _ _)).1;go_upto_region 10 with fail;generalize (t.alloc (xA #[] 184))=w4 at *;generalize decide (j<0)=I at *;go_wp2;clear g4;go_loopw [13,14,16,61] (λal pl _ i wr=>∃(k:Nat)(va:nC)(vc:Nat)(r:List kB),k<=zA m.M/\i=aB k/\al=qA va (zA r) vc/\pl=.bool (mX ⟨h,j⟩ I (m.M.take k)).2/\zA r<=2*k/\cB (r=(mX ⟨h,j⟩ I (m.M.take k)).1)/\cB (wr.ownsRow t.1.size 184 2 (qA va (zA r) vc) (zA r) (flatK r))/\cB (xB t wr)) (λ_ _ _ i _=>zA m.M-(intOf i).toNat)
   case atStart=>exact⟨0,_,_,[],Oa _,rfl,rfl,rfl,Oa _,rfl,o.o,O.o⟩
   case round=>
    obtain⟨k,va,vc,r,o,rfl,rfl,rfl,hyl,S,HR,o⟩:=hrel;have O:=o.o.size;by_cases hlt:k<zA m.M
    .obtain ⟨pb,po,rfl,hpl,v0,v1⟩:=(HP1.o.z o.o).at hlt;have HU:=dB (pe ⟨h,j⟩ I m.M k hlt);generalize mX ⟨h,j⟩ I (m.M.take k)=U at *;generalize m.M[k]=p at *;obtain⟨LU,PU⟩:=U;have hy:r=LU:=S.o;subst hy;rcases aIh ⟨h,j⟩ p r PU with⟨rfl,hs,hU⟩|⟨rfl,hs,hU⟩|⟨rfl,hs,h1,G,hU⟩|⟨rfl,hs,G,hU⟩|⟨rfl,hs,h1,G,hU⟩
     all_goals
      have x:=dB (HU.o.trans hU);clear S HU hU;dsimp only at hs;try dsimp only at h1
      try dsimp only at G
      go_wp2_with(at_builtin;first
       |(refine iQ rfl _ _ rfl underlying128 uY rfl (by omega) (by omega) (v:=qA (cA ⟨g7,0,aA⟩) (zA r+1) F) rfl u.o rfl rfl rfl (by simp[jA.oneCell']) (by omega) (by omega) ?_;intro g8 G w8 HR8 HT8)
       |(refine iQ rfl _ _ rfl underlying128 uY rfl (by omega) (by omega) (v:=qA va (zA r) vc) rfl (hC HR.o bC) rfl (by simp) rfl (by simp[jA.oneCell']) (by omega) (by simp;omega) ?_;intro g7 F w7 u z;have hs7:t.1.size<=w7.1.size:=(by have:=z.o.size;simp at this;omega);obtain⟨r0,r1⟩:=(z.o.blk (jB.new wr #[pA p.s,mA oA p.n] 184) (λe=>by have:=(HR.o.lt _ e.2).2;omega)).c2))
      first
       |(have q:=HR8;exact⟨⟨k+1,cA ⟨g8,0,aA⟩,G,r++[⟨h,j⟩]++[p],by omega,by go_num,by simp,by rw[x.o],by simp;omega,dB (by rw[x.o]),dB (by simpa[flatK]using HR8.o),dB (o.o.trans ((bC.mono O).trans ((z.o.below (by simp;omega) λi hi e=>by omega).trans (HT8.o.below hs7 λi hi e=>by omega))))⟩,by simp[intOf];omega⟩)
       |(have q:=u;have q:(p.s.toList==h.toList)=dA:=hs;exact⟨⟨k+1,cA ⟨g7,0,aA⟩,F,r++[p],by omega,by go_num,by simp,by rw[x.o],by simp;omega,dB (by rw[x.o]),dB (by simpa[flatK]using u.o),dB (o.o.trans ((bC.mono O).trans (z.o.below (by simp;omega) λi hi e=>by omega)))⟩,by simp[intOf];omega⟩)
       |(have q:=u;exact⟨⟨k+1,cA ⟨g7,0,aA⟩,F,r++[⟨h,j⟩],by omega,by go_num,by simp,by rw[x.o],by simp;omega,dB (by rw[x.o]),dB (by simpa[flatK]using u.o),dB (o.o.trans ((bC.mono O).trans (z.o.below (by simp;omega) λi hi e=>by omega)))⟩,by simp[intOf];omega⟩)
       |exact⟨⟨k+1,va,vc,r,by omega,by go_num,rfl,by rw[x.o],by omega,dB (by rw[x.o]),hC HR.o bC,o.o.trans (bC.mono O)⟩,by simp[intOf];omega⟩
    have ek:m.M.take k=m.M:=Ra (by omega);rw[ek]at S |-
    have G:cB (ih ⟨h,j⟩ I m.M=(mX ⟨h,j⟩ I m.M).1++if (mX ⟨h,j⟩ I m.M).2=eA then [] else [(⟨h,j⟩:kB)]):=rfl;have hle:=HLE.o I;rw[G.o,Kb]at hle;generalize mX ⟨h,j⟩ I m.M=U at *;obtain⟨LU,PU⟩:=U;have hy:r=LU:=S.o;subst hy;have hyl2:zA r<=1900001:=by have:zA r<=zA m.M+1:=Ua (Nat.le_add_right _ _) hle;omega
    obtain⟨-,-,g2,-⟩:=(Q.o.z o.o).c4;have d:=(Q.o.z o.o).free;clear ek hyl S;cases PU
    all_goals
     go_wp2_with(at_builtin;refine iQ rfl _ _ rfl underlying128 uY rfl (by omega) (by omega) (v:=qA va (zA r) vc) rfl HR.o rfl rfl rfl (by simp[jA.oneCell']) (by omega) O ?_;intro g7 F w7 u z;have I:=dB (o.o.trans (z.o.below O λi hi e=>by omega));clear g2 d;obtain⟨-,-,g2,-⟩:=(Q.o.z I.o).c4;have d:=(Q.o.z I.o).free);go_meet;first
      |(have q:=u;exact⟨m.L,r++[⟨h,j⟩],_,_,_,by simp,by rw[HLA.o,G.o];simp,by simp at hle |-;omega,tf (by simp) P.o Q.o Y K.o I.o (by simpa[flatK]using u.o)⟩)
      |exact⟨m.L,r,_,_,_,rfl,by rw[HLA.o,G.o];simp,hyl2,tf rfl P.o Q.o Y K.o o.o HR.o⟩
 clear P Q K g2;obtain⟨L,J,n1,B,d1,rfl,hT,h,N,o,G,s⟩:=hcut;rename fA=>w7;have P:=dB s;have h:=dB (Vc o G);rw[hT]at HV;obtain⟨m0,m1,m2,m3⟩:=N.c4;obtain⟨x0,x1,x2,I,O,Y,y0,y1,-,-,-,-,hz⟩:=s.cells;clear o G N hT s;go_wp2_with fail;refine(H.o.wi _ L J m.Z B q2 d1 e2 P.o.B h.o.1 h.o.2 ⟨by show zA J<=_;omega,H.o.fit.2⟩).mono ?_;rintro e w8 ⟨o,rc,rfl,B,s⟩;clear m0 m1 m2 m3 x0 x1 x2 I O Y y0 y1 h;generalize kD c.w l (fC (·.N) ⟨m.N,L,J,m.Z⟩ Z)=h at *;obtain⟨x0,x1,x2,I,O,Y,y0,y1,G,J,g0,g1,m⟩:=(P.o.z s).cells;have m:=dB ((P.o.z s).z (zF w8 (xA #[aB l,qA o (zA h) rc] 40)));have HO8:=dB (B.z (zF w8 (xA #[aB l,qA o (zA h) rc] 40)));obtain⟨a0,a1⟩:=(jB.new w8 #[aB l,qA o (zA h) rc] 40).c2;clear B s x0 x1 x2 I O Y y0 y1 G J g0 g1;by_cases s:10000<zA h
 .have E:cB (V=(l,Z,dA)):=by show _=_;rw[HV.o,Ma s]
  have hgi:(10000:Int)<zA h:=by omega
  go_upto_region 24 with fail;generalize w8.alloc (xA #[aB l,qA o (zA h) rc] 40)=wA at *;obtain⟨x0,x1,x2,I,O,Y,y0,y1,-,-,-,-,-⟩:=m.o.cells;go_wp2_with(go_at_call 101;refine(H.o.sm _ m.o.B).mono ?_;rintro e B ⟨B,Z,rfl,ho,W⟩;have P9:=dB (m.o.z W);have HO9:=dB ho;clear ho W x0 x1 x2 I O Y y0 y1;obtain⟨-,-,-,-,-,-,-,-,G,J,g0,g1,I⟩:=P9.o.cells);refine bodyPost_ret (v:=?_) (by simp[results,results53,go_sem,G,J];rfl) rfl ?_;rw[E.o];first
   |exact⟨B,⟨Z,rfl⟩,P9.o.done HO9.o m.o.lt⟩
   |exact⟨B,Z,rfl,P9.o.done HO9.o m.o.lt⟩
 have E:cB (V=(l,h,eA)):=by show _=_;rw[HV.o,Ja s]
 have hgi:¬((10000:Int)<zA h):=by omega
 go_upto_region 25 with fail;generalize w8.alloc (xA #[aB l,qA o (zA h) rc] 40)=wA at *;obtain⟨-,-,-,-,-,-,-,-,G,J,g0,g1,I⟩:=m.o.cells;go_wp2;refine bodyPost_ret (v:=?_) (by simp[results,results53,go_sem,G,J];rfl) rfl ?_;rw[E.o];first
  |exact⟨o,⟨rc,rfl⟩,m.o.done HO8.o hz⟩
  |exact⟨o,rc,rfl,m.o.done HO8.o hz⟩
def qV(c:lC)(g:Int)(a:nC)(j:Nat)(h:List gB)(d b:pB)(f:Int)(w:fA)(n:aD w a h)(k:zA h+eC h<=1900000)(p:d.size<=1900000)(o:b.size<=1900000)(l:iC c g h=eA):
 iA prog 53 #[uE c,uA #[aB g,qA a (zA h) j],pA d,pA b,aB f] w λe q=>oT (zR c g h d b f) w e q:=by
 by_cases m:(uC d&&(b.toList.isEmpty||aF b) &&yB f (-1) 1000000)=dA
 .rw[show zR c g h d b f=(g,h,dA) by unfold zR;rw[Ja (by rw[l];simp),Ma m]];exact LV c g a j h d b f w n k p o l m
 have i:(uC d=eA/\(b.toList.isEmpty=eA\/aF b=eA))/\yB f (-1) 1000000=eA:=by simpa only[Bool.not_eq_false,Sa,Fe]using m
 refine LS (aJr n k p l i.1.1) o ?_ i.2 (by show _=_;unfold zR;rw[Ja (by rw[l];simp),Ja m]);cases he:b.toList.isEmpty
 .exact La ⟨rfl,i.1.2.resolve_left (by rw[he];simp)⟩
 exact Ca rfl
def aAj(X b:Nat):wrap64 (wrap64 ((X:Int)*256)+(b:Int))=fR (X*256+b):=by
 rw[RS];unfold wrap64;split<;>omega
def ZP(s:pB)(p n:Nat)(w:fA)(m:s.size<=maxLen)(h:p+n<=s.size)(u:n<=8):
 rI 165 #[pA s,aB p,aB n] w (aB (fR (vX (cR s p n)))):=by
 unfold maxLen at m;go_enter func165,ntmps165;go_wp2;go_loop [7,8] (λv i=>∃(k V:Nat)(Z:Int),k<=n/\i=aB k/\v=aB Z/\cB (Z=fR V)/\cB (V=vX (cR s p k))) (λ_ i=>n-(intOf i).toNat)
 case atStart=>exact⟨0,0,0,Oa _,rfl,rfl,by show _=_;rw[lJ (by omega)];rfl,rfl⟩
 case round=>
  obtain⟨k,V,Z,t,rfl,rfl,c,a⟩:=hrel;by_cases l:k<n
  .have f:V<72057594037927936:=by
    have d:=GX (cR s p k);rw[yR (by omega),<-a.o]at d;have q:256 ^ k<=256 ^ 7:=Sc (by omega) (by omega);omega
   obtain rfl:Z=(V:Int):=by rw[c.o,lJ (by omega)]
   have g:(0:Int)<=(p:Int)+(k:Int):=by omega
   have j:(p:Int)+(k:Int)<(s.size:Int):=by omega
   have b:p+k<s.size:=by omega
   have r:=s[p+k].toNat_lt;have h:=aAj V s[p+k].toNat;go_wp2;refine⟨⟨k+1,V*256+s[p+k].toNat,fR (V*256+s[p+k].toNat),by omega,by go_num,?_,rfl,by show _=_;rw[QS b,DU,a.o]⟩,by simp[intOf];omega⟩;exact Kd (jA.int .i64) h
  .go_wp2;go_ret;have e:k=n:=by omega
   subst e;exact⟨uF (by rw[c.o,a.o]),rfl⟩
def aEs{a b:Int}{c d:Int}(e:a=b)(f:c=d):Ending.returned (yA #[aB a,aB c])=.returned (yA #[aB b,aB d]):=by rw[e,f]
def fT{s:pB}{p n:Nat}{v:Int}(h:DO s p (tB n v))(f:n<=8)(d:fR (vX (tB n v).data.toList)=v)(j:s.size<=1000000)(w:fA):
 rI 94 #[pA s,aB (p:Nat),aB (n:Nat)] w (yA #[aB v,aB ((p+n:Nat):Int)]):=by
 have c:=h.le;have a:=h.sect;rw[nB]at c a;have b:=dB (λW=>ZP s p n W (by unfold maxLen;omega) c f);rw[a,d]at b;have i:¬((p:Int)+(n:Int) > (s.size:Int)):=by omega
 clear a d h;go_enter func94,ntmps94;go_wp2_with fail;refine rD (b.o _) ?_;go_wp2;go_ret2;exact⟨aEs rfl (by omega),rfl⟩
def bU{s t:pB}{p n:Nat}(h:DO s p (tB n (t.size:Nat)++t))(a:n<=2)(b:t.size<256 ^ n)(d:s.size<=1000000)(w:fA):
 rI 95 #[pA s,aB (p:Nat),aB (n:Nat)] w (yA #[pA t,aB ((p+n+t.size:Nat):Int)]):=oQ s p n t _ w (by omega) a (h.part b)
def ND{n v:Nat}(h:v<256 ^ n)(a:v<9223372036854775808):fR (vX (tB n (v:Nat)).data.toList)=v:=by rw[pT n v h,lJ a]
def vE(l:List qI)(k:Nat):Nat:=if 2*k+2<zA l/\(oD l (2*k+2)).t<(oD l (2*k+1)).t then 2*k+2 else 2*k+1
def oL(l:List qI)(k:Nat):vE l k=2*k+1\/vE l k=2*k+2:=by
 unfold vE;split;exact La rfl;exact Ca rfl
def DY{l:List qI}{k i:Nat}(a:0<i)(b:i<zA l)(c:(i-1) / 2=k):vE l k<zA l/\(oD l (vE l k)).t<=(oD l i).t:=by grind [vE,oD]
def aY(l:List qI)(k:Nat):Prop:=(∀i,0<i->i<zA l->(i-1) / 2≠k->(oD l ((i-1) / 2)).t<=(oD l i).t)/\∀i,0<i->i<zA l->(i-1) / 2=k->0<k->(oD l ((k-1) / 2)).t<=(oD l i).t
def aY.done{l:List qI}{k:Nat}(h:aY l k)(f:¬(vE l k<zA l/\(oD l (vE l k)).t<(oD l k).t)):uJ l:=by
 intro i a b;by_cases e:(i-1) / 2=k
 .obtain ⟨d,g⟩:=DY a b e;rw[e];have:¬(oD l (vE l k)).t<(oD l k).t:=λc=>f ⟨d,c⟩;omega
 exact h.1 i a b e
def aY.step{l:List qI}{k:Nat}(h:aY l k)(g:vE l k<zA l)(s:(oD l (vE l k)).t<(oD l k).t):aY (jH l k (vE l k)) (vE l k):=by
 have u:=oL l k;have b:∀i,0<i->i<zA l->(i-1) / 2=k->(oD l (vE l k)).t<=(oD l i).t:=λi r d e=>(DY r d e).2;generalize vE l k=c at *;have f:(c-1) / 2=k:=by omega
 have m:k<zA l:=by omega
 refine⟨λi a d n=>?_,λi a d o _=>?_⟩
 .rw[pD]at d;rw[cJ m g,cJ m g,Ja n];by_cases p:i=c
  .subst p;rw[Ma rfl,Ma f];omega
  rw[Ja p];by_cases j:(i-1) / 2=k
  .rw[Ma j,Ja (by omega:i≠k)];exact b i a d j
  rw[Ja j];by_cases q:i=k
  .subst q;rw[Ma rfl];exact h.2 c (by omega) g f a
  rw[Ja q];exact h.1 i a d j
 rw[pD]at d;rw[cJ m g,cJ m g,f,Ja (by omega:k≠c),Ma rfl,Ja (by omega:i≠c),Ja (by omega:i≠k)];have:=h.1 i a d (by omega);rw[o]at this;exact this
def qN:Nat->List qI->Nat->List qI
 |0,l,_=>l
 |n+1,l,k=>if vE l k<zA l/\(oD l (vE l k)).t<(oD l k).t then qN n (jH l k (vE l k)) (vE l k) else l
def FZ:∀(n m k:Nat)(l:List qI),zA l-k<=n->zA l-k<=m->qN n l k=qN m l k
 |0,0,_,_,_,_=>rfl
 |0,m+1,k,l,b,_=>by
  have:=oL l k;rw[qN,qN,Ja λh=>by omega]
 |n+1,0,k,l,_,a=>by
  have:=oL l k;rw[qN,qN,Ja λh=>by omega]
 |n+1,m+1,k,l,b,a=>by
  have c:=oL l k;rw[qN,qN];by_cases h:vE l k<zA l/\(oD l (vE l k)).t<(oD l k).t
  .rw[Ma h,Ma h];exact FZ n m _ _ (by rw[pD];omega) (by rw[pD];omega)
  rw[Ja h,Ja h]
def aP(l:List qI)(k:Nat):List qI:=qN (zA l-k) l k
def WE{l:List qI}{k:Nat}(h:vE l k<zA l/\(oD l (vE l k)).t<(oD l k).t):aP l k=aP (jH l k (vE l k)) (vE l k):=by
 have b:=oL l k;obtain⟨n,a⟩:∃n,zA l-k=n+1:=⟨zA l-k-1,by have:=h.1;omega⟩
 unfold aP;rw[a,qN,Ma h];exact FZ _ _ _ _ (by rw[pD];omega) (by rw[pD];omega)
def CZ{l:List qI}{k:Nat}(h:¬(vE l k<zA l/\(oD l (vE l k)).t<(oD l k).t)):aP l k=l:=by
 unfold aP;cases zA l-k with
 |zero=>rfl
 |succ n=>rw[qN,Ja h]
def KW:∀(n k:Nat)(l:List qI),zA l-k<=n->k<=zA l->aY l k->uJ (aP l k)/\(aP l k).Perm l/\zA (aP l k)=zA l
 |0,k,l,g,f,h=>by
  have e:¬(vE l k<zA l/\(oD l (vE l k)).t<(oD l k).t):=λd=>by
   have:=oL l k;have:=d.1;omega
  rw[CZ e];exact⟨h.done e,Lf _,rfl⟩
 |n+1,k,l,g,f,h=>by
  by_cases d:vE l k<zA l/\(oD l (vE l k)).t<(oD l k).t
  .have i:=oL l k;rw[WE d];obtain⟨a,b,c⟩:=KW n (vE l k) (jH l k (vE l k)) (by rw[pD];have:=d.1;omega) (by rw[pD];have:=d.1;omega) (h.step d.1 d.2);exact⟨a,b.trans (DE (by have:=d.1;omega) d.1),c.trans (pD _ _ _)⟩
  rw[CZ d];exact⟨h.done d,Lf _,rfl⟩
def LN(l:List qI):List qI:=(jH l 0 (zA l-1)).take (zA l-1)
def eP(l:List qI):List qI:=aP (LN l) 0
theorem JT(l:List qI):zA (LN l)=zA l-1:=by simp[LN,pD]
theorem aBy{l:List qI}(h:0<zA l){i:Nat}(a:i<zA l-1):oD (LN l) i=if i=0 then oD l (zA l-1) else oD l i:=by grind [oD,LN,jH,cJ]
def aGs{l:List qI}(h:uJ l)(a:0<zA l):aY (LN l) 0:=by grind [uJ,aY,LN,JT,aBy]
def vt{l:List qI}(h:0<zA l):(oD l 0::LN l).Perm l:=by
 have c:=DE (l:=l) (i:=0) (j:=zA l-1) h (by omega);have d:(jH l 0 (zA l-1)).length=zA l:=pD _ _ _;have a:(jH l 0 (zA l-1)).drop (zA l-1)=[oD l 0]:=by
  have b:zA l-1<(jH l 0 (zA l-1)).length:=by omega
  rw[Cb b,<-EU b,cJ h (by omega),Ma rfl,Ie (by omega)]
 have e:LN l++[oD l 0]=jH l 0 (zA l-1):=by rw[<-a];exact Za _ _
 exact(List.perm_append_singleton (oD l 0) (LN l)).symm.trans (e ▸ c)
def yP{l:List qI}(h:uJ l)(d:0<zA l):uJ (eP l)/\(oD l 0::eP l).Perm l/\zA (eP l)=zA l-1:=by
 obtain⟨a,b,c⟩:=KW (zA (LN l)) 0 (LN l) (by omega) (Oa _) (aGs h d);exact⟨a,(b.cons _).trans (vt d),c.trans (JT l)⟩
def eb{l:List qI}(h:uJ l):∀(n i:Nat),i<=n->i<zA l->(oD l 0).t<=(oD l i).t
 |0,i,b,_=>by
  obtain rfl:i=0:=by omega
  exact Xd _
 |n+1,i,b,a=>by
  by_cases e:i=0
  .subst e;exact Xd _
  exact Int.le_trans (eb h n ((i-1) / 2) (by omega) (by omega)) (h i (by omega) a)
def aMk{l:List qI}(h:uJ l){x:qI}(b:x∈l):(oD l 0).t<=x.t:=by
 obtain⟨i,a,rfl⟩:=Ib b;have:=eb h i i (Ia _) a;rw[EU a]at this;exact this
def zH.take{w:fA}{g cap n:Nat}{hs:List qI}(h:zH w g cap hs)(m:n<=zA hs):zH w g cap (hs.take n):=by
 obtain⟨a,b,c,j,d,f⟩:=h;refine⟨a,b,c,by rw[Hb];omega,d,λk i=>?_⟩;rw[Hb]at i;have e:oD (hs.take n) k=oD hs k:=by simp[oD,List.getD,Jb (show k<n by omega)]
 rw[e];exact f k (by omega)
def OP(x o g n cap k:Nat)(a:List qI)(w:fA)(s:w.cell? (eB x o)=cA (qA (vB g) n cap))(m:n=zA a)(j:zH w g cap a)(Q:k<=1000000000):
 cF 341 #[tA (cA (eB x o)),aB k] w (aB (vE a k:Nat)):=by
 have f:cB (vE a k=if 2*k+2<zA a/\(oD a (2*k+2)).t<(oD a (2*k+1)).t then 2*k+2 else 2*k+1):=rfl;obtain⟨r,d⟩:∃r,r=2*k+2:=⟨_,rfl⟩
 obtain⟨q,c⟩:∃q,q=2*k+1:=⟨_,rfl⟩
 rw[<-d,<-c]at f;have S:2*(k:Int)+2=(r:Nat):=by omega
 have R:2*(k:Int)+1=(q:Nat):=by omega
 have O:r<=2000000002:=by omega
 have M:q<=2000000001:=by omega
 have E:=kC.cells s;have b:=kC.there w;clear d c;by_cases F:r<n
 .obtain ⟨v,z,_,_⟩:=j.cells (k:=r) (by omega);obtain⟨B,D,_,_⟩:=j.cells (k:=q) (by omega);have I:=kC.cells v;have J:=kC.cells z;have K:=kC.cells B;have L:=kC.cells D;have G:cB _:=m;clear v z B D s j m;generalize vE a k=u at *;generalize oD a r=A at *;generalize oD a q=C at *;have N:q<n:=by omega
  go_enter func341,ntmps341;go_wp2_with fail;refine zB (by kernel_rfl) (by kernel_rfl) ?_;repeat (go_big_quiet_step (fail))
  refine wU (by rfl) (λW=>qY _ _ _ _ _ _ rfl rfl rfl (rW _ _ W)) (by rintro _ ⟨x,rfl⟩;exact oC (BO _ _ _ _ _)) ?_;simp only[Act.put,Ud,Jd,Ze];repeat (go_big_quiet_step (fail))
  refine wpQuiet_nil ?_;rintro _ ⟨y,rfl⟩;have p:cB _:=y.h;clear E I J K L b;generalize y.w'=H at *;clear y;have i:cB (u=if decide (A.t<C.t)=eA then r else q):=by show _=_;rw[f.o];simp only[Ab,<-G.o,F,true_and]
  cases hd:decide (A.t<C.t)
  all_goals
   rw[hd]at i;go_wp2;go_ret;exact⟨uF (by rw[i.o];rfl),p.o⟩
 have i:cB (vE a k=q):=by show _=_;rw[f.o,Ja (λh=>F (by rw[m];exact h.1))]
 clear s j m f;generalize vE a k=u at *;go_enter func341,ntmps341;go_wp2_with fail;refine zB (by kernel_rfl) (by kernel_rfl) ?_;repeat (go_big_quiet_step (fail))
 refine wpQuiet_nil ?_;rintro _ ⟨y,rfl⟩;have p:cB _:=y.h;clear E b;generalize y.w'=H at *;clear y;go_wp2;go_ret;exact⟨uF (by rw[i.o]),p.o⟩
structure PI(w W:World)(x g cap q:Nat)(cx:Array Value)(tx:TypeId)(l:List qI)(TP:qI):Prop where
 X:jB W x cx tx
 M:zH W g cap l
 P:jB W w.1.size #[tA aA,aB 0] 331
 Q:jB W q #[.pointer (vB TP.b),aB TP.t] 331
 T:fB (λk=>k=x∨k=g) w W
section
variable {w W W':fA} {x g cap q:Nat} {cx:Array jA} {tx:TypeId} {l l':List qI} {TP:qI}
theorem PI.z(h:PI w W x g cap q cx tx l TP)(a:xB W W'):PI w W' x g cap q cx tx l TP:=⟨h.X.z a,h.M.z a,h.P.z a,h.Q.z a,h.T.trans' (fB.of a)⟩
theorem PI.but(h:PI w W x g cap q cx tx l TP)(c:zH W' g cap l')(a:sD g W W')(b:g≠x)(d:g<w.1.size)(f:g<q):PI w W' x g cap q cx tx l' TP:=⟨h.X.but a b.symm,c,h.P.but a (by omega),h.Q.but a (by omega),h.T.trans' ((fB.but a).mono λi _ e=>La e)⟩
end
def aIi(x o g cap:Nat)(f:List qI)(w:fA)(cx:Array jA)(tx:TypeId)(m:jB w x cx tx)(G:cx[o]?=cA (qA (vB g) (zA f) cap))(J:zH w g cap f)(q:g≠x)(t:0<zA f)(h:zA f<=1000000000):
 iA prog 315 #[tA (cA (eB x o))] w λe w'=>e=.returned (uA #[.pointer (vB ((oD f 0).b)),aB (oD f 0).t])/\jB w' x (cx.setIfInBounds o (qA (vB g) (zA f-1) cap)) tx/\zH w' g cap (eP f)/\fB (λk=>k=x\/k=g) w w':=by
 obtain⟨d,I⟩:∃d,d=zA f-1:=⟨_,rfl⟩
 have h:(zA f:Int)-1=(d:Nat):=by omega
 have h:d<zA f:=by omega
 have M:zA f=d+1:=by omega
 have M:zA f<=cap:=by obtain⟨N,_,_,M,_⟩:=J;exact M
 have M:d<=cap:=by omega
 have hgl:=J.lt;have Q:=bB m;have M:cB (eP f=aP ((jH f 0 d).take d) 0):=by show _=_;rw[I];rfl
 have U:cB (oD (jH f 0 d) d=oD f 0):=by show _=_;rw[cJ t h,Ma rfl]
 have S:cB (∀W,xB w W->iA prog 293 #[tA (cA (eB x o)),aB 0,aB d] W λe w'=>e=.returned (yA #[])/\zH w' g cap (jH f 0 d)/\sD g W w'):=λW O=>by
  have:=RH x o g (zA f) cap 0 d f W (by rw[(m.z O).cell];exact G) rfl (J.z O) t h;simpa using this
 have c0:w.cell? (eB x o)=cA (qA (vB g) (zA f) cap):=by rw[m.cell];exact G
 have t:=(Vb.1 G).1;obtain⟨F,O⟩:∃c,c=cx.setIfInBounds o (qA (vB g) d cap):=⟨_,rfl⟩
 have Y:F[o]?=cA (qA (vB g) d cap):=by rw[O];simp[t]
 have HX:=dB m;have Z:cB _:=G;rw[<-I,<-O];have HCD:cB _:=O;have HFC:cB _:=fun(k:Nat)(l:List qI)(W:fA)(T:jB W x F tx)(X:zH W g cap l)(t:zA l=d)(hk:k<=1000000000)=>OP x o g d cap k l W (by rw[T.cell];exact Y) t.symm X hk;have P:cB _:=fun(i:Nat)(j:Nat)(l:List qI)(W:fA)(T:jB W x F tx)(X:zH W g cap l)(t:zA l=d)(hi:i<d)(hj:j<d)=>RH x o g d cap i j l W (by rw[T.cell];exact Y) t.symm X hi hj;generalize T:eP f=X at *;generalize htp:oD f 0=TP at *;clear m G J O I T htp;have m:cB (xB w (w.alloc (xA #[tA aA,aB 0] 331))):=bC;have P0:cB (jB (w.alloc (xA #[tA aA,aB 0] 331)) w.1.size #[tA aA,aB 0] 331):=jB.new _ _ _;have e0:=(m.o.cell Q).trans c0;go_enter func315,ntmps315;go_wp2_with fail;apply jC (S.o _ m.o);rintro n ⟨J,G⟩;have I:=dB J;have T:=G.size;have hsa:(w.alloc (xA #[tA aA,aB 0] 331)).1.size=w.1.size+1:=by simp
 have O:cB (jB n x cx tx):=(HX.o.z m.o).but G q.symm;have P1:cB (jB n w.1.size #[tA aA,aB 0] 331):=P0.o.but G (by omega);have T1:cB (fB (λk=>k=x\/k=g) w n):=(fB.of m.o).trans' ((fB.but G).mono λi _ e=>La e);have Q:w.1.size+1<=n.1.size:=by omega
 obtain⟨Q,a1,_,_⟩:=J.cells (k:=d) (by rw[pD];exact h);rw[U.o]at Q a1;have x0:n.cell? (eB x o)=cA (qA (vB g) (zA f) cap):=by rw[O.o.cell];exact Z.o
 clear J G S m P0 e0 c0 HX hsa T;obtain⟨h,J⟩:∃h,h=n.alloc (xA #[.pointer (vB TP.b),aB TP.t] 331):=⟨_,rfl⟩
 have m:xB n h:=by rw[J];exact bC
 have G:n.1.size<h.1.size:=by rw[J];simp
 have xa:=((O.o.z m).cell o).trans Z.o;have fa:=(O.o.z m).free o;have D:fB (·=x) h (h.setCell (eB x o) (qA (vB g) d cap)):=(fB.refl (·=x) _).setCell (Ca rfl) o _;have T:cB (PI w (h.setCell (eB x o) (qA (vB g) d cap)) x g cap n.1.size F tx ((jH f 0 d).take d) TP):=by
  obtain⟨N,h,m2⟩:=I.o.z m;exact⟨by rw[HCD.o];exact(O.o.z m).set o _,zH.take (hs:=jH f 0 d) ⟨N,D.blk h q,m2⟩ (by rw[pD];omega),D.blk (P1.o.z m) (by omega),D.blk (by rw[J];exact jB.new _ _ _) (by omega),(T1.o.trans' (fB.of m)).trans' (D.mono λi _ e=>Ca e)⟩
 have h:cB (zA ((jH f 0 d).take d)=d):=by show _=_;rw[Hb,pD];omega
 clear D I O P1 T1 Z U m;generalize (jH f 0 d).take d=m at *;rw[J]at xa fa G T;clear J;go_wp2;clear xa fa Q a1 x0 G;generalize ((n.alloc (xA #[.pointer (vB TP.b),aB TP.t] 331)).setCell (eB x o) (qA (vB g) d cap))=w2 at *;go_loopw [5] (λa wr=>∃(k:Nat)(l:List qI),a=aB k/\k<=d/\zA l=d/\cB (X=aP l k)/\cB (PI w wr x g cap n.1.size F tx l TP)) (λa _=>d-(intOf a).toNat)
 case atStart=>exact⟨0,m,rfl,Oa _,h.o,M.o,T.o⟩
 case round=>
  obtain⟨k,l,rfl,hk,t,B,I⟩:=hrel;have m:=dB t;have G:=oL l k;have K:cB (vE l k<zA l->(oD l (vE l k)).t<(oD l k).t->aP l k=aP (jH l k (vE l k)) (vE l k)):=λa b=>WE ⟨a,b⟩;have s:=dB (CZ (l:=l) (k:=k));have R:=dB (HFC.o k l wr I.o.X I.o.M t (by omega));clear t;generalize h:vE l k=E at *;clear h;go_wp2_with fail;apply jC R.o;intro J h;have Z:=dB (I.o.z h);clear h R I;have t:J.cell? (eB x o)=cA (qA (vB g) d cap):=by rw[Z.o.X.cell];exact Y
  have I:=kC.cells t;have Y:=kC.there J;by_cases h:d<=E
  case' pos=>
   have L:cB (X=l):=by show _=_;rw[B.o];exact s.o (λh=>by have:=m.o;omega)
   have o:¬((E:Int)<d):=by omega
   clear K s P;go_wp2_with fail;refine zB (by kernel_rfl) (by kernel_rfl) ?_;repeat (go_big_quiet_step (fail))
   refine wpQuiet_nil ?_;rintro _ ⟨y,rfl⟩;have p:=dB (Z.o.z y.h);clear I Y t Z;generalize y.w'=V at *;clear y
  case' neg=>
   have H:E<d:=by omega
   have o:k<d:=by omega
   obtain⟨Q,a1,_,_⟩:=Z.o.M.cells (k:=E) (by rw[m.o];exact H);obtain⟨M,O,_,_⟩:=Z.o.M.cells (k:=k) (by rw[m.o];exact o);have T:=kC.cells Q;have d2:=kC.cells a1;have d3:=kC.cells M;have d4:=kC.cells O;have u:=dB (λW J G=>P.o k E l W J G m.o o H);clear Q a1 M O t;generalize oD l E=A at *;generalize oD l k=C at *;go_wp2_with fail;refine zB (by kernel_rfl) (by kernel_rfl) ?_;repeat (go_big_quiet_step (fail))
   refine wU (by rfl) (λW=>qY _ _ _ _ _ _ rfl rfl rfl (rW _ _ W)) (by rintro _ ⟨x,rfl⟩;exact oC (BO _ _ _ _ _)) ?_;simp only[Act.put,Ud,Jd,Ze];repeat (go_big_quiet_step (fail))
   refine wpQuiet_nil ?_;rintro _ ⟨y,rfl⟩;have p:=dB (Z.o.z y.h);clear I T d2 d3 d4 Y Z;generalize y.w'=V at *;clear y;by_cases r:A.t<C.t
   .have o:decide (A.t<C.t)=eA:=by simpa using r
    rw[o];have L:cB (X=aP (jH l k E) E):=by show _=_;rw[B.o];exact K.o (by rw[m.o];exact H) r
    have t:k<E:=by omega
    clear K s B r o G;go_wp2_with fail;apply jC (u.o _ p.o.X p.o.M);rintro w4 ⟨t,I⟩;have M:=dB (p.o.but t I q hgl (by omega));clear t I u;go_wp2;exact⟨⟨E,jH l k E,rfl,by omega,by rw[pD];exact m.o,L.o,M.o⟩,by simp[intOf];omega⟩
   have o:decide (A.t<C.t)=dA:=by simpa using r
   rw[o];have L:cB (X=l):=by show _=_;rw[B.o];exact s.o (λh=>r h.2)
   clear K s B r o G u
  all_goals
   have h:V.cell? (eB w.1.size 0)=cA (tA aA):=p.o.P.cell 0;have m:V.cell? (eB w.1.size 1)=cA (aB 0):=p.o.P.cell 1;have o:=p.o.P.free 0;have o:=p.o.P.free 1;have o:V.cell? (eB n.1.size 0)=cA (.pointer (vB TP.b)):=p.o.Q.cell 0;have o:V.cell? (eB n.1.size 1)=cA (aB TP.t):=p.o.Q.cell 1;go_wp2;have z:fB (·=w.1.size) V ((V.setCell (eB w.1.size 0) (.pointer (vB TP.b))).setCell (eB w.1.size 1) (aB TP.t)):=((fB.refl (·=w.1.size) V).setCell (Ca rfl) 0 _).setCell (Ca rfl) 1 _;refine bodyPost_ret (v:=uA #[.pointer (vB TP.b),aB TP.t]) (by simp[results,results315,go_sem,h,m]) rfl ⟨rfl,z.blk p.o.X (by omega),?_,p.o.T.trans (z.mono λi _ e=>La (by omega))⟩;rw[L.o];obtain⟨N,J,G⟩:=p.o.M;exact⟨N,z.blk J (by omega),G⟩
