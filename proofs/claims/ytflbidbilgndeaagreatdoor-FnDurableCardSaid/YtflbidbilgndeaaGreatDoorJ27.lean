import Derived.Test.YtflbidbilgndeaaGreatDoorJ26
set_option maxRecDepth 100000
set_option maxHeartbeats 16000000
set_option linter.defProp false
open Option renaming none->aA,some->bA
open Bool renaming false->cA,true->dA
open List renaming length->yA
namespace Go.Proofs.YtflbidbilgndeaaGreatDoor
open Go renaming World->eA,Value->iA,Calls->gA
open Value renaming slice->pA,string->oA,agg->tA,int->lA,pointer->sA,tuple->xA
open Obj renaming cells->vA
open IntKind renaming i64->mA
open Go.RowKit Tryz
def eh{y:Array Oper}{b:List Oper}{o:Oper}{a:Act}{Q:Exit->Act->eA->Prop}{w:eA}(l:o.guard=aA)(s x:Operand)(E:o.op=.call { callee:=.builtin .append,args:=#[s,x],argTypes:=#[92,92] }){B k n j:Nat}{u:List iA}(G:a.eval s=pA (yB k) n j)(F:w.ownsRow B 98 2 (pA (yB k) n j) n u)
{i:mC}{m v:Nat}(f:List kB)(H:a.eval x=pA i m v)(D:yA f=m)(d:eT w i m (flatK f))(J:n+m<=4000000)(C:B<=w.1.size)
(h:∀g cap e,cB (e.ownsRow B 98 2 (pA (yB g) (n+m) cap) (n+m) (u++flatK f))->cB (Below B w e)->wpList prog y Q b (a.put o.dst (pA (yB g) (n+m) cap)) e):wpList prog y Q (o::b) a w:=by
 obtain⟨I,p,q,r,t⟩:=info_parts uT;exact FH _ l s x _ E B 98 I _ 2 24 underlying92 p q r t rfl (by omega) k n j u G F i m v (flatK f) H (by rw[tM,D]) d (cQ _) (by simp[maxLen];omega) (by omega) C λg cap e z A _ _ _ _=>h g cap e z A
def aHq{l:Array Oper}{b:List Oper}{o:Oper}{a:Act}{Q:Exit->Act->eA->Prop}{w:eA}(i:o.guard=aA)(s x:Operand)(t:o.op=.call { callee:=.builtin .append,args:=#[s,x],argTypes:=#[92,92] })(u:a.eval s=pA (yB w.1.size) 0 0){j:mC}{m p:Nat}(f:List kB)(v:a.eval x=pA j m p)(r:yA f=m)(d:eT (w.alloc (vA #[] 98)) j m (flatK f))(y:m<=4000000)
(h:∀g cap e,cB (e.ownsRow w.1.size 98 2 (pA (yB g) m cap) m (flatK f))->cB (uB w e)->wpList prog l Q b (a.put o.dst (pA (yB g) m cap)) e):wpList prog l Q (o::b) a (w.alloc (vA #[] 98)):=by
 refine eh i s x t (B:=w.1.size) u (eA.ownsRow_made w #[] 0 (Ia _) (by simp[maxLen]) (by simp)) f v r d (by omega) zB.size λg cap e k q=>?_;rw[Ya]at k |-
 exact h g cap e k (zB.trans q.o)
structure AB(wv W:World)(X M:Nat)(q1:mC)(e1:Nat)(q2:mC)(e2:Nat)(tn:fB):Prop where
 X:nB W X #[oA tn.N,zA tn.L,pA q1 (yA tn.M) e1,pA q2 (yA tn.Z) e2] 94
 P:fD W wv.1.size q1 tn.M
 R:W.ownsRow M 98 2 (pA q2 (yA tn.Z) e2) (yA tn.Z) (flatK tn.Z)
section
variable {w wv W W':eA} {X M e1 e2 n cap:Nat} {q1 q2 a:mC} {tn:fB} {c:iC} {now:Int} {key:jB}
theorem AB.z(h:AB wv W X M q1 e1 q2 e2 tn)(b:uB W W'):AB wv W' X M q1 e1 q2 e2 tn:=⟨h.X.z b,h.P.z b,hC h.R b⟩
theorem aIb{g k:Nat}(A:AB wv W X M q1 e1 (yB g) e2 tn)(P:CJ w W c now a n cap)(v:∀g o,q1=bA (dB g o)->g<M)(u:g≠X)(y:w.1.size+1+1<M)(b:k<yA tn.Z)(d:tn.Z[k].s=key)(i:zC (·.s) tn.Z):
 nB (W.setCell (dB g (k*2+1)) (zA now)) X #[oA tn.N,zA tn.L,pA q1 (yA tn.M) e1,pA (yB g) (yA tn.Z) e2] 94/\jC (W.setCell (dB g (k*2+1)) (zA now)) q1 tn.M/\jC (W.setCell (dB g (k*2+1)) (zA now)) (yB g) (fC (·.s) ⟨key,now⟩ tn.Z)/\CJ w (W.setCell (dB g (k*2+1)) (zA now)) c now a n cap/\yA (fC (·.s) (⟨key,now⟩:kB) tn.Z)=yA tn.Z/\W.frozen? (dB g (k*2+1))=cA:=by
 have t:=(A.R.lt g rfl).1;have m:fC (·.s) ⟨key,now⟩ tn.Z=tn.Z.set k ⟨tn.Z[k].s,now⟩:=by rw[aFg i b d,d]
 have p:yA (fC (·.s) (⟨key,now⟩:kB) tn.Z)=yA tn.Z:=by rw[m,Pd]
 have f:eB (·=g) W (W.setCell (dB g (k*2+1)) (zA now)):=(eB.refl (·=g) W).setCell (Ca rfl) _ _;refine⟨f.blk A.X u.symm,kq A.P f (λl o e _ x=>by have:=v l o e;omega),?_,P.turn f (by omega),p,?_⟩
 .have h:(W.setCell (dB g (k*2+1)) (zA now)).ownsRow M 98 2 (pA (yB g) (yA tn.Z) e2) (yA tn.Z) (flatK (fC (·.s) ⟨key,now⟩ tn.Z)):=by
   rw[m,zv _ _ b];exact aGz A.R
  rw[<-p]at h;exact(oD h).pairs
 .rcases A.R.2 with⟨e,_⟩|⟨l,j,r,e,_,q,_⟩
  .cases e
  simp only[iA.slice.injEq,Qa,Addr.mk.injEq,Cc]at e;rw[<-e.1]at q;exact nB.free q _
theorem uu{d:eA}{g m b:Nat}{l:List iA}{y:List kB}(A:AB wv d X M q1 e1 q2 e2 tn)(P:CJ w d c now a n cap)(j:∀g o,q1=bA (dB g o)->tn.M≠[]->g≠X)(s:w.1.size+1+1<X)(h:uB d W)(k:W.ownsRow d.1.size 98 2 (pA (yB g) m b) m l)(v:flatK y=l)(t:yA y=m):
 nB (W.setCell (dB X 3) (pA (yB g) m b)) X #[oA tn.N,zA tn.L,pA q1 (yA tn.M) e1,pA (yB g) m b] 94/\jC (W.setCell (dB X 3) (pA (yB g) m b)) q1 tn.M/\jC (W.setCell (dB X 3) (pA (yB g) m b)) (yB g) y/\CJ w (W.setCell (dB X 3) (pA (yB g) m b)) c now a n cap:=by
 subst v t;have f:eB (·=X) W (W.setCell (dB X 3) (pA (yB g) (yA y) b)):=(eB.refl (·=X) W).setCell (Ca rfl) 3 _;have x:=aB A.X;exact⟨by have:=(A.X.z h).set 3 (pA (yB g) (yA y) b);simpa using this,kq (A.P.z h) f (λr o e i p=>j r o e i p),(oD (f.row k (λq u e=>by have:=(k.lt q u).1;omega))).pairs,(P.z h).turn f s⟩
end
def UW(c:iC)(now:Int)(a:mC)(cap:Nat)(j:List fB)(h key:jB)(w:eA)(y:xC w a j)(k:yA j+cC j<=1900000)(Y:h.size<=1900000)(V:key.size<=1900000)(t:nC c now j=dA)(i:(bD h&&rK key)=cA):
 gA prog 108 #[rE c,tA #[zA now,pA a (yA j) cap],oA h,oA key] w λe N=>VF (now,j,5) w e N:=by
 obtain⟨d,b,f,g⟩:=wR k;have r:=bB (λW(u:uB w W)=>sJ c now a cap j W (y.z u) b (by omega));have p:=bB (λW=>pI h W (by unfold maxLen;omega));have l:=bB (λW=>KB key W (by omega));have o:=bB (λW(u:uB w W)=>zT c now a cap j W (y.z u) t k);rw[t]at r;have x:bD h=cA\/bD h=dA/\rK key=cA:=by revert i;cases bD h<;>simp
 have P:=bB (CJ.new (w:=w) (c:=c) (now:=now) (a:=a) (n:=yA j) (cap:=cap));unfold VF;unfold rE at *;obtain J|⟨J,Q⟩:=x
 all_goals
  rw[J]at p;try rw[Q]at l
  go_enter func108,ntmps108;go_wp2_with(first
   |(go_at_call 49;apply lC (r.o _ P.o.B);intro wv i;replace P:=bB (P.o.z i);obtain⟨z,A,C,D,E,F,G,H,-,-,-,-,q⟩:=P.o.cells)
   |(go_at_call 52;apply lC (p.o _);intro N h;subst h)
   |(go_at_call 111;apply lC (l.o _);intro Z i;replace P:=bB (P.o.z i);obtain⟨z,A,C,D,E,F,G,H,-,-,-,-,q⟩:=P.o.cells)
   |(go_at_call 107;refine(o.o _ P.o.B).mono ?_;rintro e h ⟨K,L,rfl,I,i⟩;have s:=bB (P.o.z i);have m:=bB I;obtain⟨-,-,-,-,-,-,-,-,R,S,T,U,O⟩:=s.o.cells))
  refine bodyPost_ret (v:=?_) (by simp[results,results108,go_sem,R,S];rfl) rfl ?_;first
   |exact⟨K,⟨L,rfl⟩,s.o.done m.o q⟩
   |exact⟨K,L,rfl,s.o.done m.o q⟩
def dd{c:iC}{now:Int}{a:mC}{cap:Nat}{f:List fB}{L key:jB}{w:eA}{tn:fB}{V:Int×List fB×Nat}(H:cB (SC w c now a cap f L tn))(hk:key.size<=1900000)(hky:rK key=dA)(HFK:cB (∀p∈tn.Z,p.s.size<=1900000))(HKA:cB (aE c.w now (fC (·.N) ⟨tn.N,tn.L,tn.M,fC (·.s) ⟨key,now⟩ tn.Z⟩ f)=fC (·.N) (kJ tn key now) f))
(HFI:cB (ZA ⟨tn.N,tn.L,tn.M,fC (·.s) ⟨key,now⟩ tn.Z⟩))
(HV:cB (V=if (dD (·.s) key tn.Z).isSome=dA then(now,fC (·.N) (kJ tn key now) f,1) else if (qE c tn ⟨#[]⟩).2<=(qE c tn ⟨#[]⟩).1\/(cF tn=dA/\yA f=10000) then(now,f,3) else if (qE c tn (cE key)).2<=(qE c tn (cE key)).1 then(now,f,4) else(now,fC (·.N) (kJ tn key now) f,2))):
 gA prog 108 #[rE c,tA #[lA mA now,pA a (yA f) cap],oA L,oA key] w λe w'=>VF V w e w':=by
 have hml:=H.o.len;have hn0:=H.o.now0;have HKY:=bB (λW=>KB key W (by omega));have HMT:cB (∀W,dF 175 #[oA key] W (oA (cE key))):=λW=>BA key W (by omega);have HCT:=bB (λW m a1 a2 c1 c2(p1:jC W a1 tn.M)(p2:jC W a2 tn.Z)=>LX c tn a1 a2 c1 c2 m W p1 p2 (λi h=>by have:=HFK.o _ (Gb h);omega) (by omega) (by omega));have HID:=bB (λW a1 a2 c1 c2=>EI tn a1 a2 c1 c2 W);have P:=bB (CJ.new (w:=w) (c:=c) (now:=now) (a:=a) (n:=yA f) (cap:=cap));rw[hky]at HKY;unfold VF;unfold rE at *;go_enter func108,ntmps108;go_upto_region 5 with(first
  |(go_at_call 49;apply lC (H.o.ok _ P.o.B);intro wo o;replace P:=bB (P.o.z o))
  |(go_at_call 52;apply lC (H.o.nm _);intro w' hw;subst hw)
  |(go_at_call 111;apply lC (HKY.o _);intro wv o;replace P:=bB (P.o.z o)))
 have N:=bB P.o.kin;have vy0:=P.o.kin wv iD;have hsv:=P.o.lt;go_cut [10] (λp wx=>∃X,p=sA (bA ⟨X,0,aA⟩)/\KXR wv X tn wx)
 case first=>
  go_region_held3 (λw'=>w'.cell? ⟨w.1.size+1,0,aA⟩=bA (lA mA now)/\w'.cell? ⟨w.1.size+1,1,aA⟩=bA (pA a (yA f) cap)/\w'.cell? ⟨w.1.size,0,aA⟩=bA (lA mA c.w))
   (first|go_keep|with_reducible exact N.o _ (db k4 (Ia _))|with_reducible exact N.o _ (db k4 k3.size)|with_reducible exact N.o _ k4|with_reducible exact N.o _ k3|with_reducible exact N.o _ (vB k3 zB)|with_reducible exact N.o _ (zB.drew)|with_reducible exact N.o _ (vB k4 zB))
   (first
    |(go_at_call 61;refine(H.o.te _ (by with_reducible exact P.o.B.drew)).mono ?_;rintro e w3 ⟨⟨a1,c1,a2,c2,rfl,p1,p2⟩,F⟩;have k3:uB wv w3:=(by with_reducible exact vB iD.drew F);have c3:=N.o _ k3)
    |(go_at_call 61;refine(H.o.te _ (by with_reducible exact(vB P.o.B zB).drew)).mono ?_;rintro e w3 ⟨⟨a1,c1,a2,c2,rfl,p1,p2⟩,F⟩;have k3:uB wv w3:=(by with_reducible exact vB (zB.drew) F);have c3:=N.o _ k3;have hX3:nB w3 wv.1.size #[oA ⟨#[]⟩,lA mA 0,pA aA 0 0,pA aA 0 0] 94:=uK F)
    |(have q:=hX3;go_at_call 118;refine(H.o.kp _ a1 a2 c1 c2 (by with_reducible exact p1) (by with_reducible exact p2)).mono ?_;rintro e w4 ⟨M,q1,e1,q2,e2,rfl,hM,u,h1M,Q,hM4,G⟩;have k4:uB wv w4:=(by with_reducible exact vB k3 G);have c4:=N.o _ k4;have C:=bB (hX3.z G);have s0:=C.o.c4;have d:=C.o.free)
    |((fail_if_success (have q:=hX3));go_at_call 118;refine(H.o.kp _ a1 a2 c1 c2 (by with_reducible exact p1) (by with_reducible exact p2)).mono ?_;rintro e w4 ⟨M,q1,e1,q2,e2,rfl,hM,u,h1M,Q,hM4,G⟩;have k4:uB wv w4:=(by with_reducible exact vB k3 G);have c4:=N.o _ k4)
    |(go_at_call 118;refine(H.o.kp _ a1 a2 c1 c2 (by with_reducible exact p1.z zB) (by with_reducible exact p2.z zB)).mono ?_;rintro e w4 ⟨M,q1,e1,q2,e2,rfl,hM,u,h1M,Q,hM4,G⟩;have k4:uB wv w4:=(by with_reducible exact vB (vB k3 zB) G);have c4:=N.o _ k4;have C:cB (nB w4 w3.1.size #[oA ⟨#[]⟩,lA mA 0,pA aA 0 0,pA aA 0 0] 94):=bB ((nB.new w3 _ _).z G);have s0:=C.o.c4;have d:=C.o.free))
  all_goals(go_wp2_with fail;go_meet)
  all_goals first
   |with_reducible exact⟨_,rfl,aJj k3.size u h1M Q hM k4⟩
   |exact⟨_,rfl,vh u h1M Q (by have:=aB hX3;omega) hM (Ia _) C.o k4⟩
   |exact⟨_,rfl,vh u h1M Q (by simp) hM k3.size C.o k4⟩
 obtain⟨X,rfl,M,q1,e1,q2,e2,hXb,hP1,hq1M,hRow,hRX,hqX,hXw,hMw,F⟩:=hcut;rename eA=>w3;replace P:=bB (P.o.z F);have A:cB (AB wv w3 X M q1 e1 q2 e2 tn):=⟨hXb,hP1,hRow⟩
 have HQ:=bB (⟨hq1M,hRX,hqX⟩:_/\_/\_);have hX3:=aB hXb;have hXP:w.1.size+1+1<X:=by omega
 have U:=A.o.X.c4;go_wp2;go_loopw [11,44] (λ_ i wr=>∃k:Nat,k<=yA tn.Z/\i=lA mA k/\cB (∀j(h:j<k)(h':j<yA tn.Z),tn.Z[j].s≠key)/\w3=wr) (λ_ i _=>yA tn.Z-(intOf i).toNat)
 case atStart=>exact⟨0,Oa _,rfl,(λj h=>absurd h (by omega)),rfl⟩
 case round=>
  obtain⟨k,hkl,rfl,HN,hw⟩:=hrel;subst hw;by_cases hlt:k<yA tn.Z
  .obtain ⟨g,rfl⟩:=lu A.o.R (by omega);obtain⟨pb,po,ep,hpl,v0,v1⟩:=((oD A.o.R).pairs).at hlt;simp only[Qa,Addr.mk.injEq,Cc]at ep;obtain⟨rfl,rfl⟩:=ep;rw[Ya]at v0 v1;cases hsm:(tn.Z[k].s.toList==key.toList) with
   |true=>
    have HS:=bB (aIb A.o P.o HQ.o.1 (HQ.o.2.1 g rfl) (by omega) hlt ((kE _ _).1 hsm) H.o.rs);have E:cB (V=(now,fC (·.N) (kJ tn key now) f,1)):=by
     show _=_;rw[HV.o,Ma];cases hgg:dD (·.s) key tn.Z with
     |some _=>rfl
     |none=>exact absurd ((kE _ _).1 hsm) (vX hgg _ (Gb hlt))
    have fz:=HS.o.2.2.2.2.2;obtain⟨-,-,-,-,-,-,z,K,-⟩:=P.o.cells;go_upto_region 11 with fail;generalize w3.setCell ⟨g,k*2+1,aA⟩ (lA mA now)=w7 at *;obtain⟨X7,p1,p2,P7,hL,-⟩:=HS.o;have HWF:=bB (H.o.wi w7 tn.L tn.M (fC (·.s) ⟨key,now⟩ tn.Z) q1 (bA ⟨g,0,aA⟩) e1 e2 P7.B p1 p2 HFI.o);rw[HKA.o,hL]at HWF;replace P:=bB P7;have U:=X7.c4;obtain⟨x0,x1,x2,x3,x4,x5,z,K,-,-,-,-,S⟩:=P7.cells;generalize fC (·.N) (kJ tn key now) f=RL at *;go_wp2_with fail;refine HWF.o.mono ?_;rintro e w9 ⟨ra,rc,rfl,ho,o⟩;have D:=bB (P.o.z o);have r:=bB ho;obtain⟨-,-,-,-,-,-,-,-,z0,z1,g0,g1,hz9⟩:=D.o.cells;go_wp2;refine bodyPost_ret (v:=?_) (by simp[results,results108,go_sem,z0,z1];rfl) rfl ?_;rw[E.o];first
     |exact⟨ra,⟨rc,rfl⟩,D.o.done r.o S⟩
     |exact⟨ra,rc,rfl,D.o.done r.o S⟩
   |false=>
    have HN2:cB (∀j(h:j<k+1)(h':j<yA tn.Z),tn.Z[j].s≠key):=λj hj hj'=>by
     by_cases e:j=k
     .subst e;exact λe'=>absurd ((kE _ _).2 e') (by rw[hsm];simp)
     exact HN.o j (by omega) hj'
    generalize tn.Z[k].s=kk at *;go_wp2;exact⟨⟨k+1,by omega,by go_num,HN2.o,by first|rfl|trivial⟩,by simp[intOf];omega⟩
  have HNO:cB (dD (·.s) key tn.Z=aA):=mN λp hp=>by
   obtain⟨j,hj,rfl⟩:=Ib hp;exact HN.o j (by omega) hj
  have HC1:=bB (HCT.o w3 ⟨#[]⟩ q1 q2 e1 e2 A.o.P.pairs (oD A.o.R).pairs);have HV2:cB (V=if (qE c tn ⟨#[]⟩).2<=(qE c tn ⟨#[]⟩).1\/(cF tn=dA/\yA f=10000) then(now,f,3) else if (qE c tn (cE key)).2<=(qE c tn (cE key)).1 then(now,f,4) else(now,fC (·.N) (kJ tn key now) f,2)):=by show _=_;rw[HV.o,Ja (by rw[HNO.o];simp)]
  have hkn:¬((k:Int)<yA tn.Z):=by omega
  obtain⟨x0,x1,x2,x3,x4,x5,z,K,-,-,-,-,S⟩:=P.o.cells;generalize qE c tn ⟨#[]⟩=CV at *;obtain⟨n1,l1⟩:=CV;go_upto_region 15 with(first
   |(go_at_call 120;apply lC HC1.o;intro w4 o;replace A:=bB (A.o.z o);replace P:=bB (P.o.z o);have U:=A.o.X.c4;obtain⟨x0,x1,x2,x3,x4,x5,z,K,-,-,-,-,S⟩:=P.o.cells)
   |(go_at_call 109;apply lC (HID.o _ q1 q2 e1 e2);intro w5 o;replace A:=bB (A.o.z o);replace P:=bB (P.o.z o);have U:=A.o.X.c4;obtain⟨x0,x1,x2,x3,x4,x5,z,K,-,-,-,-,S⟩:=P.o.cells))
  generalize cF tn=IB at *;go_cut [88] (λs wx=>s=.bool (decide (l1<=n1) ||(IB&&decide (yA f=10000)))/\w5=wx)
  case first=>
   have h3:l1<=n1/\(decide (l1<=n1) ||(IB&&decide (yA f=10000)))=dA\/¬l1<=n1/\(IB=cA/\(decide (l1<=n1) ||(IB&&decide (yA f=10000)))=cA\/IB=dA/\(((yA f:Int)==10000)=dA/\(decide (l1<=n1) ||(IB&&decide (yA f=10000)))=dA\/((yA f:Int)==10000)=cA/\(decide (l1<=n1) ||(IB&&decide (yA f=10000)))=cA)):=by
    by_cases u:l1<=n1
    .exact Ca ⟨u,by simp[u]⟩
    refine La ⟨u,?_⟩;cases IB
    .exact Ca ⟨rfl,by simp[u]⟩
    refine La ⟨rfl,?_⟩;by_cases Q:yA f=10000
    .exact Ca ⟨by simp[Q],by simp[Q]⟩
    exact La ⟨by simp;omega,by simp[u,Q]⟩
   obtain⟨u,HD⟩|⟨u,⟨rfl,HD⟩|⟨rfl,⟨Q,HD⟩|⟨Q,HD⟩⟩⟩:=h3
   all_goals
    have HD:=bB HD;go_wp2_with fail;go_meet;exact⟨by rw[HD.o],rfl⟩
  obtain⟨rfl,hw⟩:=hcut;subst hw;have O:cB (V=if (decide (l1<=n1) ||(IB&&decide (yA f=10000)))=dA then(now,f,3) else if (qE c tn (cE key)).2<=(qE c tn (cE key)).1 then(now,f,4) else(now,fC (·.N) (kJ tn key now) f,2)):=by
   refine bB ?_;rw[HV2.o];simp only[Fe,Sa,Ab]
  cases hcb:(decide (l1<=n1) ||(IB&&decide (yA f=10000))) with
  |true=>
   rw[hcb,Ma rfl]at O;go_wp2_with(go_at_call 107;refine(H.o.sm _ P.o.B).mono ?_;rintro e w9 ⟨ra,rc,rfl,ho,o⟩;have D:=bB (P.o.z o);have r:=bB ho;obtain⟨-,-,-,-,-,-,-,-,z0,z1,g0,g1,hz9⟩:=D.o.cells);refine bodyPost_ret (v:=?_) (by simp[results,results108,go_sem,z0,z1];rfl) rfl ?_;rw[O.o];first
    |exact⟨ra,⟨rc,rfl⟩,D.o.done r.o S⟩
    |exact⟨ra,rc,rfl,D.o.done r.o S⟩
  |false=>
   rw[hcb,Ja (by simp)]at O;have dx:=λx:kC w5=>(P.o.z x.h).cells;have dm:=λx:kC w5=>(A.o.z x.h).X.c4;simp only[forall_and]at dx dm;obtain⟨dx0,dx1,dx2,dx3,dx4,dx5,-⟩:=dx;have dm0:=dm;have HC2:=bB (λy:kC w5=>HCT.o y.w' (cE key) q1 q2 e1 e2 (A.o.P.pairs.z y.h) ((oD A.o.R).pairs.z y.h));have hnel:=kC.there w5;generalize qE c tn (cE key)=CV at *;obtain⟨n2,l2⟩:=CV;generalize hmk:cE key=mk at *;go_wp2_with fail;refine wB (by kernel_rfl) (by kernel_rfl) ?_;repeat (go_big_quiet_step (first|(go_at_call 175;exact oC (HMT.o _))|(go_at_call 120;exact oC (HC2.o _))|fail))
   refine wpQuiet_nil ?_;rintro _ ⟨y,rfl⟩;replace P:=bB (P.o.z y.h);replace A:=bB (A.o.z y.h);generalize y.w'=w6 at *;obtain⟨U,Y,Z,t⟩:=A.o.X.c4;obtain⟨x0,x1,x2,x3,x4,x5,z,K,-,-,-,-,S⟩:=P.o.cells;by_cases hme:l2<=n2
   .have E:cB (V=(now,f,4)):=by show _=_;rw[O.o,Ma hme]
    go_wp2_with(go_at_call 107;refine(H.o.sm _ P.o.B).mono ?_;rintro e w9 ⟨ra,rc,rfl,ho,o⟩;have D:=bB (P.o.z o);have r:=bB ho;obtain⟨-,-,-,-,-,-,-,-,z0,z1,g0,g1,hz9⟩:=D.o.cells);refine bodyPost_ret (v:=?_) (by simp[results,results108,go_sem,z0,z1];rfl) rfl ?_;rw[E.o];first
     |exact⟨ra,⟨rc,rfl⟩,D.o.done r.o S⟩
     |exact⟨ra,rc,rfl,D.o.done r.o S⟩
   have E:cB (V=(now,fC (·.N) (kJ tn key now) f,2)):=by show _=_;rw[O.o,Ja hme]
   go_wp2;go_loopw [15] (λi wr=>∃j:Nat,j<=yA tn.Z/\i=lA mA j/\cB (∀i(h:i<yA tn.Z),i<j->eK tn.Z[i].s key=dA)/\w6=wr) (λi _=>yA tn.Z-(intOf i).toNat)
   case atStart=>exact⟨0,Oa _,rfl,(λi _ hi=>absurd hi (by omega)),rfl⟩
   case round=>
    obtain⟨j,hj,rfl,HJ,hw⟩:=hrel;subst hw;have hcs:(∃h:j<yA tn.Z,eK tn.Z[j].s key=dA)\/((¬(j:Int)<yA tn.Z/\j=yA tn.Z)\/∃h:j<yA tn.Z,Op.bytesLess tn.Z[j].s.toList key.toList=cA)/\fC (·.s) ⟨key,now⟩ tn.Z=tn.Z.take j++⟨key,now⟩:: tn.Z.drop j:=by
     by_cases J:j<yA tn.Z
     .cases I:eK tn.Z[j].s key
      .exact La ⟨La ⟨J,I⟩,WV hj (λi h hi=>HJ.o i h hi) (λ_=>I) HNO.o⟩
      exact Ca ⟨J,I⟩
     exact La ⟨Ca ⟨by omega,by omega⟩,WV hj (λi h hi=>HJ.o i h hi) (λh=>absurd h J) HNO.o⟩
    obtain⟨J,I⟩|⟨hx,hcut⟩:=hcs
    .obtain ⟨g,rfl⟩:=lu A.o.R (by omega);obtain⟨pb,po,ep,hpl,v0,-⟩:=((oD A.o.R).pairs).at J;simp only[Qa,Addr.mk.injEq,Cc]at ep;obtain⟨rfl,rfl⟩:=ep;rw[Ya]at v0;have hq2:Op.bytesLess tn.Z[j].s.toList key.toList=dA:=I;have HJ2:cB (∀i(h:i<yA tn.Z),i<j+1->eK tn.Z[i].s key=dA):=λi h hi=>by
      by_cases e:i=j
      .subst e;exact I
      exact HJ.o i h (by omega)
     generalize tn.Z[j].s=kk at *;go_wp2;exact⟨⟨j+1,by omega,by go_num,HJ2.o,by first|rfl|trivial⟩,by simp[intOf];omega⟩
    have HQ2:cB (flatK (fC (·.s) ⟨key,now⟩ tn.Z)=flatK (tn.Z.take j)++[oA key,lA mA now]++flatK (tn.Z.drop j)/\yA (fC (·.s) (⟨key,now⟩:kB) tn.Z)=j+1+(yA tn.Z-j)):=by
     refine bB ?_;rw[hcut];refine⟨?_,by simp;omega⟩;rw[show tn.Z.take j++(⟨key,now⟩:kB):: tn.Z.drop j=(tn.Z.take j++[(⟨key,now⟩:kB)])++tn.Z.drop j by simp,sX,sX];rfl
    have hl1:yA (tn.Z.take j)=j:=by simp;omega
    have hl2:yA (tn.Z.drop j)=yA tn.Z-j:=by simp
    have hc3:(q2=aA/\e2=0/\yA tn.Z=0/\j=0)\/∃g,q2=bA ⟨g,0,aA⟩/\((¬(j:Int)<yA tn.Z/\j=yA tn.Z)\/∃h:j<yA tn.Z,Op.bytesLess tn.Z[j].s.toList key.toList=cA):=by
     rcases aOb A.o.R with⟨u,Q,h3⟩|⟨g,u⟩;exact Ca ⟨u,Q,h3,by omega⟩;exact La ⟨g,u,hx⟩
    obtain⟨rfl,rfl,T,rfl⟩|⟨g,rfl,hx⟩:=hc3
    rotate_left;have HSH:=bB (λW(hW:uB w6 W)=>aKz (hC A.o.R hW) hj);have hce:=aKq A.o.R;have hje:j<=e2:=by omega
    obtain⟨hjn,-⟩|⟨J,hq2⟩:=hx;rcases Decidable.em (e2=j) with he|he
    all_goals first
     |(have q:=T;rw[T]at t;go_upto_region 23 with fail;obtain⟨-,-,-,xa3⟩:=(A.o.X.alloc (vA #[] 98)).c4;rw[T]at xa3)
     |(have q:=hjn;go_upto_region 23 with fail;obtain⟨-,-,-,xa3⟩:=(A.o.X.alloc (vA #[] 98)).c4)
     |(obtain⟨pb,po,ep,hpl,v0,-⟩:=((oD A.o.R).pairs).at J;simp only[Qa,Addr.mk.injEq,Cc]at ep;obtain⟨rfl,rfl⟩:=ep;rw[Ya]at v0;generalize tn.Z[j].s=kk at *;go_upto_region 23 with fail;obtain⟨-,-,-,xa3⟩:=(A.o.X.alloc (vA #[] 98)).c4)
    all_goals
     go_upto_region 24 with(at_builtin;refine aHq rfl _ _ rfl rfl _ rfl hl1 (by first|exact(HSH.o _ zB).1|exact Ca rfl) (by omega) ?_;intro g8 cap8 w8 O8 B8;obtain⟨-,-,-,-,-,-,z,-⟩:=(P.o.z B8.o).cells)
     have hs8:=B8.o.size;go_upto_region 25 with(at_builtin;refine pQ rfl _ _ rfl underlying92 uT rfl (by omega) (by omega) rfl O8.o rfl rfl rfl (by simp[iA.oneCell']) (by omega) hs8 ?_;intro g10 cap10 w10 O10 T10;have B10:=bB (B8.o.trans (T10.o.below hs8 λi hi e=>by omega));obtain⟨-,-,-,t⟩:=(A.o.X.z B10.o).c4;try rw[T]at t)
     have hs10:=B10.o.size;go_upto_region 26 with(at_builtin;first
      |(refine eh rfl _ _ rfl rfl O10.o (tn.Z.drop j) rfl hl2 (by first|exact(HSH.o _ B10.o).2|exact Ca (by omega)) (by omega) hs10 ?_;intro g12 cap12 w12 O12 B12;have l:=bB (B10.o.trans B12.o);have HA:=bB (uu A.o P.o HQ.o.2.2 hXP l.o O12.o HQ2.o.1 (by have:=HQ2.o.2;omega));obtain⟨U,Y,Z,t⟩:=(A.o.X.z l.o).c4;(try rw[T]at t);have b:=(A.o.X.z l.o).free 3)
      |(refine eh rfl _ _ rfl rfl O10.o (tn.Z.drop 0) rfl (by rw[hl2];omega) (Ca rfl) (by omega) hs10 ?_;intro g12 cap12 w12 O12 B12;have l:=bB (B10.o.trans B12.o);have HA:=bB (uu A.o P.o HQ.o.2.2 hXP l.o O12.o HQ2.o.1 (by have:=HQ2.o.2;omega));obtain⟨U,Y,Z,t⟩:=(A.o.X.z l.o).c4;(try rw[T]at t);have b:=(A.o.X.z l.o).free 3))
     obtain⟨x0,x1,x2,x3,x4,x5,z,K,-,-,-,-,-⟩:=(P.o.z l.o).cells;go_wp2_with fail;refine(H.o.wn HKA.o rfl (by have:=HQ2.o.2;omega) HA.o.2.2.2.B HA.o.2.1 HA.o.2.2.1 HFI.o).mono ?_;rintro e w9 ⟨ra,rc,rfl,ho,o⟩;have D:=bB (HA.o.2.2.2.z o);have r:=bB ho;have HZ:=bB HA.o.2.2.2.lt;obtain⟨-,-,-,-,-,-,-,-,z0,z1,g0,g1,hz9⟩:=D.o.cells;generalize fC (·.N) (kJ tn key now) f=RL at *;go_wp2;refine bodyPost_ret (v:=?_) (by simp[results,results108,go_sem,z0,z1];rfl) rfl ?_;rw[E.o];first
      |exact⟨ra,⟨rc,rfl⟩,D.o.done r.o HZ.o⟩
      |exact⟨ra,rc,rfl,D.o.done r.o HZ.o⟩
def DG(c:iC)(now:Int)(a:mC)(cap:Nat)(d:List fB)(b key:jB)(w:eA)(t:xC w a d)(k:yA d+cC d<=1900000)(q:b.size<=1900000)(u:key.size<=1900000)(l:nC c now d=dA):
 gA prog 108 #[rE c,tA #[zA now,pA a (yA d) cap],oA b,oA key] w λe A=>VF (cI c now d b key) w e A:=by
 cases hb:(bD b&&rK key) with
 |false=>
  rw[show cI c now d b key=(now,d,5) by unfold cI;rw[Ja (by rw[l];simp),Ma hb]];exact UW c now a cap d b key w t k q u l hb
 |true=>
  have g:=hb;rw[Sa]at g;obtain⟨m,r,z,-,f⟩:=gH l;have o:1<=c.w:=by simp only[lH,Sa]at m;exact(xJ m.1.1.1.1.1).1
  have S:=aLy (cap:=cap) t k q l g.1;refine dd S u g.2 (KM (nS k) q).2.2.1 (qq f (wS f) o) ?_ (by show _=_;unfold cI;rw[Ja (by rw[l];simp),Ja (by rw[hb];simp)];rfl);have x:=GR (key:=λp:kB=>p.s) (a:=⟨key,now⟩) (aC d b).Z;have B:=S.len;refine⟨S.fit.1,by show(fC (·.s) (⟨key,now⟩:kB) (aC d b).Z).length<=_;omega,λi h=>?_⟩;rcases yK (Gb h) with e|e;show 0<=((fC (·.s) (⟨key,now⟩:kB) (aC d b).Z)[i]'h).n/\_;rw[e];exact⟨r,by show now<=_;omega⟩;obtain ⟨j,y,v⟩:=Ib e;have:=S.fit.2.2 j y;rw[v]at this;exact this
def NS(c:iC)(k:Int)(a:mC)(l:Nat)(m:List fB)(i h:jB)(j:Int)(w:eA)(J:xC w a m)(s:yA m+cC m<=1900000)(B:i.size<=1900000)(B:h.size<=1900000)(G:nC c k m=dA)
(B:(bD i&&(h.toList.isEmpty||bF h) &&bC j (-1) 1000000)=cA):
 gA prog 58 #[rE c,tA #[zA k,pA a (yA m) l],oA i,oA h,zA j] w λe M=>xU (k,m,cA) w e M:=by
 obtain⟨d,b,f,g⟩:=wR s;have D:=bB (λW(H:uB w W)=>sJ c k a l m W (J.z H) b (by omega));have r:=bB (λW=>pI i W (by unfold maxLen;omega));have q:=bB (λW=>xM h W (by omega));have p:=bB (λW=>dE j (-1) 1000000 W);have t:=bB (λW(H:uB w W)=>zT c k a l m W (J.z H) G s);rw[G]at D;clear J s d b f g G;unfold rE at *;have F:=bB (CJ.new (w:=w) (c:=c) (now:=k) (a:=a) (n:=yA m) (cap:=l));go_enter func58,ntmps58;go_wp2_with fail;apply lC (D.o _ F.o.B);intro G o;have P:=bB (F.o.z o);clear o F D;obtain⟨N,O,Q,R,S,T,U,V,x,y,z,A,K⟩:=P.o.cells;have I:bD i=cA\/(bD i=dA/\h.toList.isEmpty=cA/\bF h=cA)\/(bD i=dA/\h.toList.isEmpty=dA/\bC j (-1) 1000000=cA)\/(bD i=dA/\h.toList.isEmpty=cA/\bF h=dA/\bC j (-1) 1000000=cA):=by
  revert B;cases bD i<;>cases h.toList.isEmpty<;>cases bF h<;>cases bC j (-1) 1000000<;>simp
 clear B;obtain C|⟨C,h,B⟩|⟨C,h,G⟩|⟨C,h,B,G⟩:=I
 all_goals
  rw[C]at r;try rw[B]at q
  try rw[G]at p
  go_wp2_with(first
   |(go_at_call 52;apply lC (r.o _);intro M h;subst h)
   |(go_at_call 91;apply lC (p.o _);intro M h;subst h)
   |(go_at_call 110;apply lC (q.o _);intro h o;replace P:=bB (P.o.z o);clear o N O Q R S T U V x y z A K;obtain⟨N,O,Q,R,S,T,U,V,x,y,z,A,K⟩:=P.o.cells))
  refine(t.o _ P.o.B).mono ?_;rintro e h ⟨L,u,rfl,Z,o⟩;have X:=bB (P.o.z o);have E:=bB Z;clear Z o N O Q R S T U V x y z A t r q p;obtain⟨_,_,_,_,_,_,_,_,x,y,z,A,h⟩:=X.o.cells;go_wp2;refine bodyPost_ret (v:=xA #[tA #[zA k,pA L (yA m) u],.bool cA]) (by simp[results,results58,go_sem,x,y]) rfl ?_;have Y:=X.o.done (v:=k) (rc:=u) E.o K;first
   |exact⟨L,⟨u,rfl⟩,Y⟩
   |exact⟨L,u,rfl,Y⟩
def aKj(t:kB)(b:Bool)(a:List kB)(c:zC (·.s) a):yA (kr t b a)<=yA a+1:=by
 cases b with
 |true=>
  rw[eV];have:yA (vE (·.s) t.s a)<=yA a:=Pc _ _;omega
 |false=>rw[kt c];exact GR _
def aKk(t p:kB)(l:List kB)(b:Bool):b=dA/\(p.s.toList==t.s.toList)=dA/\eM t (l,b) p=(l,dA)\/b=dA/\(p.s.toList==t.s.toList)=cA/\eM t (l,b) p=(l++[p],dA)\/
 b=cA/\(p.s.toList==t.s.toList)=cA/\(t.s.toList==p.s.toList)=cA/\Op.bytesLess t.s.toList p.s.toList=cA/\eM t (l,b) p=(l++[p],cA)\/b=cA/\(p.s.toList==t.s.toList)=cA/\Op.bytesLess t.s.toList p.s.toList=dA/\eM t (l,b) p=(l++[t]++[p],dA)\/
 b=cA/\(p.s.toList==t.s.toList)=dA/\(t.s.toList==p.s.toList)=dA/\Op.bytesLess t.s.toList p.s.toList=cA/\eM t (l,b) p=(l++[t],dA):=by
 cases b with
 |true=>cases h:(p.s.toList==t.s.toList)<;>simp[eM,h]
 |false=>
  by_cases d:eK p.s t.s=dA
  .have a:=zD (qJ d);exact La (La (Ca ⟨rfl,a,zD (qJ d).symm,BK d,by simp[eM,d,a]⟩))
  have c:eK p.s t.s=cA:=by simpa using d
  by_cases e:eK t.s p.s=dA
  .have a:=zD (qJ e).symm;exact La (La (La (Ca ⟨rfl,a,e,by simp[eM,c,a]⟩)))
  have g:=Decidable.byContradiction λf=>e (eW c f);have a:=(kE _ _).2 g;exact La (La (La (La ⟨rfl,a,(kE _ _).2 g.symm,by simpa[eK]using e,by simp[eM,c,a]⟩)))
def wk{w g W:eA}{c:iC}{i:Int}{a:mC}{n h X:Nat}{t u B:iA}{A k b:mC}{s f d:Nat}{z D j:List kB}(x:yA j=d)(P:CJ w g c i a n h)(r:nB g X #[t,u,B,pA k (yA D) s] 94)(v:w.1.size+1+1<X)(l:∀W,eB (·=X) g W->jC W A z/\jC W k D)(o:uB g W)(p:W.ownsRow g.1.size 96 2 (pA b d f) d (flatK j)):
 nB (W.setCell (dB X 2) (pA b d f)) X #[t,u,pA b d f,pA k (yA D) s] 94/\jC (W.setCell (dB X 2) (pA b d f)) b j/\jC (W.setCell (dB X 2) (pA b d f)) k D/\CJ w (W.setCell (dB X 2) (pA b d f)) c i a n h:=by
 subst x;have m:eB (·=X) W (W.setCell (dB X 2) (pA b (yA j) f)):=(eB.refl (·=X) W).setCell (Ca rfl) 2 _;have C:=aB r;exact⟨by have:=(r.z o).set 2 (pA b (yA j) f);simpa using this,(oD (m.row p (λq y e=>by have:=(p.lt q y).1;omega))).pairs,(l _ ((eB.of o).trans' m)).2,(P.z o).turn m v⟩
def NR{c:iC}{l:Int}{a:mC}{A:Nat}{Z:List fB}{G h:jB}{j:Int}{w:eA}{m:fB}{V:Int×List fB×Bool}(H:cB (SC w c l a A Z G m))(hm:h.size<=1900000)(hmt:h.toList.isEmpty=dA\/h.toList.isEmpty=cA/\bF h=dA)(hlb:bC j (-1) 1000000=dA)
(HV:cB (V=if 10000<yA (aE c.w l (fC (·.N) (sH m h j) Z)) then(l,Z,cA) else(l,aE c.w l (fC (·.N) (sH m h j) Z),dA))):
 gA prog 58 #[rE c,tA #[lA mA l,pA a (yA Z) A],oA G,oA h,lA mA j] w λe w'=>xU V w e w':=by
 have HMN:=bB (λW=>xM h W (by omega));have P:=bB (CJ.new (w:=w) (c:=c) (now:=l) (a:=a) (n:=yA Z) (cap:=A));have hml:=H.o.len;have hn0:=H.o.now0;unfold xU rE;go_enter func58,ntmps58;go_wp2_with fail;apply lC (H.o.ok _ P.o.B);intro I hb;replace P:=bB (P.o.z hb);go_upto_region 3 with fail;go_cut [39] (λb wx=>b=.bool cA/\CJ w wx c l a (yA Z) A)
 case first=>
  obtain k2|⟨k2,Y⟩:=hmt
  all_goals
   go_wp2_with(first
    |(go_at_call 52;apply lC (H.o.nm _);intro w' hw;subst hw)
    |(go_at_call 91;apply lC (rD hlb _);intro w' hw;subst hw)
    |(go_at_call 110;apply lC (HMN.o _);intro w5 hb;replace P:=bB (P.o.z hb)))
   go_meet;exact⟨by simp,P.o⟩
 obtain⟨rfl,hP⟩:=hcut;rename eA=>I;have P:=bB hP;have J:=bB hP.kin;have vy0:=hP.kin I iD;have hsv:=hP.lt;go_upto_region 5 with fail;go_cut [12] (λp wx=>∃X,p=sA (bA ⟨X,0,aA⟩)/\KX I X m wx)
 case first=>
  go_region_held3 (λw'=>w'.cell? ⟨w.1.size+1,0,aA⟩=bA (lA mA l)/\w'.cell? ⟨w.1.size+1,1,aA⟩=bA (pA a (yA Z) A)/\w'.cell? ⟨w.1.size,0,aA⟩=bA (lA mA c.w))
   (first|go_keep|with_reducible exact J.o _ (db R (Ia _))|with_reducible exact J.o _ (db R Y.size)|with_reducible exact J.o _ R|with_reducible exact J.o _ Y|with_reducible exact J.o _ (vB Y zB)|with_reducible exact J.o _ (zB.drew)|with_reducible exact J.o _ (vB R zB))
   (first
    |(go_at_call 61;refine(H.o.te _ (by with_reducible exact P.o.B.drew)).mono ?_;rintro e t ⟨⟨a1,c1,a2,c2,rfl,p1,p2⟩,C⟩;have Y:uB I t:=(by with_reducible exact vB iD.drew C);have c3:=J.o _ Y)
    |(go_at_call 61;refine(H.o.te _ (by with_reducible exact(vB P.o.B zB).drew)).mono ?_;rintro e t ⟨⟨a1,c1,a2,c2,rfl,p1,p2⟩,C⟩;have Y:uB I t:=(by with_reducible exact vB (zB.drew) C);have c3:=J.o _ Y;have T:nB t I.1.size #[oA ⟨#[]⟩,lA mA 0,pA aA 0 0,pA aA 0 0] 94:=uK C)
    |(have q:=T;go_at_call 118;refine(H.o.kp _ a1 a2 c1 c2 (by with_reducible exact p1) (by with_reducible exact p2)).mono ?_;rintro e w4 ⟨M,q1,e1,q2,e2,rfl,hM,h1,h1M,h2,hM4,D⟩;have R:uB I w4:=(by with_reducible exact vB Y D);have c4:=J.o _ R;have y:=bB (T.z D);have s0:=y.o.c4;have f:=y.o.free)
    |((fail_if_success (have q:=T));go_at_call 118;refine(H.o.kp _ a1 a2 c1 c2 (by with_reducible exact p1) (by with_reducible exact p2)).mono ?_;rintro e w4 ⟨M,q1,e1,q2,e2,rfl,hM,h1,h1M,h2,hM4,D⟩;have R:uB I w4:=(by with_reducible exact vB Y D);have c4:=J.o _ R)
    |(go_at_call 118;refine(H.o.kp _ a1 a2 c1 c2 (by with_reducible exact p1.z zB) (by with_reducible exact p2.z zB)).mono ?_;rintro e w4 ⟨M,q1,e1,q2,e2,rfl,hM,h1,h1M,h2,hM4,D⟩;have R:uB I w4:=(by with_reducible exact vB (vB Y zB) D);have c4:=J.o _ R;have y:cB (nB w4 t.1.size #[oA ⟨#[]⟩,lA mA 0,pA aA 0 0,pA aA 0 0] 94):=bB ((nB.new t _ _).z D);have s0:=y.o.c4;have f:=y.o.free))
  all_goals(go_wp2_with fail;go_meet)
  all_goals first
   |with_reducible exact⟨_,rfl,aNb h1 (oD h2) R⟩
   |exact⟨_,rfl,aFl h1 (oD h2) (by have:=aB T;omega) hM (Ia _) y.o R⟩
   |exact⟨_,rfl,aFl h1 (oD h2) (by simp) hM Y.size y.o R⟩
 obtain⟨X,rfl,q1,e1,q2,e2,N,hPI,hXw,C⟩:=hcut;rename eA=>t;replace P:=bB (P.o.z C);have Q:=bB N;have K:=bB hPI;have T:=aB N;have hXP:w.1.size+1+1<X:=by omega
 obtain⟨-,-,g2,-⟩:=Q.o.c4;go_upto_if 52 with fail;go_cut [13,14] (λ_ _ wx=>∃L ms n1 p1 d1,List.length ms=n1/\sH m h j=⟨m.N,L,ms,m.Z⟩/\yA ms<=1900001/\nB wx X #[oA m.N,lA mA L,pA p1 n1 d1,pA q2 (yA m.Z) e2] 94/\jC wx p1 ms/\jC wx q2 m.Z/\CJ w wx c l a (yA Z) A)
 case first=>
  cases hme:h.toList.isEmpty with
  |true=>
   have HLM:=bB hme;obtain⟨-,g1,-,-⟩:=Q.o.c4;have g:=Q.o.free;go_wp2;go_meet;have hT:eB (·=X) t (t.setCell ⟨X,1,aA⟩ (lA mA j)):=(eB.refl (·=X) t).setCell (Ca rfl) 1 _;exact⟨j,m.M,_,q1,e1,rfl,by unfold sH;rw[Ma HLM.o],by omega,by have:=Q.o.set 1 (lA mA j);simpa using this,(K.o _ hT).1,(K.o _ hT).2,P.o.turn hT hXP⟩
  |false=>
   have HLA:=bB (aFt (limit:=j) H.o.rm hme);have HLE:=bB (λb=>aKj ⟨h,j⟩ b _ H.o.rm);have L4:cB ((t.alloc (vA #[] 96)).ownsRow t.1.size 96 2 (pA (bA ⟨t.1.size,0,aA⟩) 0 0) 0 []):=bB (eA.ownsRow_made t #[] 0 (Ia _) (by simp[maxLen]) (by simp));have B4:=bB (wF t (vA #[] 96));obtain⟨-,-,g4,-⟩:=(Q.o.alloc (vA #[] 96)).c4;have HP1:=bB (K.o _ (eB.refl _ _)).1;go_upto_region 10 with fail;generalize (t.alloc (vA #[] 96))=w4 at *;generalize decide (j<0)=b0 at *;go_wp2;go_loopw [13,14,16,61] (λal pl _ i wr=>∃(k:Nat)(va:mC)(vc:Nat)(r:List kB),k<=yA m.M/\i=lA mA k/\al=pA va (yA r) vc/\pl=.bool (sY ⟨h,j⟩ b0 (m.M.take k)).2/\yA r<=2*k/\cB (r=(sY ⟨h,j⟩ b0 (m.M.take k)).1)/\cB (wr.ownsRow t.1.size 96 2 (pA va (yA r) vc) (yA r) (flatK r))/\cB (uB t wr)) (λ_ _ _ i _=>yA m.M-(intOf i).toNat)
   case atStart=>exact⟨0,_,_,[],Oa _,rfl,rfl,rfl,Oa _,rfl,L4.o,B4.o⟩
   case round=>
    obtain⟨k,va,vc,r,hk,rfl,rfl,rfl,hyl,S,HR,o⟩:=hrel;have O:=o.o.size;by_cases hlt:k<yA m.M
    .obtain ⟨pb,po,rfl,hpl,v0,v1⟩:=(HP1.o.z o.o).at hlt;have HU:=bB (rv ⟨h,j⟩ b0 m.M k hlt);generalize sY ⟨h,j⟩ b0 (m.M.take k)=U at *;generalize m.M[k]=p at *;obtain⟨LU,PU⟩:=U;have hy:r=LU:=S.o;subst hy;rcases aKk ⟨h,j⟩ p r PU with⟨rfl,hs,hU⟩|⟨rfl,hs,hU⟩|⟨rfl,hs,h1,h2,hU⟩|⟨rfl,hs,h2,hU⟩|⟨rfl,hs,h1,h2,hU⟩
     all_goals
      have x:=bB (HU.o.trans hU);dsimp only at hs;try dsimp only at h1
      try dsimp only at h2
      go_wp2_with(at_builtin;first
       |(refine pQ rfl _ _ rfl underlying91 mR rfl (by omega) (by omega) (v:=pA (bA ⟨g7,0,aA⟩) (yA r+1) F) rfl u.o rfl rfl rfl (by simp[iA.oneCell']) (by omega) (by omega) ?_;intro g8 cap8 w8 HR8 HT8)
       |(refine pQ rfl _ _ rfl underlying91 mR rfl (by omega) (by omega) (v:=pA va (yA r) vc) rfl (hC HR.o zB) rfl (by simp) rfl (by simp[iA.oneCell']) (by omega) (by simp;omega) ?_;intro g7 F w7 u z;have hs7:t.1.size<=w7.1.size:=(by have:=z.o.size;simp at this;omega);have r0:=(z.o.blk (nB.new wr #[oA p.s,lA mA p.n] 96) (λe=>by have:=(HR.o.lt _ e.2).2;omega)).c2))
      first
       |(have q:=HR8;exact⟨⟨k+1,bA ⟨g8,0,aA⟩,cap8,r++[⟨h,j⟩]++[p],by omega,by go_num,by simp,by rw[x.o],by simp;omega,bB (by rw[x.o]),bB (by simpa[flatK]using HR8.o),bB (o.o.trans ((zB.mono O).trans ((z.o.below (by simp;omega) λi hi e=>by omega).trans (HT8.o.below hs7 λi hi e=>by omega))))⟩,by simp[intOf];omega⟩)
       |(have q:=u;have q:(p.s.toList==h.toList)=cA:=hs;exact⟨⟨k+1,bA ⟨g7,0,aA⟩,F,r++[p],by omega,by go_num,by simp,by rw[x.o],by simp;omega,bB (by rw[x.o]),bB (by simpa[flatK]using u.o),bB (o.o.trans ((zB.mono O).trans (z.o.below (by simp;omega) λi hi e=>by omega)))⟩,by simp[intOf];omega⟩)
       |(have q:=u;exact⟨⟨k+1,bA ⟨g7,0,aA⟩,F,r++[⟨h,j⟩],by omega,by go_num,by simp,by rw[x.o],by simp;omega,bB (by rw[x.o]),bB (by simpa[flatK]using u.o),bB (o.o.trans ((zB.mono O).trans (z.o.below (by simp;omega) λi hi e=>by omega)))⟩,by simp[intOf];omega⟩)
       |exact⟨⟨k+1,va,vc,r,by omega,by go_num,rfl,by rw[x.o],by omega,bB (by rw[x.o]),hC HR.o zB,o.o.trans (zB.mono O)⟩,by simp[intOf];omega⟩
    have ek:m.M.take k=m.M:=Ra (by omega);rw[ek]at S |-
    have HWA:cB (kr ⟨h,j⟩ b0 m.M=(sY ⟨h,j⟩ b0 m.M).1++if (sY ⟨h,j⟩ b0 m.M).2=dA then [] else [(⟨h,j⟩:kB)]):=rfl;have hle:=HLE.o b0;rw[HWA.o,Kb]at hle;generalize sY ⟨h,j⟩ b0 m.M=U at *;obtain⟨LU,PU⟩:=U;have hy:r=LU:=S.o;subst hy;have hyl2:yA r<=1900001:=by have:yA r<=yA m.M+1:=Ua (Nat.le_add_right _ _) hle;omega
    obtain⟨-,-,g2,-⟩:=(Q.o.z o.o).c4;have d:=(Q.o.z o.o).free;cases PU
    all_goals
     go_wp2_with(at_builtin;refine pQ rfl _ _ rfl underlying91 mR rfl (by omega) (by omega) (v:=pA va (yA r) vc) rfl HR.o rfl rfl rfl (by simp[iA.oneCell']) (by omega) O ?_;intro g7 F w7 u z;have HB7:=bB (o.o.trans (z.o.below O λi hi e=>by omega));obtain⟨-,-,g2,-⟩:=(Q.o.z HB7.o).c4;have d:=(Q.o.z HB7.o).free);go_meet;first
      |(have q:=u;exact⟨m.L,r++[⟨h,j⟩],_,_,_,by simp,by rw[HLA.o,HWA.o];simp,by simp at hle |-;omega,wk (by simp) P.o Q.o hXP K.o HB7.o (by simpa[flatK]using u.o)⟩)
      |exact⟨m.L,r,_,_,_,rfl,by rw[HLA.o,HWA.o];simp,hyl2,wk rfl P.o Q.o hXP K.o o.o HR.o⟩
 obtain⟨L,ms,n1,p1,d1,rfl,hT,hml1,N,hp1,hp2,hP⟩:=hcut;rename eA=>w7;have P:=bB hP;have HPP:=bB (Vc hp1 hp2);rw[hT]at HV;have m0:=N.c4;obtain⟨x0,x1,x2,x3,x4,x5,y0,y1,-,-,-,-,hz⟩:=hP.cells;go_wp2_with fail;refine(H.o.wi _ L ms m.Z p1 q2 d1 e2 P.o.B HPP.o.1 HPP.o.2 ⟨by show yA ms<=_;omega,H.o.fit.2⟩).mono ?_;rintro e w8 ⟨ra,rc,rfl,ho8,hb8⟩;generalize aE c.w l (fC (·.N) ⟨m.N,L,ms,m.Z⟩ Z)=RL at *;have x0:=(P.o.z hb8).cells;have P8:=bB ((P.o.z hb8).z (wF w8 (vA #[lA mA l,pA ra (yA RL) rc] 40)));have HO8:=bB (ho8.z (wF w8 (vA #[lA mA l,pA ra (yA RL) rc] 40)));have a0:=(nB.new w8 #[lA mA l,pA ra (yA RL) rc] 40).c2;by_cases hgt:10000<yA RL
 .have E:cB (V=(l,Z,cA)):=by show _=_;rw[HV.o,Ma hgt]
  have hgi:(10000:Int)<yA RL:=by omega
  go_upto_region 24 with fail;generalize w8.alloc (vA #[lA mA l,pA ra (yA RL) rc] 40)=wA at *;obtain⟨x0,x1,x2,x3,x4,x5,y0,y1,-,-,-,-,-⟩:=P8.o.cells;go_wp2_with(go_at_call 107;refine(H.o.sm _ P8.o.B).mono ?_;rintro e w9 ⟨ra9,rc9,rfl,ho,hb⟩;have P9:=bB (P8.o.z hb);have HO9:=bB ho;obtain⟨-,-,-,-,-,-,-,-,z0,z1,g0,g1,hz9⟩:=P9.o.cells);refine bodyPost_ret (v:=?_) (by simp[results,results58,go_sem,z0,z1];rfl) rfl ?_;rw[E.o];first
   |exact⟨ra9,⟨rc9,rfl⟩,P9.o.done HO9.o P8.o.lt⟩
   |exact⟨ra9,rc9,rfl,P9.o.done HO9.o P8.o.lt⟩
 have E:cB (V=(l,RL,dA)):=by show _=_;rw[HV.o,Ja hgt]
 have hgi:¬((10000:Int)<yA RL):=by omega
 go_upto_region 25 with fail;generalize w8.alloc (vA #[lA mA l,pA ra (yA RL) rc] 40)=wA at *;obtain⟨-,-,-,-,-,-,-,-,z0,z1,g0,g1,hz9⟩:=P8.o.cells;go_wp2;refine bodyPost_ret (v:=?_) (by simp[results,results58,go_sem,z0,z1];rfl) rfl ?_;rw[E.o];first
  |exact⟨ra,⟨rc,rfl⟩,P8.o.done HO8.o hz⟩
  |exact⟨ra,rc,rfl,P8.o.done HO8.o hz⟩
def wW(c:iC)(g:Int)(a:mC)(j:Nat)(h:List fB)(d b:jB)(f:Int)(w:eA)(n:xC w a h)(k:yA h+cC h<=1900000)(p:d.size<=1900000)(o:b.size<=1900000)(l:nC c g h=dA):
 gA prog 58 #[rE c,tA #[zA g,pA a (yA h) j],oA d,oA b,zA f] w λe q=>xU (vS c g h d b f) w e q:=by
 by_cases m:(bD d&&(b.toList.isEmpty||bF b) &&bC f (-1) 1000000)=cA
 .rw[show vS c g h d b f=(g,h,cA) by unfold vS;rw[Ja (by rw[l];simp),Ma m]];exact NS c g a j h d b f w n k p o l m
 have i:(bD d=dA/\(b.toList.isEmpty=dA\/bF b=dA))/\bC f (-1) 1000000=dA:=by simpa only[Bool.not_eq_false,Sa,Fe]using m
 refine NR (aLy n k p l i.1.1) o ?_ i.2 (by show _=_;unfold vS;rw[Ja (by rw[l];simp),Ja m]);cases he:b.toList.isEmpty
 .exact La ⟨rfl,i.1.2.resolve_left (by rw[he];simp)⟩
 exact Ca rfl
def aCv(X b:Nat):wrap64 (wrap64 ((X:Int)*256)+(b:Int))=tR (X*256+b):=by
 rw[TO];unfold wrap64;split<;>omega
def de(s:jB)(p n:Nat)(w:eA)(m:s.size<=maxLen)(h:p+n<=s.size)(u:n<=8):
 rL 171 #[oA s,zA p,zA n] w (zA (tR (jT (aI s p n)))):=by
 unfold maxLen at m;go_enter func171,ntmps171;go_wp2;go_loop [7,8] (λv i=>∃(k V:Nat)(Z:Int),k<=n/\i=zA k/\v=zA Z/\cB (Z=tR V)/\cB (V=jT (aI s p k))) (λ_ i=>n-(intOf i).toNat)
 case atStart=>exact⟨0,0,0,Oa _,rfl,rfl,by show _=_;rw[nI (by omega)];rfl,rfl⟩
 case round=>
  obtain⟨k,V,Z,t,rfl,rfl,c,a⟩:=hrel;by_cases l:k<n
  .have f:V<72057594037927936:=by
    have d:=DR (aI s p k);rw[tS (by omega),<-a.o]at d;have q:256 ^ k<=256 ^ 7:=Sc (by omega) (by omega);omega
   obtain rfl:Z=(V:Int):=by rw[c.o,nI (by omega)]
   have g:(0:Int)<=(p:Int)+(k:Int):=by omega
   have j:(p:Int)+(k:Int)<(s.size:Int):=by omega
   have b:p+k<s.size:=by omega
   have r:=s[p+k].toNat_lt;have h:=aCv V s[p+k].toNat;go_wp2;refine⟨⟨k+1,V*256+s[p+k].toNat,tR (V*256+s[p+k].toNat),by omega,by go_num,?_,rfl,by show _=_;rw[SP b,FY,a.o]⟩,by simp[intOf];omega⟩;exact Kd (iA.int .i64) h
  .go_wp2;go_ret;have e:k=n:=by omega
   subst e;exact⟨uF (by rw[c.o,a.o]),rfl⟩
def aGv{a b:Int}{c d:Int}(e:a=b)(f:c=d):Ending.returned (xA #[zA a,zA c])=.returned (xA #[zA b,zA d]):=by rw[e,f]
def nU{s:jB}{p n:Nat}{v:Int}(h:FN s p (pB n v))(f:n<=8)(d:tR (jT (pB n v).data.toList)=v)(j:s.size<=1000000)(w:eA):
 rL 100 #[oA s,zA (p:Nat),zA (n:Nat)] w (xA #[zA v,zA ((p+n:Nat):Int)]):=by
 have c:=h.le;have a:=h.sect;rw[gB]at c a;have b:=bB (λW=>de s p n W (by unfold maxLen;omega) c f);rw[a,d]at b;have i:¬((p:Int)+(n:Int) > (s.size:Int)):=by omega
 clear a d h;go_enter func100,ntmps100;go_wp2_with fail;refine tD (b.o _) ?_;go_wp2;go_ret2;exact⟨aGv rfl (by omega),rfl⟩
def kV{s t:jB}{p n:Nat}(h:FN s p (pB n (t.size:Nat)++t))(a:n<=2)(b:t.size<256 ^ n)(d:s.size<=1000000)(w:eA):
 rL 101 #[oA s,zA (p:Nat),zA (n:Nat)] w (xA #[oA t,zA ((p+n+t.size:Nat):Int)]):=yQ s p n t _ w (by omega) a (h.part b)
def lZ{n v:Nat}(h:v<256 ^ n)(a:v<9223372036854775808):tR (jT (pB n (v:Nat)).data.toList)=v:=by rw[qQ n v h,nI a]
def uE(l:List zI)(k:Nat):Nat:=if 2*k+2<yA l/\(nD l (2*k+2)).t<(nD l (2*k+1)).t then 2*k+2 else 2*k+1
def uL(l:List zI)(k:Nat):uE l k=2*k+1\/uE l k=2*k+2:=by
 unfold uE;split;exact La rfl;exact Ca rfl
def FZ{l:List zI}{k i:Nat}(a:0<i)(b:i<yA l)(c:(i-1) / 2=k):uE l k<yA l/\(nD l (uE l k)).t<=(nD l i).t:=by grind [uE,nD]
def fZ(l:List zI)(k:Nat):Prop:=(∀i,0<i->i<yA l->(i-1) / 2≠k->(nD l ((i-1) / 2)).t<=(nD l i).t)/\∀i,0<i->i<yA l->(i-1) / 2=k->0<k->(nD l ((k-1) / 2)).t<=(nD l i).t
def fZ.done{l:List zI}{k:Nat}(h:fZ l k)(f:¬(uE l k<yA l/\(nD l (uE l k)).t<(nD l k).t)):uJ l:=by
 intro i a b;by_cases e:(i-1) / 2=k
 .obtain ⟨d,g⟩:=FZ a b e;rw[e];have:¬(nD l (uE l k)).t<(nD l k).t:=λc=>f ⟨d,c⟩;omega
 exact h.1 i a b e
def fZ.step{l:List zI}{k:Nat}(h:fZ l k)(g:uE l k<yA l)(s:(nD l (uE l k)).t<(nD l k).t):fZ (eH l k (uE l k)) (uE l k):=by
 have u:=uL l k;have b:∀i,0<i->i<yA l->(i-1) / 2=k->(nD l (uE l k)).t<=(nD l i).t:=λi r d e=>(FZ r d e).2;generalize uE l k=c at *;have f:(c-1) / 2=k:=by omega
 have m:k<yA l:=by omega
 refine⟨λi a d n=>?_,λi a d o _=>?_⟩
 .rw[pD]at d;rw[gJ m g,gJ m g,Ja n];by_cases p:i=c
  .subst p;rw[Ma rfl,Ma f];omega
  rw[Ja p];by_cases j:(i-1) / 2=k
  .rw[Ma j,Ja (by omega:i≠k)];exact b i a d j
  rw[Ja j];by_cases q:i=k
  .subst q;rw[Ma rfl];exact h.2 c (by omega) g f a
  rw[Ja q];exact h.1 i a d j
 rw[pD]at d;rw[gJ m g,gJ m g,f,Ja (by omega:k≠c),Ma rfl,Ja (by omega:i≠c),Ja (by omega:i≠k)];have:=h.1 i a d (by omega);rw[o]at this;exact this
def yN:Nat->List zI->Nat->List zI
 |0,l,_=>l
 |n+1,l,k=>if uE l k<yA l/\(nD l (uE l k)).t<(nD l k).t then yN n (eH l k (uE l k)) (uE l k) else l
def IU:∀(n m k:Nat)(l:List zI),yA l-k<=n->yA l-k<=m->yN n l k=yN m l k
 |0,0,_,_,_,_=>rfl
 |0,m+1,k,l,b,_=>by
  have:=uL l k;rw[yN,yN,Ja λh=>by omega]
 |n+1,0,k,l,_,a=>by
  have:=uL l k;rw[yN,yN,Ja λh=>by omega]
 |n+1,m+1,k,l,b,a=>by
  have c:=uL l k;rw[yN,yN];by_cases h:uE l k<yA l/\(nD l (uE l k)).t<(nD l k).t
  .rw[Ma h,Ma h];exact IU n m _ _ (by rw[pD];omega) (by rw[pD];omega)
  rw[Ja h,Ja h]
def kP(l:List zI)(k:Nat):List zI:=yN (yA l-k) l k
def YK{l:List zI}{k:Nat}(h:uE l k<yA l/\(nD l (uE l k)).t<(nD l k).t):kP l k=kP (eH l k (uE l k)) (uE l k):=by
 have b:=uL l k;obtain⟨n,a⟩:∃n,yA l-k=n+1:=⟨yA l-k-1,by have:=h.1;omega⟩
 unfold kP;rw[a,yN,Ma h];exact IU _ _ _ _ (by rw[pD];omega) (by rw[pD];omega)
def EZ{l:List zI}{k:Nat}(h:¬(uE l k<yA l/\(nD l (uE l k)).t<(nD l k).t)):kP l k=l:=by
 unfold kP;cases yA l-k with
 |zero=>rfl
 |succ n=>rw[yN,Ja h]
def MM:∀(n k:Nat)(l:List zI),yA l-k<=n->k<=yA l->fZ l k->uJ (kP l k)/\(kP l k).Perm l/\yA (kP l k)=yA l
 |0,k,l,g,f,h=>by
  have e:¬(uE l k<yA l/\(nD l (uE l k)).t<(nD l k).t):=λd=>by
   have:=uL l k;have:=d.1;omega
  rw[EZ e];exact⟨h.done e,Lf _,rfl⟩
 |n+1,k,l,g,f,h=>by
  by_cases d:uE l k<yA l/\(nD l (uE l k)).t<(nD l k).t
  .have i:=uL l k;rw[YK d];obtain⟨a,b,c⟩:=MM n (uE l k) (eH l k (uE l k)) (by rw[pD];have:=d.1;omega) (by rw[pD];have:=d.1;omega) (h.step d.1 d.2);exact⟨a,b.trans (FC (by have:=d.1;omega) d.1),c.trans (pD _ _ _)⟩
  rw[EZ d];exact⟨h.done d,Lf _,rfl⟩
def ND(l:List zI):List zI:=(eH l 0 (yA l-1)).take (yA l-1)
def pP(l:List zI):List zI:=kP (ND l) 0
theorem LC(l:List zI):yA (ND l)=yA l-1:=by simp[ND,pD]
theorem aEe{l:List zI}(h:0<yA l){i:Nat}(a:i<yA l-1):nD (ND l) i=if i=0 then nD l (yA l-1) else nD l i:=by grind [nD,ND,eH,gJ]
def aIw{l:List zI}(h:uJ l)(a:0<yA l):fZ (ND l) 0:=by grind [uJ,fZ,ND,LC,aEe]
def zb{l:List zI}(h:0<yA l):(nD l 0::ND l).Perm l:=by
 have c:=FC (l:=l) (i:=0) (j:=yA l-1) h (by omega);have d:(eH l 0 (yA l-1)).length=yA l:=pD _ _ _;have a:(eH l 0 (yA l-1)).drop (yA l-1)=[nD l 0]:=by
  have b:yA l-1<(eH l 0 (yA l-1)).length:=by omega
  rw[Cb b,<-GN b,gJ h (by omega),Ma rfl,Ie (by omega)]
 have e:ND l++[nD l 0]=eH l 0 (yA l-1):=by rw[<-a];exact Za _ _
 exact(List.perm_append_singleton (nD l 0) (ND l)).symm.trans (e ▸ c)
def gQ{l:List zI}(h:uJ l)(d:0<yA l):uJ (pP l)/\(nD l 0::pP l).Perm l/\yA (pP l)=yA l-1:=by
 obtain⟨a,b,c⟩:=MM (yA (ND l)) 0 (ND l) (by omega) (Oa _) (aIw h d);exact⟨a,(b.cons _).trans (zb d),c.trans (LC l)⟩
def ij{l:List zI}(h:uJ l):∀(n i:Nat),i<=n->i<yA l->(nD l 0).t<=(nD l i).t
 |0,i,b,_=>by
  obtain rfl:i=0:=by omega
  exact Xd _
 |n+1,i,b,a=>by
  by_cases e:i=0
  .subst e;exact Xd _
  exact Int.le_trans (ij h n ((i-1) / 2) (by omega) (by omega)) (h i (by omega) a)
def aOo{l:List zI}(h:uJ l){x:zI}(b:x∈l):(nD l 0).t<=x.t:=by
 obtain⟨i,a,rfl⟩:=Ib b;have:=ij h i i (Ia _) a;rw[GN a]at this;exact this
def tH.take{w:eA}{g cap n:Nat}{hs:List zI}(h:tH w g cap hs)(m:n<=yA hs):tH w g cap (hs.take n):=by
 obtain⟨a,b,c,j,d,f⟩:=h;refine⟨a,b,c,by rw[Hb];omega,d,λk i=>?_⟩;rw[Hb]at i;have e:nD (hs.take n) k=nD hs k:=by simp[nD,List.getD,Jb (show k<n by omega)]
 rw[e];exact f k (by omega)
def QM(x o g n cap k:Nat)(a:List zI)(w:eA)(s:w.cell? (dB x o)=bA (pA (yB g) n cap))(m:n=yA a)(j:tH w g cap a)(Q:k<=1000000000):
 dF 346 #[sA (bA (dB x o)),zA k] w (zA (uE a k:Nat)):=by
 have f:cB (uE a k=if 2*k+2<yA a/\(nD a (2*k+2)).t<(nD a (2*k+1)).t then 2*k+2 else 2*k+1):=rfl;obtain⟨r,d⟩:∃r,r=2*k+2:=⟨_,rfl⟩
 obtain⟨q,c⟩:∃q,q=2*k+1:=⟨_,rfl⟩
 rw[<-d,<-c]at f;have S:2*(k:Int)+2=(r:Nat):=by omega
 have R:2*(k:Int)+1=(q:Nat):=by omega
 have O:r<=2000000002:=by omega
 have M:q<=2000000001:=by omega
 have E:=kC.cells s;have b:=kC.there w;clear d c;by_cases F:r<n
 .obtain ⟨v,z,_,_⟩:=j.cells (k:=r) (by omega);obtain⟨B,D,_,_⟩:=j.cells (k:=q) (by omega);have I:=kC.cells v;have J:=kC.cells z;have K:=kC.cells B;have L:=kC.cells D;have G:cB _:=m;clear v z B D s j m;generalize uE a k=u at *;generalize nD a r=A at *;generalize nD a q=C at *;have N:q<n:=by omega
  go_enter func346,ntmps346;go_wp2_with fail;refine wB (by kernel_rfl) (by kernel_rfl) ?_;repeat (go_big_quiet_step (fail))
  refine bR (by rfl) (λW=>uZ _ _ _ _ _ _ rfl rfl rfl (zX _ _ W)) (by rintro _ ⟨x,rfl⟩;exact oC (DT _ _ _ _ _)) ?_;simp only[Act.put,Ud,Jd,Ze];repeat (go_big_quiet_step (fail))
  refine wpQuiet_nil ?_;rintro _ ⟨y,rfl⟩;have p:cB _:=y.h;generalize y.w'=H at *;have i:cB (u=if decide (A.t<C.t)=dA then r else q):=by show _=_;rw[f.o];simp only[Ab,<-G.o,F,true_and]
  cases hd:decide (A.t<C.t)
  all_goals
   rw[hd]at i;go_wp2;go_ret;exact⟨uF (by rw[i.o];rfl),p.o⟩
 have i:cB (uE a k=q):=by show _=_;rw[f.o,Ja (λh=>F (by rw[m];exact h.1))]
 clear s j m f;generalize uE a k=u at *;go_enter func346,ntmps346;go_wp2_with fail;refine wB (by kernel_rfl) (by kernel_rfl) ?_;repeat (go_big_quiet_step (fail))
 refine wpQuiet_nil ?_;rintro _ ⟨y,rfl⟩;have p:cB _:=y.h;generalize y.w'=H at *;go_wp2;go_ret;exact⟨uF (by rw[i.o]),p.o⟩
structure PI(w W:World)(x g cap q:Nat)(cx:Array Value)(tx:TypeId)(l:List zI)(TP:zI):Prop where
 X:nB W x cx tx
 M:tH W g cap l
 P:nB W w.1.size #[sA aA,zA 0] 334
 Q:nB W q #[.pointer (yB TP.b),zA TP.t] 334
 T:eB (λk=>k=x∨k=g) w W
section
variable {w W W':eA} {x g cap q:Nat} {cx:Array iA} {tx:TypeId} {l l':List zI} {TP:zI}
theorem PI.z(h:PI w W x g cap q cx tx l TP)(a:uB W W'):PI w W' x g cap q cx tx l TP:=⟨h.X.z a,h.M.z a,h.P.z a,h.Q.z a,h.T.trans' (eB.of a)⟩
theorem PI.but(h:PI w W x g cap q cx tx l TP)(c:tH W' g cap l')(a:qD g W W')(b:g≠x)(d:g<w.1.size)(f:g<q):PI w W' x g cap q cx tx l' TP:=⟨h.X.but a b.symm,c,h.P.but a (by omega),h.Q.but a (by omega),h.T.trans' ((eB.but a).mono λi _ e=>La e)⟩
end
def aKl(x o g cap:Nat)(f:List zI)(w:eA)(cx:Array iA)(tx:TypeId)(G:nB w x cx tx)(J:cx[o]?=bA (pA (yB g) (yA f) cap))(P:tH w g cap f)(q:g≠x)(t:0<yA f)(h:yA f<=1000000000):
 gA prog 320 #[sA (bA (dB x o))] w λe w'=>e=.returned (tA #[.pointer (yB ((nD f 0).b)),zA (nD f 0).t])/\nB w' x (cx.setIfInBounds o (pA (yB g) (yA f-1) cap)) tx/\tH w' g cap (pP f)/\eB (λk=>k=x\/k=g) w w':=by
 obtain⟨d,I⟩:∃d,d=yA f-1:=⟨_,rfl⟩
 have h:(yA f:Int)-1=(d:Nat):=by omega
 have h:d<yA f:=by omega
 have M:yA f=d+1:=by omega
 have M:yA f<=cap:=by obtain⟨N,_,_,M,_⟩:=P;exact M
 have M:d<=cap:=by omega
 have T:=P.lt;have X:=aB G;have M:cB (pP f=kP ((eH f 0 d).take d) 0):=by show _=_;rw[I];rfl
 have U:cB (nD (eH f 0 d) d=nD f 0):=by show _=_;rw[gJ t h,Ma rfl]
 have S:cB (∀W,uB w W->gA prog 298 #[sA (bA (dB x o)),zA 0,zA d] W λe w'=>e=.returned (xA #[])/\tH w' g cap (eH f 0 d)/\qD g W w'):=λW O=>by
  have:=TD x o g (yA f) cap 0 d f W (by rw[(G.z O).cell];exact J) rfl (P.z O) t h;simpa using this
 have c0:w.cell? (dB x o)=bA (pA (yB g) (yA f) cap):=by rw[G.cell];exact J
 have t:=(Vb.1 J).1;obtain⟨F,O⟩:∃c,c=cx.setIfInBounds o (pA (yB g) d cap):=⟨_,rfl⟩
 have Y:F[o]?=bA (pA (yB g) d cap):=by rw[O];simp[t]
 have HX:=bB G;have HO:cB _:=J;rw[<-I,<-O];have Z:cB _:=O;have HFC:cB _:=fun(k:Nat)(l:List zI)(W:eA)(Q:nB W x F tx)(hm:tH W g cap l)(t:yA l=d)(hk:k<=1000000000)=>QM x o g d cap k l W (by rw[Q.cell];exact Y) t.symm hm hk;have HSW:cB _:=fun(i:Nat)(j:Nat)(l:List zI)(W:eA)(Q:nB W x F tx)(hm:tH W g cap l)(t:yA l=d)(hi:i<d)(hj:j<d)=>TD x o g d cap i j l W (by rw[Q.cell];exact Y) t.symm hm hi hj;generalize hpl:pP f=Q at *;generalize htp:nD f 0=TP at *;clear G J P O I hpl htp;have I:cB (uB w (w.alloc (vA #[sA aA,zA 0] 334))):=zB;have P0:cB (nB (w.alloc (vA #[sA aA,zA 0] 334)) w.1.size #[sA aA,zA 0] 334):=nB.new _ _ _;have G:=(I.o.cell X).trans c0;go_enter func320,ntmps320;go_wp2_with fail;apply lC (S.o _ I.o);rintro n ⟨J,G⟩;have P:=bB J;have O:=G.size;have O:(w.alloc (vA #[sA aA,zA 0] 334)).1.size=w.1.size+1:=by simp
 have O:cB (nB n x cx tx):=(HX.o.z I.o).but G q.symm;have P1:cB (nB n w.1.size #[sA aA,zA 0] 334):=P0.o.but G (by omega);have T1:cB (eB (λk=>k=x\/k=g) w n):=(eB.of I.o).trans' ((eB.but G).mono λi _ e=>La e);have G:w.1.size+1<=n.1.size:=by omega
 obtain⟨X,a1,_,_⟩:=J.cells (k:=d) (by rw[pD];exact h);rw[U.o]at X a1;have h:n.cell? (dB x o)=bA (pA (yB g) (yA f) cap):=by rw[O.o.cell];exact HO.o
 obtain⟨h,J⟩:∃h,h=n.alloc (vA #[.pointer (yB TP.b),zA TP.t] 334):=⟨_,rfl⟩
 have m:uB n h:=by rw[J];exact zB
 have I:n.1.size<h.1.size:=by rw[J];simp
 have U:=((O.o.z m).cell o).trans HO.o;have fa:=(O.o.z m).free o;have D:eB (·=x) h (h.setCell (dB x o) (pA (yB g) d cap)):=(eB.refl (·=x) _).setCell (Ca rfl) o _;have G:cB (PI w (h.setCell (dB x o) (pA (yB g) d cap)) x g cap n.1.size F tx ((eH f 0 d).take d) TP):=by
  obtain⟨N,h,m2⟩:=P.o.z m;exact⟨by rw[Z.o];exact(O.o.z m).set o _,tH.take (hs:=eH f 0 d) ⟨N,D.blk h q,m2⟩ (by rw[pD];omega),D.blk (P1.o.z m) (by omega),D.blk (by rw[J];exact nB.new _ _ _) (by omega),(T1.o.trans' (eB.of m)).trans' (D.mono λi _ e=>Ca e)⟩
 have h:cB (yA ((eH f 0 d).take d)=d):=by show _=_;rw[Hb,pD];omega
 generalize (eH f 0 d).take d=O at *;rw[J]at U fa I G;go_wp2;generalize ((n.alloc (vA #[.pointer (yB TP.b),zA TP.t] 334)).setCell (dB x o) (pA (yB g) d cap))=w2 at *;go_loopw [5] (λa wr=>∃(k:Nat)(l:List zI),a=zA k/\k<=d/\yA l=d/\cB (Q=kP l k)/\cB (PI w wr x g cap n.1.size F tx l TP)) (λa _=>d-(intOf a).toNat)
 case atStart=>exact⟨0,O,rfl,Oa _,h.o,M.o,G.o⟩
 case round=>
  obtain⟨k,l,rfl,hk,t,B,h⟩:=hrel;have G:=bB t;have I:=uL l k;have K:cB (uE l k<yA l->(nD l (uE l k)).t<(nD l k).t->kP l k=kP (eH l k (uE l k)) (uE l k)):=λa b=>YK ⟨a,b⟩;have s:=bB (EZ (l:=l) (k:=k));have R:=bB (HFC.o k l wr h.o.X h.o.M t (by omega));generalize t:uE l k=E at *;go_wp2_with fail;apply lC R.o;intro J t;have Z:=bB (h.o.z t);have h:J.cell? (dB x o)=bA (pA (yB g) d cap):=by rw[Z.o.X.cell];exact Y
  have t:=kC.cells h;have Y:=kC.there J;by_cases h:d<=E
  case' pos=>
   have L:cB (Q=l):=by show _=_;rw[B.o];exact s.o (λh=>by have:=G.o;omega)
   have t:¬((E:Int)<d):=by omega
   go_wp2_with fail;refine wB (by kernel_rfl) (by kernel_rfl) ?_;repeat (go_big_quiet_step (fail))
   refine wpQuiet_nil ?_;rintro _ ⟨y,rfl⟩;have p:=bB (Z.o.z y.h);generalize y.w'=V at *
  case' neg=>
   have H:E<d:=by omega
   have t:k<d:=by omega
   obtain⟨X,a1,_,_⟩:=Z.o.M.cells (k:=E) (by rw[G.o];exact H);obtain⟨J,M,_,_⟩:=Z.o.M.cells (k:=k) (by rw[G.o];exact t);have O:=kC.cells X;have O:=kC.cells a1;have O:=kC.cells J;have J:=kC.cells M;have u:=bB (λW J I=>HSW.o k E l W J I G.o t H);generalize nD l E=A at *;generalize nD l k=C at *;go_wp2_with fail;refine wB (by kernel_rfl) (by kernel_rfl) ?_;repeat (go_big_quiet_step (fail))
   refine bR (by rfl) (λW=>uZ _ _ _ _ _ _ rfl rfl rfl (zX _ _ W)) (by rintro _ ⟨x,rfl⟩;exact oC (DT _ _ _ _ _)) ?_;simp only[Act.put,Ud,Jd,Ze];repeat (go_big_quiet_step (fail))
   refine wpQuiet_nil ?_;rintro _ ⟨y,rfl⟩;have p:=bB (Z.o.z y.h);generalize y.w'=V at *;by_cases r:A.t<C.t
   .have t:decide (A.t<C.t)=dA:=by simpa using r
    rw[t];have L:cB (Q=kP (eH l k E) E):=by show _=_;rw[B.o];exact K.o (by rw[G.o];exact H) r
    have M:k<E:=by omega
    go_wp2_with fail;apply lC (u.o _ p.o.X p.o.M);rintro w4 ⟨M,O⟩;have P:=bB (p.o.but M O q T (by omega));go_wp2;exact⟨⟨E,eH l k E,rfl,by omega,by rw[pD];exact G.o,L.o,P.o⟩,by simp[intOf];omega⟩
   have t:decide (A.t<C.t)=cA:=by simpa using r
   rw[t];have L:cB (Q=l):=by show _=_;rw[B.o];exact s.o (λh=>r h.2)
  all_goals
   have h:V.cell? (dB w.1.size 0)=bA (sA aA):=p.o.P.cell 0;have q:V.cell? (dB w.1.size 1)=bA (zA 0):=p.o.P.cell 1;have t:=p.o.P.free 0;have t:=p.o.P.free 1;have t:V.cell? (dB n.1.size 0)=bA (.pointer (yB TP.b)):=p.o.Q.cell 0;have t:V.cell? (dB n.1.size 1)=bA (zA TP.t):=p.o.Q.cell 1;go_wp2;have z:eB (·=w.1.size) V ((V.setCell (dB w.1.size 0) (.pointer (yB TP.b))).setCell (dB w.1.size 1) (zA TP.t)):=((eB.refl (·=w.1.size) V).setCell (Ca rfl) 0 _).setCell (Ca rfl) 1 _;refine bodyPost_ret (v:=tA #[.pointer (yB TP.b),zA TP.t]) (by simp[results,results320,go_sem,h,q]) rfl ⟨rfl,z.blk p.o.X (by omega),?_,p.o.T.trans (z.mono λi _ e=>La (by omega))⟩;rw[L.o];obtain⟨N,J,I⟩:=p.o.M;exact⟨N,z.blk J (by omega),I⟩
