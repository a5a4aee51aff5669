import Derived.Test.YtiegonaogehghaaGreatDoorJ28
set_option maxRecDepth 100000
set_option maxHeartbeats 16000000
set_option linter.defProp false
open Option renaming none->aA,some->bA
open Bool renaming false->cA,true->dA
open List renaming length->yA
namespace Go.Proofs.YtiegonaogehghaaGreatDoor
open Go renaming World->eA,Value->iA,Calls->gA
open Value renaming slice->pA,string->oA,agg->tA,int->lA,pointer->sA,tuple->xA
open Obj renaming cells->vA
open IntKind renaming i64->mA
open Go.RowKit Tryz
def bd{y:Array Oper}{b:List Oper}{o:Oper}{a:Act}{Q:Exit->Act->eA->Prop}{w:eA}(l:o.guard=aA)(s x:Operand)(E:o.op=.call { callee:=.builtin .append,args:=#[s,x],argTypes:=#[52,52] }){B k n j:Nat}{u:List iA}(G:a.eval s=pA (pB k) n j)(F:w.ownsRow B 58 2 (pA (pB k) n j) n u)
{i:jC}{m v:Nat}(f:List iB)(H:a.eval x=pA i m v)(D:yA f=m)(d:dS w i m (flatK f))(J:n+m<=4000000)(C:B<=w.1.size)
(h:∀g cap e,bB (e.ownsRow B 58 2 (pA (pB g) (n+m) cap) (n+m) (u++flatK f))->bB (Below B w e)->wpList prog y Q b (a.put o.dst (pA (pB g) (n+m) cap)) e):wpList prog y Q (o::b) a w:=by
 obtain⟨I,p,q,r,t⟩:=info_parts ER;exact DE _ l s x _ E B 58 I _ 2 24 underlying52 p q r t rfl (by omega) k n j u G F i m v (flatK f) H (by rw[aM,D]) d (sP _) (by simp[maxLen];omega) (by omega) C λg cap e z A _ _ _ _=>h g cap e z A
def aFt{l:Array Oper}{b:List Oper}{o:Oper}{a:Act}{Q:Exit->Act->eA->Prop}{w:eA}(i:o.guard=aA)(s x:Operand)(t:o.op=.call { callee:=.builtin .append,args:=#[s,x],argTypes:=#[52,52] })(u:a.eval s=pA (pB w.1.size) 0 0){j:jC}{m p:Nat}(f:List iB)(v:a.eval x=pA j m p)(r:yA f=m)(d:dS (w.alloc (vA #[] 58)) j m (flatK f))(y:m<=4000000)
(h:∀g cap e,bB (e.ownsRow w.1.size 58 2 (pA (pB g) m cap) m (flatK f))->bB (tB w e)->wpList prog l Q b (a.put o.dst (pA (pB g) m cap)) e):wpList prog l Q (o::b) a (w.alloc (vA #[] 58)):=by
 refine bd i s x t (B:=w.1.size) u (eA.ownsRow_made w #[] 0 (Ia _) (by simp[maxLen]) (by simp)) f v r d (by omega) yB.size λg cap e k q=>?_;rw[Ya]at k |-
 exact h g cap e k (yB.trans q.o)
structure AB(wv W:World)(X M:Nat)(q1:jC)(e1:Nat)(q2:jC)(e2:Nat)(tn:fB):Prop where
 X:gB W X #[oA tn.N,zA tn.L,pA q1 (yA tn.M) e1,pA q2 (yA tn.Z) e2] 54
 P:eD W wv.1.size q1 tn.M
 R:W.ownsRow M 58 2 (pA q2 (yA tn.Z) e2) (yA tn.Z) (flatK tn.Z)
section
variable {w wv W W':eA} {X M e1 e2 n cap:Nat} {q1 q2 a:jC} {tn:fB} {c:gC} {now:Int} {key:nB}
theorem AB.z(h:AB wv W X M q1 e1 q2 e2 tn)(b:tB W W'):AB wv W' X M q1 e1 q2 e2 tn:=⟨h.X.z b,h.P.z b,eC h.R b⟩
theorem aGe{g k:Nat}(A:AB wv W X M q1 e1 (pB g) e2 tn)(P:AL w W c now a n cap)(v:∀g o,q1=bA (dB g o)->g<M)(u:g≠X)(y:w.1.size+1+1<M)(b:k<yA tn.Z)(d:tn.Z[k].s=key)(i:sC (·.s) tn.Z):
 gB (W.setCell (dB g (k*2+1)) (zA now)) X #[oA tn.N,zA tn.L,pA q1 (yA tn.M) e1,pA (pB g) (yA tn.Z) e2] 54/\lC (W.setCell (dB g (k*2+1)) (zA now)) q1 tn.M/\lC (W.setCell (dB g (k*2+1)) (zA now)) (pB g) (cC (·.s) ⟨key,now⟩ tn.Z)/\AL w (W.setCell (dB g (k*2+1)) (zA now)) c now a n cap/\yA (cC (·.s) (⟨key,now⟩:iB) tn.Z)=yA tn.Z/\W.frozen? (dB g (k*2+1))=cA:=by
 have t:=(A.R.lt g rfl).1;have m:cC (·.s) ⟨key,now⟩ tn.Z=tn.Z.set k ⟨tn.Z[k].s,now⟩:=by rw[aDd i b d,d]
 have p:yA (cC (·.s) (⟨key,now⟩:iB) tn.Z)=yA tn.Z:=by rw[m,Pd]
 have f:eB (·=g) W (W.setCell (dB g (k*2+1)) (zA now)):=(eB.refl (·=g) W).setCell (Ca rfl) _ _;refine⟨f.blk A.X u.symm,ia A.P f (λl o e _ x=>by have:=v l o e;omega),?_,P.turn f (by omega),p,?_⟩
 .have h:(W.setCell (dB g (k*2+1)) (zA now)).ownsRow M 58 2 (pA (pB g) (yA tn.Z) e2) (yA tn.Z) (flatK (cC (·.s) ⟨key,now⟩ tn.Z)):=by
   rw[m,wm _ _ b];exact aEx A.R
  rw[<-p]at h;exact(vD h).pairs
 .rcases A.R.2 with⟨e,_⟩|⟨l,j,r,e,_,q,_⟩
  .cases e
  simp only[iA.slice.injEq,Qa,Addr.mk.injEq,Cc]at e;rw[<-e.1]at q;exact gB.free q _
theorem qy{d:eA}{g m b:Nat}{l:List iA}{y:List iB}(A:AB wv d X M q1 e1 q2 e2 tn)(P:AL w d c now a n cap)(j:∀g o,q1=bA (dB g o)->tn.M≠[]->g≠X)(s:w.1.size+1+1<X)(h:tB d W)(k:W.ownsRow d.1.size 58 2 (pA (pB g) m b) m l)(v:flatK y=l)(t:yA y=m):
 gB (W.setCell (dB X 3) (pA (pB g) m b)) X #[oA tn.N,zA tn.L,pA q1 (yA tn.M) e1,pA (pB g) m b] 54/\lC (W.setCell (dB X 3) (pA (pB g) m b)) q1 tn.M/\lC (W.setCell (dB X 3) (pA (pB g) m b)) (pB g) y/\AL w (W.setCell (dB X 3) (pA (pB g) m b)) c now a n cap:=by
 subst v t;have f:eB (·=X) W (W.setCell (dB X 3) (pA (pB g) (yA y) b)):=(eB.refl (·=X) W).setCell (Ca rfl) 3 _;have x:=aB A.X;exact⟨by have:=(A.X.z h).set 3 (pA (pB g) (yA y) b);simpa using this,ia (A.P.z h) f (λr o e i p=>j r o e i p),(vD (f.row k (λq u e=>by have:=(k.lt q u).1;omega))).pairs,(P.z h).turn f s⟩
end
def SE(c:gC)(now:Int)(a:jC)(cap:Nat)(j:List fB)(h key:nB)(w:eA)(y:uC w a j)(k:yA j+aC j<=1900000)(Y:h.size<=1900000)(V:key.size<=1900000)(t:kC c now j=dA)(i:(oC h&&kK key)=cA):
 gA prog 110 #[jE c,tA #[zA now,pA a (yA j) cap],oA h,oA key] w λe N=>SU (now,j,5) w e N:=by
 obtain⟨d,b,f,g⟩:=rP k;have r:=cB (λW(u:tB w W)=>jH c now a cap j W (y.z u) b (by omega));have p:=cB (λW=>iG h W (by unfold maxLen;omega));have l:=cB (λW=>IF key W (by omega));have o:=cB (λW(u:tB w W)=>rS c now a cap j W (y.z u) t k);rw[t]at r;have x:oC h=cA\/oC h=dA/\kK key=cA:=by revert i;cases oC h<;>simp
 have P:=cB (AL.new (w:=w) (c:=c) (now:=now) (a:=a) (n:=yA j) (cap:=cap));clear y k d b f g t i;unfold SU;unfold jE at *;obtain J|⟨J,Q⟩:=x
 all_goals
  rw[J]at p;try rw[Q]at l
  go_enter func110,ntmps110;go_wp2_with(first
   |(go_at_call 49;apply hC (r.o _ P.o.B);intro wv i;replace P:=cB (P.o.z i);clear i r;obtain⟨z,A,C,D,E,F,G,H,-,-,-,-,q⟩:=P.o.cells)
   |(go_at_call 52;apply hC (p.o _);intro N h;subst h)
   |(go_at_call 113;apply hC (l.o _);intro Z i;replace P:=cB (P.o.z i);clear i z A C D E F G H q;obtain⟨z,A,C,D,E,F,G,H,-,-,-,-,q⟩:=P.o.cells)
   |(go_at_call 109;refine(o.o _ P.o.B).mono ?_;rintro e h ⟨K,L,rfl,I,i⟩;have s:=cB (P.o.z i);have m:=cB I;clear I i z A C D E F G H o;obtain⟨-,-,-,-,-,-,-,-,R,S,T,U,O⟩:=s.o.cells))
  refine bodyPost_ret (v:=?_) (by simp[results,results110,go_sem,R,S];rfl) rfl ?_;first
   |exact⟨K,⟨L,rfl⟩,s.o.done m.o q⟩
   |exact⟨K,L,rfl,s.o.done m.o q⟩
def ZQ{c:gC}{now:Int}{a:jC}{cap:Nat}{f:List fB}{L key:nB}{w:eA}{tn:fB}{V:Int×List fB×Nat}(H:bB (SC w c now a cap f L tn))(hk:key.size<=1900000)(hky:kK key=dA)(HFK:bB (∀p∈tn.Z,p.s.size<=1900000))(HKA:bB (uD c.w now (cC (·.N) ⟨tn.N,tn.L,tn.M,cC (·.s) ⟨key,now⟩ tn.Z⟩ f)=cC (·.N) (vI tn key now) f))
(HFI:bB (WO ⟨tn.N,tn.L,tn.M,cC (·.s) ⟨key,now⟩ tn.Z⟩))
(HV:bB (V=if (xC (·.s) key tn.Z).isSome=dA then(now,cC (·.N) (vI tn key now) f,1) else if (kE c tn ⟨#[]⟩).2<=(kE c tn ⟨#[]⟩).1\/(yE tn=dA/\yA f=10000) then(now,f,3) else if (kE c tn (wD key)).2<=(kE c tn (wD key)).1 then(now,f,4) else(now,cC (·.N) (vI tn key now) f,2))):
 gA prog 110 #[jE c,tA #[lA mA now,pA a (yA f) cap],oA L,oA key] w λe w'=>SU V w e w':=by
 obtain⟨hml,hsl⟩:=H.o.len;obtain⟨hn0,hn1⟩:=H.o.now0;have HKY:=cB (λW=>IF key W (by omega));have HMT:bB (∀W,vE 175 #[oA key] W (oA (wD key))):=λW=>jZ key W (by omega);have HCT:=cB (λW m a1 a2 c1 c2(p1:lC W a1 tn.M)(p2:lC W a2 tn.Z)=>KD c tn a1 a2 c1 c2 m W p1 p2 (λi h=>by have:=HFK.o _ (Gb h);omega) (by omega) (by omega));have HID:=cB (λW a1 a2 c1 c2=>CF tn a1 a2 c1 c2 W);have P:=cB (AL.new (w:=w) (c:=c) (now:=now) (a:=a) (n:=yA f) (cap:=cap));rw[hky]at HKY;unfold SU;unfold jE at *;go_enter func110,ntmps110;go_upto_region 5 with(first
  |(go_at_call 49;apply hC (H.o.ok _ P.o.B);intro wo o;replace P:=cB (P.o.z o);clear o)
  |(go_at_call 52;apply hC (H.o.nm _);intro w' hw;subst hw)
  |(go_at_call 113;apply hC (HKY.o _);intro wv o;replace P:=cB (P.o.z o);clear o))
 have N:=cB P.o.kin;obtain⟨vy0,vy1,vx0⟩:=P.o.kin wv bD;have hsv:=P.o.lt;clear HKY;go_cut [10] (λp wx=>∃X,p=sA (bA ⟨X,0,aA⟩)/\KXR wv X tn wx)
 case first=>
  go_region_held3 (λw'=>w'.cell? ⟨w.1.size+1,0,aA⟩=bA (lA mA now)/\w'.cell? ⟨w.1.size+1,1,aA⟩=bA (pA a (yA f) cap)/\w'.cell? ⟨w.1.size,0,aA⟩=bA (lA mA c.w))
   (first|go_keep|with_reducible exact N.o _ (ZO k4 (Ia _))|with_reducible exact N.o _ (ZO k4 k3.size)|with_reducible exact N.o _ k4|with_reducible exact N.o _ k3|with_reducible exact N.o _ (vB k3 yB)|with_reducible exact N.o _ (yB.drew)|with_reducible exact N.o _ (vB k4 yB))
   (first
    |(go_at_call 61;refine(H.o.te _ (by with_reducible exact P.o.B.drew)).mono ?_;rintro e w3 ⟨⟨a1,c1,a2,c2,rfl,p1,p2⟩,F⟩;have k3:tB wv w3:=(by with_reducible exact vB bD.drew F);have c3:=N.o _ k3)
    |(go_at_call 61;refine(H.o.te _ (by with_reducible exact(vB P.o.B yB).drew)).mono ?_;rintro e w3 ⟨⟨a1,c1,a2,c2,rfl,p1,p2⟩,F⟩;have k3:tB wv w3:=(by with_reducible exact vB (yB.drew) F);have c3:=N.o _ k3;have hX3:gB w3 wv.1.size #[oA ⟨#[]⟩,lA mA 0,pA aA 0 0,pA aA 0 0] 54:=TI F)
    |(have q:=hX3;clear q;go_at_call 120;refine(H.o.kp _ a1 a2 c1 c2 (by with_reducible exact p1) (by with_reducible exact p2)).mono ?_;rintro e w4 ⟨M,q1,e1,q2,e2,rfl,hM,u,h1M,Q,hM4,G⟩;have k4:tB wv w4:=(by with_reducible exact vB k3 G);have c4:=N.o _ k4;have C:=cB (hX3.z G);obtain⟨s0,s1,s2,s3⟩:=C.o.c4;have d:=C.o.free)
    |((fail_if_success (have q:=hX3));go_at_call 120;refine(H.o.kp _ a1 a2 c1 c2 (by with_reducible exact p1) (by with_reducible exact p2)).mono ?_;rintro e w4 ⟨M,q1,e1,q2,e2,rfl,hM,u,h1M,Q,hM4,G⟩;have k4:tB wv w4:=(by with_reducible exact vB k3 G);have c4:=N.o _ k4)
    |(go_at_call 120;refine(H.o.kp _ a1 a2 c1 c2 (by with_reducible exact p1.z yB) (by with_reducible exact p2.z yB)).mono ?_;rintro e w4 ⟨M,q1,e1,q2,e2,rfl,hM,u,h1M,Q,hM4,G⟩;have k4:tB wv w4:=(by with_reducible exact vB (vB k3 yB) G);have c4:=N.o _ k4;have C:bB (gB w4 w3.1.size #[oA ⟨#[]⟩,lA mA 0,pA aA 0 0,pA aA 0 0] 54):=cB ((gB.new w3 _ _).z G);obtain⟨s0,s1,s2,s3⟩:=C.o.c4;have d:=C.o.free))
  all_goals(go_wp2_with fail;go_meet)
  all_goals first
   |with_reducible exact⟨_,rfl,aHl k3.size u h1M Q hM k4⟩
   |exact⟨_,rfl,rt u h1M Q (by have:=aB hX3;omega) hM (Ia _) C.o k4⟩
   |exact⟨_,rfl,rt u h1M Q (by simp) hM k3.size C.o k4⟩
 obtain⟨X,rfl,M,q1,e1,q2,e2,hXb,hP1,hq1M,hRow,hRX,hqX,hXw,hMw,F⟩:=hcut;rename eA=>w3;replace P:=cB (P.o.z F);have A:bB (AB wv w3 X M q1 e1 q2 e2 tn):=⟨hXb,hP1,hRow⟩
 have HQ:=cB (⟨hq1M,hRX,hqX⟩:_/\_/\_);have hX3:=aB hXb;have hXP:w.1.size+1+1<X:=by omega
 clear N vy0 vy1 vx0 hXb hP1 hq1M hRow hRX hqX F;obtain⟨U,Y,Z,t⟩:=A.o.X.c4;go_wp2;go_loopw [11,44] (λ_ i wr=>∃k:Nat,k<=yA tn.Z/\i=lA mA k/\bB (∀j(h:j<k)(h':j<yA tn.Z),tn.Z[j].s≠key)/\w3=wr) (λ_ i _=>yA tn.Z-(intOf i).toNat)
 case atStart=>exact⟨0,Oa _,rfl,(λj h=>absurd h (by omega)),rfl⟩
 case round=>
  obtain⟨k,hkl,rfl,HN,hw⟩:=hrel;subst hw;by_cases hlt:k<yA tn.Z
  .obtain ⟨g,rfl⟩:=ir A.o.R (by omega);obtain⟨pb,po,ep,hpl,v0,v1⟩:=((vD A.o.R).pairs).at hlt;simp only[Qa,Addr.mk.injEq,Cc]at ep;obtain⟨rfl,rfl⟩:=ep;rw[Ya]at v0 v1;cases hsm:(tn.Z[k].s.toList==key.toList) with
   |true=>
    have HS:=cB (aGe A.o P.o HQ.o.1 (HQ.o.2.1 g rfl) (by omega) hlt ((dE _ _).1 hsm) H.o.rs);have E:bB (V=(now,cC (·.N) (vI tn key now) f,1)):=by
     show _=_;rw[HV.o,Ma];cases hgg:xC (·.s) key tn.Z with
     |some _=>rfl
     |none=>exact absurd ((dE _ _).1 hsm) (pW hgg _ (Gb hlt))
    have fz:=HS.o.2.2.2.2.2;obtain⟨-,-,-,-,-,-,z,K,-⟩:=P.o.cells;go_upto_region 11 with fail;clear v0 v1 fz U Y Z t z K;generalize w3.setCell ⟨g,k*2+1,aA⟩ (lA mA now)=w7 at *;obtain⟨X7,p1,p2,P7,hL,-⟩:=HS.o;have HWF:=cB (H.o.wi w7 tn.L tn.M (cC (·.s) ⟨key,now⟩ tn.Z) q1 (bA ⟨g,0,aA⟩) e1 e2 P7.B p1 p2 HFI.o);rw[HKA.o,hL]at HWF;replace P:=cB P7;obtain⟨U,Y,Z,t⟩:=X7.c4;obtain⟨x0,x1,x2,x3,x4,x5,z,K,-,-,-,-,S⟩:=P7.cells;clear X7 p1 p2 P7 HS;generalize cC (·.N) (vI tn key now) f=RL at *;go_wp2_with fail;refine HWF.o.mono ?_;rintro e w9 ⟨ra,rc,rfl,ho,o⟩;have D:=cB (P.o.z o);have r:=cB ho;clear ho o x0 x1 x2 x3 x4 x5 z K U Y Z t;obtain⟨-,-,-,-,-,-,-,-,z0,z1,g0,g1,hz9⟩:=D.o.cells;go_wp2;refine bodyPost_ret (v:=?_) (by simp[results,results110,go_sem,z0,z1];rfl) rfl ?_;rw[E.o];first
     |exact⟨ra,⟨rc,rfl⟩,D.o.done r.o S⟩
     |exact⟨ra,rc,rfl,D.o.done r.o S⟩
   |false=>
    have HN2:bB (∀j(h:j<k+1)(h':j<yA tn.Z),tn.Z[j].s≠key):=λj hj hj'=>by
     by_cases e:j=k
     .subst e;exact λe'=>absurd ((dE _ _).2 e') (by rw[hsm];simp)
     exact HN.o j (by omega) hj'
    generalize tn.Z[k].s=kk at *;go_wp2;exact⟨⟨k+1,by omega,by go_num,HN2.o,by first|rfl|trivial⟩,by simp[intOf];omega⟩
  have HNO:bB (xC (·.s) key tn.Z=aA):=aN λp hp=>by
   obtain⟨j,hj,rfl⟩:=Ib hp;exact HN.o j (by omega) hj
  have HC1:=cB (HCT.o w3 ⟨#[]⟩ q1 q2 e1 e2 A.o.P.pairs (vD A.o.R).pairs);have HV2:bB (V=if (kE c tn ⟨#[]⟩).2<=(kE c tn ⟨#[]⟩).1\/(yE tn=dA/\yA f=10000) then(now,f,3) else if (kE c tn (wD key)).2<=(kE c tn (wD key)).1 then(now,f,4) else(now,cC (·.N) (vI tn key now) f,2)):=by show _=_;rw[HV.o,Ja (by rw[HNO.o];simp)]
  have hkn:¬((k:Int)<yA tn.Z):=by omega
  clear HV HN hlt hkl;obtain⟨x0,x1,x2,x3,x4,x5,z,K,-,-,-,-,S⟩:=P.o.cells;generalize kE c tn ⟨#[]⟩=CV at *;obtain⟨n1,l1⟩:=CV;go_upto_region 15 with(first
   |(go_at_call 122;apply hC HC1.o;intro w4 o;replace A:=cB (A.o.z o);replace P:=cB (P.o.z o);clear o x0 x1 x2 x3 x4 x5 z K U Y Z t S;obtain⟨U,Y,Z,t⟩:=A.o.X.c4;obtain⟨x0,x1,x2,x3,x4,x5,z,K,-,-,-,-,S⟩:=P.o.cells)
   |(go_at_call 111;apply hC (HID.o _ q1 q2 e1 e2);intro w5 o;replace A:=cB (A.o.z o);replace P:=cB (P.o.z o);clear o x0 x1 x2 x3 x4 x5 z K U Y Z t S;obtain⟨U,Y,Z,t⟩:=A.o.X.c4;obtain⟨x0,x1,x2,x3,x4,x5,z,K,-,-,-,-,S⟩:=P.o.cells))
  generalize yE tn=IB at *;go_cut [88] (λs wx=>s=.bool (decide (l1<=n1) ||(IB&&decide (yA f=10000)))/\w5=wx)
  case first=>
   have h3:l1<=n1/\(decide (l1<=n1) ||(IB&&decide (yA f=10000)))=dA\/¬l1<=n1/\(IB=cA/\(decide (l1<=n1) ||(IB&&decide (yA f=10000)))=cA\/IB=dA/\(((yA f:Int)==10000)=dA/\(decide (l1<=n1) ||(IB&&decide (yA f=10000)))=dA\/((yA f:Int)==10000)=cA/\(decide (l1<=n1) ||(IB&&decide (yA f=10000)))=cA)):=by
    by_cases u:l1<=n1
    .exact Ca ⟨u,by simp[u]⟩
    refine La ⟨u,?_⟩;cases IB
    .exact Ca ⟨rfl,by simp[u]⟩
    refine La ⟨rfl,?_⟩;by_cases Q:yA f=10000
    .exact Ca ⟨by simp[Q],by simp[Q]⟩
    exact La ⟨by simp;omega,by simp[u,Q]⟩
   obtain⟨u,HD⟩|⟨u,⟨rfl,HD⟩|⟨rfl,⟨Q,HD⟩|⟨Q,HD⟩⟩⟩:=h3
   all_goals
    have HD:=cB HD;go_wp2_with fail;go_meet;exact⟨by rw[HD.o],rfl⟩
  obtain⟨rfl,hw⟩:=hcut;subst hw;have O:bB (V=if (decide (l1<=n1) ||(IB&&decide (yA f=10000)))=dA then(now,f,3) else if (kE c tn (wD key)).2<=(kE c tn (wD key)).1 then(now,f,4) else(now,cC (·.N) (vI tn key now) f,2)):=by
   refine cB ?_;rw[HV2.o];simp only[Fe,Sa,Ab]
  clear HV2 HC1;cases hcb:(decide (l1<=n1) ||(IB&&decide (yA f=10000))) with
  |true=>
   rw[hcb,Ma rfl]at O;clear hcb;go_wp2_with(go_at_call 109;refine(H.o.sm _ P.o.B).mono ?_;rintro e w9 ⟨ra,rc,rfl,ho,o⟩;have D:=cB (P.o.z o);have r:=cB ho;clear ho o x0 x1 x2 x3 x4 x5 z K;obtain⟨-,-,-,-,-,-,-,-,z0,z1,g0,g1,hz9⟩:=D.o.cells);refine bodyPost_ret (v:=?_) (by simp[results,results110,go_sem,z0,z1];rfl) rfl ?_;rw[O.o];first
    |exact⟨ra,⟨rc,rfl⟩,D.o.done r.o S⟩
    |exact⟨ra,rc,rfl,D.o.done r.o S⟩
  |false=>
   rw[hcb,Ja (by simp)]at O;clear hcb x0 x1 x2 x3 x4 x5 z K U Y Z t S;have dx:=λx:iC w5=>(P.o.z x.h).cells;have dm:=λx:iC w5=>(A.o.z x.h).X.c4;simp only[forall_and]at dx dm;obtain⟨dx0,dx1,dx2,dx3,dx4,dx5,-⟩:=dx;obtain⟨dm0,dm1,dm2,dm3⟩:=dm;have HC2:=cB (λy:iC w5=>HCT.o y.w' (wD key) q1 q2 e1 e2 (A.o.P.pairs.z y.h) ((vD A.o.R).pairs.z y.h));have hnel:=iC.there w5;generalize kE c tn (wD key)=CV at *;obtain⟨n2,l2⟩:=CV;generalize hmk:wD key=mk at *;clear hmk HCT;go_wp2_with fail;refine wB (by kernel_rfl) (by kernel_rfl) ?_;repeat (go_big_quiet_step (first|(go_at_call 175;exact mC (HMT.o _))|(go_at_call 122;exact mC (HC2.o _))|fail))
   refine wpQuiet_nil ?_;rintro _ ⟨y,rfl⟩;replace P:=cB (P.o.z y.h);replace A:=cB (A.o.z y.h);clear dx0 dx1 dx2 dx3 dx4 dx5 dm0 dm1 dm2 dm3 hnel HC2 HMT;generalize y.w'=w6 at *;clear y;obtain⟨U,Y,Z,t⟩:=A.o.X.c4;obtain⟨x0,x1,x2,x3,x4,x5,z,K,-,-,-,-,S⟩:=P.o.cells;by_cases hme:l2<=n2
   .have E:bB (V=(now,f,4)):=by show _=_;rw[O.o,Ma hme]
    go_wp2_with(go_at_call 109;refine(H.o.sm _ P.o.B).mono ?_;rintro e w9 ⟨ra,rc,rfl,ho,o⟩;have D:=cB (P.o.z o);have r:=cB ho;clear ho o x0 x1 x2 x3 x4 x5 z K;obtain⟨-,-,-,-,-,-,-,-,z0,z1,g0,g1,hz9⟩:=D.o.cells);refine bodyPost_ret (v:=?_) (by simp[results,results110,go_sem,z0,z1];rfl) rfl ?_;rw[E.o];first
     |exact⟨ra,⟨rc,rfl⟩,D.o.done r.o S⟩
     |exact⟨ra,rc,rfl,D.o.done r.o S⟩
   have E:bB (V=(now,cC (·.N) (vI tn key now) f,2)):=by show _=_;rw[O.o,Ja hme]
   clear O x0 x1 x2 x3 x4 x5 K U Y Z HID;go_wp2;go_loopw [15] (λi wr=>∃j:Nat,j<=yA tn.Z/\i=lA mA j/\bB (∀i(h:i<yA tn.Z),i<j->uJ tn.Z[i].s key=dA)/\w6=wr) (λi _=>yA tn.Z-(intOf i).toNat)
   case atStart=>exact⟨0,Oa _,rfl,(λi _ hi=>absurd hi (by omega)),rfl⟩
   case round=>
    obtain⟨j,hj,rfl,HJ,hw⟩:=hrel;subst hw;have hcs:(∃h:j<yA tn.Z,uJ tn.Z[j].s key=dA)\/((¬(j:Int)<yA tn.Z/\j=yA tn.Z)\/∃h:j<yA tn.Z,Op.bytesLess tn.Z[j].s.toList key.toList=cA)/\cC (·.s) ⟨key,now⟩ tn.Z=tn.Z.take j++⟨key,now⟩:: tn.Z.drop j:=by
     by_cases J:j<yA tn.Z
     .cases I:uJ tn.Z[j].s key
      .exact La ⟨La ⟨J,I⟩,UR hj (λi h hi=>HJ.o i h hi) (λ_=>I) HNO.o⟩
      exact Ca ⟨J,I⟩
     exact La ⟨Ca ⟨by omega,by omega⟩,UR hj (λi h hi=>HJ.o i h hi) (λh=>absurd h J) HNO.o⟩
    obtain⟨J,I⟩|⟨hx,hcut⟩:=hcs
    .obtain ⟨g,rfl⟩:=ir A.o.R (by omega);obtain⟨pb,po,ep,hpl,v0,-⟩:=((vD A.o.R).pairs).at J;simp only[Qa,Addr.mk.injEq,Cc]at ep;obtain⟨rfl,rfl⟩:=ep;rw[Ya]at v0;have hq2:Op.bytesLess tn.Z[j].s.toList key.toList=dA:=I;have HJ2:bB (∀i(h:i<yA tn.Z),i<j+1->uJ tn.Z[i].s key=dA):=λi h hi=>by
      by_cases e:i=j
      .subst e;exact I
      exact HJ.o i h (by omega)
     clear I;generalize tn.Z[j].s=kk at *;go_wp2;exact⟨⟨j+1,by omega,by go_num,HJ2.o,by first|rfl|trivial⟩,by simp[intOf];omega⟩
    have HQ2:bB (flatK (cC (·.s) ⟨key,now⟩ tn.Z)=flatK (tn.Z.take j)++[oA key,lA mA now]++flatK (tn.Z.drop j)/\yA (cC (·.s) (⟨key,now⟩:iB) tn.Z)=j+1+(yA tn.Z-j)):=by
     refine cB ?_;rw[hcut];refine⟨?_,by simp;omega⟩;rw[show tn.Z.take j++(⟨key,now⟩:iB):: tn.Z.drop j=(tn.Z.take j++[(⟨key,now⟩:iB)])++tn.Z.drop j by simp,mW,mW];rfl
    have hl1:yA (tn.Z.take j)=j:=by simp;omega
    have hl2:yA (tn.Z.drop j)=yA tn.Z-j:=by simp
    clear hcut;have hc3:(q2=aA/\e2=0/\yA tn.Z=0/\j=0)\/∃g,q2=bA ⟨g,0,aA⟩/\((¬(j:Int)<yA tn.Z/\j=yA tn.Z)\/∃h:j<yA tn.Z,Op.bytesLess tn.Z[j].s.toList key.toList=cA):=by
     rcases aMb A.o.R with⟨u,Q,h3⟩|⟨g,u⟩;exact Ca ⟨u,Q,h3,by omega⟩;exact La ⟨g,u,hx⟩
    clear hx;obtain⟨rfl,rfl,T,rfl⟩|⟨g,rfl,hx⟩:=hc3
    rotate_left;have HSH:=cB (λW(hW:tB w6 W)=>aIx (eC A.o.R hW) hj);have hce:=aIn A.o.R;have hje:j<=e2:=by omega
    obtain⟨hjn,-⟩|⟨J,hq2⟩:=hx;rcases Decidable.em (e2=j) with he|he
    all_goals first
     |(have q:=T;rw[T]at t;go_upto_region 23 with fail;obtain⟨-,-,-,xa3⟩:=(A.o.X.alloc (vA #[] 58)).c4;rw[T]at xa3)
     |(have q:=hjn;go_upto_region 23 with fail;obtain⟨-,-,-,xa3⟩:=(A.o.X.alloc (vA #[] 58)).c4)
     |(obtain⟨pb,po,ep,hpl,v0,-⟩:=((vD A.o.R).pairs).at J;simp only[Qa,Addr.mk.injEq,Cc]at ep;obtain⟨rfl,rfl⟩:=ep;rw[Ya]at v0;generalize tn.Z[j].s=kk at *;go_upto_region 23 with fail;clear v0 hq2 hpl;obtain⟨-,-,-,xa3⟩:=(A.o.X.alloc (vA #[] 58)).c4)
    all_goals
     clear t;go_upto_region 24 with(at_builtin;refine aFt rfl _ _ rfl rfl _ rfl hl1 (by first|exact(HSH.o _ yB).1|exact Ca rfl) (by omega) ?_;intro g8 cap8 w8 O8 B8;clear z xa3;obtain⟨-,-,-,-,-,-,z,-⟩:=(P.o.z B8.o).cells)
     have hs8:=B8.o.size;go_upto_region 25 with(at_builtin;refine dQ rfl _ _ rfl underlying52 ER rfl (by omega) (by omega) rfl O8.o rfl rfl rfl (by simp[iA.oneCell']) (by omega) hs8 ?_;intro g10 cap10 w10 O10 T10;have B10:=cB (B8.o.trans (T10.o.below hs8 λi hi e=>by omega));clear z;obtain⟨-,-,-,t⟩:=(A.o.X.z B10.o).c4;try rw[T]at t)
     have hs10:=B10.o.size;go_upto_region 26 with(at_builtin;first
      |(refine bd rfl _ _ rfl rfl O10.o (tn.Z.drop j) rfl hl2 (by first|exact(HSH.o _ B10.o).2|exact Ca (by omega)) (by omega) hs10 ?_;intro g12 cap12 w12 O12 B12;have l:=cB (B10.o.trans B12.o);have HA:=cB (qy A.o P.o HQ.o.2.2 hXP l.o O12.o HQ2.o.1 (by have:=HQ2.o.2;omega));clear t;obtain⟨U,Y,Z,t⟩:=(A.o.X.z l.o).c4;(try rw[T]at t);have b:=(A.o.X.z l.o).free 3)
      |(refine bd rfl _ _ rfl rfl O10.o (tn.Z.drop 0) rfl (by rw[hl2];omega) (Ca rfl) (by omega) hs10 ?_;intro g12 cap12 w12 O12 B12;have l:=cB (B10.o.trans B12.o);have HA:=cB (qy A.o P.o HQ.o.2.2 hXP l.o O12.o HQ2.o.1 (by have:=HQ2.o.2;omega));clear t;obtain⟨U,Y,Z,t⟩:=(A.o.X.z l.o).c4;(try rw[T]at t);have b:=(A.o.X.z l.o).free 3))
     obtain⟨x0,x1,x2,x3,x4,x5,z,K,-,-,-,-,-⟩:=(P.o.z l.o).cells;go_wp2_with fail;refine(H.o.wn HKA.o rfl (by have:=HQ2.o.2;omega) HA.o.2.2.2.B HA.o.2.1 HA.o.2.2.1 HFI.o).mono ?_;rintro e w9 ⟨ra,rc,rfl,ho,o⟩;have D:=cB (HA.o.2.2.2.z o);have r:=cB ho;have HZ:=cB HA.o.2.2.2.lt;clear ho o x0 x1 x2 x3 x4 x5 z K U Y Z t b HA;obtain⟨-,-,-,-,-,-,-,-,z0,z1,g0,g1,hz9⟩:=D.o.cells;generalize cC (·.N) (vI tn key now) f=RL at *;go_wp2;refine bodyPost_ret (v:=?_) (by simp[results,results110,go_sem,z0,z1];rfl) rfl ?_;rw[E.o];first
      |exact⟨ra,⟨rc,rfl⟩,D.o.done r.o HZ.o⟩
      |exact⟨ra,rc,rfl,D.o.done r.o HZ.o⟩
def BF(c:gC)(now:Int)(a:jC)(cap:Nat)(d:List fB)(b key:nB)(w:eA)(t:uC w a d)(k:yA d+aC d<=1900000)(q:b.size<=1900000)(u:key.size<=1900000)(l:kC c now d=dA):
 gA prog 110 #[jE c,tA #[zA now,pA a (yA d) cap],oA b,oA key] w λe A=>SU (sH c now d b key) w e A:=by
 cases hb:(oC b&&kK key) with
 |false=>
  rw[show sH c now d b key=(now,d,5) by unfold sH;rw[Ja (by rw[l];simp),Ma hb]];exact SE c now a cap d b key w t k q u l hb
 |true=>
  have g:=hb;rw[Sa]at g;obtain⟨m,r,z,-,f⟩:=yG l;have o:1<=c.w:=by simp only[cF,Sa]at m;exact(zJ m.1.1.1.1.1).1
  have S:=aJv (cap:=cap) t k q l g.1;refine ZQ S u g.2 (JA (lW k) q).2.2.1 (ob f (mQ f) o) ?_ (by show _=_;unfold sH;rw[Ja (by rw[l];simp),Ja (by rw[hb];simp)];rfl);have x:=EU (key:=λp:iB=>p.s) (a:=⟨key,now⟩) (xB d b).Z;have B:=S.len;refine⟨S.fit.1,by show(cC (·.s) (⟨key,now⟩:iB) (xB d b).Z).length<=_;omega,λi h=>?_⟩;rcases sK (Gb h) with e|e;show 0<=((cC (·.s) (⟨key,now⟩:iB) (xB d b).Z)[i]'h).n/\_;rw[e];exact⟨r,by show now<=_;omega⟩;obtain ⟨j,y,v⟩:=Ib e;have:=S.fit.2.2 j y;rw[v]at this;exact this
def LM(c:gC)(k:Int)(a:jC)(l:Nat)(m:List fB)(i h:nB)(j:Int)(w:eA)(J:uC w a m)(s:yA m+aC m<=1900000)(o:i.size<=1900000)(o:h.size<=1900000)(G:kC c k m=dA)
(B:(oC i&&(h.toList.isEmpty||xE h) &&zB j (-1) 1000000)=cA):
 gA prog 58 #[jE c,tA #[zA k,pA a (yA m) l],oA i,oA h,zA j] w λe M=>nT (k,m,cA) w e M:=by
 obtain⟨d,b,f,g⟩:=rP s;have D:=cB (λW(H:tB w W)=>jH c k a l m W (J.z H) b (by omega));have r:=cB (λW=>iG i W (by unfold maxLen;omega));have q:=cB (λW=>eM h W (by omega));have p:=cB (λW=>qD j (-1) 1000000 W);have t:=cB (λW(H:tB w W)=>rS c k a l m W (J.z H) G s);rw[G]at D;clear J s d b f g G;unfold jE at *;have F:=cB (AL.new (w:=w) (c:=c) (now:=k) (a:=a) (n:=yA m) (cap:=l));go_enter func58,ntmps58;go_wp2_with fail;apply hC (D.o _ F.o.B);intro o o;have P:=cB (F.o.z o);clear o F D;obtain⟨N,O,Q,R,S,T,U,V,x,y,z,A,K⟩:=P.o.cells;have I:oC i=cA\/(oC i=dA/\h.toList.isEmpty=cA/\xE h=cA)\/(oC i=dA/\h.toList.isEmpty=dA/\zB j (-1) 1000000=cA)\/(oC i=dA/\h.toList.isEmpty=cA/\xE h=dA/\zB j (-1) 1000000=cA):=by
  revert B;cases oC i<;>cases h.toList.isEmpty<;>cases xE h<;>cases zB j (-1) 1000000<;>simp
 clear B;obtain C|⟨C,h,B⟩|⟨C,h,G⟩|⟨C,h,B,G⟩:=I
 all_goals
  rw[C]at r;try rw[B]at q
  try rw[G]at p
  go_wp2_with(first
   |(go_at_call 52;apply hC (r.o _);intro M h;subst h)
   |(go_at_call 90;apply hC (p.o _);intro M h;subst h)
   |(go_at_call 112;apply hC (q.o _);intro h o;replace P:=cB (P.o.z o);clear o N O Q R S T U V x y z A K;obtain⟨N,O,Q,R,S,T,U,V,x,y,z,A,K⟩:=P.o.cells))
  refine(t.o _ P.o.B).mono ?_;rintro e h ⟨L,u,rfl,Z,o⟩;have X:=cB (P.o.z o);have E:=cB Z;clear Z o N O Q R S T U V x y z A t r q p;obtain⟨_,_,_,_,_,_,_,_,x,y,z,A,h⟩:=X.o.cells;go_wp2;refine bodyPost_ret (v:=xA #[tA #[zA k,pA L (yA m) u],.bool cA]) (by simp[results,results58,go_sem,x,y]) rfl ?_;have Y:=X.o.done (v:=k) (rc:=u) E.o K;first
   |exact⟨L,⟨u,rfl⟩,Y⟩
   |exact⟨L,u,rfl,Y⟩
def aIi(t:iB)(b:Bool)(a:List iB)(c:sC (·.s) a):yA (ib t b a)<=yA a+1:=by
 cases b with
 |true=>
  rw[wT];have:yA (rE (·.s) t.s a)<=yA a:=Pc _ _;omega
 |false=>rw[ic c];exact EU _
def aIj(t p:iB)(l:List iB)(b:Bool):b=dA/\(p.s.toList==t.s.toList)=dA/\uL t (l,b) p=(l,dA)\/b=dA/\(p.s.toList==t.s.toList)=cA/\uL t (l,b) p=(l++[p],dA)\/
 b=cA/\(p.s.toList==t.s.toList)=cA/\(t.s.toList==p.s.toList)=cA/\Op.bytesLess t.s.toList p.s.toList=cA/\uL t (l,b) p=(l++[p],cA)\/b=cA/\(p.s.toList==t.s.toList)=cA/\Op.bytesLess t.s.toList p.s.toList=dA/\uL t (l,b) p=(l++[t]++[p],dA)\/
 b=cA/\(p.s.toList==t.s.toList)=dA/\(t.s.toList==p.s.toList)=dA/\Op.bytesLess t.s.toList p.s.toList=cA/\uL t (l,b) p=(l++[t],dA):=by
 cases b with
 |true=>cases h:(p.s.toList==t.s.toList)<;>simp[uL,h]
 |false=>
  by_cases d:uJ p.s t.s=dA
  .have a:=zD (eJ d);exact La (La (Ca ⟨rfl,a,zD (eJ d).symm,oZ d,by simp[uL,d,a]⟩))
  have c:uJ p.s t.s=cA:=by simpa using d
  by_cases e:uJ t.s p.s=dA
  .have a:=zD (eJ e).symm;exact La (La (La (Ca ⟨rfl,a,e,by simp[uL,c,a]⟩)))
  have g:=Decidable.byContradiction λf=>e (bV c f);have a:=(dE _ _).2 g;exact La (La (La (La ⟨rfl,a,(dE _ _).2 g.symm,by simpa[uJ]using e,by simp[uL,c,a]⟩)))
def tc{w g W:eA}{c:gC}{i:Int}{a:jC}{n h X:Nat}{t u B:iA}{A k b:jC}{s f d:Nat}{z m j:List iB}(x:yA j=d)(P:AL w g c i a n h)(r:gB g X #[t,u,B,pA k (yA m) s] 54)(v:w.1.size+1+1<X)(l:∀W,eB (·=X) g W->lC W A z/\lC W k m)(o:tB g W)(p:W.ownsRow g.1.size 203 2 (pA b d f) d (flatK j)):
 gB (W.setCell (dB X 2) (pA b d f)) X #[t,u,pA b d f,pA k (yA m) s] 54/\lC (W.setCell (dB X 2) (pA b d f)) b j/\lC (W.setCell (dB X 2) (pA b d f)) k m/\AL w (W.setCell (dB X 2) (pA b d f)) c i a n h:=by
 subst x;have m:eB (·=X) W (W.setCell (dB X 2) (pA b (yA j) f)):=(eB.refl (·=X) W).setCell (Ca rfl) 2 _;have C:=aB r;exact⟨by have:=(r.z o).set 2 (pA b (yA j) f);simpa using this,(vD (m.row p (λq y e=>by have:=(p.lt q y).1;omega))).pairs,(l _ ((eB.of o).trans' m)).2,(P.z o).turn m v⟩
def LL{c:gC}{l:Int}{a:jC}{A:Nat}{Z:List fB}{G h:nB}{j:Int}{w:eA}{m:fB}{V:Int×List fB×Bool}(H:bB (SC w c l a A Z G m))(o:h.size<=1900000)(B:h.toList.isEmpty=dA\/h.toList.isEmpty=cA/\xE h=dA)(J:zB j (-1) 1000000=dA)
(HV:bB (V=if 10000<yA (uD c.w l (cC (·.N) (qH m h j) Z)) then(l,Z,cA) else(l,uD c.w l (cC (·.N) (qH m h j) Z),dA))):
 gA prog 58 #[jE c,tA #[zA l,pA a (yA Z) A],oA G,oA h,zA j] w λe w'=>nT V w e w':=by
 have s:=cB (λW=>eM h W (by omega));have P:=cB (AL.new (w:=w) (c:=c) (now:=l) (a:=a) (n:=yA Z) (cap:=A));obtain⟨o,o⟩:=H.o.len;obtain⟨o,o⟩:=H.o.now0;unfold nT jE;go_enter func58,ntmps58;go_wp2_with fail;apply hC (H.o.ok _ P.o.B);intro I W;replace P:=cB (P.o.z W);clear W;go_upto_region 3 with fail;go_cut [39] (λb o=>b=.bool cA/\AL w o c l a (yA Z) A)
 case first=>
  obtain B|⟨B,Y⟩:=B
  all_goals
   go_wp2_with(first
    |(go_at_call 52;apply hC (H.o.nm _);intro w' B;subst B)
    |(go_at_call 90;apply hC (xD J _);intro w' B;subst B)
    |(go_at_call 112;apply hC (s.o _);intro B W;replace P:=cB (P.o.z W);clear W))
   go_meet;exact⟨by simp,P.o⟩
 clear P s;obtain⟨rfl,s⟩:=hcut;rename eA=>I;have P:=cB s;have J:=cB s.kin;obtain⟨vy0,vy1,vx0⟩:=s.kin I bD;have B:=s.lt;clear s;go_upto_region 5 with fail;go_cut [12] (λp o=>∃X,p=.pointer (pB X)/\KX I X m o)
 case first=>
  go_region_held3 (λw'=>w'.cell? (dB (w.1.size+1) 0)=bA (zA l)/\w'.cell? (dB (w.1.size+1) 1)=bA (pA a (yA Z) A)/\w'.cell? (dB w.1.size 0)=bA (zA c.w))
   (first|go_keep|with_reducible exact J.o _ (ZO R (Ia _))|with_reducible exact J.o _ (ZO R Y.size)|with_reducible exact J.o _ R|with_reducible exact J.o _ Y|with_reducible exact J.o _ (vB Y yB)|with_reducible exact J.o _ (yB.drew)|with_reducible exact J.o _ (vB R yB))
   (first
    |(go_at_call 61;refine(H.o.te _ (by with_reducible exact P.o.B.drew)).mono ?_;rintro e t ⟨⟨a1,c1,a2,c2,rfl,B,p2⟩,C⟩;have Y:tB I t:=(by with_reducible exact vB bD.drew C);have G:=J.o _ Y)
    |(go_at_call 61;refine(H.o.te _ (by with_reducible exact(vB P.o.B yB).drew)).mono ?_;rintro e t ⟨⟨a1,c1,a2,c2,rfl,B,p2⟩,C⟩;have Y:tB I t:=(by with_reducible exact vB (yB.drew) C);have G:=J.o _ Y;have T:gB t I.1.size #[oA ⟨#[]⟩,lA mA 0,pA aA 0 0,pA aA 0 0] 54:=TI C)
    |(have q:=T;clear q;go_at_call 120;refine(H.o.kp _ a1 a2 c1 c2 (by with_reducible exact B) (by with_reducible exact p2)).mono ?_;rintro e w4 ⟨M,q1,e1,q2,e2,rfl,hM,h1,O,G,U,D⟩;have R:tB I w4:=(by with_reducible exact vB Y D);have c4:=J.o _ R;have y:=cB (T.z D);obtain⟨s0,s1,s2,s3⟩:=y.o.c4;have f:=y.o.free)
    |((fail_if_success (have q:=T));go_at_call 120;refine(H.o.kp _ a1 a2 c1 c2 (by with_reducible exact B) (by with_reducible exact p2)).mono ?_;rintro e w4 ⟨M,q1,e1,q2,e2,rfl,hM,h1,O,G,U,D⟩;have R:tB I w4:=(by with_reducible exact vB Y D);have c4:=J.o _ R)
    |(go_at_call 120;refine(H.o.kp _ a1 a2 c1 c2 (by with_reducible exact B.z yB) (by with_reducible exact p2.z yB)).mono ?_;rintro e w4 ⟨M,q1,e1,q2,e2,rfl,hM,h1,O,G,U,D⟩;have R:tB I w4:=(by with_reducible exact vB (vB Y yB) D);have c4:=J.o _ R;have y:bB (gB w4 t.1.size #[oA ⟨#[]⟩,lA mA 0,pA aA 0 0,pA aA 0 0] 54):=cB ((gB.new t _ _).z D);obtain⟨s0,s1,s2,s3⟩:=y.o.c4;have f:=y.o.free))
  all_goals(go_wp2_with fail;go_meet)
  all_goals first
   |with_reducible exact⟨_,rfl,aLe h1 (vD G) R⟩
   |exact⟨_,rfl,aDi h1 (vD G) (by have:=aB T;omega) hM (Ia _) y.o R⟩
   |exact⟨_,rfl,aDi h1 (vD G) (by simp) hM Y.size y.o R⟩
 obtain⟨X,rfl,q1,e1,q2,e2,N,I,O,C⟩:=hcut;rename eA=>t;replace P:=cB (P.o.z C);have Q:=cB N;have K:=cB I;have T:=aB N;have Y:w.1.size+1+1<X:=by omega
 clear J vy0 vy1 vx0 N I C;obtain⟨-,-,g2,-⟩:=Q.o.c4;go_upto_if 52 with fail;go_cut [13,14] (λ_ _ o=>∃L J n1 B d1,List.length J=n1/\qH m h j=⟨m.N,L,J,m.Z⟩/\yA J<=1900001/\gB o X #[oA m.N,zA L,pA B n1 d1,pA q2 (yA m.Z) e2] 54/\lC o B J/\lC o q2 m.Z/\AL w o c l a (yA Z) A)
 case first=>
  cases hme:h.toList.isEmpty with
  |true=>
   have o:=cB hme;obtain⟨-,g1,-,-⟩:=Q.o.c4;have g:=Q.o.free;go_wp2;go_meet;have hT:eB (·=X) t (t.setCell (dB X 1) (zA j)):=(eB.refl (·=X) t).setCell (Ca rfl) 1 _;exact⟨j,m.M,_,q1,e1,rfl,by unfold qH;rw[Ma o.o],by omega,by have:=Q.o.set 1 (zA j);simpa using this,(K.o _ hT).1,(K.o _ hT).2,P.o.turn hT Y⟩
  |false=>
   have HLA:=cB (aDr (limit:=j) H.o.rm hme);have HLE:=cB (λb=>aIi ⟨h,j⟩ b _ H.o.rm);have o:bB ((t.alloc (vA #[] 203)).ownsRow t.1.size 203 2 (pA (pB t.1.size) 0 0) 0 []):=cB (eA.ownsRow_made t #[] 0 (Ia _) (by simp[maxLen]) (by simp));have O:=cB (pF t (vA #[] 203));obtain⟨-,-,U,-⟩:=(Q.o.alloc (vA #[] 203)).c4;have HP1:=cB (K.o _ (eB.refl _ _)).1;go_upto_region 10 with fail;generalize (t.alloc (vA #[] 203))=w4 at *;generalize decide (j<0)=I at *;go_wp2;clear U;go_loopw [13,14,16,61] (λU pl _ i wr=>∃(k:Nat)(va:jC)(vc:Nat)(r:List iB),k<=yA m.M/\i=zA k/\U=pA va (yA r) vc/\pl=.bool (kX ⟨h,j⟩ I (m.M.take k)).2/\yA r<=2*k/\bB (r=(kX ⟨h,j⟩ I (m.M.take k)).1)/\bB (wr.ownsRow t.1.size 203 2 (pA va (yA r) vc) (yA r) (flatK r))/\bB (tB t wr)) (λ_ _ _ i _=>yA m.M-(intOf i).toNat)
   case atStart=>exact⟨0,_,_,[],Oa _,rfl,rfl,rfl,Oa _,rfl,o.o,O.o⟩
   case round=>
    obtain⟨k,va,vc,r,o,rfl,rfl,rfl,hyl,S,HR,o⟩:=hrel;have O:=o.o.size;by_cases U:k<yA m.M
    .obtain ⟨pb,po,rfl,hpl,v0,v1⟩:=(HP1.o.z o.o).at U;have HU:=cB (pe ⟨h,j⟩ I m.M k U);generalize kX ⟨h,j⟩ I (m.M.take k)=U at *;generalize m.M[k]=p at *;obtain⟨LU,PU⟩:=U;have hy:r=LU:=S.o;subst hy;rcases aIj ⟨h,j⟩ p r PU with⟨rfl,hs,hU⟩|⟨rfl,hs,hU⟩|⟨rfl,hs,h1,G,hU⟩|⟨rfl,hs,G,hU⟩|⟨rfl,hs,h1,G,hU⟩
     all_goals
      have x:=cB (HU.o.trans hU);clear S HU hU;dsimp only at hs;try dsimp only at h1
      try dsimp only at G
      go_wp2_with(at_builtin;first
       |(refine dQ rfl _ _ rfl underlying51 sY rfl (by omega) (by omega) (v:=pA (bA ⟨g7,0,aA⟩) (yA r+1) F) rfl u.o rfl rfl rfl (by simp[iA.oneCell']) (by omega) (by omega) ?_;intro g8 G w8 HR8 HT8)
       |(refine dQ rfl _ _ rfl underlying51 sY rfl (by omega) (by omega) (v:=pA va (yA r) vc) rfl (eC HR.o yB) rfl (by simp) rfl (by simp[iA.oneCell']) (by omega) (by simp;omega) ?_;intro g7 F w7 u z;have hs7:t.1.size<=w7.1.size:=(by have:=z.o.size;simp at this;omega);obtain⟨r0,r1⟩:=(z.o.blk (gB.new wr #[oA p.s,lA mA p.n] 203) (λe=>by have:=(HR.o.lt _ e.2).2;omega)).c2))
      first
       |(have q:=HR8;exact⟨⟨k+1,bA ⟨g8,0,aA⟩,G,r++[⟨h,j⟩]++[p],by omega,by go_num,by simp,by rw[x.o],by simp;omega,cB (by rw[x.o]),cB (by simpa[flatK]using HR8.o),cB (o.o.trans ((yB.mono O).trans ((z.o.below (by simp;omega) λi hi e=>by omega).trans (HT8.o.below hs7 λi hi e=>by omega))))⟩,by simp[intOf];omega⟩)
       |(have q:=u;have q:(p.s.toList==h.toList)=cA:=hs;exact⟨⟨k+1,bA ⟨g7,0,aA⟩,F,r++[p],by omega,by go_num,by simp,by rw[x.o],by simp;omega,cB (by rw[x.o]),cB (by simpa[flatK]using u.o),cB (o.o.trans ((yB.mono O).trans (z.o.below (by simp;omega) λi hi e=>by omega)))⟩,by simp[intOf];omega⟩)
       |(have q:=u;exact⟨⟨k+1,bA ⟨g7,0,aA⟩,F,r++[⟨h,j⟩],by omega,by go_num,by simp,by rw[x.o],by simp;omega,cB (by rw[x.o]),cB (by simpa[flatK]using u.o),cB (o.o.trans ((yB.mono O).trans (z.o.below (by simp;omega) λi hi e=>by omega)))⟩,by simp[intOf];omega⟩)
       |exact⟨⟨k+1,va,vc,r,by omega,by go_num,rfl,by rw[x.o],by omega,cB (by rw[x.o]),eC HR.o yB,o.o.trans (yB.mono O)⟩,by simp[intOf];omega⟩
    have ek:m.M.take k=m.M:=Ra (by omega);rw[ek]at S |-
    have G:bB (ib ⟨h,j⟩ I m.M=(kX ⟨h,j⟩ I m.M).1++if (kX ⟨h,j⟩ I m.M).2=dA then [] else [(⟨h,j⟩:iB)]):=rfl;have hle:=HLE.o I;rw[G.o,Kb]at hle;generalize kX ⟨h,j⟩ I m.M=U at *;obtain⟨LU,PU⟩:=U;have hy:r=LU:=S.o;subst hy;have U:yA r<=1900001:=by have:yA r<=yA m.M+1:=Ua (Nat.le_add_right _ _) hle;omega
    obtain⟨-,-,g2,-⟩:=(Q.o.z o.o).c4;have d:=(Q.o.z o.o).free;clear ek hyl S;cases PU
    all_goals
     go_wp2_with(at_builtin;refine dQ rfl _ _ rfl underlying51 sY rfl (by omega) (by omega) (v:=pA va (yA r) vc) rfl HR.o rfl rfl rfl (by simp[iA.oneCell']) (by omega) O ?_;intro g7 F w7 u z;have I:=cB (o.o.trans (z.o.below O λi hi e=>by omega));clear g2 d;obtain⟨-,-,g2,-⟩:=(Q.o.z I.o).c4;have d:=(Q.o.z I.o).free);go_meet;first
      |(have q:=u;exact⟨m.L,r++[⟨h,j⟩],_,_,_,by simp,by rw[HLA.o,G.o];simp,by simp at hle |-;omega,tc (by simp) P.o Q.o Y K.o I.o (by simpa[flatK]using u.o)⟩)
      |exact⟨m.L,r,_,_,_,rfl,by rw[HLA.o,G.o];simp,U,tc rfl P.o Q.o Y K.o o.o HR.o⟩
 clear P Q K g2;obtain⟨L,J,n1,B,d1,rfl,hT,h,N,o,G,s⟩:=hcut;rename eA=>w7;have P:=cB s;have h:=cB (Vc o G);rw[hT]at HV;obtain⟨m0,m1,m2,m3⟩:=N.c4;obtain⟨x0,x1,x2,I,O,U,Y,y1,-,-,-,-,hz⟩:=s.cells;clear o G N hT s;go_wp2_with fail;refine(H.o.wi _ L J m.Z B q2 d1 e2 P.o.B h.o.1 h.o.2 ⟨by show yA J<=_;omega,H.o.fit.2⟩).mono ?_;rintro e w8 ⟨o,rc,rfl,B,s⟩;clear m0 m1 m2 m3 x0 x1 x2 I O U Y y1 h;generalize uD c.w l (cC (·.N) ⟨m.N,L,J,m.Z⟩ Z)=h at *;obtain⟨x0,x1,x2,I,O,U,Y,y1,G,J,g0,g1,m⟩:=(P.o.z s).cells;have m:=cB ((P.o.z s).z (pF w8 (vA #[zA l,pA o (yA h) rc] 40)));have HO8:=cB (B.z (pF w8 (vA #[zA l,pA o (yA h) rc] 40)));obtain⟨a0,a1⟩:=(gB.new w8 #[zA l,pA o (yA h) rc] 40).c2;clear B s x0 x1 x2 I O U Y y1 G J g0 g1;by_cases s:10000<yA h
 .have E:bB (V=(l,Z,cA)):=by show _=_;rw[HV.o,Ma s]
  have hgi:(10000:Int)<yA h:=by omega
  go_upto_region 24 with fail;generalize w8.alloc (vA #[zA l,pA o (yA h) rc] 40)=wA at *;obtain⟨x0,x1,x2,I,O,U,Y,y1,-,-,-,-,-⟩:=m.o.cells;go_wp2_with(go_at_call 109;refine(H.o.sm _ m.o.B).mono ?_;rintro e B ⟨B,Z,rfl,ho,W⟩;have P9:=cB (m.o.z W);have HO9:=cB ho;clear ho W x0 x1 x2 I O U Y y1;obtain⟨-,-,-,-,-,-,-,-,G,J,g0,g1,I⟩:=P9.o.cells);refine bodyPost_ret (v:=?_) (by simp[results,results58,go_sem,G,J];rfl) rfl ?_;rw[E.o];first
   |exact⟨B,⟨Z,rfl⟩,P9.o.done HO9.o m.o.lt⟩
   |exact⟨B,Z,rfl,P9.o.done HO9.o m.o.lt⟩
 have E:bB (V=(l,h,dA)):=by show _=_;rw[HV.o,Ja s]
 have hgi:¬((10000:Int)<yA h):=by omega
 go_upto_region 25 with fail;generalize w8.alloc (vA #[zA l,pA o (yA h) rc] 40)=wA at *;obtain⟨-,-,-,-,-,-,-,-,G,J,g0,g1,I⟩:=m.o.cells;go_wp2;refine bodyPost_ret (v:=?_) (by simp[results,results58,go_sem,G,J];rfl) rfl ?_;rw[E.o];first
  |exact⟨o,⟨rc,rfl⟩,m.o.done HO8.o hz⟩
  |exact⟨o,rc,rfl,m.o.done HO8.o hz⟩
def rV(c:gC)(g:Int)(a:jC)(j:Nat)(h:List fB)(d b:nB)(f:Int)(w:eA)(n:uC w a h)(k:yA h+aC h<=1900000)(p:d.size<=1900000)(o:b.size<=1900000)(l:kC c g h=dA):
 gA prog 58 #[jE c,tA #[zA g,pA a (yA h) j],oA d,oA b,zA f] w λe q=>nT (kN c g h d b f) w e q:=by
 by_cases m:(oC d&&(b.toList.isEmpty||xE b) &&zB f (-1) 1000000)=cA
 .rw[show kN c g h d b f=(g,h,cA) by unfold kN;rw[Ja (by rw[l];simp),Ma m]];exact LM c g a j h d b f w n k p o l m
 have i:(oC d=dA/\(b.toList.isEmpty=dA\/xE b=dA))/\zB f (-1) 1000000=dA:=by simpa only[Bool.not_eq_false,Sa,Fe]using m
 refine LL (aJv n k p l i.1.1) o ?_ i.2 (by show _=_;unfold kN;rw[Ja (by rw[l];simp),Ja m]);cases he:b.toList.isEmpty
 .exact La ⟨rfl,i.1.2.resolve_left (by rw[he];simp)⟩
 exact Ca rfl
def aAp(X b:Nat):wrap64 (wrap64 ((X:Int)*256)+(b:Int))=bR (X*256+b):=by
 rw[RK];unfold wrap64;split<;>omega
def ZR(s:nB)(p n:Nat)(w:eA)(m:s.size<=maxLen)(h:p+n<=s.size)(u:n<=8):
 hI 171 #[oA s,zA p,zA n] w (zA (bR (uX (yQ s p n)))):=by
 unfold maxLen at m;go_enter func171,ntmps171;go_wp2;go_loop [7,8] (λv i=>∃(k V:Nat)(Z:Int),k<=n/\i=zA k/\v=zA Z/\bB (Z=bR V)/\bB (V=uX (yQ s p k))) (λ_ i=>n-(intOf i).toNat)
 case atStart=>exact⟨0,0,0,Oa _,rfl,rfl,by show _=_;rw[aJ (by omega)];rfl,rfl⟩
 case round=>
  obtain⟨k,V,Z,t,rfl,rfl,c,a⟩:=hrel;by_cases l:k<n
  .have f:V<72057594037927936:=by
    have d:=GO (yQ s p k);rw[tR (by omega),<-a.o]at d;have q:256 ^ k<=256 ^ 7:=Sc (by omega) (by omega);omega
   obtain rfl:Z=(V:Int):=by rw[c.o,aJ (by omega)]
   have g:(0:Int)<=(p:Int)+(k:Int):=by omega
   have j:(p:Int)+(k:Int)<(s.size:Int):=by omega
   have b:p+k<s.size:=by omega
   have r:=s[p+k].toNat_lt;have h:=aAp V s[p+k].toNat;go_wp2;refine⟨⟨k+1,V*256+s[p+k].toNat,bR (V*256+s[p+k].toNat),by omega,by go_num,?_,rfl,by show _=_;rw[QL b,DP,a.o]⟩,by simp[intOf];omega⟩;exact Kd (iA.int .i64) h
  .go_wp2;go_ret;have e:k=n:=by omega
   subst e;exact⟨zE (by rw[c.o,a.o]),rfl⟩
def aEu{a b:Int}{c d:Int}(e:a=b)(f:c=d):Ending.returned (xA #[zA a,zA c])=.returned (xA #[zA b,zA d]):=by rw[e,f]
def cT{s:nB}{p n:Nat}{v:Int}(h:DJ s p (qB n v))(f:n<=8)(d:bR (uX (qB n v).data.toList)=v)(j:s.size<=1000000)(w:eA):
 hI 102 #[oA s,zA (p:Nat),zA (n:Nat)] w (xA #[zA v,zA ((p+n:Nat):Int)]):=by
 have c:=h.le;have a:=h.sect;rw[kB]at c a;have b:=cB (λW=>ZR s p n W (by unfold maxLen;omega) c f);rw[a,d]at b;have i:¬((p:Int)+(n:Int) > (s.size:Int)):=by omega
 clear a d h;go_enter func102,ntmps102;go_wp2_with fail;refine oD (b.o _) ?_;go_wp2;go_ret2;exact⟨aEu rfl (by omega),rfl⟩
def aU{s t:nB}{p n:Nat}(h:DJ s p (qB n (t.size:Nat)++t))(a:n<=2)(b:t.size<256 ^ n)(d:s.size<=1000000)(w:eA):
 hI 103 #[oA s,zA (p:Nat),zA (n:Nat)] w (xA #[oA t,zA ((p+n+t.size:Nat):Int)]):=kQ s p n t _ w (by omega) a (h.part b)
def MR{n v:Nat}(h:v<256 ^ n)(a:v<9223372036854775808):bR (uX (qB n (v:Nat)).data.toList)=v:=by rw[pT n v h,aJ a]
def oE(l:List mI)(k:Nat):Nat:=if 2*k+2<yA l/\(jD l (2*k+2)).t<(jD l (2*k+1)).t then 2*k+2 else 2*k+1
def jL(l:List mI)(k:Nat):oE l k=2*k+1\/oE l k=2*k+2:=by
 unfold oE;split;exact La rfl;exact Ca rfl
def DT{l:List mI}{k i:Nat}(a:0<i)(b:i<yA l)(c:(i-1) / 2=k):oE l k<yA l/\(jD l (oE l k)).t<=(jD l i).t:=by grind [oE,jD]
def yX(l:List mI)(k:Nat):Prop:=(∀i,0<i->i<yA l->(i-1) / 2≠k->(jD l ((i-1) / 2)).t<=(jD l i).t)/\∀i,0<i->i<yA l->(i-1) / 2=k->0<k->(jD l ((k-1) / 2)).t<=(jD l i).t
def yX.done{l:List mI}{k:Nat}(h:yX l k)(f:¬(oE l k<yA l/\(jD l (oE l k)).t<(jD l k).t)):mJ l:=by
 intro i a b;by_cases e:(i-1) / 2=k
 .obtain ⟨d,g⟩:=DT a b e;rw[e];have:¬(jD l (oE l k)).t<(jD l k).t:=λc=>f ⟨d,c⟩;omega
 exact h.1 i a b e
def yX.step{l:List mI}{k:Nat}(h:yX l k)(g:oE l k<yA l)(s:(jD l (oE l k)).t<(jD l k).t):yX (aH l k (oE l k)) (oE l k):=by
 have u:=jL l k;have b:∀i,0<i->i<yA l->(i-1) / 2=k->(jD l (oE l k)).t<=(jD l i).t:=λi r d e=>(DT r d e).2;generalize oE l k=c at *;have f:(c-1) / 2=k:=by omega
 have m:k<yA l:=by omega
 refine⟨λi a d n=>?_,λi a d o _=>?_⟩
 .rw[lD]at d;rw[sI m g,sI m g,Ja n];by_cases p:i=c
  .subst p;rw[Ma rfl,Ma f];omega
  rw[Ja p];by_cases j:(i-1) / 2=k
  .rw[Ma j,Ja (by omega:i≠k)];exact b i a d j
  rw[Ja j];by_cases q:i=k
  .subst q;rw[Ma rfl];exact h.2 c (by omega) g f a
  rw[Ja q];exact h.1 i a d j
 rw[lD]at d;rw[sI m g,sI m g,f,Ja (by omega:k≠c),Ma rfl,Ja (by omega:i≠c),Ja (by omega:i≠k)];have:=h.1 i a d (by omega);rw[o]at this;exact this
def lN:Nat->List mI->Nat->List mI
 |0,l,_=>l
 |n+1,l,k=>if oE l k<yA l/\(jD l (oE l k)).t<(jD l k).t then lN n (aH l k (oE l k)) (oE l k) else l
def FV:∀(n m k:Nat)(l:List mI),yA l-k<=n->yA l-k<=m->lN n l k=lN m l k
 |0,0,_,_,_,_=>rfl
 |0,m+1,k,l,b,_=>by
  have:=jL l k;rw[lN,lN,Ja λh=>by omega]
 |n+1,0,k,l,_,a=>by
  have:=jL l k;rw[lN,lN,Ja λh=>by omega]
 |n+1,m+1,k,l,b,a=>by
  have c:=jL l k;rw[lN,lN];by_cases h:oE l k<yA l/\(jD l (oE l k)).t<(jD l k).t
  .rw[Ma h,Ma h];exact FV n m _ _ (by rw[lD];omega) (by rw[lD];omega)
  rw[Ja h,Ja h]
def wO(l:List mI)(k:Nat):List mI:=lN (yA l-k) l k
def WA{l:List mI}{k:Nat}(h:oE l k<yA l/\(jD l (oE l k)).t<(jD l k).t):wO l k=wO (aH l k (oE l k)) (oE l k):=by
 have b:=jL l k;obtain⟨n,a⟩:∃n,yA l-k=n+1:=⟨yA l-k-1,by have:=h.1;omega⟩
 unfold wO;rw[a,lN,Ma h];exact FV _ _ _ _ (by rw[lD];omega) (by rw[lD];omega)
def CT{l:List mI}{k:Nat}(h:¬(oE l k<yA l/\(jD l (oE l k)).t<(jD l k).t)):wO l k=l:=by
 unfold wO;cases yA l-k with
 |zero=>rfl
 |succ n=>rw[lN,Ja h]
def KO:∀(n k:Nat)(l:List mI),yA l-k<=n->k<=yA l->yX l k->mJ (wO l k)/\(wO l k).Perm l/\yA (wO l k)=yA l
 |0,k,l,g,f,h=>by
  have e:¬(oE l k<yA l/\(jD l (oE l k)).t<(jD l k).t):=λd=>by
   have:=jL l k;have:=d.1;omega
  rw[CT e];exact⟨h.done e,Lf _,rfl⟩
 |n+1,k,l,g,f,h=>by
  by_cases d:oE l k<yA l/\(jD l (oE l k)).t<(jD l k).t
  .have i:=jL l k;rw[WA d];obtain⟨a,b,c⟩:=KO n (oE l k) (aH l k (oE l k)) (by rw[lD];have:=d.1;omega) (by rw[lD];have:=d.1;omega) (h.step d.1 d.2);exact⟨a,b.trans (CZ (by have:=d.1;omega) d.1),c.trans (lD _ _ _)⟩
  rw[CT d];exact⟨h.done d,Lf _,rfl⟩
def LG(l:List mI):List mI:=(aH l 0 (yA l-1)).take (yA l-1)
def aP(l:List mI):List mI:=wO (LG l) 0
theorem JM(l:List mI):yA (LG l)=yA l-1:=by simp[LG,lD]
theorem aCc{l:List mI}(h:0<yA l){i:Nat}(a:i<yA l-1):jD (LG l) i=if i=0 then jD l (yA l-1) else jD l i:=by grind [jD,LG,aH,sI]
def aGw{l:List mI}(h:mJ l)(a:0<yA l):yX (LG l) 0:=by grind [mJ,yX,LG,JM,aCc]
def vr{l:List mI}(h:0<yA l):(jD l 0::LG l).Perm l:=by
 have c:=CZ (l:=l) (i:=0) (j:=yA l-1) h (by omega);have d:(aH l 0 (yA l-1)).length=yA l:=lD _ _ _;have a:(aH l 0 (yA l-1)).drop (yA l-1)=[jD l 0]:=by
  have b:yA l-1<(aH l 0 (yA l-1)).length:=by omega
  rw[Cb b,<-EM b,sI h (by omega),Ma rfl,Ie (by omega)]
 have e:LG l++[jD l 0]=aH l 0 (yA l-1):=by rw[<-a];exact Za _ _
 exact(List.perm_append_singleton (jD l 0) (LG l)).symm.trans (e ▸ c)
def wP{l:List mI}(h:mJ l)(d:0<yA l):mJ (aP l)/\(jD l 0::aP l).Perm l/\yA (aP l)=yA l-1:=by
 obtain⟨a,b,c⟩:=KO (yA (LG l)) 0 (LG l) (by omega) (Oa _) (aGw h d);exact⟨a,(b.cons _).trans (vr d),c.trans (JM l)⟩
def dy{l:List mI}(h:mJ l):∀(n i:Nat),i<=n->i<yA l->(jD l 0).t<=(jD l i).t
 |0,i,b,_=>by
  obtain rfl:i=0:=by omega
  exact Xd _
 |n+1,i,b,a=>by
  by_cases e:i=0
  .subst e;exact Xd _
  exact Int.le_trans (dy h n ((i-1) / 2) (by omega) (by omega)) (h i (by omega) a)
def aMl{l:List mI}(h:mJ l){x:mI}(b:x∈l):(jD l 0).t<=x.t:=by
 obtain⟨i,a,rfl⟩:=Ib b;have:=dy h i i (Ia _) a;rw[EM a]at this;exact this
def rH.take{w:eA}{g cap n:Nat}{hs:List mI}(h:rH w g cap hs)(m:n<=yA hs):rH w g cap (hs.take n):=by
 obtain⟨a,b,c,j,d,f⟩:=h;refine⟨a,b,c,by rw[Hb];omega,d,λk i=>?_⟩;rw[Hb]at i;have e:jD (hs.take n) k=jD hs k:=by simp[jD,List.getD,Jb (show k<n by omega)]
 rw[e];exact f k (by omega)
def OJ(x o g n cap k:Nat)(a:List mI)(w:eA)(s:w.cell? (dB x o)=bA (pA (pB g) n cap))(m:n=yA a)(j:rH w g cap a)(Q:k<=1000000000):
 vE 344 #[sA (bA (dB x o)),zA k] w (zA (oE a k:Nat)):=by
 have f:bB (oE a k=if 2*k+2<yA a/\(jD a (2*k+2)).t<(jD a (2*k+1)).t then 2*k+2 else 2*k+1):=rfl;obtain⟨r,d⟩:∃r,r=2*k+2:=⟨_,rfl⟩
 obtain⟨q,c⟩:∃q,q=2*k+1:=⟨_,rfl⟩
 rw[<-d,<-c]at f;have S:2*(k:Int)+2=(r:Nat):=by omega
 have R:2*(k:Int)+1=(q:Nat):=by omega
 have O:r<=2000000002:=by omega
 have M:q<=2000000001:=by omega
 have E:=iC.cells s;have b:=iC.there w;clear d c;by_cases F:r<n
 .obtain ⟨v,z,_,_⟩:=j.cells (k:=r) (by omega);obtain⟨B,D,_,_⟩:=j.cells (k:=q) (by omega);have I:=iC.cells v;have J:=iC.cells z;have K:=iC.cells B;have L:=iC.cells D;have G:bB _:=m;clear v z B D s j m;generalize oE a k=u at *;generalize jD a r=A at *;generalize jD a q=C at *;have N:q<n:=by omega
  go_enter func344,ntmps344;go_wp2_with fail;refine wB (by kernel_rfl) (by kernel_rfl) ?_;repeat (go_big_quiet_step (fail))
  refine wU (by rfl) (λW=>mY _ _ _ _ _ _ rfl rfl rfl (rW _ _ W)) (by rintro _ ⟨x,rfl⟩;exact mC (BN _ _ _ _ _)) ?_;simp only[Act.put,Ud,Jd,Ze];repeat (go_big_quiet_step (fail))
  refine wpQuiet_nil ?_;rintro _ ⟨y,rfl⟩;have p:bB _:=y.h;clear E I J K L b;generalize y.w'=H at *;clear y;have i:bB (u=if decide (A.t<C.t)=dA then r else q):=by show _=_;rw[f.o];simp only[Ab,<-G.o,F,true_and]
  cases hd:decide (A.t<C.t)
  all_goals
   rw[hd]at i;go_wp2;go_ret;exact⟨zE (by rw[i.o];rfl),p.o⟩
 have i:bB (oE a k=q):=by show _=_;rw[f.o,Ja (λh=>F (by rw[m];exact h.1))]
 clear s j m f;generalize oE a k=u at *;go_enter func344,ntmps344;go_wp2_with fail;refine wB (by kernel_rfl) (by kernel_rfl) ?_;repeat (go_big_quiet_step (fail))
 refine wpQuiet_nil ?_;rintro _ ⟨y,rfl⟩;have p:bB _:=y.h;clear E b;generalize y.w'=H at *;clear y;go_wp2;go_ret;exact⟨zE (by rw[i.o]),p.o⟩
structure PI(w W:World)(x g cap q:Nat)(cx:Array Value)(tx:TypeId)(l:List mI)(TP:mI):Prop where
 X:gB W x cx tx
 M:rH W g cap l
 P:gB W w.1.size #[sA aA,zA 0] 334
 Q:gB W q #[.pointer (pB TP.b),zA TP.t] 334
 T:eB (λk=>k=x∨k=g) w W
section
variable {w W W':eA} {x g cap q:Nat} {cx:Array iA} {tx:TypeId} {l l':List mI} {TP:mI}
theorem PI.z(h:PI w W x g cap q cx tx l TP)(a:tB W W'):PI w W' x g cap q cx tx l TP:=⟨h.X.z a,h.M.z a,h.P.z a,h.Q.z a,h.T.trans' (eB.of a)⟩
theorem PI.but(h:PI w W x g cap q cx tx l TP)(c:rH W' g cap l')(a:pD g W W')(b:g≠x)(d:g<w.1.size)(f:g<q):PI w W' x g cap q cx tx l' TP:=⟨h.X.but a b.symm,c,h.P.but a (by omega),h.Q.but a (by omega),h.T.trans' ((eB.but a).mono λi _ e=>La e)⟩
end
def aIk(x o g cap:Nat)(f:List mI)(w:eA)(cx:Array iA)(tx:TypeId)(m:gB w x cx tx)(G:cx[o]?=bA (pA (pB g) (yA f) cap))(J:rH w g cap f)(q:g≠x)(t:0<yA f)(h:yA f<=1000000000):
 gA prog 318 #[sA (bA (dB x o))] w λe w'=>e=.returned (tA #[.pointer (pB ((jD f 0).b)),zA (jD f 0).t])/\gB w' x (cx.setIfInBounds o (pA (pB g) (yA f-1) cap)) tx/\rH w' g cap (aP f)/\eB (λk=>k=x\/k=g) w w':=by
 obtain⟨d,I⟩:∃d,d=yA f-1:=⟨_,rfl⟩
 have h:(yA f:Int)-1=(d:Nat):=by omega
 have h:d<yA f:=by omega
 have M:yA f=d+1:=by omega
 have M:yA f<=cap:=by obtain⟨N,_,_,M,_⟩:=J;exact M
 have M:d<=cap:=by omega
 have hgl:=J.lt;have Q:=aB m;have M:bB (aP f=wO ((aH f 0 d).take d) 0):=by show _=_;rw[I];rfl
 have U:bB (jD (aH f 0 d) d=jD f 0):=by show _=_;rw[sI t h,Ma rfl]
 have S:bB (∀W,tB w W->gA prog 297 #[sA (bA (dB x o)),zA 0,zA d] W λe w'=>e=.returned (xA #[])/\rH w' g cap (aH f 0 d)/\pD g W w'):=λW O=>by
  have:=QX x o g (yA f) cap 0 d f W (by rw[(m.z O).cell];exact G) rfl (J.z O) t h;simpa using this
 have c0:w.cell? (dB x o)=bA (pA (pB g) (yA f) cap):=by rw[m.cell];exact G
 have t:=(Vb.1 G).1;obtain⟨F,O⟩:∃c,c=cx.setIfInBounds o (pA (pB g) d cap):=⟨_,rfl⟩
 have Y:F[o]?=bA (pA (pB g) d cap):=by rw[O];simp[t]
 have HX:=cB m;have Z:bB _:=G;rw[<-I,<-O];have HCD:bB _:=O;have HFC:bB _:=fun(k:Nat)(l:List mI)(W:eA)(T:gB W x F tx)(X:rH W g cap l)(t:yA l=d)(hk:k<=1000000000)=>OJ x o g d cap k l W (by rw[T.cell];exact Y) t.symm X hk;have P:bB _:=fun(i:Nat)(j:Nat)(l:List mI)(W:eA)(T:gB W x F tx)(X:rH W g cap l)(t:yA l=d)(hi:i<d)(hj:j<d)=>QX x o g d cap i j l W (by rw[T.cell];exact Y) t.symm X hi hj;generalize T:aP f=X at *;generalize htp:jD f 0=TP at *;clear m G J O I T htp;have m:bB (tB w (w.alloc (vA #[sA aA,zA 0] 334))):=yB;have P0:bB (gB (w.alloc (vA #[sA aA,zA 0] 334)) w.1.size #[sA aA,zA 0] 334):=gB.new _ _ _;have e0:=(m.o.cell Q).trans c0;go_enter func318,ntmps318;go_wp2_with fail;apply hC (S.o _ m.o);rintro n ⟨J,G⟩;have I:=cB J;have T:=G.size;have hsa:(w.alloc (vA #[sA aA,zA 0] 334)).1.size=w.1.size+1:=by simp
 have O:bB (gB n x cx tx):=(HX.o.z m.o).but G q.symm;have P1:bB (gB n w.1.size #[sA aA,zA 0] 334):=P0.o.but G (by omega);have T1:bB (eB (λk=>k=x\/k=g) w n):=(eB.of m.o).trans' ((eB.but G).mono λi _ e=>La e);have Q:w.1.size+1<=n.1.size:=by omega
 obtain⟨Q,a1,_,_⟩:=J.cells (k:=d) (by rw[lD];exact h);rw[U.o]at Q a1;have x0:n.cell? (dB x o)=bA (pA (pB g) (yA f) cap):=by rw[O.o.cell];exact Z.o
 clear J G S m P0 e0 c0 HX hsa T;obtain⟨h,J⟩:∃h,h=n.alloc (vA #[.pointer (pB TP.b),zA TP.t] 334):=⟨_,rfl⟩
 have m:tB n h:=by rw[J];exact yB
 have G:n.1.size<h.1.size:=by rw[J];simp
 have xa:=((O.o.z m).cell o).trans Z.o;have fa:=(O.o.z m).free o;have D:eB (·=x) h (h.setCell (dB x o) (pA (pB g) d cap)):=(eB.refl (·=x) _).setCell (Ca rfl) o _;have T:bB (PI w (h.setCell (dB x o) (pA (pB g) d cap)) x g cap n.1.size F tx ((aH f 0 d).take d) TP):=by
  obtain⟨N,h,m2⟩:=I.o.z m;exact⟨by rw[HCD.o];exact(O.o.z m).set o _,rH.take (hs:=aH f 0 d) ⟨N,D.blk h q,m2⟩ (by rw[lD];omega),D.blk (P1.o.z m) (by omega),D.blk (by rw[J];exact gB.new _ _ _) (by omega),(T1.o.trans' (eB.of m)).trans' (D.mono λi _ e=>Ca e)⟩
 have h:bB (yA ((aH f 0 d).take d)=d):=by show _=_;rw[Hb,lD];omega
 clear D I O P1 T1 Z U m;generalize (aH f 0 d).take d=m at *;rw[J]at xa fa G T;clear J;go_wp2;clear xa fa Q a1 x0 G;generalize ((n.alloc (vA #[.pointer (pB TP.b),zA TP.t] 334)).setCell (dB x o) (pA (pB g) d cap))=w2 at *;go_loopw [5] (λa wr=>∃(k:Nat)(l:List mI),a=zA k/\k<=d/\yA l=d/\bB (X=wO l k)/\bB (PI w wr x g cap n.1.size F tx l TP)) (λa _=>d-(intOf a).toNat)
 case atStart=>exact⟨0,m,rfl,Oa _,h.o,M.o,T.o⟩
 case round=>
  obtain⟨k,l,rfl,hk,t,B,I⟩:=hrel;have m:=cB t;have G:=jL l k;have K:bB (oE l k<yA l->(jD l (oE l k)).t<(jD l k).t->wO l k=wO (aH l k (oE l k)) (oE l k)):=λa b=>WA ⟨a,b⟩;have s:=cB (CT (l:=l) (k:=k));have R:=cB (HFC.o k l wr I.o.X I.o.M t (by omega));clear t;generalize h:oE l k=E at *;clear h;go_wp2_with fail;apply hC R.o;intro J h;have Z:=cB (I.o.z h);clear h R I;have t:J.cell? (dB x o)=bA (pA (pB g) d cap):=by rw[Z.o.X.cell];exact Y
  have I:=iC.cells t;have Y:=iC.there J;by_cases h:d<=E
  case' pos=>
   have L:bB (X=l):=by show _=_;rw[B.o];exact s.o (λh=>by have:=m.o;omega)
   have o:¬((E:Int)<d):=by omega
   clear K s P;go_wp2_with fail;refine wB (by kernel_rfl) (by kernel_rfl) ?_;repeat (go_big_quiet_step (fail))
   refine wpQuiet_nil ?_;rintro _ ⟨y,rfl⟩;have p:=cB (Z.o.z y.h);clear I Y t Z;generalize y.w'=V at *;clear y
  case' neg=>
   have H:E<d:=by omega
   have o:k<d:=by omega
   obtain⟨Q,a1,_,_⟩:=Z.o.M.cells (k:=E) (by rw[m.o];exact H);obtain⟨M,O,_,_⟩:=Z.o.M.cells (k:=k) (by rw[m.o];exact o);have T:=iC.cells Q;have U:=iC.cells a1;have d3:=iC.cells M;have d4:=iC.cells O;have u:=cB (λW J G=>P.o k E l W J G m.o o H);clear Q a1 M O t;generalize jD l E=A at *;generalize jD l k=C at *;go_wp2_with fail;refine wB (by kernel_rfl) (by kernel_rfl) ?_;repeat (go_big_quiet_step (fail))
   refine wU (by rfl) (λW=>mY _ _ _ _ _ _ rfl rfl rfl (rW _ _ W)) (by rintro _ ⟨x,rfl⟩;exact mC (BN _ _ _ _ _)) ?_;simp only[Act.put,Ud,Jd,Ze];repeat (go_big_quiet_step (fail))
   refine wpQuiet_nil ?_;rintro _ ⟨y,rfl⟩;have p:=cB (Z.o.z y.h);clear I T U d3 d4 Y Z;generalize y.w'=V at *;clear y;by_cases r:A.t<C.t
   .have o:decide (A.t<C.t)=dA:=by simpa using r
    rw[o];have L:bB (X=wO (aH l k E) E):=by show _=_;rw[B.o];exact K.o (by rw[m.o];exact H) r
    have t:k<E:=by omega
    clear K s B r o G;go_wp2_with fail;apply hC (u.o _ p.o.X p.o.M);rintro w4 ⟨t,I⟩;have M:=cB (p.o.but t I q hgl (by omega));clear t I u;go_wp2;exact⟨⟨E,aH l k E,rfl,by omega,by rw[lD];exact m.o,L.o,M.o⟩,by simp[intOf];omega⟩
   have o:decide (A.t<C.t)=cA:=by simpa using r
   rw[o];have L:bB (X=l):=by show _=_;rw[B.o];exact s.o (λh=>r h.2)
   clear K s B r o G u
  all_goals
   have h:V.cell? (dB w.1.size 0)=bA (sA aA):=p.o.P.cell 0;have m:V.cell? (dB w.1.size 1)=bA (zA 0):=p.o.P.cell 1;have o:=p.o.P.free 0;have o:=p.o.P.free 1;have o:V.cell? (dB n.1.size 0)=bA (.pointer (pB TP.b)):=p.o.Q.cell 0;have o:V.cell? (dB n.1.size 1)=bA (zA TP.t):=p.o.Q.cell 1;go_wp2;have z:eB (·=w.1.size) V ((V.setCell (dB w.1.size 0) (.pointer (pB TP.b))).setCell (dB w.1.size 1) (zA TP.t)):=((eB.refl (·=w.1.size) V).setCell (Ca rfl) 0 _).setCell (Ca rfl) 1 _;refine bodyPost_ret (v:=tA #[.pointer (pB TP.b),zA TP.t]) (by simp[results,results318,go_sem,h,m]) rfl ⟨rfl,z.blk p.o.X (by omega),?_,p.o.T.trans (z.mono λi _ e=>La (by omega))⟩;rw[L.o];obtain⟨N,J,G⟩:=p.o.M;exact⟨N,z.blk J (by omega),G⟩
