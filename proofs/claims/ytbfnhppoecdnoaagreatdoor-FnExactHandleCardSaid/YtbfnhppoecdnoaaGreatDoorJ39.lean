import Derived.Test.YtbfnhppoecdnoaaGreatDoorJ33
import Derived.Test.YtbfnhppoecdnoaaGreatDoorJ36
set_option maxRecDepth 100000
set_option maxHeartbeats 16000000
open Option renaming none->aA,some->bA
open Bool renaming false->cA,true->dA
open List renaming length->vA
namespace Go.Proofs.YtbfnhppoecdnoaaGreatDoor
open Go renaming World->eA
open Value renaming int->lA,slice->oA,string->nA
open IntKind renaming i64->mA
open Obj renaming cells->tA
open Go.RowKit Tryz
section
open Go.Maps
def XJ(V:Int×List aB×Nat)(w:eA)(e:Ending)(c:eA):Prop:=
 ∃a b,e=.returned (.tuple #[.agg #[lA mA V.1,oA a (vA V.2.1) b],lA mA (V.2.2:Nat)])/\vC c w.1.size a V.2.1/\kB w c
end
theorem jt{y:Array Oper}{b:List Oper}{o:Oper}{a:Act}{Q:Exit->Act->eA->Prop}{w:eA}(l:o.guard=aA)(s x:Operand)(E:o.op=.call { callee:=.builtin .append,args:=#[s,x],argTypes:=#[83,83] }){B k n j:Nat}{u:List Value}(G:a.eval s=oA (bA ⟨k,0,aA⟩) n j)(F:w.ownsRow B 88 2 (oA (bA ⟨k,0,aA⟩) n j) n u)
{i:iC}{m v:Nat}(f:List dB)(H:a.eval x=oA i m v)(D:vA f=m)(d:sU w i m (flatK f))(J:n+m<=4000000)(C:B<=w.1.size)
(h:∀g cap e,xA (e.ownsRow B 88 2 (oA (bA ⟨g,0,aA⟩) (n+m) cap) (n+m) (u++flatK f))->xA (Below B w e)->wpList prog y Q b (a.put o.dst (oA (bA ⟨g,0,aA⟩) (n+m) cap)) e):wpList prog y Q (o::b) a w:=by
 obtain⟨I,p,q,r,t⟩:=info_parts II;exact FZ _ l s x _ E B 88 I _ 2 24 underlying83 p q r t rfl (by omega) k n j u G F i m v (flatK f) H (by rw[xM,D]) d (lQ _) (by simp[maxLen];omega) (by omega) C fun g cap e z A _ _ _ _=>h g cap e z A
theorem aMv{l:Array Oper}{b:List Oper}{o:Oper}{a:Act}{Q:Exit->Act->eA->Prop}{w:eA}(i:o.guard=aA)(s x:Operand)(t:o.op=.call { callee:=.builtin .append,args:=#[s,x],argTypes:=#[83,83] })(u:a.eval s=oA (bA ⟨w.1.size,0,aA⟩) 0 0){j:iC}{m p:Nat}(f:List dB)(v:a.eval x=oA j m p)(r:vA f=m)(d:sU (w.alloc (tA #[] 88)) j m (flatK f))(y:m<=4000000)
(h:∀g cap e,xA (e.ownsRow w.1.size 88 2 (oA (bA ⟨g,0,aA⟩) m cap) m (flatK f))->xA (kB w e)->wpList prog l Q b (a.put o.dst (oA (bA ⟨g,0,aA⟩) m cap)) e):wpList prog l Q (o::b) a (w.alloc (tA #[] 88)):=by
 refine jt i s x t (B:=w.1.size) u (eA.ownsRow_made w #[] 0 (Ia _) (by simp[maxLen]) (by simp)) f v r d (by omega) vB.size fun g cap e k q=>?_;rw[Ya]at k |-
 exact h g cap e k (vB.trans q.o)
structure AB(wv W:World)(X M:Nat)(q1:iC)(e1:Nat)(q2:iC)(e2:Nat)(tn:aB):Prop where
 X:iB W X #[nA tn.N,lA mA tn.L,oA q1 (vA tn.M) e1,oA q2 (vA tn.Z) e2] 85
 P:mC W wv.1.size q1 tn.M
 R:W.ownsRow M 88 2 (oA q2 (vA tn.Z) e2) (vA tn.Z) (flatK tn.Z)
section
variable {w wv W W':eA} {X M e1 e2 n cap:Nat} {q1 q2 a:iC} {tn:aB} {c:lC} {now:Int} {key:gB}
theorem AB.z(h:AB wv W X M q1 e1 q2 e2 tn)(b:kB W W'):AB wv W' X M q1 e1 q2 e2 tn:=⟨h.X.z b,h.P.z b,jC h.R b⟩
theorem aNg{g k:Nat}(A:AB wv W X M q1 e1 (bA ⟨g,0,aA⟩) e2 tn)(P:CP w W c now a n cap)(v:∀g o,q1=bA ⟨g,o,aA⟩->g<M)(u:g≠X)(y:w.1.size+1+1<M)(b:k<vA tn.Z)(d:tn.Z[k].s=key)(i:wC (·.s) tn.Z):
 iB (W.setCell ⟨g,k*2+1,aA⟩ (lA mA now)) X #[nA tn.N,lA mA tn.L,oA q1 (vA tn.M) e1,oA (bA ⟨g,0,aA⟩) (vA tn.Z) e2] 85/\yB (W.setCell ⟨g,k*2+1,aA⟩ (lA mA now)) q1 tn.M/\yB (W.setCell ⟨g,k*2+1,aA⟩ (lA mA now)) (bA ⟨g,0,aA⟩) (gC (·.s) ⟨key,now⟩ tn.Z)/\CP w (W.setCell ⟨g,k*2+1,aA⟩ (lA mA now)) c now a n cap/\vA (gC (·.s) (⟨key,now⟩:dB) tn.Z)=vA tn.Z/\W.frozen? ⟨g,k*2+1,aA⟩=cA:=by
 have t:=(A.R.lt g rfl).1;have m:gC (·.s) ⟨key,now⟩ tn.Z=tn.Z.set k ⟨tn.Z[k].s,now⟩:=by rw[aJq i b d,d]
 have p:vA (gC (·.s) (⟨key,now⟩:dB) tn.Z)=vA tn.Z:=by rw[m,Pd]
 have f:bB (·=g) W (W.setCell ⟨g,k*2+1,aA⟩ (lA mA now)):=(bB.refl (·=g) W).setCell (Ca rfl) _ _;refine⟨f.blk A.X u.symm,qu A.P f (fun l o e _ x=>by have:=v l o e;omega),?_,P.turn f (by omega),p,?_⟩
 .have h:(W.setCell ⟨g,k*2+1,aA⟩ (lA mA now)).ownsRow M 88 2 (oA (bA ⟨g,0,aA⟩) (vA tn.Z) e2) (vA tn.Z) (flatK (gC (·.s) ⟨key,now⟩ tn.Z)):=by
   rw[m,aEn _ _ b];exact aLy A.R
  rw[<-p]at h;exact(zD h).pairs
 .rcases A.R.2 with⟨e,_⟩|⟨l,j,r,e,_,q,_⟩
  .cases e
  simp only[Value.slice.injEq,Qa,Addr.mk.injEq,Cc]at e;rw[<-e.1]at q;exact iB.free q _
theorem aAx{d:eA}{g m b:Nat}{l:List Value}{y:List dB}(A:AB wv d X M q1 e1 q2 e2 tn)(P:CP w d c now a n cap)(j:∀g o,q1=bA ⟨g,o,aA⟩->tn.M≠[]->g≠X)(s:w.1.size+1+1<X)(h:kB d W)(k:W.ownsRow d.1.size 88 2 (oA (bA ⟨g,0,aA⟩) m b) m l)(v:flatK y=l)(t:vA y=m):
 iB (W.setCell ⟨X,3,aA⟩ (oA (bA ⟨g,0,aA⟩) m b)) X #[nA tn.N,lA mA tn.L,oA q1 (vA tn.M) e1,oA (bA ⟨g,0,aA⟩) m b] 85/\yB (W.setCell ⟨X,3,aA⟩ (oA (bA ⟨g,0,aA⟩) m b)) q1 tn.M/\yB (W.setCell ⟨X,3,aA⟩ (oA (bA ⟨g,0,aA⟩) m b)) (bA ⟨g,0,aA⟩) y/\CP w (W.setCell ⟨X,3,aA⟩ (oA (bA ⟨g,0,aA⟩) m b)) c now a n cap:=by
 subst v t;have f:bB (·=X) W (W.setCell ⟨X,3,aA⟩ (oA (bA ⟨g,0,aA⟩) (vA y) b)):=(bB.refl (·=X) W).setCell (Ca rfl) 3 _;have x:=zA A.X;exact⟨by have:=(A.X.z h).set 3 (oA (bA ⟨g,0,aA⟩) (vA y) b);simpa using this,qu (A.P.z h) f (fun r o e i p=>j r o e i p),(zD (f.row k (fun q u e=>by have:=(k.lt q u).1;omega))).pairs,(P.z h).turn f s⟩
end
theorem WT(c:lC)(now:Int)(a:iC)(cap:Nat)(j:List aB)(h key:gB)(w:eA)(y:nC w a j)(k:vA j+nB j<=1900000)(Y:h.size<=1900000)(V:key.size<=1900000)(t:kC c now j=dA)(i:(tC h&&pK key)=cA):
 Calls prog 58 #[oF c,.agg #[lA mA now,oA a (vA j) cap],nA h,nA key] w fun e N=>XJ (now,j,5) w e N:=by
 obtain⟨d,b,f,g⟩:=fP k;have r:=yA (fun W(u:kB w W)=>jG c now a cap j W (y.z u) b (by omega));have p:=yA (fun W=>cG h W (by unfold maxLen;omega));have l:=yA (fun W=>KZ key W (by omega));have o:=yA (fun W(u:kB w W)=>vT c now a cap j W (y.z u) t k);rw[t]at r;have x:tC h=cA\/tC h=dA/\pK key=cA:=by revert i;cases tC h<;>simp
 have P:=yA (CP.new (w:=w) (c:=c) (now:=now) (a:=a) (n:=vA j) (cap:=cap));clear y k d b f g t i;unfold XJ;unfold oF at *;rcases x with J|⟨J,Q⟩
 all_goals
  rw[J]at p;try rw[Q]at l
  go_enter func58,ntmps58;go_wp2_with(first
   |(go_at_call 16;apply aC (r.o _ P.o.B);intro wv i;replace P:=yA (P.o.z i);clear i r;obtain⟨z,A,C,D,E,F,G,H,-,-,-,-,q⟩:=P.o.cells)
   |(go_at_call 19;apply aC (p.o _);intro N h;subst h)
   |(go_at_call 51;apply aC (l.o _);intro Z i;replace P:=yA (P.o.z i);clear i z A C D E F G H q;obtain⟨z,A,C,D,E,F,G,H,-,-,-,-,q⟩:=P.o.cells)
   |(go_at_call 63;refine(o.o _ P.o.B).mono ?_;rintro e h ⟨K,L,rfl,I,i⟩;have s:=yA (P.o.z i);have m:=yA I;clear I i z A C D E F G H o;obtain⟨-,-,-,-,-,-,-,-,R,S,T,U,O⟩:=s.o.cells))
  refine bodyPost_ret (v:=?_) (by simp[results,results58,go_sem,R,S];rfl) rfl ?_;first
   |exact⟨K,⟨L,rfl⟩,s.o.done m.o q⟩
   |exact⟨K,L,rfl,s.o.done m.o q⟩
theorem ib{c:lC}{now:Int}{a:iC}{cap:Nat}{f:List aB}{L key:gB}{w:eA}{tn:aB}{V:Int×List aB×Nat}(H:xA (SC w c now a cap f L tn))(hk:key.size<=1900000)(hky:pK key=dA)(HFK:xA (∀p∈tn.Z,p.s.size<=1900000))(HKA:xA (dE c.w now (gC (·.N) ⟨tn.N,tn.L,tn.M,gC (·.s) ⟨key,now⟩ tn.Z⟩ f)=gC (·.N) (mK tn key now) f))
(HFI:xA (bl ⟨tn.N,tn.L,tn.M,gC (·.s) ⟨key,now⟩ tn.Z⟩))
(HV:xA (V=if (zC (·.s) key tn.Z).isSome=dA then(now,gC (·.N) (mK tn key now) f,1) else if (kE c tn ⟨#[]⟩).2<=(kE c tn ⟨#[]⟩).1\/(aF tn=dA/\vA f=10000) then(now,f,3) else if (kE c tn (aE key)).2<=(kE c tn (aE key)).1 then(now,f,4) else(now,gC (·.N) (mK tn key now) f,2))):
 Calls prog 58 #[oF c,.agg #[lA mA now,oA a (vA f) cap],nA L,nA key] w fun e w'=>XJ V w e w':=by
 obtain⟨hml,hsl⟩:=H.o.len;obtain⟨hn0,hn1⟩:=H.o.now0;have HKY:=yA (fun W=>KZ key W (by omega));have HMT:xA (∀W,qD 101 #[nA key] W (nA (aE key))):=fun W=>BD key W (by omega);have HCT:=yA (fun W m a1 a2 c1 c2(p1:yB W a1 tn.M)(p2:yB W a2 tn.Z)=>NA c tn a1 a2 c1 c2 m W p1 p2 (fun i h=>by have:=HFK.o _ (Gb h);omega) (by omega) (by omega));have HID:=yA (fun W a1 a2 c1 c2=>EZ tn a1 a2 c1 c2 W);have P:=yA (CP.new (w:=w) (c:=c) (now:=now) (a:=a) (n:=vA f) (cap:=cap));rw[hky]at HKY;unfold XJ;unfold oF at *;go_enter func58,ntmps58;go_upto_region 5 with(first
  |(go_at_call 16;apply aC (H.o.ok _ P.o.B);intro wo o;replace P:=yA (P.o.z o);clear o)
  |(go_at_call 19;apply aC (H.o.nm _);intro w' hw;subst hw)
  |(go_at_call 51;apply aC (HKY.o _);intro wv o;replace P:=yA (P.o.z o);clear o))
 have N:=yA P.o.kin;obtain⟨vy0,vy1,vx0⟩:=P.o.kin wv eD;have hsv:=P.o.lt;clear HKY;go_cut [10] (fun p wx=>∃X,p=.pointer (bA ⟨X,0,aA⟩)/\KXR wv X tn wx)
 case first=>
  go_region_held3 (fun w'=>w'.cell? ⟨w.1.size+1,0,aA⟩=bA (lA mA now)/\w'.cell? ⟨w.1.size+1,1,aA⟩=bA (oA a (vA f) cap)/\w'.cell? ⟨w.1.size,0,aA⟩=bA (lA mA c.w))
   (first|go_keep|with_reducible exact N.o _ (gz k4 (Ia _))|with_reducible exact N.o _ (gz k4 k3.size)|with_reducible exact N.o _ k4|with_reducible exact N.o _ k3|with_reducible exact N.o _ (oB k3 vB)|with_reducible exact N.o _ (vB.drew)|with_reducible exact N.o _ (oB k4 vB))
   (first
    |(go_at_call 28;refine(H.o.te _ (by with_reducible exact P.o.B.drew)).mono ?_;rintro e w3 ⟨⟨a1,c1,a2,c2,rfl,p1,p2⟩,F⟩;have k3:kB wv w3:=(by with_reducible exact oB eD.drew F);have c3:=N.o _ k3)
    |(go_at_call 28;refine(H.o.te _ (by with_reducible exact(oB P.o.B vB).drew)).mono ?_;rintro e w3 ⟨⟨a1,c1,a2,c2,rfl,p1,p2⟩,F⟩;have k3:kB wv w3:=(by with_reducible exact oB (vB.drew) F);have c3:=N.o _ k3;have hX3:iB w3 wv.1.size #[nA ⟨#[]⟩,lA mA 0,oA aA 0 0,oA aA 0 0] 85:=XP F)
    |(have q:=hX3;clear q;go_at_call 65;refine(H.o.kp _ a1 a2 c1 c2 (by with_reducible exact p1) (by with_reducible exact p2)).mono ?_;rintro e w4 ⟨M,q1,e1,q2,e2,rfl,hM,u,h1M,Q,hM4,G⟩;have k4:kB wv w4:=(by with_reducible exact oB k3 G);have c4:=N.o _ k4;have C:=yA (hX3.z G);obtain⟨s0,s1,s2,s3⟩:=C.o.c4;have d:=C.o.free)
    |((fail_if_success (have q:=hX3));go_at_call 65;refine(H.o.kp _ a1 a2 c1 c2 (by with_reducible exact p1) (by with_reducible exact p2)).mono ?_;rintro e w4 ⟨M,q1,e1,q2,e2,rfl,hM,u,h1M,Q,hM4,G⟩;have k4:kB wv w4:=(by with_reducible exact oB k3 G);have c4:=N.o _ k4)
    |(go_at_call 65;refine(H.o.kp _ a1 a2 c1 c2 (by with_reducible exact p1.z vB) (by with_reducible exact p2.z vB)).mono ?_;rintro e w4 ⟨M,q1,e1,q2,e2,rfl,hM,u,h1M,Q,hM4,G⟩;have k4:kB wv w4:=(by with_reducible exact oB (oB k3 vB) G);have c4:=N.o _ k4;have C:xA (iB w4 w3.1.size #[nA ⟨#[]⟩,lA mA 0,oA aA 0 0,oA aA 0 0] 85):=yA ((iB.new w3 _ _).z G);obtain⟨s0,s1,s2,s3⟩:=C.o.c4;have d:=C.o.free))
  all_goals(go_wp2_with fail;go_meet)
  all_goals first
   |with_reducible exact⟨_,rfl,aOj k3.size u h1M Q hM k4⟩
   |exact⟨_,rfl,aBl u h1M Q (by have:=zA hX3;omega) hM (Ia _) C.o k4⟩
   |exact⟨_,rfl,aBl u h1M Q (by simp) hM k3.size C.o k4⟩
 obtain⟨X,rfl,M,q1,e1,q2,e2,hXb,hP1,hq1M,hRow,hRX,hqX,hXw,hMw,F⟩:=hcut;rename eA=>w3;replace P:=yA (P.o.z F);have A:xA (AB wv w3 X M q1 e1 q2 e2 tn):=⟨hXb,hP1,hRow⟩
 have HQ:=yA (⟨hq1M,hRX,hqX⟩:_/\_/\_);have hX3:=zA hXb;have hXP:w.1.size+1+1<X:=by omega
 clear N vy0 vy1 vx0 hXb hP1 hq1M hRow hRX hqX F;obtain⟨U,Y,Z,t⟩:=A.o.X.c4;go_wp2;go_loopw [11,44] (fun _ i wr=>∃k:Nat,k<=vA tn.Z/\i=lA mA k/\xA (∀j(h:j<k)(h':j<vA tn.Z),tn.Z[j].s≠key)/\w3=wr) (fun _ i _=>vA tn.Z-(intOf i).toNat)
 case atStart=>exact⟨0,Oa _,rfl,(fun j h=>absurd h (by omega)),rfl⟩
 case round=>
  obtain⟨k,hkl,rfl,HN,hw⟩:=hrel;subst hw;by_cases hlt:k<vA tn.Z
  .obtain ⟨g,rfl⟩:=rk A.o.R (by omega);obtain⟨pb,po,ep,hpl,v0,v1⟩:=((zD A.o.R).pairs).at hlt;simp only[Qa,Addr.mk.injEq,Cc]at ep;obtain⟨rfl,rfl⟩:=ep;rw[Ya]at v0 v1;cases hsm:(tn.Z[k].s.toList==key.toList) with
   |true=>
    have HS:=yA (aNg A.o P.o HQ.o.1 (HQ.o.2.1 g rfl) (by omega) hlt ((jE _ _).1 hsm) H.o.rs);have E:xA (V=(now,gC (·.N) (mK tn key now) f,1)):=by
     show _=_;rw[HV.o,Ma];cases hgg:zC (·.s) key tn.Z with
     |some _=>rfl
     |none=>exact absurd ((jE _ _).1 hsm) (aY hgg _ (Gb hlt))
    have fz:=HS.o.2.2.2.2.2;obtain⟨-,-,-,-,-,-,z,K,-⟩:=P.o.cells;go_upto_region 11 with fail;clear v0 v1 fz U Y Z t z K;generalize w3.setCell ⟨g,k*2+1,aA⟩ (lA mA now)=w7 at *;obtain⟨X7,p1,p2,P7,hL,-⟩:=HS.o;have HWF:=yA (H.o.wi w7 tn.L tn.M (gC (·.s) ⟨key,now⟩ tn.Z) q1 (bA ⟨g,0,aA⟩) e1 e2 P7.B p1 p2 HFI.o);rw[HKA.o,hL]at HWF;replace P:=yA P7;obtain⟨U,Y,Z,t⟩:=X7.c4;obtain⟨x0,x1,x2,x3,x4,x5,z,K,-,-,-,-,S⟩:=P7.cells;clear X7 p1 p2 P7 HS;generalize gC (·.N) (mK tn key now) f=RL at *;go_wp2_with fail;refine HWF.o.mono ?_;rintro e w9 ⟨ra,rc,rfl,ho,o⟩;have D:=yA (P.o.z o);have r:=yA ho;clear ho o x0 x1 x2 x3 x4 x5 z K U Y Z t;obtain⟨-,-,-,-,-,-,-,-,z0,z1,g0,g1,hz9⟩:=D.o.cells;go_wp2;refine bodyPost_ret (v:=?_) (by simp[results,results58,go_sem,z0,z1];rfl) rfl ?_;rw[E.o];first
     |exact⟨ra,⟨rc,rfl⟩,D.o.done r.o S⟩
     |exact⟨ra,rc,rfl,D.o.done r.o S⟩
   |false=>
    have HN2:xA (∀j(h:j<k+1)(h':j<vA tn.Z),tn.Z[j].s≠key):=fun j hj hj'=>by
     by_cases e:j=k
     .subst e;exact fun e'=>absurd ((jE _ _).2 e') (by rw[hsm];simp)
     exact HN.o j (by omega) hj'
    generalize tn.Z[k].s=kk at *;go_wp2;exact⟨⟨k+1,by omega,by go_num,HN2.o,by first|rfl|trivial⟩,by simp[intOf];omega⟩
  have HNO:xA (zC (·.s) key tn.Z=aA):=tN fun p hp=>by
   obtain⟨j,hj,rfl⟩:=Ib hp;exact HN.o j (by omega) hj
  have HC1:=yA (HCT.o w3 ⟨#[]⟩ q1 q2 e1 e2 A.o.P.pairs (zD A.o.R).pairs);have HV2:xA (V=if (kE c tn ⟨#[]⟩).2<=(kE c tn ⟨#[]⟩).1\/(aF tn=dA/\vA f=10000) then(now,f,3) else if (kE c tn (aE key)).2<=(kE c tn (aE key)).1 then(now,f,4) else(now,gC (·.N) (mK tn key now) f,2)):=by show _=_;rw[HV.o,Ja (by rw[HNO.o];simp)]
  have hkn:¬((k:Int)<vA tn.Z):=by omega
  clear HV HN hlt hkl;obtain⟨x0,x1,x2,x3,x4,x5,z,K,-,-,-,-,S⟩:=P.o.cells;generalize kE c tn ⟨#[]⟩=CV at *;obtain⟨n1,l1⟩:=CV;go_upto_region 15 with(first
   |(go_at_call 71;apply aC HC1.o;intro w4 o;replace A:=yA (A.o.z o);replace P:=yA (P.o.z o);clear o x0 x1 x2 x3 x4 x5 z K U Y Z t S;obtain⟨U,Y,Z,t⟩:=A.o.X.c4;obtain⟨x0,x1,x2,x3,x4,x5,z,K,-,-,-,-,S⟩:=P.o.cells)
   |(go_at_call 49;apply aC (HID.o _ q1 q2 e1 e2);intro w5 o;replace A:=yA (A.o.z o);replace P:=yA (P.o.z o);clear o x0 x1 x2 x3 x4 x5 z K U Y Z t S;obtain⟨U,Y,Z,t⟩:=A.o.X.c4;obtain⟨x0,x1,x2,x3,x4,x5,z,K,-,-,-,-,S⟩:=P.o.cells))
  generalize aF tn=IB at *;go_cut [88] (fun s wx=>s=.bool (decide (l1<=n1) ||(IB&&decide (vA f=10000)))/\w5=wx)
  case first=>
   have h3:l1<=n1/\(decide (l1<=n1) ||(IB&&decide (vA f=10000)))=dA\/¬l1<=n1/\(IB=cA/\(decide (l1<=n1) ||(IB&&decide (vA f=10000)))=cA\/IB=dA/\(((vA f:Int)==10000)=dA/\(decide (l1<=n1) ||(IB&&decide (vA f=10000)))=dA\/((vA f:Int)==10000)=cA/\(decide (l1<=n1) ||(IB&&decide (vA f=10000)))=cA)):=by
    by_cases u:l1<=n1
    .exact Ca ⟨u,by simp[u]⟩
    refine La ⟨u,?_⟩;cases IB
    .exact Ca ⟨rfl,by simp[u]⟩
    refine La ⟨rfl,?_⟩;by_cases Q:vA f=10000
    .exact Ca ⟨by simp[Q],by simp[Q]⟩
    exact La ⟨by simp;omega,by simp[u,Q]⟩
   rcases h3 with⟨u,HD⟩|⟨u,⟨rfl,HD⟩|⟨rfl,⟨Q,HD⟩|⟨Q,HD⟩⟩⟩
   all_goals
    have HD:=yA HD;go_wp2_with fail;go_meet;exact⟨by rw[HD.o],rfl⟩
  obtain⟨rfl,hw⟩:=hcut;subst hw;have O:xA (V=if (decide (l1<=n1) ||(IB&&decide (vA f=10000)))=dA then(now,f,3) else if (kE c tn (aE key)).2<=(kE c tn (aE key)).1 then(now,f,4) else(now,gC (·.N) (mK tn key now) f,2)):=by
   refine yA ?_;rw[HV2.o];simp only[Fe,Sa,Ab]
  clear HV2 HC1;cases hcb:(decide (l1<=n1) ||(IB&&decide (vA f=10000))) with
  |true=>
   rw[hcb,Ma rfl]at O;clear hcb;go_wp2_with(go_at_call 63;refine(H.o.sm _ P.o.B).mono ?_;rintro e w9 ⟨ra,rc,rfl,ho,o⟩;have D:=yA (P.o.z o);have r:=yA ho;clear ho o x0 x1 x2 x3 x4 x5 z K;obtain⟨-,-,-,-,-,-,-,-,z0,z1,g0,g1,hz9⟩:=D.o.cells);refine bodyPost_ret (v:=?_) (by simp[results,results58,go_sem,z0,z1];rfl) rfl ?_;rw[O.o];first
    |exact⟨ra,⟨rc,rfl⟩,D.o.done r.o S⟩
    |exact⟨ra,rc,rfl,D.o.done r.o S⟩
  |false=>
   rw[hcb,Ja (by simp)]at O;clear hcb x0 x1 x2 x3 x4 x5 z K U Y Z t S;have dx:=fun x:tB w5=>(P.o.z x.h).cells;have dm:=fun x:tB w5=>(A.o.z x.h).X.c4;simp only[forall_and]at dx dm;obtain⟨dx0,dx1,dx2,dx3,dx4,dx5,-⟩:=dx;obtain⟨dm0,dm1,dm2,dm3⟩:=dm;have HC2:=yA (fun y:tB w5=>HCT.o y.w' (aE key) q1 q2 e1 e2 (A.o.P.pairs.z y.h) ((zD A.o.R).pairs.z y.h));have hnel:=tB.there w5;generalize kE c tn (aE key)=CV at *;obtain⟨n2,l2⟩:=CV;generalize hmk:aE key=mk at *;clear hmk HCT;go_wp2_with fail;refine jB (by kernel_rfl) (by kernel_rfl) ?_;repeat (go_big_quiet_step (first|(go_at_call 101;exact xB (HMT.o _))|(go_at_call 71;exact xB (HC2.o _))|fail))
   refine wpQuiet_nil ?_;rintro _ ⟨y,rfl⟩;replace P:=yA (P.o.z y.h);replace A:=yA (A.o.z y.h);clear dx0 dx1 dx2 dx3 dx4 dx5 dm0 dm1 dm2 dm3 hnel HC2 HMT;generalize y.w'=w6 at *;clear y;obtain⟨U,Y,Z,t⟩:=A.o.X.c4;obtain⟨x0,x1,x2,x3,x4,x5,z,K,-,-,-,-,S⟩:=P.o.cells;by_cases hme:l2<=n2
   .have E:xA (V=(now,f,4)):=by show _=_;rw[O.o,Ma hme]
    go_wp2_with(go_at_call 63;refine(H.o.sm _ P.o.B).mono ?_;rintro e w9 ⟨ra,rc,rfl,ho,o⟩;have D:=yA (P.o.z o);have r:=yA ho;clear ho o x0 x1 x2 x3 x4 x5 z K;obtain⟨-,-,-,-,-,-,-,-,z0,z1,g0,g1,hz9⟩:=D.o.cells);refine bodyPost_ret (v:=?_) (by simp[results,results58,go_sem,z0,z1];rfl) rfl ?_;rw[E.o];first
     |exact⟨ra,⟨rc,rfl⟩,D.o.done r.o S⟩
     |exact⟨ra,rc,rfl,D.o.done r.o S⟩
   have E:xA (V=(now,gC (·.N) (mK tn key now) f,2)):=by show _=_;rw[O.o,Ja hme]
   clear O x0 x1 x2 x3 x4 x5 K U Y Z HID;go_wp2;go_loopw [15] (fun i wr=>∃j:Nat,j<=vA tn.Z/\i=lA mA j/\xA (∀i(h:i<vA tn.Z),i<j->aK tn.Z[i].s key=dA)/\w6=wr) (fun i _=>vA tn.Z-(intOf i).toNat)
   case atStart=>exact⟨0,Oa _,rfl,(fun i _ hi=>absurd hi (by omega)),rfl⟩
   case round=>
    obtain⟨j,hj,rfl,HJ,hw⟩:=hrel;subst hw;have hcs:(∃h:j<vA tn.Z,aK tn.Z[j].s key=dA)\/((¬(j:Int)<vA tn.Z/\j=vA tn.Z)\/∃h:j<vA tn.Z,Op.bytesLess tn.Z[j].s.toList key.toList=cA)/\gC (·.s) ⟨key,now⟩ tn.Z=tn.Z.take j++⟨key,now⟩:: tn.Z.drop j:=by
     by_cases J:j<vA tn.Z
     .cases I:aK tn.Z[j].s key
      .exact La ⟨La ⟨J,I⟩,YT hj (fun i h hi=>HJ.o i h hi) (fun _=>I) HNO.o⟩
      exact Ca ⟨J,I⟩
     exact La ⟨Ca ⟨by omega,by omega⟩,YT hj (fun i h hi=>HJ.o i h hi) (fun h=>absurd h J) HNO.o⟩
    rcases hcs with⟨J,I⟩|⟨hx,hcut⟩
    .obtain ⟨g,rfl⟩:=rk A.o.R (by omega);obtain⟨pb,po,ep,hpl,v0,-⟩:=((zD A.o.R).pairs).at J;simp only[Qa,Addr.mk.injEq,Cc]at ep;obtain⟨rfl,rfl⟩:=ep;rw[Ya]at v0;have hq2:Op.bytesLess tn.Z[j].s.toList key.toList=dA:=I;have HJ2:xA (∀i(h:i<vA tn.Z),i<j+1->aK tn.Z[i].s key=dA):=fun i h hi=>by
      by_cases e:i=j
      .subst e;exact I
      exact HJ.o i h (by omega)
     clear I;generalize tn.Z[j].s=kk at *;go_wp2;exact⟨⟨j+1,by omega,by go_num,HJ2.o,by first|rfl|trivial⟩,by simp[intOf];omega⟩
    have HQ2:xA (flatK (gC (·.s) ⟨key,now⟩ tn.Z)=flatK (tn.Z.take j)++[nA key,lA mA now]++flatK (tn.Z.drop j)/\vA (gC (·.s) (⟨key,now⟩:dB) tn.Z)=j+1+(vA tn.Z-j)):=by
     refine yA ?_;rw[hcut];refine⟨?_,by simp;omega⟩;rw[show tn.Z.take j++(⟨key,now⟩:dB):: tn.Z.drop j=(tn.Z.take j++[(⟨key,now⟩:dB)])++tn.Z.drop j by simp,xX,xX];rfl
    have hl1:vA (tn.Z.take j)=j:=by simp;omega
    have hl2:vA (tn.Z.drop j)=vA tn.Z-j:=by simp
    clear hcut;have hc3:(q2=aA/\e2=0/\vA tn.Z=0/\j=0)\/∃g,q2=bA ⟨g,0,aA⟩/\((¬(j:Int)<vA tn.Z/\j=vA tn.Z)\/∃h:j<vA tn.Z,Op.bytesLess tn.Z[j].s.toList key.toList=cA):=by
     rcases aSt A.o.R with⟨u,Q,h3⟩|⟨g,u⟩;exact Ca ⟨u,Q,h3,by omega⟩;exact La ⟨g,u,hx⟩
    clear hx;rcases hc3 with⟨rfl,rfl,T,rfl⟩|⟨g,rfl,hx⟩
    rotate_left;have HSH:=yA (fun W(hW:kB w6 W)=>aQc (jC A.o.R hW) hj);have hce:=aPm A.o.R;have hje:j<=e2:=by omega
    rcases hx with⟨hjn,-⟩|⟨J,hq2⟩;rcases Decidable.em (e2=j) with he|he
    all_goals first
     |(have q:=T;rw[T]at t;go_upto_region 23 with fail;obtain⟨-,-,-,xa3⟩:=(A.o.X.alloc (tA #[] 88)).c4;rw[T]at xa3)
     |(have q:=hjn;go_upto_region 23 with fail;obtain⟨-,-,-,xa3⟩:=(A.o.X.alloc (tA #[] 88)).c4)
     |(obtain⟨pb,po,ep,hpl,v0,-⟩:=((zD A.o.R).pairs).at J;simp only[Qa,Addr.mk.injEq,Cc]at ep;obtain⟨rfl,rfl⟩:=ep;rw[Ya]at v0;generalize tn.Z[j].s=kk at *;go_upto_region 23 with fail;clear v0 hq2 hpl;obtain⟨-,-,-,xa3⟩:=(A.o.X.alloc (tA #[] 88)).c4)
    all_goals
     clear t;go_upto_region 24 with(at_builtin;refine aMv rfl _ _ rfl rfl _ rfl hl1 (by first|exact(HSH.o _ vB).1|exact Ca rfl) (by omega) ?_;intro g8 cap8 w8 O8 B8;clear z xa3;obtain⟨-,-,-,-,-,-,z,-⟩:=(P.o.z B8.o).cells)
     have hs8:=B8.o.size;go_upto_region 25 with(at_builtin;refine vQ rfl _ _ rfl underlying83 II rfl (by omega) (by omega) rfl O8.o rfl rfl rfl (by simp[Value.oneCell']) (by omega) hs8 ?_;intro g10 cap10 w10 O10 T10;have B10:=yA (B8.o.trans (T10.o.below hs8 fun i hi e=>by omega));clear z;obtain⟨-,-,-,t⟩:=(A.o.X.z B10.o).c4;try rw[T]at t)
     have hs10:=B10.o.size;go_upto_region 26 with(at_builtin;first
      |(refine jt rfl _ _ rfl rfl O10.o (tn.Z.drop j) rfl hl2 (by first|exact(HSH.o _ B10.o).2|exact Ca (by omega)) (by omega) hs10 ?_;intro g12 cap12 w12 O12 B12;have l:=yA (B10.o.trans B12.o);have HA:=yA (aAx A.o P.o HQ.o.2.2 hXP l.o O12.o HQ2.o.1 (by have:=HQ2.o.2;omega));clear t;obtain⟨U,Y,Z,t⟩:=(A.o.X.z l.o).c4;(try rw[T]at t);have b:=(A.o.X.z l.o).free 3)
      |(refine jt rfl _ _ rfl rfl O10.o (tn.Z.drop 0) rfl (by rw[hl2];omega) (Ca rfl) (by omega) hs10 ?_;intro g12 cap12 w12 O12 B12;have l:=yA (B10.o.trans B12.o);have HA:=yA (aAx A.o P.o HQ.o.2.2 hXP l.o O12.o HQ2.o.1 (by have:=HQ2.o.2;omega));clear t;obtain⟨U,Y,Z,t⟩:=(A.o.X.z l.o).c4;(try rw[T]at t);have b:=(A.o.X.z l.o).free 3))
     obtain⟨x0,x1,x2,x3,x4,x5,z,K,-,-,-,-,-⟩:=(P.o.z l.o).cells;go_wp2_with fail;refine(H.o.wn HKA.o rfl (by have:=HQ2.o.2;omega) HA.o.2.2.2.B HA.o.2.1 HA.o.2.2.1 HFI.o).mono ?_;rintro e w9 ⟨ra,rc,rfl,ho,o⟩;have D:=yA (HA.o.2.2.2.z o);have r:=yA ho;have HZ:=yA HA.o.2.2.2.lt;clear ho o x0 x1 x2 x3 x4 x5 z K U Y Z t b HA;obtain⟨-,-,-,-,-,-,-,-,z0,z1,g0,g1,hz9⟩:=D.o.cells;generalize gC (·.N) (mK tn key now) f=RL at *;go_wp2;refine bodyPost_ret (v:=?_) (by simp[results,results58,go_sem,z0,z1];rfl) rfl ?_;rw[E.o];first
      |exact⟨ra,⟨rc,rfl⟩,D.o.done r.o HZ.o⟩
      |exact⟨ra,rc,rfl,D.o.done r.o HZ.o⟩
theorem DQ(c:lC)(now:Int)(a:iC)(cap:Nat)(d:List aB)(b key:gB)(w:eA)(t:nC w a d)(k:vA d+nB d<=1900000)(q:b.size<=1900000)(u:key.size<=1900000)(l:kC c now d=dA):
 Calls prog 58 #[oF c,.agg #[lA mA now,oA a (vA d) cap],nA b,nA key] w fun e A=>XJ (wH c now d b key) w e A:=by
 cases hb:(tC b&&pK key) with
 |false=>
  rw[show wH c now d b key=(now,d,5) by unfold wH;rw[Ja (by rw[l];simp),Ma hb]];exact WT c now a cap d b key w t k q u l hb
 |true=>
  have g:=hb;rw[Sa]at g;obtain⟨m,r,z,-,f⟩:=cI l;have o:1<=c.w:=by simp only[pH,Sa]at m;exact(uL m.1.1.1.1.1).1
  have S:=aQz (cap:=cap) t k q l g.1;refine ib S u g.2 (LV (wX k) q).2.2.1 (xv f (lV f) o) ?_ (by show _=_;unfold wH;rw[Ja (by rw[l];simp),Ja (by rw[hb];simp)];rfl);have x:=IJ (key:=fun p:dB=>p.s) (a:=⟨key,now⟩) (bC d b).Z;have B:=S.len;refine⟨S.fit.1,by show(gC (·.s) (⟨key,now⟩:dB) (bC d b).Z).length<=_;omega,fun i h=>?_⟩;rcases yK (Gb h) with e|e;show 0<=((gC (·.s) (⟨key,now⟩:dB) (bC d b).Z)[i]'h).n/\_;rw[e];exact⟨r,by show now<=_;omega⟩;obtain ⟨j,y,v⟩:=Ib e;have:=S.fit.2.2 j y;rw[v]at this;exact this
