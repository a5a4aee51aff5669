import Derived.Test.YtcmdjimlmnaojaaGreatDoorJ29
import Derived.Test.YtcmdjimlmnaojaaGreatDoorJ30
import Derived.Test.YtcmdjimlmnaojaaGreatDoorJ18
set_option maxRecDepth 100000
set_option maxHeartbeats 8000000
set_option linter.defProp false
open ByteArray renaming empty->lA
open Bool renaming true->eA,false->dA
open Option renaming none->aA,some->cA
open List renaming length->zA
namespace Go.Proofs.YtcmdjimlmnaojaaGreatDoor
open Value renaming slice->qA,agg->uA,string->pA,tuple->yA,int->mA,bool->sA
open Go renaming World->fA,Calls->iA,Value->jA
open Obj renaming cells->xA
open Ending renaming returned->vA
open IntKind renaming i64->oA
open Go.RowKit Tryz
def gH(c:lC)(now:Int)(b:List gB)(d:pB)(x:oF):Nat×List gB×pB:=
 if (wB x.B).2.1≠0 then((wB x.B).2.1,b,lA)
 else if aZ x.bits=eA then(6,b,lA)
 else if (dI c now b d (uI (wB x.B).1)).2.2=1\/(dI c now b d (uI (wB x.B).1)).2.2=2 then((dI c now b d (uI (wB x.B).1)).2.2,(dI c now b d (uI (wB x.B).1)).2.1,uI (wB x.B).1)
 else((dI c now b d (uI (wB x.B).1)).2.2,b,lA)
def TU{b:List cC}:∀l∈(wB b).1,l∈b:=by grind [wB,uL,tL]
def rZ{ls:List cC}:zA (wB ls).1<=zA ls:=by grind [wB,CH,zZ]
theorem YQ {x y : List cC} (h : x.Perm y) : aE x = aE y := by
  induction h with
  | nil => rfl
  | cons _ _ ih => simp [aE, ih]
  | swap => simp [aE]; omega
  | trans _ _ h1 h2 => exact h1.trans h2
theorem nz(b:List cC):aE (uL b)<=aE b:=by induction b<;>grind [aE,uL]
def BP(b:List cC):aE (wB b).1<=aE b:=by grind [aE,wB,YQ,tL,nz]
def VC(b:List cC):(uI b).size<=1+3*zA b+aE b:=by
 unfold uI;split;rw[aI,Ka,nB,eQ];omega;exact Oa _
structure JP(w W:World)(c:lC)(now:Int)(a:nC)(n cap:Nat)(la:nC)(k lc:Nat)(bi:Int):Prop where
 C:jB W w.1.size #[aB c.w,aB c.tl,aB c.ml,aB c.sh,aB c.ha,aB c.sg] 24
 S:jB W (w.1.size+1) #[aB now,qA a n cap] 40
 X:jB W (w.1.size+1+1) #[qA la k lc,aB bi] 93
 R:jB W (w.1.size+1+1+1) #[aB 0,qA aA 0 0] 40
 B:xB w W
section
variable {w W W':fA} {c:lC} {now:Int} {a la:nC} {n cap k lc:Nat} {bi:Int}
theorem JP.new:JP w ((((w.alloc (xA #[aB c.w,aB c.tl,aB c.ml,aB c.sh,aB c.ha,aB c.sg] 24)).alloc (xA #[aB now,qA a n cap] 40)).alloc (xA #[qA la k lc,aB bi] 93)).alloc (xA #[aB 0,qA aA 0 0] 40)) c now a n cap la k lc bi:=by
 have b:=((jB.new (w.alloc (xA #[aB c.w,aB c.tl,aB c.ml,aB c.sh,aB c.ha,aB c.sg] 24)) #[aB now,qA a n cap] 40).alloc (xA #[qA la k lc,aB bi] 93)).alloc (xA #[aB 0,qA aA 0 0] 40);have d:=(jB.new ((w.alloc (xA #[aB c.w,aB c.tl,aB c.ml,aB c.sh,aB c.ha,aB c.sg] 24)).alloc (xA #[aB now,qA a n cap] 40)) #[qA la k lc,aB bi] 93).alloc (xA #[aB 0,qA aA 0 0] 40);have e:=jB.new (((w.alloc (xA #[aB c.w,aB c.tl,aB c.ml,aB c.sh,aB c.ha,aB c.sg] 24)).alloc (xA #[aB now,qA a n cap] 40)).alloc (xA #[qA la k lc,aB bi] 93)) #[aB 0,qA aA 0 0] 40;simp only[fA.size_alloc]at b d e;exact⟨(((jB.new _ _ _).alloc _).alloc _).alloc _,b,d,e,aC (aC (aC bC bC) bC) bC⟩
theorem JP.z(h:JP w W c now a n cap la k lc bi)(b:xB W W'):JP w W' c now a n cap la k lc bi:=⟨h.C.z b,h.S.z b,h.X.z b,h.R.z b,aC h.B b⟩
theorem JP.cells(h:JP w W c now a n cap la k lc bi):W.cell? (eB w.1.size 0)=cA (aB c.w)/\W.cell? (eB w.1.size 1)=cA (aB c.tl)/\W.cell? (eB w.1.size 2)=cA (aB c.ml)/\W.cell? (eB w.1.size 3)=cA (aB c.sh)/\W.cell? (eB w.1.size 4)=cA (aB c.ha)/\W.cell? (eB w.1.size 5)=cA (aB c.sg)/\W.cell? (eB (w.1.size+1) 0)=cA (aB now)/\W.cell? (eB (w.1.size+1) 1)=cA (qA a n cap)/\W.cell? (eB (w.1.size+1+1) 0)=cA (qA la k lc)/\W.cell? (eB (w.1.size+1+1) 1)=cA (aB bi)/\W.cell? (eB (w.1.size+1+1+1) 0)=cA (aB 0)/\W.cell? (eB (w.1.size+1+1+1) 1)=cA (qA aA 0 0)/\W.frozen? (eB (w.1.size+1+1+1) 0)=dA/\W.frozen? (eB (w.1.size+1+1+1) 1)=dA/\w.1.size+1+1+1<W.1.size/\w.1.size+1<W.1.size/\¬w.1.size+1=W.1.size/\¬w.1.size+1+1+1=W.1.size:=
 have:=bB h.R
 ⟨h.C.cell 0,h.C.cell 1,h.C.cell 2,h.C.cell 3,h.C.cell 4,h.C.cell 5,h.S.cell 0,h.S.cell 1,h.X.cell 0,h.X.cell 1,h.R.cell 0,h.R.cell 1,h.R.free 0,h.R.free 1,this,by omega,by omega,by omega⟩
end
def SS(c:lC)(now:Int)(a:nC)(cap:Nat)(f:List gB)(l:pB)(x:oF)(la:nC)(lc:Nat)(w:fA){A:Nat->Prop}(m:zK w A a f)(Y:qD w la x.B)(h:zA x.B<=lc)(u:zA f+eC f<=1900000)(o:l.size<=1000000)(hx:tJ x<=300000)(B:iC c now f=eA):
 iA prog 48 #[uE c,uA #[aB now,qA a (zA f) cap],pA l,uA #[qA la (zA x.B) lc,aB x.bits]] w λe w'=>∃b cb,e=vA (yA #[aB ((gH c now f l x).1:Nat),uA #[aB now,.slice b (zA (gH c now f l x).2.1) cb],pA (gH c now f l x).2.2])/\zK w' (λg=>A g\/w.1.size<=g) b (gH c now f l x).2.1/\xB w w':=by
 have O:tJ x=zA x.B+aE x.B:=rfl;have R:MU x.B:=λi s=>by have:=oi x.B i s;exact⟨by omega,by omega⟩
 have t:MU (wB x.B).1:=λi s=>by
  obtain⟨j,o,e⟩:=Ib (TU _ (Gb s));rw[<-e];exact R j o
 have o:=rZ (ls:=x.B);have Z:=dB (λW(o:xB w W)=>BG la lc x.B W (Y.z o) R (by omega) h);have HN:=dB (λW=>aHv x.bits W);have HK:=dB (λW H J(h:qD W H (wB x.B).1)(G:zA (wB x.B).1<=J)=>LG H J (wB x.B).1 W h t (by omega) G);have G:=dB (λW(o:xB w W)(I:(uI (wB x.B).1).size<=1900000)=>BF c now a cap f l (uI (wB x.B).1) W (m.tens.z o) u (by omega) I B);have HF:=dB (λW(o:xB w W)=>m.lt.z o);have I:(uI (wB x.B).1).size<=1900000:=by have:=VC (wB x.B).1;have:=BP x.B;omega
 replace G:=dB (λW o=>G.o W o I);have HV:cB ((wB x.B).2.1≠0/\gH c now f l x=((wB x.B).2.1,f,lA)\/(wB x.B).2.1=0/\(aZ x.bits=eA/\gH c now f l x=(6,f,lA)\/aZ x.bits=dA/\((((dI c now f l (uI (wB x.B).1)).2.2:Nat):Int)=1/\gH c now f l x=(1,(dI c now f l (uI (wB x.B).1)).2.1,uI (wB x.B).1)\/((dI c now f l (uI (wB x.B).1)).2.2:Int)=2/\gH c now f l x=(2,(dI c now f l (uI (wB x.B).1)).2.1,uI (wB x.B).1)\/(((dI c now f l (uI (wB x.B).1)).2.2:Int)==1)=dA/\(((dI c now f l (uI (wB x.B).1)).2.2:Int)==2)=dA/\gH c now f l x=((dI c now f l (uI (wB x.B).1)).2.2,f,lA)))):=by
  show _\/_;unfold gH;by_cases z:(wB x.B).2.1=0
  .refine La ⟨z,?_⟩;rw[Ja (by simp[z])];cases aZ x.bits
   .refine La ⟨rfl,?_⟩;rw[Ja (by simp)];generalize dI c now f l (uI (wB x.B).1)=A;by_cases C:A.2.2=1
    .exact Ca ⟨by omega,by simp[C]⟩
    by_cases q2:A.2.2=2
    .exact La (Ca ⟨by omega,by simp[q2]⟩)
    exact La (La ⟨by simp;omega,by simp;omega,by simp[C,q2]⟩)
   exact Ca ⟨rfl,Ma rfl⟩
  exact Ca ⟨z,Ma z⟩
 have o:cB ((dI c now f l (uI (wB x.B).1)).1=now):=by
  show _=_;unfold dI;rw[Ja (by rw[B];simp)];repeat' split
  all_goals rfl
 have P:=dB (JP.new (w:=w) (c:=c) (now:=now) (a:=a) (n:=zA f) (cap:=cap) (la:=la) (k:=zA x.B) (lc:=lc) (bi:=x.bits));clear m Y R t O u hx B I;unfold TD at G;generalize gH c now f l x=V at *;generalize dI c now f l (uI (wB x.B).1)=A at *;obtain⟨m,d,m⟩:=A;obtain rfl:=o.o;generalize uI (wB x.B).1=m at *;generalize aZ x.bits=m at *;generalize x.bits=bi at *;generalize wB x.B=m at *;generalize x.B=ls at *;obtain⟨o,o,o⟩:=m;dsimp only at *;unfold uE at *;go_enter func48,ntmps48;go_wp2_with fail;refine(Z.o _ P.o.B).mono ?_;rintro e w1 ⟨a1,k1,rfl,R,y,m⟩;replace P:=dB (P.o.z m);have L1:=dB y.B;clear m y Z;obtain⟨K,L,M,N,O,Q,S,T,U,X,D,E,Y,Z,F,o,B,I⟩:=P.o.cells;obtain⟨z,rfl⟩|⟨rfl,⟨rfl,rfl⟩|⟨rfl,⟨C,rfl⟩|⟨C,rfl⟩|⟨C,q2,rfl⟩⟩⟩:=HV.o
 all_goals
  go_wp2_with(first
   |(go_at_call 107;apply kO (HN.o _))
   |(go_at_call 108;apply jC (HK.o _ a1 k1 L1.o R);intro w2 m;replace P:=dB (P.o.z m);clear m K L M N O Q S T U X D E Y Z F o B I;obtain⟨K,L,M,N,O,Q,S,T,U,X,D,E,Y,Z,F,o,B,I⟩:=P.o.cells)
   |(go_at_call 102;refine(G.o _ P.o.B).mono ?_;rintro e G ⟨H,J,rfl,y,m⟩;have G:=dB (y.toN (A:=λg=>w.1.size+1+1+1<g) λg h=>Bb (bB P.o.R) h);replace P:=dB (P.o.z m);clear m y K L M N O Q S T U X D E Y Z F o B I;obtain⟨K,L,M,N,O,Q,S,T,U,X,D,E,Y,Z,F,o,B,I⟩:=P.o.cells))
 all_goals have r:=dB (fun(W:fA)(p q:jA)=>(((fB.refl (·=w.1.size+1+1+1) W).setCell (Ca rfl) 0 p).setCell (Ca rfl) 1 q))
 all_goals
  go_region
  go_wp2;refine bodyPost_ret (v:=?_) (by simp[results,results48,go_sem,D,E,F];rfl) rfl ?_;first
   |exact⟨a,⟨cap,rfl⟩,((HF.o _ P.o.B).turn (r.o _ _ _) (λg(h:A g/\g<w.1.size)(e:g=w.1.size+1+1+1)=>by omega)).mono (λg h=>Ca h.1),(P.o.B.trans ((r.o _ _ _).below P.o.B.size λi s e=>by omega)).drew⟩
   |exact⟨H,⟨J,rfl⟩,((G.o.turn (r.o _ _ _) (λg(h:w.1.size+1+1+1<g)(e:g=w.1.size+1+1+1)=>by omega)).mono (λg(h:w.1.size+1+1+1<g)=>La (by omega))).z (bC.drew),(aC (P.o.B.trans ((r.o _ _ _).below P.o.B.size λi s e=>by omega)) bC).drew⟩
   |exact⟨a,⟨cap,rfl⟩,(((HF.o _ P.o.B).turn (r.o _ _ _) (λg(h:A g/\g<w.1.size)(e:g=w.1.size+1+1+1)=>by omega)).mono (λg h=>Ca h.1)).z (bC.drew),(aC (P.o.B.trans ((r.o _ _ _).below P.o.B.size λi s e=>by omega)) bC).drew⟩
section
open Go.Maps
def rk{w:fA}{N:Nat}{x y p q:jA}{t:TypeId}(h:jB w N #[x,y] t):jB ((w.setCell (eB N 0) p).setCell (eB N 1) q) N #[p,q] t:=by
 have:=(h.set 0 p).set 1 q;simpa using this
def ApR(w:fA)(c:lC)(now:Int)(a:nC)(n cap N:Nat)(nv:jA)(sv:jA)(X:Nat)(SV:Int×List gB×Bool)(b:fA):Prop:=
 ∃a5 c5,AL w b c now a n cap/\jB b N #[nv,sv] 40/\(SV.2.2=eA->jB b X #[aB SV.1,qA a5 (zA SV.2.1) c5] 40/\dD b (X+1) a5 SV.2.1)
section
variable {w w5 W:fA} {c:lC} {now:Int} {a a5:nC} {n cap N X B c5:Nat} {nv sv:jA} {SV:Int×List gB×Bool} {n5:Int} {t5:List gB} {b5:Bool}
theorem rf(P:AL w w5 c now a n cap)(d:jB w5 N #[nv,sv] 40)(f:jB w5 X #[aB 0,qA aA 0 0] 40)(O:dD w5 B a5 t5)(i:w.1.size+1+1<X)(h:N≠X)(l:X<B):ApR w c now a n cap N nv sv X (n5,t5,b5) ((w5.setCell (eB X 0) (aB n5)).setCell (eB X 1) (qA a5 (zA t5) c5)):=by
 have b:fB (·=X) w5 ((w5.setCell (eB X 0) (aB n5)).setCell (eB X 1) (qA a5 (zA t5) c5)):=((fB.refl (·=X) w5).setCell (Ca rfl) 0 _).setCell (Ca rfl) 1 _;exact⟨a5,c5,P.turn b i,b.blk d h,λ_=>⟨rk f,(dD.turned O b (λg j k e=>by omega)).mono (by omega)⟩⟩
theorem ApR.alloc(h:ApR w c now a n cap N nv sv X SV W)(o:Obj):ApR w c now a n cap N nv sv X SV (W.alloc o):=by
 obtain⟨a5,c5,d,f,b⟩:=h;exact⟨a5,c5,d.z bC,f.alloc _,λe=>⟨(b e).1.alloc _,(b e).2.z bC⟩⟩
end
def SP(c:lC)(now:Int)(a:nC)(cap:Nat)(u:List gB)(ar:nC)(capr:Nat)(r:List nE)(w:fA)(hf:aD w a u)(hr:yI w ar r)(hbk:zA u+eC u+zA r+eD r<=1400000):
 iA prog 42 #[uE c,uA #[mA oA now,qA a (zA u) cap],qA ar (zA r) capr] w λe D=>oT (vG c now u r) w e D:=by
 have U:zA u+eC u<=1900000:=by omega
 obtain⟨f,d,j,l⟩:=gR U;have HST:=dB (λW(I:xB w W)=>tH c now a cap u W (hf.z I) d (by omega));have L:=dB (fun(h:iC c now u=eA) W(I:xB w W)=>uS c now a cap u W (hf.z I) h U);have T:cB (vG c now u r=if iC c now u=dA then(0,[],dA) else if 500<zA r then(now,u,dA) else if (bF c now u r).2.2=eA then bF c now u r else(now,u,dA)):=rfl;have HF:=dB hr;have HBK:=dB hbk;have P:=dB (AL.new (w:=w) (c:=c) (now:=now) (a:=a) (n:=zA u) (cap:=cap));clear hf hr f d j l hbk U;unfold oT;unfold uE at *;generalize vG c now u r=V at *;go_enter func42,ntmps42;go_wp2_with fail;apply jC (HST.o _ P.o.B);intro w1 x;replace P:=dB (P.o.z x);clear x HST;obtain⟨Z,x1,x2,x3,x4,x5,y0,y1,Q,R,g0,g1,hz⟩:=P.o.cells;cases hst:iC c now u with
 |false=>
  have E:cB (V=(0,[],dA)):=by show _=_;rw[T.o,Ma hst]
  go_wp2;refine bodyPost_ret (v:=?_) (by simp[results,results42,go_sem,Q,R];rfl) rfl ?_;rw[E.o];refine⟨aA,0,rfl,Ca rfl,?_⟩;first
   |exact(P.o.B.setCell (by show w.1.size<=w.1.size+1+1;omega) _).setCell (by show w.1.size<=w.1.size+1+1;omega) _
   |exact P.o.B
 |true=>
  have HSM:=dB (L.o hst);have G:cB (V=if 500<zA r then(now,u,dA) else if (bF c now u r).2.2=eA then bF c now u r else(now,u,dA)):=by show _=_;rw[T.o,Ja (by rw[hst];simp)]
  have HS0:=dB hst;clear T L Q R g0 g1;go_wp2_with fail;refine(HSM.o _ P.o.B).mono ?_;rintro e w2 ⟨M,O,rfl,ho2,x⟩;clear Z x1 x2 x3 x4 x5 y0 y1;have O4:=dB ((ho2.mono (B':=w.1.size+1+1+1) (by omega)).z (zF w2 (xA #[mA oA now,qA M (zA u) O] 40)));have P4:=dB ((P.o.z x).z (zF w2 (xA #[mA oA now,qA M (zA u) O] 40)));have N4:=dB (jB.new w2 #[mA oA now,qA M (zA u) O] 40);have hNp:=(P.o.z x).lt;obtain⟨n0,n1⟩:=N4.o.c2;clear x ho2 P;by_cases h5:500<zA r
  .have E:cB (V=(now,u,dA)):=by show _=_;rw[G.o,Ma h5]
   go_upto_region 5 with fail;generalize w2.alloc (xA #[mA oA now,qA M (zA u) O] 40)=w4 at *;obtain⟨-,-,-,-,-,-,-,-,Q,R,g0,g1,hz4⟩:=P4.o.cells;go_wp2;refine bodyPost_ret (v:=?_) (by simp[results,results42,go_sem,Q,R];rfl) rfl ?_;rw[E.o];first
    |exact⟨M,⟨O,rfl⟩,P4.o.done O4.o (by omega)⟩
    |exact⟨M,O,rfl,P4.o.done O4.o (by omega)⟩
  have HVF:cB ((bF c now u r).2.2=dA->V=(now,u,dA)):=λh6=>by rw[G.o,Ja h5,Ja (by rw[h6];simp)]
  have HVT:cB ((bF c now u r).2.2=eA->V=bF c now u r):=λh6=>by rw[G.o,Ja h5,Ma h6]
  go_wp2;generalize w2.alloc (xA #[mA oA now,qA M (zA u) O] 40)=w4 at *;generalize w2.1.size=N at *;clear n0 n1 G;go_loopw [29] (λi wr=>∃(k:Nat)(t:Int)(s:List gB)(z:nC)(A:Nat),k<=zA r/\i=mA oA k/\cB (AL w wr c now a (zA u) cap)/\cB (jB wr N #[mA oA t,qA z (zA s) A] 40)/\cB (dD wr (w.1.size+1+1+1) z s)/\cB (iC c t s=eA)/\cB (zA s+eC s+2*(zA r-k)+eD (r.drop k)<=1900000)/\cB (bF c t s (r.drop k)=bF c now u r)) (λi _=>zA r-(intOf i).toNat)
  case atStart=>exact⟨0,now,u,M,O,Oa _,rfl,P4.o,N4.o,O4.o,HS0.o,dB (by have:=HBK.o;simp only[Nat.sub_zero,Kf];omega),rfl⟩
  case round=>
   obtain⟨k,t,s,z,A,hk,rfl,P,C,OB,F,HK,HR⟩:=hrel;clear P4 N4 O4 HS0;by_cases J:k<zA r
   .obtain ⟨b,o,har,hbw,q0,q1,q2,q3⟩:=(HF.o.z P.o.B).at J;subst har;have hkb:=HK.o;have hdr:=FR r J;have hstb:=dX F.o r[k];have HVQ0:cB _:=λh=>HVF.o (by rw[<-HR.o,WC J h]);have K:cB ((vD c t s r[k]).2.2=eA->bF c (vD c t s r[k]).1 (vD c t s r[k]).2.1 (r.drop (k+1))=bF c now u r/\iC c (vD c t s r[k]).1 (vD c t s r[k]).2.1=eA):=λh=>⟨(WA J h).symm.trans HR.o,gT F.o h⟩
    have HBN:cB (zA (vD c t s r[k]).2.1+eC (vD c t s r[k]).2.1+2*(zA r-(k+1))+eD (r.drop (k+1))<=1900000):=by show _<=_;omega
    have S:cB (vD c t s r[k]=if r[k].K=1 then(t,(fJ c t s r[k].T r[k].X).1,decide ((fJ c t s r[k].T r[k].X).2=1) ||decide ((fJ c t s r[k].T r[k].X).2=2)) else if r[k].K=2 then xI c.w t s r[k].U else if r[k].K=3 then(t,(bQ s r[k].T r[k].X r[k].U).1,(bQ s r[k].T r[k].X r[k].U).2) else(t,s,dA)):=rfl;have HAD:cB (∀W,xB wr W->iA prog 102 #[uA #[mA oA c.w,mA oA c.tl,mA oA c.ml,mA oA c.sh,mA oA c.ha,mA oA c.sg],uA #[mA oA t,qA z (zA s) A],pA r[k].T,pA r[k].X] W λe D=>∃a cap,e=vA (yA #[uA #[mA oA t,.slice a (zA (fJ c t s r[k].T r[k].X).1) cap],mA oA ((fJ c t s r[k].T r[k].X).2:Nat)])/\dD D W.1.size a (fJ c t s r[k].T r[k].X).1/\xB W D):=λW I=>by
     have:=BF c t z A s r[k].T r[k].X W (OB.o.tens.z I) (by omega) (by omega) (by omega) F.o;rw[nZ F.o]at this;exact this
    have HTK:cB (∀W,xB wr W->iA prog 52 #[uA #[mA oA c.w,mA oA c.tl,mA oA c.ml,mA oA c.sh,mA oA c.ha,mA oA c.sg],uA #[mA oA t,qA z (zA s) A],mA oA r[k].U] W λe D=>∃a cap,e=vA (yA #[uA #[mA oA (xI c.w t s r[k].U).1,.slice a (zA (xI c.w t s r[k].U).2.1) cap],sA (xI c.w t s r[k].U).2.2])/\dD D W.1.size a (xI c.w t s r[k].U).2.1/\xB W D):=λW I=>by
     have:=GA c t z A s r[k].U W (OB.o.tens.z I) (by omega) F.o;rw[GJ F.o]at this;exact this
    have HSE:cB (∀W,xB wr W->iA prog 53 #[uA #[mA oA c.w,mA oA c.tl,mA oA c.ml,mA oA c.sh,mA oA c.ha,mA oA c.sg],uA #[mA oA t,qA z (zA s) A],pA r[k].T,pA r[k].X,mA oA r[k].U] W λe D=>∃a cap,e=vA (yA #[uA #[mA oA t,.slice a (zA (bQ s r[k].T r[k].X r[k].U).1) cap],sA (bQ s r[k].T r[k].X r[k].U).2])/\dD D W.1.size a (bQ s r[k].T r[k].X r[k].U).1/\xB W D):=λW I=>by
     have:=qV c t z A s r[k].T r[k].X r[k].U W (OB.o.tens.z I) (by omega) (by omega) (by omega) F.o;rw[MN F.o]at this;exact this
    clear hkb hdr hstb F HK HR;have hNr:=bB C.o;have hRr:=P.o.lt;have y:cB (xB wr ((wr.alloc (xA #[mA oA r[k].K,pA r[k].T,pA r[k].X,mA oA r[k].U] 119)).alloc (xA #[mA oA 0,qA aA 0 0] 40))):=aC bC bC;have XB:cB _:=dB (by have:=jB.new (wr.alloc (xA #[mA oA r[k].K,pA r[k].T,pA r[k].X,mA oA r[k].U] 119)) #[mA oA 0,qA aA 0 0] 40;simpa using this);have UB:=dB ((jB.new wr #[mA oA r[k].K,pA r[k].T,pA r[k].X,mA oA r[k].U] 119).alloc (xA #[mA oA 0,qA aA 0 0] 40));generalize vD c t s r[k]=SV at *;go_upto_region 11 with fail;clear q0 q1 q2 q3;generalize ((wr.alloc (xA #[mA oA r[k].K,pA r[k].T,pA r[k].X,mA oA r[k].U] 119)).alloc (xA #[mA oA 0,qA aA 0 0] 40))=wb at *;replace P:=dB (P.o.z y.o);replace C:=dB (C.o.z y.o);have hwb:=bB XB.o;clear OB;obtain⟨Z,x1,x2,x3,x4,x5,y0,y1,-,-,-,-,-⟩:=P.o.cells;obtain⟨n0,n1⟩:=C.o.c2;obtain⟨q0,q1,q2,q3⟩:=UB.o.c4;generalize r[k].K=H at *;generalize r[k].T=TE at *;generalize r[k].X=TX at *;generalize r[k].U=NU at *;go_upto_block 2 with fail;go_cut [11,14] (λok _ wx=>ok=sA SV.2.2/\ApR w c now a (zA u) cap N (mA oA t) (qA z (zA s) A) (wr.1.size+1) SV wx)
    case first=>
     generalize fJ c t s TE TX=R1 at *;generalize xI c.w t s NU=R2 at *;generalize bQ s TE TX NU=R3 at *;obtain⟨t5,v5⟩:=R1;obtain⟨n6,m,b6⟩:=R2;obtain⟨p,b7⟩:=R3;have hks:H=1/\(((v5:Int)==1)=eA/\SV=(t,t5,eA)\/((v5:Int)==1)=dA/\(((v5:Int)==2)=eA/\SV=(t,t5,eA)\/((v5:Int)==2)=dA/\SV=(t,t5,dA)))\/(H==1)=dA/\(H=2/\SV=(n6,m,b6)\/(H==2)=dA/\(H=3/\SV=(t,p,b7)\/(H==3)=dA/\SV=(t,s,dA))):=by
      rw[S.o];by_cases k1:H=1
      .refine Ca ⟨k1,?_⟩;rw[Ma k1];by_cases v1:v5=1
       .exact Ca ⟨by simp[v1],by simp[v1]⟩
       refine La ⟨by simp;omega,?_⟩;by_cases v2:v5=2
       .exact Ca ⟨by simp[v2],by simp[v2]⟩
       exact La ⟨by simp;omega,by simp[v1,v2]⟩
      refine La ⟨by simpa using k1,?_⟩;rw[Ja k1];by_cases k2:H=2
      .exact Ca ⟨k2,by rw[Ma k2]⟩
      refine La ⟨by simpa using k2,?_⟩;rw[Ja k2];by_cases k3:H=3
      .exact Ca ⟨k3,by rw[Ma k3]⟩
      exact La ⟨by simpa using k3,by rw[Ja k3]⟩
     clear S;obtain⟨rfl,⟨h1,rfl⟩|⟨h1,⟨h2,rfl⟩|⟨h2,rfl⟩⟩⟩|⟨k1,⟨rfl,rfl⟩|⟨k2,⟨rfl,rfl⟩|⟨k3,rfl⟩⟩⟩:=hks
     all_goals
      go_wp2_with((first
       |(go_at_call 102;refine(HAD.o _ y.o).mono ?_)
       |(go_at_call 52;refine(HTK.o _ y.o).mono ?_)
       |(go_at_call 53;refine(HSE.o _ y.o).mono ?_));rintro e w5 ⟨a5,c5,rfl,ho,x⟩;have O5:=dB ho;have P5:=dB (P.o.z x);have N5:=dB (C.o.z x);have X5:=dB (XB.o.z x);have hx5:=bB X5.o;clear ho x q0 q1 q2 q3 n0 n1 Z x1 x2 x3 x4 x5 y0 y1;obtain⟨Z,x1⟩:=X5.o.c2;have fx:=X5.o.free)
      go_meet;first
       |(have q:=k3;exact⟨rfl,aA,0,P.o,C.o,λe=>by cases e⟩)
       |exact⟨rfl,rf P5.o N5.o X5.o O5.o (by omega) (by omega) hwb⟩
       |exact⟨rfl,(rf P5.o N5.o X5.o O5.o (by omega) (by omega) hwb).alloc _⟩
    clear HAD HTK HSE S UB XB y P C Z x1 x2 x3 x4 x5 y0 y1 n0 n1 q0 q1 q2 q3;obtain⟨rfl,a5,c5,hP,hN,hX⟩:=hcut;rename fA=>w6;have P:=dB hP;have C:=dB hN;obtain⟨Z,x1,x2,x3,x4,x5,y0,y1,-,-,-,-,hz⟩:=hP.cells;obtain⟨n5,t5,b5⟩:=SV;cases b5 with
    |false=>
     have E:=dB (HVQ0.o rfl);clear hX hN hP;go_wp2_with(go_at_call 101;refine(HSM.o _ P.o.B).mono ?_;rintro e w9 ⟨ra,rc,rfl,ho,x⟩;have P9:=dB (P.o.z x);have HO9:=dB ho;clear ho x Z x1 x2 x3 x4 x5 y0 y1;obtain⟨-,-,-,-,-,-,-,-,Q,R,g0,g1,hz9⟩:=P9.o.cells);refine bodyPost_ret (v:=?_) (by simp[results,results42,go_sem,Q,R];rfl) rfl ?_;rw[E.o];first
      |exact⟨ra,⟨rc,rfl⟩,P9.o.done HO9.o hz⟩
      |exact⟨ra,rc,rfl,P9.o.done HO9.o hz⟩
    |true=>
     have HX:=dB (hX rfl);obtain⟨m0,m1⟩:=HX.o.1.c2;obtain⟨n0,n1⟩:=hN.c2;have fn:=hN.free;clear hX hN hP;go_wp2;have hT:fB (·=N) w6 ((w6.setCell ⟨N,0,aA⟩ (mA oA n5)).setCell ⟨N,1,aA⟩ (qA a5 (zA t5) c5)):=((fB.refl (·=N) w6).setCell (Ca rfl) 0 _).setCell (Ca rfl) 1 _;exact⟨⟨k+1,n5,t5,a5,c5,by omega,by go_num,dB (P.o.turn hT hNp),dB (rk C.o),dB ((dD.turned HX.o.2 hT (λg h1 h2 e=>by omega)).mono (by omega)),(K.o rfl).2,HBN.o,(K.o rfl).1⟩,by simp[intOf];omega⟩
   have Y:bF c now u r=(t,s,eA):=by rw[<-HR.o,Ie (by omega)];rfl
   have E:cB (V=(t,s,eA)):=by show _=_;rw[HVT.o (by rw[Y]),Y]
   have hkl:¬((k:Int)<zA r):=by omega
   obtain⟨n0,n1⟩:=C.o.c2;obtain⟨-,-,-,-,-,-,-,-,Q,R,g0,g1,hz⟩:=P.o.cells;clear Y;go_wp2;refine bodyPost_ret (v:=?_) (by simp[results,results42,go_sem,Q,R];rfl) rfl ?_;rw[E.o];first
    |exact⟨z,⟨A,rfl⟩,P.o.done OB.o (by omega)⟩
    |exact⟨z,A,rfl,P.o.done OB.o (by omega)⟩
end
section
variable {s:pB} {q k:Nat} {ls:List cC} {xs:List oF}
theorem aLf(f:s.size<=1000000)(h:DO s q (nD ls))(m:∀i(t:i<zA ls),aJo ls[i])(b:k<zA ls):∃g j:Nat,cB (∀W,rI 95 #[pA s,aB ((q+(nD (ls.take k)).size:Nat):Int),aB 1] W (yA #[pA ls[k].N,aB (g:Nat)]))/\cB (∀W,rI 95 #[pA s,aB (g:Nat),aB 2] W (yA #[pA ls[k].V,aB (j:Nat)]))/\cB (j=q+(nD (ls.take (k+1))).size):=by
 have d:=aHc h b;obtain⟨o,p⟩:=m k b;have a:=d.r;rw[sF]at a;refine⟨_,_,λW=>bU (n:=1) d.l (by omega) (by omega) f W,λW=>bU (n:=2) (by rw[<-Nat.add_assoc]at a;exact a) (by omega) (by omega) f W,?_⟩;show _=_;rw[iT ls k b];simp only[Ka,sF,eF];omega
theorem aMe(j:s.size<=1000000)(h:DO s q (iE xs))(o:aKe xs)(n:∀i(t:i<zA xs),WU xs[i].bits)(b:k<zA xs):∃c m:Nat,cB (∀W,rI 94 #[pA s,aB ((q+(iE (xs.take k)).size:Nat):Int),aB 1] W (yA #[aB (zA xs[k].B:Nat),aB (c:Nat)]))/\DO s c (nD xs[k].B)/\cB (∀W,rI 94 #[pA s,aB ((c+(nD xs[k].B).size:Nat):Int),aB 8] W (yA #[aB xs[k].bits,aB (m:Nat)]))/\cB (m=q+(iE (xs.take (k+1))).size):=by
 have a:=aHd h b;rw[gW,aI]at a;have f:=a.l.r;have g:=a.r;rw[nB]at f;rw[Ka,nB,<-Nat.add_assoc]at g;have p:=(o k b).1;refine⟨_,_,λW=>fT a.l.l (by omega) (ND (by omega) (by omega)) j W,f,λW=>fT g (by omega) (DV _ (n k b)) j W,?_⟩;show _=_;rw[rP xs k b,gW,aI];simp only[Ka,nB];omega
end
structure GS(w W:World)(cs:Array Value):Prop where
 R:jB W (w.1.size+1) cs 47
 Z:jB W w.1.size #[aB 0,pA lA,pA lA,aB 0,qA aA 0 0] 47
 N:xB w W
section
variable {w W W':fA} {cs:Array jA}
theorem GS.start(w:fA):GS w ((w.alloc (xA #[aB 0,pA lA,pA lA,aB 0,qA aA 0 0] 47)).alloc (xA #[aB 0,pA lA,pA lA,aB 0,qA aA 0 0] 47)) #[aB 0,pA lA,pA lA,aB 0,qA aA 0 0]:=
 ⟨by have:=jB.new (w.alloc (xA #[aB 0,pA lA,pA lA,aB 0,qA aA 0 0] 47)) #[aB 0,pA lA,pA lA,aB 0,qA aA 0 0] 47;simpa using this,(jB.new _ _ _).alloc _,aC bC bC⟩
theorem GS.set(h:GS w W cs)(i:Nat)(v:jA):GS w (W.setCell (eB (w.1.size+1) i) v) (cs.setIfInBounds i v):=
 ⟨h.R.set i v,h.Z.but ((sD.refl (w.1.size+1) W).setCell i v) (by omega),h.N.setCell (by simp) _⟩
theorem GS.z(h:GS w W cs)(a:xB W W'):GS w W' cs:=⟨h.R.z a,h.Z.z a,aC h.N a⟩
end
def kZ(r:eG)(w:fA)(h:VR r):
 iA prog 46 #[pA (wK r)] w λe E=>bj r w e E:=by
 obtain⟨m,q,P,o,A1,A2,A3,G⟩:=aNn h;have hs:(wK r).size<=1000000:=by have:=h.sz;omega
 have HEN:=dB (λW J cap(l:oJ W J r.P)=>DC r J cap W l h);obtain⟨Y,_,_,_,I,h5,h6,l,O⟩:=h.ok;have Z:=h.U;have l:=h.bits;unfold bj;obtain⟨k,T,M,N,S⟩:=r;obtain⟨k,rfl⟩:=Yf (show 0<=k by dsimp only at Y;omega);dsimp only at *;have H0:cB (∀W,rI 94 #[pA (wK ⟨k,T,M,N,S⟩),aB 0,aB 1] W (yA #[aB (k:Nat),aB 1])):=λW=>fT o (by omega) (ND (by omega) (by omega)) hs W;replace A1:cB (yU k=eA/\(∀W,rI 95 #[pA (wK ⟨k,T,M,N,S⟩),aB 1,aB 1] W (yA #[pA T,aB (m:Nat)]))\/yU k=dA/\T=lA/\m=1):=A1.imp (fun⟨a,b,c⟩=>⟨a,λW=>by rw[c];exact bU b (by omega) (by omega) hs W⟩) id;replace A2:cB (xU k=eA/\(∀W,rI 95 #[pA (wK ⟨k,T,M,N,S⟩),aB (m:Nat),aB 2] W (yA #[pA M,aB (q:Nat)]))\/xU k=dA/\M=lA/\q=m):=A2.imp (fun⟨a,b,c⟩=>⟨a,λW=>by rw[c];exact bU b (by omega) (by omega) hs W⟩) id;replace A3:cB (kV k=eA/\(∀W,rI 94 #[pA (wK ⟨k,T,M,N,S⟩),aB (q:Nat),aB 8] W (yA #[aB N,aB (P:Nat)]))\/kV k=dA/\N=0/\P=q):=A3.imp (fun⟨a,b,c⟩=>⟨a,λW=>by rw[c];exact fT b (by omega) (DV _ Z) hs W⟩) id;have u:cB (k=1->∀W,rI 94 #[pA (wK ⟨k,T,M,N,S⟩),aB (P:Nat),aB 2] W (yA #[aB (zA S:Nat),aB ((P+2:Nat):Int)])):=λe W=>fT (G (by omega)).l (by omega) (ND (by omega) (by omega)) hs W;have HX:cB (k=1->DO (wK ⟨k,T,M,N,S⟩) (P+2) (iE S)):=λe=>by have:=(G (by omega)).r;rwa [nB]at this
 have U:cB (k≠1->S=[]):=λe=>I (by omega);have Q:=dB O;have Y:=dB l;have H:(wK ⟨k,T,M,N,S⟩).toList.isEmpty=dA:=by
  have:=o.le;rw[nB]at this;exact rV.2 λe=>by rw[e]at this;exact absurd this (by decide)
 clear G o I h5 h6 O Z l h;generalize wK ⟨k,T,M,N,S⟩=s at *;have I:∀j:Nat,(((k:Nat):Int)==(j:Int))=decide (k=j):=λj=>by rw[Qb];simp;omega
 go_enter func46,ntmps46;go_wp2_with fail;refine rD (H0.o _) ?_;have G:cB (GS w ((w.alloc (xA #[aB 0,pA ⟨#[]⟩,pA ⟨#[]⟩,aB 0,qA aA 0 0] 47)).alloc (xA #[aB 0,pA ⟨#[]⟩,pA ⟨#[]⟩,aB 0,qA aA 0 0] 47)) #[aB 0,pA lA,pA lA,aB 0,qA aA 0 0]):=dB (GS.start w);clear H0;generalize (w.alloc (xA #[aB 0,pA ⟨#[]⟩,pA ⟨#[]⟩,aB 0,qA aA 0 0] 47)).alloc (xA #[aB 0,pA ⟨#[]⟩,pA ⟨#[]⟩,aB 0,qA aA 0 0] 47)=W at *;have O:yC W (w.1.size+1) 0 (aB 0):=G.o.R.cell 0;have c1:=G.o.R.free 0;go_upto_region 4 with fail;replace G:=dB (G.o.set 0 (aB k));clear O c1;generalize W.setCell (eB (w.1.size+1) 0) (aB k)=V at *;go_upto_region 4 with fail;go_cut [5,32,47] (λA _ b o=>A=aB k/\b=sA (yU k)/\o=V)
 case first=>
  go_wp2;all_goals go_meet
  all_goals(unfold yU;simp_all)
 obtain⟨rfl,rfl,rfl⟩:=hcut;go_upto_if 47 with fail;go_cut [5,6] (λA J o=>A=aB k/\J=aB (m:Nat)/\GS w o #[aB k,pA T,pA lA,aB 0,qA aA 0 0])
 case first=>
  obtain⟨D,u⟩|⟨D,rfl,rfl⟩:=A1.o
  .rw[D];replace u:=dB u;go_wp2_with fail;refine rD (u.o _) ?_;have O:=G.o.R.cell 1;have c1:=G.o.R.free 1;go_wp2;go_meet;exact⟨rfl,rfl,G.o.set 1 (pA T)⟩
  rw[D];go_wp2;go_meet;exact⟨rfl,rfl,G.o⟩
 clear G;obtain⟨rfl,rfl,G⟩:=hcut;replace G:=dB G;rename fA=>V;go_upto_region 8 with fail;go_cut [5,62] (λA b o=>A=aB k/\b=sA (xU k)/\o=V)
 case first=>
  go_wp2;all_goals go_meet
  all_goals(unfold xU;simp_all)
 obtain⟨rfl,rfl,rfl⟩:=hcut;go_upto_if 62 with fail;go_cut [5,6] (λA J o=>A=aB k/\J=aB (q:Nat)/\GS w o #[aB k,pA T,pA M,aB 0,qA aA 0 0])
 case first=>
  obtain⟨D,u⟩|⟨D,rfl,rfl⟩:=A2.o
  .rw[D];replace u:=dB u;go_wp2_with fail;refine rD (u.o _) ?_;have O:=G.o.R.cell 2;have c1:=G.o.R.free 2;go_wp2;go_meet;exact⟨rfl,rfl,G.o.set 2 (pA M)⟩
  rw[D];go_wp2;go_meet;exact⟨rfl,rfl,G.o⟩
 clear G;obtain⟨rfl,rfl,G⟩:=hcut;replace G:=dB G;rename fA=>V;go_upto_region 12 with fail;go_cut [5,77] (λA b o=>A=aB k/\b=sA (kV k)/\o=V)
 case first=>
  go_wp2;all_goals go_meet
  all_goals(unfold kV;simp_all)
 obtain⟨rfl,rfl,rfl⟩:=hcut;go_upto_if 77 with fail;go_cut [5,6] (λA J o=>A=aB k/\J=aB (P:Nat)/\GS w o #[aB k,pA T,pA M,aB N,qA aA 0 0])
 case first=>
  obtain⟨D,u⟩|⟨D,rfl,rfl⟩:=A3.o
  .rw[D];replace u:=dB u;go_wp2_with fail;refine rD (u.o _) ?_;have O:=G.o.R.cell 3;have c1:=G.o.R.free 3;go_wp2;go_meet;exact⟨rfl,rfl,G.o.set 3 (aB N)⟩
  rw[D];go_wp2;go_meet;exact⟨rfl,rfl,G.o⟩
 clear G;obtain⟨rfl,rfl,G⟩:=hcut;replace G:=dB G;rename fA=>V;go_upto_region 16 with fail;go_cut [5,88] (λA b o=>A=aB k/\b=sA (decide (k=1))/\o=V)
 case first=>
  go_wp2;go_meet;exact⟨rfl,by rw[<-I 1];rfl,rfl⟩
 obtain⟨rfl,rfl,rfl⟩:=hcut;go_upto_if 88 with fail;go_cut [5,6,13,14,15] (λA _ _ _ _ o=>A=aB k/\∃v,GS w o #[aB k,pA T,pA M,aB N,v]/\bY o (w.1.size+1+1) 93 v (zA S) S)
 case first=>
  by_cases q:k=1
  .replace u:=dB (u.o q);replace HX:=dB (HX.o q);rw[Ac q];clear q U;go_wp2_with fail;refine rD (u.o _) ?_;go_wp2_with fail;go_loopw [6,15] (λm i wr=>∃(j z:Nat)(v:jA),j<=zA S/\i=aB j/\m=aB (z:Nat)/\cB (z=P+2+(iE (S.take j)).size)/\cB (GS w wr #[aB k,pA T,pA M,aB N,v])/\cB (bY wr (w.1.size+1+1) 93 v j (S.take j))) (λ_ i _=>zA S-(intOf i).toNat)
   case atStart=>exact⟨0,P+2,_,Oa _,rfl,rfl,rfl,G.o,bY.nil _ _ _⟩
   case round=>
    obtain⟨j,z,v,J,rfl,rfl,J,HG,HV⟩:=hrel;clear G;by_cases p:j<zA S
    .obtain ⟨q0,q1,P1,hq0,P2,F⟩:=aMe hs HX.o Q.o Y.o p;rw[<-J.o]at P1;have O:=dB hq0;have Z:=dB (Q.o j p).2;have ES:cB (S.take (j+1)=S.take j++[⟨S[j].B,S[j].bits⟩]):=by show _=_;rw[Pa p]
     have J:=(Q.o j p).1;clear hq0;generalize S[j].B=ls at *;generalize S[j].bits=bi at *;rename fA=>t;go_wp2_with fail;refine rD (P1.o _) ?_;go_upto_block 2 with fail;have X0:=dB (jB.new t #[qA aA 0 0,aB 0] 93);have B0:=dB (zF t (xA #[qA aA 0 0,aB 0] 93));generalize t.alloc (xA #[qA aA 0 0,aB 0] 93)=J at *;go_cut [6] (λa o=>a=aB ((q0+(nD ls).size:Nat):Int)/\∃B,jB o t.1.size #[B,aB 0] 93/\o.ownsRow (t.1.size+1) 175 2 B (zA ls) (rC ls)/\xB t o)
     case first=>
      go_wp2_with fail;go_loopw [6,19] (λm i wr=>∃(y J:Nat)(B:jA),y<=zA ls/\i=aB y/\m=aB (J:Nat)/\cB (J=q0+(nD (ls.take y)).size)/\cB (jB wr t.1.size #[B,aB 0] 93)/\cB (wr.ownsRow (t.1.size+1) 175 2 B y (rC (ls.take y)))/\cB (xB t wr)) (λ_ i _=>zA ls-(intOf i).toNat)
      case atStart=>exact⟨0,q0,_,Oa _,rfl,rfl,rfl,X0.o,fA.ownsRow_nil _ _ _ _,B0.o⟩
      case round=>
       obtain⟨y,J,B,I,rfl,rfl,Y,X,R,m⟩:=hrel;by_cases L:y<zA ls
       .obtain ⟨z3,z4,Q1,Q2,F1⟩:=aLf hs O.o Z.o L;rw[<-Y.o]at Q1;have Z:cB (rC (ls.take (y+1))=rC (ls.take y)++[pA ls[y].N,pA ls[y].V]):=by show _=_;rw[Pa L,qF];rfl
        generalize ls[y].N=tx at *;generalize ls[y].V=o at *;have c1:yC wr t.1.size 0 B:=X.o.cell 0;have o:=bB X.o;iterate 2 (go_wp2_with fail;first|with_reducible refine rD (Q1.o _) ?_|with_reducible refine rD (Q2.o _) ?_)
        go_wp2_with(at_builtin;refine zM rfl _ _ rfl underlying90 aCu rfl (by omega) (by omega) (v:=B) rfl R.o rfl rfl rfl (by simp[jA.oneCell']) (by omega) (by omega) ?_;intro g5 O w5 HO I _;have o:=dB (I.o.blk X.o (λe=>by omega));have s5:=o.o.cell 0;have n:=o.o.free 0);obtain⟨x1,x2,x3⟩:=tZ X.o I.o HO.o (Nat.lt_succ_self _) 0;exact⟨⟨y+1,z4,_,by omega,by go_num,rfl,F1,dB (by simpa using x1),dB (by rw[Z.o];exact x2),dB (m.o.trans (x3.below (by omega) λi hi e=>by omega))⟩,by simp[intOf];omega⟩
       obtain rfl:y=zA ls:=by omega
       rw[Rb]at R Y;go_wp2;go_meet;exact⟨by rw[Y.o],B,X.o,R.o,m.o⟩
     obtain⟨rfl,B,C,K,hB⟩:=hcut;rename fA=>w1;obtain⟨a1,d1,rfl⟩:=zP K;obtain⟨T',ys,b0,d0,Y,Z⟩:=HV.o;have m:=bB HG.o.R;go_wp2_with fail;refine rD (P2.o _) ?_;obtain⟨x0,x1⟩:=C.c2;have m:=C.free 1;go_upto_region 35 with fail;have o:=(fB.refl (·=t.1.size) w1).setCell (Ca rfl) 1 (aB bi);have X1:=dB (C.set 1 (aB bi));have R1:=dB (o.row K (λb l e=>by have:=(K.lt b l).1;omega));have B1:=dB (hB.trans (o.below hB.size λi hi e=>by omega));clear x0 x1 m C K hB X0 B0 o;generalize w1.setCell (eB t.1.size 1) (aB bi)=w2 at *;have m:=bB X1.o;have G:=dB (HG.o.z B1.o);have HR:=dB (hC b0 B1.o);have m:=dB (⟨d0,Y,Z,b0.lt⟩:_/\_/\_/\_);have hyl:cB (zA ys=j):=by show _=_;have:=Kd List.length d0;rw[Xa,Hb]at this;omega
     have x0:yC w2 t.1.size 0 (qA a1 (zA ls) d1):=X1.o.cell 0;have x1:yC w2 t.1.size 1 (aB bi):=X1.o.cell 1;have y4:=G.o.R.cell 4;clear b0 d0 Y Z;go_wp2_with(at_builtin;refine zM rfl _ _ rfl underlying45 ey rfl (by omega) (by omega) (v:=v) rfl HR.o rfl rfl rfl (by simp[jA.oneCell']) (by omega) (by omega) ?_;intro g5 O w5 HO I Y;have O:=dB (I.o.blk G.o.R (λe=>by omega));have s5:=O.o.cell 4;have n:=O.o.free 4);obtain⟨J,Z,z3⟩:=tZ G.o.R I.o HO.o (Nat.lt_succ_self _) 4;obtain⟨B,v2,v3,v4⟩:=m.o;have m:=λg(O:g<w2.1.size)(h:w.1.size+1+1<=g)(H:v.ownBlock≠cA g)=>z3.block g O (λe=>e.elim (λe=>by omega) λe=>H e.2);refine⟨⟨j+1,q1,_,by omega,by go_num,rfl,F,⟨by simpa using J,z3.blk G.o.Z (λe=>by omega),G.o.N.trans (z3.below (by omega) λi hi e=>by omega)⟩,?_⟩,by simp[intOf];omega⟩;rw[ES.o];exact bY.snoc (wr:=t) (w4:=w2) (v:=v) (T:=T') (ys:=ys) (x:=⟨ls,bi⟩) Z B hyl.o v2 v3 (by omega) (λg O l H=>(m g (by omega) l H).trans (B1.o.block g O)) (λg O l=>m g l (by omega) (λe=>by have:=(v4 _ e).2;omega)) (zD.mono (eK R1.o) (by omega)) (ja R1.o) (Y.o.elim (λh=>Ca ⟨h,(v4 _ h).2⟩) λh=>La (by omega)) (by omega)
    obtain rfl:j=zA S:=by omega
    rw[Rb]at HV;go_wp2;go_meet;exact⟨rfl,v,HG.o,HV.o⟩
  obtain rfl:=U.o q;rw[Ub q];go_wp2;go_meet;exact⟨rfl,_,G.o,bY.nil _ _ _⟩
 clear G U HX u A1 A2 A3;obtain⟨rfl,v,C,K⟩:=hcut;rename fA=>w1;obtain⟨G,rc,rfl⟩:=K.row;have X:=dB C;have O:=dB (K.own rfl);obtain⟨x0,x1,x2,x3,J⟩:=C.R.c5;obtain⟨h,l,m,q,y4⟩:=C.Z.c5;have f:=C.Z.free;have p:=C.N.size;have o:=fun(W:fA)(a b c d e:jA)=>((((((sD.refl w.1.size W).setCell 0 a).setCell 1 b).setCell 2 c).setCell 3 d).setCell 4 e)
 have I:=dB o;clear C K o;go_wp2_with(go_at_call 8;apply jC (HEN.o _ G rc O.o.P);intro o o;replace X:=dB (X.o.z o);replace O:=dB (O.o.z o);clear x0 x1 x2 x3 J h l m q y4 f p;obtain⟨x0,x1,x2,x3,J⟩:=X.o.R.c5;obtain⟨h,l,m,q,y4⟩:=X.o.Z.c5;have f:=X.o.Z.free;have p:=X.o.N.size;clear o);refine bodyPost_ret (v:=?_) (by simp[results,results46,go_sem,h,l,m,q,y4];rfl) rfl ?_;exact⟨G,rc,rfl,(O.o.but (I.o _ _ _ _ _ _) (by omega)).mono (by omega),X.o.N.trans ((fB.but (I.o _ _ _ _ _ _)).below p λi hi e=>by omega)⟩
def ckL(L:jG)(x:Nat):jG:=if x=0 then⟨L.last+1,L.last+1,0⟩ else L
def aFa(K:xD)(a:oK):vI K [a]=cE K a:=by
 exact nV (K:=K) (xs:=[]) a rfl
def UL{A w:fA}{B P D:Nat}{K:xD}{L:jG}(h:jQ A w B P D K L):
 iA prog 63 #[.pointer (vB P)] w λe z=>e=vA (nH (vI K (qL K.fs)).2)/\jQ A z B P D (vI K (qL K.fs)).1 L/\vJ w z:=by
 obtain⟨b,c,d,f,g,i,j,_⟩:=pJ h.valid;obtain⟨v,r⟩:=h.drive;obtain⟨a,H,rfl,l⟩:=r.files;have s:=dB (λW(J:xB w W)=>rT a H K.fs aS W (l.z J) (eY b) (by omega));have k:=dB (xd (t:=aS) (eY b));have I:=r.cell4;obtain⟨G,_,_,_⟩:=h.wr.cells;have x:=dB h;clear r l b c d f g i j h;go_enter func63,ntmps63;go_wp2_with fail;apply jC (s.o _ gD);intro M m;have p:=dB (x.o.z m);have y:=dB (vJ.of m);obtain⟨q,_,_,_⟩:=p.o.wr.cells;clear m s G I x;cases hq:yH K.fs aS (dC aS K.fs) with
 |false=>
  have E:=dB (show qL K.fs=[] from Ja (λh=>by have:=k.o.1 h;rw[hq]at this;cases this));clear hq k;go_wp2;go_ret;rw[E.o];exact⟨rfl,p.o,y.o⟩
 |true=>
  have E:=dB (show qL K.fs=[VM] from Ma (k.o.2 hq));have u:=dB (tp VM p.o aId);clear hq k;go_wp2_with fail;apply jC u.o;rintro N ⟨o,n⟩;have F:=dB o;have C:=dB (y.o.trans n);clear o n q u;go_wp2;go_ret;rw[E.o,aFa];exact⟨rfl,F.o,C.o⟩
def XD{C:fA->Prop}{w:fA}{cs:Array jA}{t:TypeId}(k:∀W,xB w W->jB W w.1.size cs t->C W):C (w.alloc (xA cs t)):=
 k _ bC (jB.new w _ _)
def NO{T w:fA}{B P D:Nat}{K:xD}{L:jG}(c:pB)(h:jQ T w B P D K L)(G:bJ L=eA)(I:L.last<999999):
 iA prog 224 #[.pointer (vB P),pA c] w λe v=>e=vA (nH (vI K (zN K L c)).2)/\jQ T v B P D (vI K (zN K L c)).1 (ckL L (vI K (zN K L c)).2):=by
 obtain⟨_,_,m,m,m,_⟩:=aOe G;have o:=dB (UL h);obtain⟨m,J⟩:∃R,R=vI K (qL K.fs):=⟨_,rfl⟩
 have x:=dB (IW (qL K.fs) K);rw[<-J]at o x;have E0:=dB (show vI K (zN K L c)=if m.2=0 then vI m.1 (lX L.last c++uQ L.first (L.last+1-L.first).toNat) else m by rw[zN,aU,J]);obtain⟨K0,x0⟩:=m;clear J h G;generalize vI K (zN K L c)=RR at *;go_enter func224,ntmps224;go_wp2_with fail;apply jC o.o;rintro w1 ⟨m,_⟩;have J:=dB m;clear m o;by_cases hx:x0=0
 .subst hx;simp only[nH];have m:IntKind.i64.wrap (L.last+1)=L.last+1:=by rw[IntKind.wrap_i64];omega
  obtain⟨F,c1,c2,c3⟩:=J.o.wr.cells;have Z:=dB (λW(M:xB w1 W)=>bO (L.last+1) W (J.o.z M).tab);have E1:=dB (E0.o.trans (Ma rfl));have Y:=dB (aEd (text:=c) (show 0<=L.last by omega) I);go_wp2_with fail;apply jC (Z.o _ gD);intro w2 m;have o:=dB (J.o.z m);clear m F c1 c2 c3 J Z E0 x;go_upto_region 6 with fail;refine XD (C:=λW=>Code.wp prog _ _ _ W) ?_;intro I m G;have W3:=dB (o.o.z m);have H3:=dB (show jB I w2.1.size (aO (lX L.last c)).toArray _ from G);clear G m o;generalize w2.1.size=G at *;generalize q:lX L.last c=b at *;have m:zA b=5:=by rw[<-q];rfl
  clear q;go_wp2;go_loopw [35] (λi wr=>∃(j:Nat)(y:xD),j<=5/\i=aB j/\cB (vI K0 (b.take j)=(y,0))/\cB (jQ T wr B P D y L)/\cB (jB wr G (aO b).toArray 101)) (λi _=>5-(RowKit.intOf i).toNat)
  case atStart=>exact⟨0,K0,Oa _,rfl,rfl,W3.o,H3.o⟩
  case round=>
   obtain⟨j,y,hj,rfl,a,d,p⟩:=hrel;by_cases Q:j<5
   .have z:j<zA b:=by omega
    obtain⟨O,q1,q2,q3,q4⟩:=aNl (aLu p.o) j z;obtain⟨g,s⟩:∃g,g=b[j]:=⟨_,rfl⟩
    have HO:=dB (show AN g=eA from Y.o _ (s ▸ Gb z));have HE:=dB (show b.take (j+1)=b.take j++[g] by rw[s,Pa z]);have HX:=dB (show ∀r,b++r=b.take j++g::(b.drop (j+1)++r) from λr=>by
     conv=>lhs;rw[<-Za j b,Cb z,<-s]
     simp)
    rw[<-s]at O q1 q2 q3 q4;clear s;go_upto_region 9 with fail;refine XD (C:=λW=>Code.wp prog _ _ _ W) ?_;intro w4 N o;have I:=dB (d.o.z N);have G4:=dB (p.o.z N);obtain⟨F,_,_,_⟩:=I.o.wr.cells;have x0:yC w4 wr.1.size 0 (aB g.K):=o.cell 0;have G:=dB (λW(M:xB w4 W)=>tp g (I.o.z M) HO.o);have E:=dB (λW Kq(h:jQ T W B P D Kq L)=>h.wr.cells.1);have m:=dB o;clear O q1 q2 q3 q4 N o;go_wp2_with fail;go_region_held3 (λv=>v.cell? (eB P 0)=cA (.pointer (vB D))/\v.cell? (eB wr.1.size 0)=cA (aB g.K)/\v.cell? (eB wr.1.size 1)=cA (pA g.N)/\v.cell? (eB wr.1.size 2)=cA (pA g.tq)/\v.cell? (eB wr.1.size 3)=cA (pA g.data)/\v.cell? (eB wr.1.size 4)=cA (aB g.size))
     (first|exact⟨E.o _ _ W5.o,V.o.cell 0,V.o.cell 1,V.o.cell 2,V.o.cell 3,V.o.cell 4⟩|(have o:=(Below.refl w4.1.size w4).drew;exact⟨E.o _ _ (I.o.z o),(m.o.z o).cell 0,(m.o.z o).cell 1,(m.o.z o).cell 2,(m.o.z o).cell 3,(m.o.z o).cell 4⟩))
     (first|(go_at_call 117;apply jC (G.o _ gD.drew);rintro o ⟨o,O⟩;have W5:=dB o;have V:=dB (O.blk (m.o.z gD.drew) (by decide) (by decide));have G5:=dB (O.blk (G4.o.z gD.drew) (by decide) (by decide))))
    clear F x0 E G m I G4 o O V;have x:=dB (DD y g);obtain⟨⟨H,U⟩,f⟩:∃R,cE y g=R:=⟨_,rfl⟩
    have l:=dB f;rw[f]at W5 x;simp only[f];clear f;by_cases A:U=0
    .subst A;simp only[nH];go_wp2;refine⟨⟨j+1,H,by omega,by go_num,?_,W5.o,G5.o⟩,by simp[RowKit.intOf];omega⟩;show _=_;rw[HE.o,nV g (by rw[a.o]),a.o];exact l.o
    obtain ⟨t,u⟩:=gK A x.o;have o:=dB u;rw[u];clear u;go_wp2;go_ret;have X:RR=(H,U):=by
     rw[E1.o,HX.o,IX g (by rw[a.o]) (by rw[a.o];show(cE y g).2≠0;rw[l.o];exact A),a.o];exact l.o
    rw[X];exact⟨by rw[o.o];rfl,by rw[show ckL L (H,U).2=L from Ja A];exact W5.o⟩
   obtain rfl:j=5:=by omega
   have S:=a.o;rw[Ra (by omega)]at S;have E2:=dB (E1.o.trans (show _=vI y (uQ L.first (L.last+1-L.first).toNat) by rw[aU,S,Ma rfl]));obtain⟨F,c1,c2,c3⟩:=d.o.wr.cells;clear a S p E1 H3 W3 Y;go_wp2;obtain⟨m,I⟩:∃m:Nat,(m:Int)=L.last+1-L.first:=⟨(L.last+1-L.first).toNat,by omega⟩
   have I:(L.last+1-L.first).toNat=m:=by omega
   rw[I]at E2;clear I;have O:=dB d.o;clear F c1 c2 c3 d hj Q;go_loopw [11] (λi Y=>∃(k:Nat)(I:xD),k<=m/\i=aB (L.first+k)/\cB (vI y (uQ L.first k)=(I,0))/\cB (jQ T Y B P D I L)) (λi _=>(L.last+1-RowKit.intOf i).toNat)
   case atStart=>exact⟨0,y,Oa _,by simp,rfl,O.o⟩
   case round=>
    obtain⟨k,I,O,rfl,a,d⟩:=hrel;by_cases Q:k<m
    .have O:L.first+(k:Int)<L.last+1:=by omega
     have HO:=dB (aIc (n:=L.first+k) (by omega) (by omega));have Z:=dB (λW(M:Below _ _ W)=>bO (L.first+k) W (d.o.z M).tab);have G:=dB (λW(M:jQ T W B P D I L)=>tp (FK (L.first+k)) M HO.o);have E:=dB (λW Kq(h:jQ T W B P D Kq L)=>h.wr.cells.1);have F:=d.o.wr.cells.1;have h:IntKind.i64.wrap (L.first+(k:Int)+1)=L.first+(k:Int)+1:=by rw[IntKind.wrap_i64];omega
     go_wp2_with fail;go_region_held3 (λv=>v.cell? (eB P 0)=cA (.pointer (vB D)))
      (first|exact E.o _ _ Y.o|exact E.o _ _ W7.o|exact E.o _ _ (d.o.z gD.drew))
      (first
      |(go_at_call 120;apply jC (Z.o _ gD.drew);intro h h;have W7:=dB ((d.o.z gD.drew).z h))
      |(go_at_call 117;apply jC (G.o _ W7.o);rintro W ⟨W,_⟩;have Y:=dB W))
     clear F E G Z W7 h W;have x:=dB (DD I (FK (L.first+k)));obtain⟨⟨H,U⟩,f⟩:∃R,cE I (FK (L.first+k))=R:=⟨_,rfl⟩
     have l:=dB f;rw[f]at Y x;simp only[f];clear f;by_cases A:U=0
     .subst A;simp only[nH];go_wp2;refine⟨⟨k+1,by omega,by go_num,H,?_,Y.o⟩,by simp[RowKit.intOf];omega⟩;show _=_;rw[BT,nV _ (by rw[a.o]),a.o];exact l.o
     obtain ⟨t,u⟩:=gK A x.o;have o:=dB u;rw[u];clear u;go_wp2;go_ret;obtain⟨r,h⟩:=dc L.first k m Q
     have X:RR=(H,U):=by
      rw[E2.o,h,IX _ (by rw[a.o]) (by rw[a.o];show(cE I _).2≠0;rw[l.o];exact A),a.o];exact l.o
     rw[X];exact⟨by rw[o.o];rfl,by rw[show ckL L (H,U).2=L from Ja A];exact Y.o⟩
    obtain rfl:k=m:=by omega
    have O:¬L.first+(k:Int)<L.last+1:=by omega
    have X:=dB (E2.o.trans a.o);obtain⟨F,c1,c2,c3⟩:=d.o.wr.cells;have q1:=jB.free d.o.wr 1;have q2:=jB.free d.o.wr 2;have q3:=jB.free d.o.wr 3;have h:=dB (((d.o.set (L':=⟨L.last+1,L.last,L.size⟩) 1 (aB (L.last+1)) (by simp)).set (L':=⟨L.last+1,L.last+1,L.size⟩) 2 (aB (L.last+1)) (by simp)).set (L':=⟨L.last+1,L.last+1,0⟩) 3 (aB 0) (by simp));go_wp2;go_ret;rw[X.o];exact⟨rfl,h.o⟩
 obtain ⟨t,u⟩:=gK hx x.o;have o:=dB u;rw[u];clear u;go_wp2;go_ret;rw[E0.o.trans (Ja hx)];exact⟨by rw[o.o];rfl,by rw[show ckL L (K0,x0).2=L from Ja hx];exact J.o⟩
