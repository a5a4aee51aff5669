import Derived.Test.YtcmdjimlmnaojaaGreatDoorJ34
import Derived.Test.YtcmdjimlmnaojaaGreatDoorJ31
import Derived.Test.YtcmdjimlmnaojaaGreatDoorJ33
set_option maxRecDepth 100000
set_option maxHeartbeats 8000000
set_option linter.defProp false
open Bool renaming true->eA,false->dA
open ByteArray renaming empty->lA
open Option renaming some->cA,none->aA
open List renaming length->zA
namespace Go.Proofs.YtcmdjimlmnaojaaGreatDoor
open Value renaming slice->qA,bool->sA,agg->uA,string->pA,tuple->yA,pointer->tA,int->mA
open Go renaming World->fA,Value->jA,TypeId->kA,Calls->iA
open Obj renaming cells->xA
open Ending renaming returned->vA
open IntKind renaming i64->oA
open Go.RowKit Tryz
def nsn(h:pB)(r:nE):List nE:=if h.toList.isEmpty=eA then [] else [r]
def wrS(c:lC)(a:Int)(b:pB)(S:List gB×pB×List nE)(x:oF):List gB×pB×List nE:=
 ((gH c a S.1 b x).2.1,S.2.1++tB 1 ((gH c a S.1 b x).1:Nat),S.2.2++nsn (gH c a S.1 b x).2.2 ⟨1,b,(gH c a S.1 b x).2.2,0⟩)
def yK(c:lC)(a:Int)(b:pB)(d:List gB)(e:List oF):List gB×pB×List nE:=e.foldl (wrS c a b) (d,lA,[])
def RQ{c:lC}{now:Int}{te:pB}{ts:List gB}(a:List oF)(k:Nat)(h:k<zA a):yK c now te ts (a.take (k+1))=wrS c now te (yK c now te ts (a.take k)) a[k]:=by
 rw[yK,Pa h,Dg];rfl
def aHo(l:cC):xQ l<=255:=by
 unfold xQ fP SA;repeat' split
 all_goals simp
def ly(d:List cC):(wB d).2.1<=255:=by
 have a:∀(l:List cC)(i c j:Nat),fD l i=cA (c,j)->c<=255:=by
  intro l;induction l with
  |nil=>intro i c j h;cases h
  |cons x r b=>
   intro i c j h;rw[fD]at h;split at h;exact b _ _ _ h
   cases h
   exact aHo x
 unfold wB;split;simp;split
 .rename_i h;exact a _ _ _ _ h
 split;simp;split<;>simp
def PC{c:lC}{a:Int}{b:List gB}(h:iC c a b=eA)(d:pB)(x:oF):iC c a (gH c a b d x).2.1=eA/\zA (gH c a b d x).2.1+eC (gH c a b d x).2.1<=zA b+eC b+2+d.size+(gW x).size/\(gH c a b d x).2.2.size<=(gW x).size/\(gH c a b d x).1<=255:=by
 have j:(uI (wB x.B).1).size<=(gW x).size:=by have:=VC (wB x.B).1;have:=BP x.B;have:=rZ (ls:=x.B);have:=qP x;omega
 have k:ByteArray.empty.size=0:=rfl;have i:(wB x.B).2.1<=255:=ly _;have g:(dI c a b d (uI (wB x.B).1)).2.2<=5:=by unfold dI;(repeat' split)<;>simp
 unfold gH;split;exact ⟨h,by dsimp only;omega,by dsimp only;omega,i⟩;split;exact ⟨h,by dsimp only;omega,by dsimp only;omega,by simp⟩;split
 .rename_i f;have e:=dX h ⟨1,d,uI (wB x.B).1,0⟩;rw[nZ h]at f g |-
  exact⟨qx h f,by dsimp only[vD,Td]at e |-;rw[Ma rfl]at e;dsimp only at e;omega,j,by omega⟩
 exact ⟨h,by dsimp only;omega,by dsimp only;omega,by omega⟩
def qr{c:lC}{a:Int}{f:List gB}(h:iC c a f=eA)(b:pB)(d:List oF)(k:Nat)(n:k<=zA d):iC c a (yK c a b f (d.take k)).1=eA/\zA (yK c a b f (d.take k)).1+eC (yK c a b f (d.take k)).1<=zA f+eC f+(iE (d.take k)).size+k*(b.size+2)/\(yK c a b f (d.take k)).2.1.size=k/\zA (yK c a b f (d.take k)).2.2<=k/\eD (yK c a b f (d.take k)).2.2<=(iE (d.take k)).size+k*b.size/\∀r∈(yK c a b f (d.take k)).2.2,r.K=1/\r.U=0:=by
 induction k with
 |zero=>exact⟨h,by simp[yK,iE],rfl,Ia _,by simp[yK,eD],λr e=>by cases e⟩
 |succ k i=>
  have g:k<zA d:=n;obtain⟨j,q,l,s,t,m⟩:=i (by omega);clear i;rw[RQ d k g,rP d k g,Ka];generalize yK c a b f (d.take k)=S at *;obtain⟨p,u,v,_⟩:=PC j b d[k];unfold wrS;generalize gH c a S.1 b d[k]=J at *;have o:zA (nsn J.2.2 ⟨1,b,J.2.2,0⟩)<=1/\eD (nsn J.2.2 ⟨1,b,J.2.2,0⟩)<=b.size+J.2.2.size/\∀r∈nsn J.2.2 ⟨1,b,J.2.2,0⟩,r.K=1/\r.U=0:=by
   unfold nsn;split;exact ⟨by simp,by simp[eD],λr e=>by cases e⟩;exact ⟨by simp,by simp[eD],λr e=>by rw[Uf.1 e];exact⟨rfl,rfl⟩⟩
  generalize nsn J.2.2 ⟨1,b,J.2.2,0⟩=Z at *;dsimp only;rw[Nat.succ_mul,Nat.succ_mul];refine⟨p,by omega,by rw[Ka,nB,l],by rw[Kb];omega,by rw[aT];omega,λr e=>?_⟩;rcases Ee.1 e with e|e;exact m r e;exact o.2.2 r e
def lI(c:lC)(N:sC)(r:eG):sC×pB:=
 if N.deg=eA/\r.K<=4 then(N,tB 1 3)
 else if (r.K≠2/\r.K≠4)/\uC r.T=dA then(N,tB 1 2)
 else if r.K=1 then
  if (yK c N.now r.T N.ts r.P).2.2=[] then(N,tB 1 0++tB 2 (zA r.P:Nat)++(yK c N.now r.T N.ts r.P).2.1)
  else((nF c N (yK c N.now r.T N.ts r.P).2.2).1,aL (nF c N (yK c N.now r.T N.ts r.P).2.2).1 (nF c N (yK c N.now r.T N.ts r.P).2.2).2 (tB 1 0++tB 2 (zA r.P:Nat)++(yK c N.now r.T N.ts r.P).2.1))
 else if r.K=2 then
  if (BL c N.now N.ts r.U).2.2=dA then(N,tB 1 2)
  else((nF c N [⟨2,lA,lA,r.U⟩]).1,aL (nF c N [⟨2,lA,lA,r.U⟩]).1 (nF c N [⟨2,lA,lA,r.U⟩]).2 (tB 1 0))
 else if r.K=3 then
  if (zR c N.now N.ts r.T r.R r.U).2.2=dA then(N,tB 1 2)
  else((nF c N [⟨3,r.T,r.R,r.U⟩]).1,aL (nF c N [⟨3,r.T,r.R,r.U⟩]).1 (nF c N [⟨3,r.T,r.R,r.U⟩]).2 (tB 1 0))
 else if r.K=4 then((DJ c N).1,aL (DJ c N).1 (DJ c N).2 (tB 1 0))
 else if r.K=5 then
  if (pG c N.now N.ts r.T r.R).1<0 then(N,tB 1 2)
  else(N,tB 1 0++tB 8 (pG c N.now N.ts r.T r.R).1++tB 8 (pG c N.now N.ts r.T r.R).2)
 else(N,tB 1 0++tB 8 N.now++tB 4 (zA (rB N.ts r.T).Z:Nat)++xG (rB N.ts r.T).Z)
def tN(c:lC)(N:sC)(r:eG):sC×pB:=if N.up=dA then(N,tB 1 4) else lI c N r
structure lb(c:lC)(m:Nat)(N:sC):Prop where
 fit:JK N.d.fs
 st:iC c N.now N.ts=eA
 w:kG N.ts≤m
 lsn:0≤N.lsn∧N.lsn≤1000000000000000
section
variable {c:lC} {m k:Nat} {N:sC} {rs:List nE}
theorem lb.mono(h:lb c m N)(a:m<=k):lb c k N:=⟨h.fit,h.st,Ua h.w a,h.lsn⟩
theorem ML(i:lG c=eA)(h:lb c m N)(o:zA rs<=500)(n:27*zA rs+eD rs<=k)(l:k<=65535):lb c (m+k) (nF c N rs).1:=by
 have b:lb c (m+k) N:=h.mono (by omega);rcases aDw (N:=N) (rs:=rs) i with⟨_,e⟩|⟨_,⟨_,e⟩|⟨a,⟨_,e⟩|⟨f,⟨_,e⟩|⟨_,e⟩⟩⟩⟩;rw[e];exact b;rw[e];exact b;rw[e];exact b;rw[e];exact b;rw[e];obtain⟨p,j⟩:=aFb (rs:=rs) h.st (by omega);have d:vG c N.now N.ts rs=bF c N.now N.ts rs:=by
  unfold vG at a |-
  rw[Ja (by rw[h.st];decide),Ja (by omega)]at a |-
  by_cases g:(bF c N.now N.ts rs).2.2=eA
  .rw[Ma g]
  rw[Ja g]at a;cases a
 rw[d]at a |-
 have o:=h.w;simp only[yB,Sa,Ab]at f;unfold oz;split;exact ⟨KA h.fit,j a,by show kG (bF c N.now N.ts rs).2.1<=_;omega,by show 0<=N.lsn+1/\N.lsn+1<=1000000000000000;omega⟩;split;exact b;exact ⟨KA h.fit,h.st,b.w,h.lsn⟩
theorem aBo(b:lG c=eA)(h:lb c m N)(e:m<=1000000):lb c m (DJ c N).1:=by
 have f:=(QY (lsn:=N.lsn) h.st (Ua h.w e) h.lsn.1 h.lsn.2).2.1;have d:=h.w;have a:=XY _ _ h.fit (TZ (K:=N.d) (L:=N.l) (text:=yN N.lsn N.now N.ts) (by omega));unfold DJ;rw[Ja (by rw[b];decide)];split;exact h;split;exact h;split;exact h;split;exact h;split;exact ⟨a,h.st,h.w,h.lsn⟩;exact ⟨a,h.st,h.w,h.lsn⟩
theorem aHa(b:lG c=eA)(h:lb c m N)(g:m<=1000000){r:eG}(n:(iE r.P).size<=29500)(f:zA r.P<=5)(i:r.T.size<=16)(j:r.R.size<=16):lb c (m+30000) (tN c N r).1:=by
 have a:lb c (m+30000) N:=h.mono (by omega);have l:ByteArray.empty.size=0:=rfl;unfold tN;split;exact a;unfold lI;split;exact a;split;exact a;split
 .obtain ⟨_,_,_,d,e,_⟩:=qr h.st r.T r.P (zA r.P) (Ia _);rw[Rb]at d e;have:=Hf f i;split
  .exact a
  exact ML b h (by omega) (by omega) (by omega)
 split
 .split
  .exact a
  exact ML b h (by simp) (by simp only[List.length_singleton,eD];omega) (by omega)
 split
 .split
  .exact a
  exact ML b h (by simp) (by simp only[List.length_singleton,eD];omega) (by omega)
 split;exact (aBo b h g).mono (by omega);split
 .split
  .exact a
  exact a
 exact a
end
section
open Go.Maps
attribute [local go_sem] fG dH lK jB.drewI sK.drewI sK.new sK.alloc sK.alloc2
def dk1:xD:=⟨[⟨sH 1,⟨#[]⟩,0⟩],1000000,1,0,0,dA⟩
def nd1:sC:=⟨dk1,⟨1,1,0⟩,0,[],0,dA,eA⟩
def qg:cE ⟨[],1000000,0,0,0,dA⟩ (sG 1)=(dk1,0):=by kernel_rfl
def sj{c:lC}(b:lG c=eA):lb c 0 nd1:=
 ⟨by have:=dV (D:=⟨[],1000000,0,0,0,dA⟩) (op:=sG 1) vO (by have:=fO 1;unfold maxLen;show(sH 1).size<=_;omega) (Oa _);rw[qg]at this;exact this,dQ b (by show yB 0 0 1000000000000=eA;decide) (by simp[nd1]) rfl,Ia _,⟨Xd _,by show(0:Int)<=1000000000000000;decide⟩⟩
structure O0(w W:World)(c:lC)(a:nC)(ca:Nat):Prop where
 C:jB W w.1.size #[aB c.w,aB c.tl,aB c.ml,aB c.sh,aB c.ha,aB c.sg] 24
 D:jB W (w.1.size+1) #[qA a 0 ca,aB 1000000,aB 0,aB 0,aB 0,sA dA] 35
 R:jB W (w.1.size+1+1) (gC aA 0 aA 0 bL) 42
 B:xB w W
section
variable {w W W':fA} {c:lC} {a a':nC} {ca ca':Nat}
theorem O0.new:O0 w (((w.alloc (xA #[aB c.w,aB c.tl,aB c.ml,aB c.sh,aB c.ha,aB c.sg] 24)).alloc (xA #[qA a 0 ca,aB 1000000,aB 0,aB 0,aB 0,sA dA] 35)).alloc (xA (gC aA 0 aA 0 bL) 42)) c a ca:=
 ⟨((jB.new _ _ _).alloc _).alloc _,by have:=(jB.new (w.alloc (xA #[aB c.w,aB c.tl,aB c.ml,aB c.sh,aB c.ha,aB c.sg] 24)) #[qA a 0 ca,aB 1000000,aB 0,aB 0,aB 0,sA dA] 35).alloc (xA (gC aA 0 aA 0 bL) 42);simpa using this,
   by have:=jB.new ((w.alloc (xA #[aB c.w,aB c.tl,aB c.ml,aB c.sh,aB c.ha,aB c.sg] 24)).alloc (xA #[qA a 0 ca,aB 1000000,aB 0,aB 0,aB 0,sA dA] 35)) (gC aA 0 aA 0 bL) 42;simpa using this,aC (aC bC bC) bC⟩
theorem O0.z(h:O0 w W c a ca)(b:xB W W'):O0 w W' c a ca:=⟨h.C.z b,h.D.z b,h.R.z b,aC h.B b⟩
theorem O0.lt(h:O0 w W c a ca):w.1.size+1+1<W.1.size:=bB h.R
theorem O0.cells(h:O0 w W c a ca):W.cell? (eB w.1.size 0)=cA (aB c.w)/\W.cell? (eB w.1.size 1)=cA (aB c.tl)/\W.cell? (eB w.1.size 2)=cA (aB c.ml)/\W.cell? (eB w.1.size 3)=cA (aB c.sh)/\W.cell? (eB w.1.size 4)=cA (aB c.ha)/\W.cell? (eB w.1.size 5)=cA (aB c.sg)/\W.cell? (eB (w.1.size+1) 0)=cA (qA a 0 ca)/\W.cell? (eB (w.1.size+1) 1)=cA (aB 1000000)/\W.cell? (eB (w.1.size+1) 2)=cA (aB 0)/\W.cell? (eB (w.1.size+1) 3)=cA (aB 0)/\W.cell? (eB (w.1.size+1) 4)=cA (aB 0)/\W.cell? (eB (w.1.size+1) 5)=cA (sA dA)/\sK W (w.1.size+1+1)/\w.1.size<W.1.size/\w.1.size+1<W.1.size/\w.1.size+1+1<W.1.size/\¬w.1.size=W.1.size/\¬w.1.size+1=W.1.size/\¬w.1.size+1+1=W.1.size:=
 have:=h.lt
 ⟨h.C.cell 0,h.C.cell 1,h.C.cell 2,h.C.cell 3,h.C.cell 4,h.C.cell 5,h.D.cell 0,h.D.cell 1,h.D.cell 2,h.D.cell 3,h.D.cell 4,h.D.cell 5,h.R.box rfl,by omega,by omega,this,by omega,by omega,by omega⟩
theorem aKg{C:fA->Prop}(h:O0 w W c a ca)(k:∀X,O0 w X c a' ca'->C X):C ((((((W.setCell (eB (w.1.size+1) 0) (qA a' 0 ca')).setCell (eB (w.1.size+1) 1) (aB 1000000)).setCell (eB (w.1.size+1) 2) (aB 0)).setCell (eB (w.1.size+1) 3) (aB 0)).setCell (eB (w.1.size+1) 4) (aB 0)).setCell (eB (w.1.size+1) 5) (sA dA)):=by
 have b:fB (·=w.1.size+1) W ((((((W.setCell (eB (w.1.size+1) 0) (qA a' 0 ca')).setCell (eB (w.1.size+1) 1) (aB 1000000)).setCell (eB (w.1.size+1) 2) (aB 0)).setCell (eB (w.1.size+1) 3) (aB 0)).setCell (eB (w.1.size+1) 4) (aB 0)).setCell (eB (w.1.size+1) 5) (sA dA)):=((((((fB.refl (·=w.1.size+1) W).setCell (Ca rfl) 0 _).setCell (Ca rfl) 1 _).setCell (Ca rfl) 2 _).setCell (Ca rfl) 3 _).setCell (Ca rfl) 4 _).setCell (Ca rfl) 5 _;exact k _ ⟨b.blk h.C (by omega),by have:=(((((h.D.set 0 (qA a' 0 ca')).set 1 (aB 1000000)).set 2 (aB 0)).set 3 (aB 0)).set 4 (aB 0)).set 5 (sA dA);simpa using this,b.blk h.R (by omega),h.B.trans (b.below h.B.size λk d e=>by omega)⟩
theorem lr{C:fA->Prop}{w:fA}{cs:Array jA}{t:kA}(k:∀W,xB w W->jB W w.1.size cs t->W.1.size=w.1.size+1->C W):C (w.alloc (xA cs t)):=k _ bC (jB.new w _ _) (by simp)
end
def QF{g:Func}{t:Act}{w W:fA}{c:lC}{a a' f:nC}{ca ca' b i j:Nat}{M:sC}{x:jA}(h:g.results=#[.cell i 42,.tmp j])(l:t.tmps.getD i undef=.pointer (vB (w.1.size+1+1)))(m:t.tmps.getD j undef=x)(p:t.defers=[])(P:O0 w W c a ca)(n:uB W a' M.d.fs)(o:aD W f M.ts):bodyPost prog g (λe q=>RT M x w e q) .ret t (W.setRow (w.1.size+1+1) (gC a' ca' f b M)):=
 bodyPost_ret (qm h l m P.R.row (dH _ _ _ _ _)) p ⟨a',ca',f,b,rfl,n.store P.R (rF _ _ _ _ _) (uG _ _ _),o.store P.R (rF _ _ _ _ _) (uG _ _ _),P.B.trans ((uG _ _ _).below P.B.size λk r e=>by omega)⟩
def aLv(b:Bool)(t:pB):pN [] b dA t=(lA,dA):=by
 unfold pN;cases b<;>simp[mE]
def ZR(c:lC)(w:fA)(h:lG c=eA):
 iA prog 12 #[uE c,uA #[qA aA 0 0,aB 1000000,aB 0,aB 0,aB 0,sA dA]] w λe w'=>RT nd1 (aB 0) w e w':=by
 have J:=dB (λW=>fK c W);rw[h]at J;have N:wE [] 1000000 0 0 0=eA:=by decide
 have G:=dB (λW=>uU aA 0 [] 1000000 0 0 0 dA W (Ca rfl) vO.H (by simp) vO.sum);rw[N]at G;have L:=dB (λW=>PH aA 0 ⟨[],1000000,0,0,0,dA⟩ W (Ca rfl) (by simp));have H:=dB (λQ R t W=>sW Q R [] 1000000 0 0 0 dA t W (Ca rfl) (by simp));have I:=dB (λQ R t W=>ZT Q R [] 1000000 0 0 0 dA t W (Ca rfl) vO.H (by simp) vO.sum);have V:=dB (λQ R W=>SU Q R 1000000 0 0 0 W N dk1 qg);unfold aAs at V;simp only[List.length_nil]at G L H I;simp only[aLv]at I;simp only[mE]at H;clear h N;rw[show nd1=⟨dk1,⟨1,1,0⟩,0,[],0,dA,eA⟩ from rfl];generalize dk1=K at *;unfold uE at *;have fz:=cL;go_enter func12,ntmps12;go_wp2_with fail;apply jC (J.o _);intro w1 b;have P:=dB ((O0.new (w:=w) (c:=c) (a:=aA) (ca:=0)).z b);clear b J;obtain⟨d,f,g,h,j,l,m,n,o,p,q,r,s,u,v,x,y,z,A⟩:=P.o.cells;go_wp2_with fail;apply jC (G.o _);intro w2 b;replace P:=dB (P.o.z b);clear b G d f g h j l m n o p q r s u v x y z A;obtain⟨d,f,g,h,j,l,m,n,o,p,q,r,s,u,v,x,y,z,A⟩:=P.o.cells;go_wp2_with fail;refine(L.o _).mono ?_;rintro e k ⟨Q,R,rfl,k,b⟩;replace P:=dB (P.o.z b);have D:=P.o.D.free 0;have G:=P.o.D.free 1;have J:=P.o.D.free 2;have O:=P.o.D.free 3;have Y:=P.o.D.free 4;have Z:=P.o.D.free 5;clear k b L d f g h j l m n o p q r s u v x y z A;obtain⟨d,f,g,h,j,l,m,n,o,p,q,r,s,u,v,x,y,z,A⟩:=P.o.cells;go_upto_region 6 with fail;refine aKg (C:=λW=>Code.wp prog _ _ _ W) P.o ?_;intro w4 T;replace P:=dB T;clear T D G J O Y Z d f g h j l m n o p q r s u v x y z A;obtain⟨d,f,g,h,j,l,m,n,o,p,q,r,s,u,v,x,y,z,A⟩:=P.o.cells;go_wp2_with fail;apply jC (H.o _ _ _ _);intro D b;replace P:=dB (P.o.z b);clear b H d f g h j l m n o p q r s u v x y z A;obtain⟨d,f,g,h,j,l,m,n,o,p,q,r,s,u,v,x,y,z,A⟩:=P.o.cells;go_upto_region 15 with fail;refine lr (C:=λW=>Code.wp prog _ _ _ W) ?_;intro k b k O;clear O;replace P:=dB (P.o.z b);have S:=dB k;clear b k d f g h j l m n o p q r s u v x y z A;generalize D.1.size=Y at *;obtain⟨d,f,g,h,j,l,m,n,o,p,q,r,s,u,v,x,y,z,A⟩:=P.o.cells;go_wp2_with fail;apply jC (I.o _ _ _ _);intro k b;replace P:=dB (P.o.z b);replace S:=dB (S.o.z b);clear b I d f g h j l m n o p q r s u v x y z A;obtain⟨d,f,g,h,j,l,m,n,o,p,q,r,s,u,v,x,y,z,A⟩:=P.o.cells;go_wp2_with fail;refine(V.o _ _ _).mono ?_;rintro e k ⟨D,G,I,I,rfl,U,b⟩;replace P:=dB (P.o.z b);replace S:=dB (S.o.z b);have F:=dB U;clear b U V d f g h j l m n o p q r s u v x y z A;go_upto_region 23 with fail;refine lr (C:=λW=>Code.wp prog _ _ _ (W.alloc _)) ?_;intro I b J Z;refine lr (C:=λW=>Code.wp prog _ _ _ W) ?_;intro B M I O;clear O;rw[Z]at I;replace b:=aC b M;replace P:=dB (P.o.z b);replace S:=dB (S.o.z b);replace F:=dB (F.o.z b);have E:=dB (J.z M);have X:=dB I;clear b M J I Z;generalize k.1.size=Z at *;have k:yC B Z 0 (qA D (zA K.fs) G):=E.o.cell 0;have I:yC B Z 1 (aB K.c):=E.o.cell 1;have J:yC B Z 2 (aB K.k):=E.o.cell 2;have O:yC B Z 3 (aB K.cr):=E.o.cell 3;have q4:yC B Z 4 (aB K.fl):=E.o.cell 4;have q5:yC B Z 5 (sA K.dn):=E.o.cell 5;obtain⟨d,f,g,h,j,l,m,n,o,p,q,r,s,u,v,x,y,z,A⟩:=P.o.cells;clear d f g h j l m n o p q r s u v x y z A k I J O q4 q5;go_upto_region 25 with fail;go_wp2_with fail;go_loopw [8,20,21,22,23,24,88] (λl8 _ _ _ _ _ i wr=>i=aB 0/\l8=aB 0/\wr=B) (λ_ _ _ _ _ _ i _=>0-(intOf i).toNat)
 case atStart=>exact⟨rfl,rfl,rfl⟩
 case round=>
  obtain⟨rfl,rfl,rfl⟩:=hrel;have fM:=rE D G aA 0 ⟨K,⟨1,1,0⟩,0,[],0,dA,eA⟩;dsimp only[List.length_nil]at fM;have k:yC wr Z 0 (qA D (zA K.fs) G):=E.o.cell 0;have I:yC wr Z 1 (aB K.c):=E.o.cell 1;have J:yC wr Z 2 (aB K.k):=E.o.cell 2;have O:yC wr Z 3 (aB K.cr):=E.o.cell 3;have q4:yC wr Z 4 (aB K.fl):=E.o.cell 4;have q5:yC wr Z 5 (sA K.dn):=E.o.cell 5;have k:yC wr (Z+1) 0 (aB 1):=X.o.cell 0;have k:yC wr (Z+1) 1 (aB 1):=X.o.cell 1;have k:yC wr (Z+1) 2 (aB 0):=X.o.cell 2;have k:yC wr Y 0 (aB 0):=S.o.cell 0;have k:yC wr Y 1 (qA aA 0 0):=S.o.cell 1;obtain⟨d,f,g,h,j,l,m,n,o,p,q,r,s,u,v,x,y,z,A⟩:=P.o.cells;clear fz;go_wp2;exact QF rfl rfl rfl rfl P.o F.o (Ca rfl)
end
def GQ(p:jA->Prop)(w:fA)(B:Nat)(T:kA)(sz:Nat)(v:jA)(n:Nat)(xs:List jA):Prop:=
 w.ownsRow B T sz v n xs/\v.ownBlock≠aA/\∀g j u,v.ownBlock=cA g->w.cell? (eB g j)=cA u->p u
section
variable {p:jA→Prop} {w w':fA} {B n:Nat} {T:kA} {sz:Nat} {v:jA} {xs:List jA}
theorem GQ.turn{S:Nat->Prop}(h:GQ p w B T sz v n xs)(c:fB S w w')(b:∀g,v.ownBlock=cA g->¬S g):GQ p w' B T sz v n xs:=
 ⟨c.row h.1 b,h.2.1,λg j u a d=>h.2.2 g j u a (by rw[<-fA.cell?_of_block (c.block g (h.1.lt g a).2 (b g a))];exact d)⟩
theorem GQ.z(h:GQ p w B T sz v n xs)(a:xB w w'):GQ p w' B T sz v n xs:=h.turn (fB.of a (S:=λ_=>False)) λ_ _ e=>e
theorem aFc{P:Program}{t L:kA}{i:TypeInfo}{z:jA}(N:P.underlying t=cA (.slice T))(M:P.info? T=cA i)(I:i.zero=cA z)(m:i.size=sz)(h:z.cells.size=sz)(h:GQ p w B T sz v n xs)
{C:Addr}{c:Nat}{a:List jA}(J:zA a=1*sz)(l:∀j u,a[j]?=cA u->w.cell? (C.add j)=cA u)(U:∀u∈a,u.oneCell'=eA)(V:n+1<=5000001)(F:(n+1)*i.bytes<=140737488355328)
{g E:Nat}(D:(Builtin.append_ #[t,t] L #[v,qA (cA C) 1 c]).run P w=.ok (qA (vB g) (n+1) E) w')(O:∀u∈a,p u)(S:∀u∈z.cells.toList,p u):∀j u,w'.cell? (eB g j)=cA u->p u:=by
 subst m;obtain⟨m,R,o⟩:=h;obtain⟨rfl,rfl⟩|⟨q,d,f,rfl,X,H,h,Y,G,s⟩:=m.2;exact absurd rfl R;have K:∀u∈f.toList,p u:=λu x=>by
  obtain⟨j,Z,e⟩:=Ib x;refine o q j u rfl ?_;rw[cell_of_row w q j f T (0,0) H,<-Yd,Va Z,e]
 by_cases o:n+1<=d
 .have y:n*i.size+zA a<=f.size:=by rw[J,G,<-Nat.add_mul];exact Nat.mul_le_mul_right _ o
  rw[run_append_room (P:=P) w t L T i N M q n d f H C 1 c a J l U o y]at D;injection D with e1 e2;obtain rfl:q=g:=by injection e1 with e1;injection e1 with e1;injection e1
  subst e2;intro j u x;rw[cell_of_row _ q j _ T (0,0) (setRow_heap w q f _ T _ H)]at x;have b:=Array.mem_of_getElem? x;simp only[List.mem_toArray,Ee]at b;rcases b with(b|b)|b;exact K u (Ce b);exact O u b;exact K u (Ng b)
 have r:∀j u,xs[j]?=cA u->w.cell? (((eB q 0):Addr).add j)=cA u:=m.cells (g:=q) rfl;rw[run_append_grow (P:=P) w t L T i z N M I (eB q 0) n d xs m.1 r C 1 c a J l (by omega) (by omega) (growslice_fits (by omega) F)]at D;injection D with e1 e2;obtain rfl:w.1.size=g:=by injection e1 with e1;injection e1 with e1;injection e1
 subst e2;intro j u x;rw[cell_of_row _ w.1.size j _ T (0,0) (heap_alloc_new w.drew _)]at x;have b:=Array.mem_of_getElem? x;simp only[Array.mem_append,List.mem_toArray]at b;rcases b with(b|b)|b;rw[<-s]at b;exact K u (Ce b);exact O u b;unfold Builtin.zeroCells at b;obtain⟨k,h,e⟩:=Array.mem_map.1 b;have I:=Array.mem_range.1 h;have A:0<z.cells.size:=Nat.pos_of_ne_zero λQ=>by rw[Q,Nat.mul_zero]at I;omega
 rw[getElem!_pos z.cells _ (Nat.mod_lt k A)]at e;exact S u (by rw[<-e];simp)
end
def ue{p:jA->Prop}{K:Array Oper}{f:List Oper}{o:Oper}{a:Act}{Q:Exit->Act->fA->Prop}{w:fA}(y:o.guard=aA)(s x:Operand){m T:kA}{z:jA}{sz b:Nat}
(V:o.op=.call { callee:=.builtin .append,args:=#[s,x],argTypes:=#[m,m] })(F:prog.underlying m=cA (.slice T))(r:(prog.info? T).map (λi=>(i.zero,i.size,i.bytes))=cA (cA z,sz,b))(G:z.cells.size=sz)(L:0<sz)(R:b<=100)
{B n:Nat}{v:jA}{xs:List jA}{cs:Array jA}(Z:a.eval s=v)(Y:GQ p w B T sz v n xs){q:Nat}(S:a.eval x=qA (vB q) 1 1)(X:w.1.size=q)(D:cs.size=sz)(A:∀u∈cs.toList,u.oneCell'=eA)(U:n<=5000000)(h:B<=w.1.size)(W:∀u∈cs.toList,p u)(pz:∀u∈z.cells.toList,p u)
(h:∀g c w',cB (GQ p w' B T sz (qA (vB g) (n+1) c) (n+1) (xs++cs.toList))->cB (fB (λi=>v.ownBlock=cA i) w w')->wpList prog K Q f (a.put o.dst (qA (vB g) (n+1) c)) w'):
 wpList prog K Q (o::f) a (w.alloc (xA cs T)):=by
 subst X;obtain⟨i,r,H,I,J⟩:=info_parts r;have E:(n+1)*b<=140737488355328:=Ua (Hf (Nat.add_le_add_right U 1) R) (by decide);have l:=Y.z (zF w (xA cs T));have k:∀j u,cs.toList[j]?=cA u->(w.alloc (xA cs T)).cell? (((eB w.1.size 0):Addr).add j)=cA u:=by
  have:=fA.news_of_block (cs:=cs) (t:=T) (fr:=(0,0)) (heap_alloc_new w (xA cs T));simpa using this
 obtain⟨g,c,w',d,M,N,O,O⟩:=run_append_lies (P:=prog) (w.alloc (xA cs T)) m o.type B T i z sz b F r H I J G L v n xs l.1 (eB w.1.size 0) 1 1 cs.toList (by simpa using D) k A (by omega) (by simp[maxLen];omega) E (by simp;omega) (w.1.size+1) (by simp);refine wpList_plain y λ_ O=>?_;unfold Oper.wp execOp;simp only[V,resolve,invoke,builtin,Sem.run_bind,Sem.run_pure,Result.andThen_ok,Hg,Fc,Ag,Z,S,d];refine O _ _ (h g c w' ⟨M,by simp[jA.ownBlock],λh j u C h=>?_⟩ ((fB.of (zF w (xA cs T))).trans' ((fB.grown N).mono λi _ e=>e)));simp only[jA.ownBlock,Qa]at C;subst C;exact aFc F r H I G l (by simpa using D) k A (by omega) (by rw[J];exact E) d W pz j u h
section
variable {w W:fA} {S:Nat→Prop} {p:jA→Prop}
def uk(p:jA->Prop):Prop:=(∀s,¬p (pA s))\/∀n,¬p (aB n)
theorem IL(i:∀g j u,S g->w.cell? (eB g j)=cA u->p u)(f:fB S w W)(a:uk p){b o k:Nat}{s:pB}{n:Int}(d:b<w.1.size)(h:w.cell? (eB b o)=cA (pA s))(l:w.cell? (eB b k)=cA (aB n)):b<W.1.size/\∀j,W.cell? (eB b j)=w.cell? (eB b j):=by
 have c:¬S b:=λe=>by
  obtain a|a:=a;exact a _ (i b o _ e h);exact a _ (i b k _ e l)
 exact⟨Bb d f.size,λj=>fA.cell?_of_block (f.block b d c)⟩
theorem uB.keptP(q:∀g j u,S g->w.cell? (eB g j)=cA u->p u)(m:fB S w W)(l:uk p){a:nC}{c:List iB}(h:uB w a c):uB W a c:=by
 obtain h|⟨b,o,e,d,h⟩:=h;exact Ca h
 cases c with
 |nil=>exact Ca rfl
 |cons f r=>
  obtain⟨s,t⟩:=IL q m l d (h 0 (by simp)).1 (h 0 (by simp)).2.2;exact La ⟨b,o,e,s,λi k=>by simp only[t];exact h i k⟩
theorem mC.keptP(q:∀g j u,S g->w.cell? (eB g j)=cA u->p u)(m:fB S w W)(l:uk p){a:nC}{c:List kB}(h:mC w a c):mC W a c:=by
 obtain h|⟨b,o,e,d,h⟩:=h;exact Ca h
 cases c with
 |nil=>exact Ca rfl
 |cons f r=>
  obtain⟨s,t⟩:=IL q m l d (h 0 (by simp)).1 (h 0 (by simp)).2;exact La ⟨b,o,e,s,λi k=>by simp only[t];exact h i k⟩
theorem aD.keptP(q:∀g j u,S g->w.cell? (eB g j)=cA u->p u)(m:fB S w W)(l:uk p){a:nC}{s:List gB}(h:aD w a s):aD W a s:=by
 obtain h|⟨b,o,e,F,h⟩:=h;exact Ca h
 cases s with
 |nil=>exact Ca rfl
 |cons f r=>
  obtain⟨_,_,_,_,d,k,_⟩:=h 0 (by simp);obtain⟨H,c⟩:=IL q m l F d k;refine La ⟨b,o,e,H,λi G=>?_⟩;obtain⟨t,y,x,z,A,d,k,C,D,E⟩:=h i G;exact⟨t,y,x,z,(c _).trans A,(c _).trans d,(c _).trans k,(c _).trans C,D.keptP q m l,E.keptP q m l⟩
end
section
open Go.Maps
def nDk(w:fA)(g:Nat):Prop:=∀cur t,w.heap[g]?=cA (xA cur t (0,0))->t≠144/\t≠146/\t≠64
def sQ(w w':fA):Prop:=∀(b:Nat)(o:Obj),w.heap[b]?=cA o->nDk w b->w'.heap[b]?=cA o
section
variable {w w':fA} {b:Nat} {cur:Array jA} {t:kA}
theorem vJ.kw(k:vJ w w'):sQ w w':=λb o h a=>k b o h λcur t e=>⟨(a cur t (h.trans (Kd cA e))).1,(a cur t (h.trans (Kd cA e))).2.1⟩
theorem sQ.of(h:xB w w'):sQ w w':=(vJ.of h).kw
theorem sQ.trans{a:fA}(h:sQ a w)(k:sQ w w'):sQ a w':=λx o d c=>k x o (h x o d c) λcur t e=>c cur t (d.trans ((h x o d c).symm.trans e))
theorem sQ.p{P D:Nat}{L:jG}(k:fB (·=P) w w')(h:DR w P D L):sQ w w':=λb _ a c=>(k.block b (CO a) λe=>by subst e;exact(c _ _ h).2.2 rfl).trans a
theorem aHt(h:jB w b cur t)(d:t≠144/\t≠146/\t≠64):nDk w b:=λa f c=>by
 have e:=Lc ((show w.heap[b]?=_ from h).symm.trans c);cases e;exact d
theorem aHu{H:Type}{P:Program}{k:kA}{R:jA->Option (DataW H×List MemPlace)}{m n:Nat}{D:DataW H}(h:w.ownsMap P k R m n D):nDk w m:=λcur t c=>by
 obtain⟨e,a,d,r⟩:=h;rw[d]at c;cases c
theorem sQ.blk(k:sQ w w')(h:jB w b cur t)(a:t≠144/\t≠146/\t≠64):jB w' b cur t:=k b _ h (aHt h a)
theorem sQ.map{H:Type}(e:sQ w w'){P:Program}{k:kA}{R:jA->Option (DataW H×List MemPlace)}{m n:Nat}{D:DataW H}(h:w.ownsMap P k R m n D):w'.ownsMap P k R m n D:=by
 obtain⟨c,a,d,r⟩:=id h;exact⟨c,a,e m _ d (aHu h),r⟩
theorem lE.apart{B:Nat->Prop}{l m:Nat}{c:lC}{a:Int}{M:Nat}(h:lE w B l m c a [] M)(k:sQ w w'):lE w' B l m c a [] M:=by
 obtain⟨T,L,h,e⟩:=h;obtain rfl:L=[]:=by cases L with
  |nil=>rfl
  |cons p r=>cases e
 exact⟨T,[],{ h with blk:=k.blk h.blk (by decide),ten:=k.map h.ten,idx:=λp d=>by cases d},e⟩
end
def aMb(P D:Nat)(a:nC)(c:Nat)(w:fA)(g:w.cell? (eB P 0)=cA (.pointer (vB D)))(f:w.cell? (eB D 4)=cA (qA a 0 c)):
 rI 119 #[.pointer (vB P)] w (qA aA 0 0):=by
 go_enter func119,ntmps119;go_wp2;go_loopw [3,16] (λd i wr=>i=aB 0/\d=qA aA 0 0/\wr=w) (λ_ i _=>0-(intOf i).toNat)
 case atStart=>exact⟨rfl,rfl,rfl⟩
 case round=>
  obtain⟨rfl,rfl,rfl⟩:=hrel;go_wp2;go_ret;exact⟨rfl,rfl⟩
def lg0:jG:=⟨0,0,0⟩
def dk0:xD:=⟨[],1000000,0,0,0,dA⟩
def aJc{d w:fA}{B P D:Nat}(h:jQ d w B P D dk0 lg0):
 iA prog 65 #[.pointer (vB P)] w λe w'=>e=vA (yA #[qA aA 0 0,.nilIface])/\jQ d w' B P D dk1 ⟨1,1,0⟩/\sQ w w':=by
 obtain⟨v,k⟩:=h.drive;obtain⟨a,n,rfl,I⟩:=k.files;have m:=dB h;have f:=dB (aMb P D a n w h.wr.cells.1 k.cell4);obtain⟨x,C,E,F⟩:=h.wr.cells;have G:yC w D 3 (sA dA):=k.blk.cell 3;have o:=jB.free h.wr 1;have q:=jB.free h.wr 2;have r:=jB.free h.wr 3;clear h k I;go_enter func65,ntmps65;go_wp2_with fail;apply kO f.o;go_upto_region 6 with fail;have c:cB (jQ d (((w.setCell (eB P 1) (aB 1)).setCell (eB P 2) (aB 1)).setCell (eB P 3) (aB 0)) B P D dk0 ⟨1,1,0⟩):=((m.o.set (L':=⟨1,0,0⟩) 1 _ (by simp[lg0])).set (L':=⟨1,1,0⟩) 2 _ (by simp)).set (L':=⟨1,1,0⟩) 3 _ (by simp);have A:=dB (sQ.p ((((fB.refl (·=P) w).setCell (Ca rfl) 1 (aB 1)).setCell (Ca rfl) 2 (aB 1)).setCell (Ca rfl) 3 (aB 0)) m.o.wr);clear x C E F G o q r m f;generalize ((w.setCell (eB P 1) (aB 1)).setCell (eB P 2) (aB 1)).setCell (eB P 3) (aB 0)=L at *;obtain⟨x,_,_,_⟩:=c.o.wr.cells;have l:cB (∀W,jQ d W B P D dk0 ⟨1,1,0⟩->iA prog 117 #[.pointer (vB D),uA #[aB 1,pA (sH 1),pA ⟨#[]⟩,pA ⟨#[]⟩,aB 0]] W λe w'=>e=vA .nilIface/\jQ d w' B P D dk1 ⟨1,1,0⟩/\vJ W w'):=λW H=>by
  have:=tp (sG 1) H (IQ (by omega) (by omega) (by omega));rw[show cE dk0 (sG 1)=(dk1,0) from qg]at this;exact this
 go_region_held3 (λw'=>w'.cell? (eB P 0)=cA (.pointer (vB D)))
  (first|exact i.o.wr.cells.1|exact g.o.wr.cells.1|exact(c.o.z gD.drew).wr.cells.1)
  (first
  |(go_at_call 120;apply jC (bO 1 _ (c.o.z gD.drew).tab);intro J j;have y:=dB (A.o.trans (sQ.of (aC gD.drew j)));have g:cB (jQ d J B P D dk0 ⟨1,1,0⟩):=(c.o.z gD.drew).z j)
  |(go_at_call 117;apply jC (l.o _ g.o);rintro K ⟨u,s⟩;have z:=dB (y.o.trans s.kw);have i:cB (jQ d K B P D dk1 ⟨1,1,0⟩):=u))
 all_goals
  go_wp2;go_ret2;exact⟨rfl,i.o,z.o⟩
def Ck0(c:lC)(w:fA)(e:Ending)(w':fA):Prop:=
 ∃h l m,e=vA (yA #[.pointer (vB h),.nilIface])/\w.1.size<=h/\jB w' h #[.pointer (vB l),aB 0] 75/\lE w' (λg=>w.1.size<=g/\g≠h) l m c 0 [] 1900000/\xB w w'
def aGk{w W a:fA}{c:lC}{l m:Nat}(d:xB w W)(e:xB W a)(h:lE a (W.1.size<=·) l m c 0 [] 1900000):
 Ck0 c w (vA (yA #[.pointer (vB a.1.size),.nilIface])) (a.alloc (xA #[.pointer (vB l),aB 0] 75)):=by
 have f:=d.size;have k:=e.size;exact⟨_,l,m,rfl,by omega,jB.new _ _ _,h.re λg i j=>⟨bC.block g i,Ua f j,by omega⟩,aC (aC d e) bC⟩
def aMz{J w:fA}{B P D:Nat}{L:jG}(c:lC)(h:jQ J w B P D dk0 L)(u:lG c=eA)(r:kH w):
 iA prog 64 #[.pointer (vB P),uE c] w λe w'=>Ck0 c w e w':=by
 obtain⟨v,o⟩:=h.drive;obtain⟨a,q,rfl,j⟩:=o.files;have n:=dB (λW=>rT a q [] vg W (Ca rfl) (eY rfl) (by simp));have d:=dB (λW(H:xB w W)=>QJ c 0 aA 0 [] 1900000 W (Ca rfl) (gR (ts:=[]) (by decide)).1 (by simp) (r.z H));have k:iC c 0 []=eA:=dQ u (by decide) (by simp) rfl;unfold LX at d;rw[k]at d;rw[show yH [] vg (dC vg [])=dA from rfl]at n;simp only[List.length_nil]at n d;have E:yC w D 4 (qA a 0 q):=o.cell4;have F:=bB o.blk;obtain⟨C,_,_,_⟩:=h.wr.cells;have G:=bB h.wr;clear o j h u r k;unfold uE at *;have g:=dB (show jB ((w.alloc (xA #[aB c.w,aB c.tl,aB c.ml,aB c.sh,aB c.ha,aB c.sg] 24)).alloc (xA #[aB 0,qA aA 0 0] 40)) w.1.size #[aB c.w,aB c.tl,aB c.ml,aB c.sh,aB c.ha,aB c.sg] 24/\jB ((w.alloc (xA #[aB c.w,aB c.tl,aB c.ml,aB c.sh,aB c.ha,aB c.sg] 24)).alloc (xA #[aB 0,qA aA 0 0] 40)) (w.1.size+1) #[aB 0,qA aA 0 0] 40 from⟨(jB.new _ _ _).alloc _,by have:=jB.new (w.alloc (xA #[aB c.w,aB c.tl,aB c.ml,aB c.sh,aB c.ha,aB c.sg] 24)) #[aB 0,qA aA 0 0] 40;simpa using this⟩);have i:=dB (aC (zF w (xA #[aB c.w,aB c.tl,aB c.ml,aB c.sh,aB c.ha,aB c.sg] 24)) (zF _ (xA #[aB 0,qA aA 0 0] 40)));go_enter func64,ntmps64;go_wp2_with fail;apply jC (n.o _);intro y f;have p:=dB (aC i.o f);obtain⟨K,M,N,O,Q,R⟩:=(g.o.1.z f).c6;have S:yC y (w.1.size+1) 0 (aB 0):=(g.o.2.z f).cell 0;have T:yC y (w.1.size+1) 1 (qA aA 0 0):=(g.o.2.z f).cell 1;clear f n C E g i;go_wp2_with fail;refine(d.o _ p.o).mono ?_;rintro e U I;obtain⟨e,_⟩|⟨_,l,m,rfl,_,x,s⟩:=I
 .cases e
 have A:=dB x;have z:=dB s;clear x s d K M N O Q R S T;go_wp2;go_ret2;exact aGk p.o z.o A.o
end
def kY(a b:nC)(f g:Nat)(N:sC)(w:fA):
 cF 221 #[uA (gC a f b g N)] w (sA (N.up&&!N.deg)):=by
 unfold gC;obtain⟨d,l,i,m,h,c,j⟩:=N;cases j<;>cases c
 all_goals(
  go_enter func221,ntmps221
  go_wp2
  go_ret
  exact⟨rfl,bC⟩)
def OH(a b f:nC)(h g d:Nat)(N:sC)(K:xD)(L:jG)(w:fA):
 cF 223 #[uA (gC a h b g N),uA #[qA f (zA K.fs) d,aB K.c,aB K.k,aB K.cr,aB K.fl,sA K.dn],uA #[aB L.first,aB L.last,aB L.size]] w (uA #[qA f (zA K.fs) d,aB K.c,aB K.k,aB K.cr,aB K.fl,sA K.dn,aB L.first,aB L.last,aB L.size,aB N.now,qA b (zA N.ts) g,aB N.lsn,sA eA,sA (!K.dn)]):=by
 unfold gC;go_enter func223,ntmps223;go_wp2;refine bodyPost_ret (v:=uA #[qA f (zA K.fs) d,aB K.c,aB K.k,aB K.cr,aB K.fl,sA K.dn,aB L.first,aB L.last,aB L.size,aB N.now,qA b (zA N.ts) g,aB N.lsn,sA eA,sA (!K.dn)]) (by simp[results,results223,go_sem]) rfl ⟨rfl,?_⟩;exact aC (aC (aC bC bC) bC) bC
def eW(a b:nC)(ca cb:Nat)(N:sC)(w:fA)(h:uB w a N.d.fs)(m:zA N.d.fs<=1048576)(l:aD w b N.ts)(c:zA N.ts<=2000000)(E:∀t∈N.ts,zA t.M<=2000000/\zA t.Z<=2000000):
 iA prog 21 #[uA (gC a ca b cb N)] w λe w'=>∃H B I D,e=vA (uA (gC H B I D N))/\wJ w' (λx=>w.1.size<=x/\x<w'.1.size) H I N/\xB w w':=by
 unfold gC;have G:=dB (λW(d:xB w W)=>UA a ca N.d.fs W (h.z d) m);have HS:=dB (λW(d:xB w W)=>AQ N.now b cb N.ts W (l.z d) c E);clear h l E;go_enter func21,ntmps21;go_wp2_with fail;refine(G.o _ (aC bC bC)).mono ?_;rintro e w1 ⟨v,rfl,J,A⟩;obtain⟨H,B,rfl,F⟩:=qH J;have R:=dB (((jB.new w _ _).alloc _).z A);have Y:=dB ((jB.new (w.alloc _) _ _).z A);simp only[fA.size_alloc]at Y F;have d:=dB (F.toA (Ia _));have U:=dB (aC (aC bC bC) A);have c:=A.size;simp only[fA.size_alloc]at c;obtain⟨c,l,o2,o3,o4,o5,o6,o7,o8,o9,M,O,P,Q⟩:=R.o.n14;obtain⟨j,m,n,o,p,q,r,s,u,y,f,g,h,i⟩:=R.o.frees;clear A J F G;go_wp2_with fail;refine aGf (C:=λW=>iA prog _ _ W _) R.o ?_;intro w2 X G;have Z:=dB (G.blk Y.o (by omega));have J:=dB (d.o.turned G (λx L _ e=>by omega));have hz2:=G.size;have V:=dB (U.o.trans (G.below (by have:=U.o.size;omega) (λk hk e=>by omega)));clear c l o2 o3 o4 o5 o6 o7 o8 o9 M O P Q j m n o p q r s u y f g h i R Y d U G;refine(HS.o _ V.o).mono ?_;rintro e Y ⟨I,D,rfl,K,z⟩;have W3:=dB (J.o.z z);have X3:=dB (K.toA (Ia _));have G:=dB (aC V.o z);have d:=z.size;obtain⟨c,l,o2,o3,o4,o5,o6,o7,o8,o9,M,O,P,Q⟩:=(X.z z).n14;obtain⟨j,m,n,o,p,q,r,s,u,y,f,g,h,i⟩:=(X.z z).frees;obtain⟨m,o,O,r3,r4,r5,r6,r7,r8,r9,c,d,h,l⟩:=(Z.o.z z).n14;obtain⟨g0,g1,g2,g3,g4,g5,g6,g7,g8,g9,g10,g11,g12,g13⟩:=(Z.o.z z).frees;clear z K X Z J V HS;go_wp2;refine bodyPost_ret (v:=uA #[qA H (zA N.d.fs) B,aB N.d.c,aB N.d.k,aB N.d.cr,aB N.d.fl,sA N.d.dn,aB N.l.first,aB N.l.last,aB N.l.size,aB N.now,qA I (zA N.ts) D,aB N.lsn,sA N.deg,sA N.up]) (by simp[results,results21,go_sem,m,o,O,r3,r4,r5,r6,r7,r8,r9,c,d,h,l]) rfl ?_;refine fB.end2 (S:=λx=>x=w.1.size\/x=w.1.size+1) (C:=λW=>∃a1 c1 c d,Ending.returned (uA #[qA H (zA N.d.fs) B,aB N.d.c,aB N.d.k,aB N.d.cr,aB N.d.fl,sA N.d.dn,aB N.l.first,aB N.l.last,aB N.l.size,aB N.now,qA I (zA N.ts) D,aB N.lsn,sA N.deg,sA N.up])=Ending.returned (uA #[qA a1 (zA N.d.fs) c1,aB N.d.c,aB N.d.k,aB N.d.cr,aB N.d.fl,sA N.d.dn,aB N.l.first,aB N.l.last,aB N.l.size,aB N.now,qA c (zA N.ts) d,aB N.lsn,sA N.deg,sA N.up])/\wJ W (λx=>w.1.size<=x/\x<W.1.size) a1 c N/\xB w W) Y (by
  repeat (with_reducible first|exact fB.refl _ _|refine fB.setCell ?_ (Ca (by first|exact Ca rfl|exact La rfl)) _ _)) ?_
 intro w6 T;have c:=T.size;exact⟨_,_,_,_,rfl,⟨_,_,W3.o.turned T (λx L _ e=>by omega),X3.o.turned T (λx L _ e=>by omega),λx L=>by omega,λx L=>by omega,λx L e=>by omega⟩,G.o.trans (T.below (by have:=G.o.size;omega) (λk hk e=>by omega))⟩
section
open Go.Maps
def aDv{win now:Int}{left:Lit->Bool}{a:List gB}(c:tC (·.N) a){t:gB}(d:t∈a)(b:left (kL t.N)=eA):
 oI win now (λs=>(λz=>left z&&!z.sameKey (kL t.N)) (kL s)) a=if xE (oE win now t)=eA then sE (·.N) t.N (oI win now (λs=>left (kL s)) a) else fC (·.N) (oE win now t) (oI win now (λs=>left (kL s)) a):=by grind [tC,kL,oI,xE,oE,sE,fC,ox,CX]
def yi(l m:Nat)(j:Int)(c:lC)(f:Int)(o:List gB)(M:Nat)(B:Nat->Prop)(O w:fA)(h:lE w B l m c f o M)(h0:xB O w)(W:∀g,w.1.size<=g->B g)(G:∀g,B g->O.1.size<=g)(hU:kH O)(I:0<=f)(I:f<=1000000000000)(hw0:1<=c.w)(hw1:c.w<=1000000000)(hM:M<=1000000000)(Y:∀t∈o,zA t.Z<=1000000000)(hks:∀t∈o,∀p∈t.Z,p.s.size<=1000000000):
 iA prog 241 #[.pointer (vB l),aB j] w λe w'=>e=vA (sA (xI c.w f o j).2.2)/\lE w' B l m c (xI c.w f o j).1 (xI c.w f o j).2.1 M/\fB B w w':=by
 have I:=dB h;have HA:=dB W;have HA0:=dB G;clear W G;obtain⟨T,L,h,hL⟩:=h;have C:cB (xI c.w f o j=if j<1\/1000000000000-f<j then(f,o,dA) else(f+j,kD c.w (f+j) o,eA)):=rfl;have x6:yC w l 6 (aB f):=h.blk.cell 6;generalize xI c.w f o j=R at *;by_cases G:j<1
 .have P:cB (R=(f,o,dA)):=by show _=_;rw[C.o,Ma (Ca G)]
  clear h C;go_enter func241,ntmps241;go_wp2;go_ret;exact⟨oB (by rw[P.o]),by rw[P.o];exact I.o,fB.refl _ _⟩
 by_cases W:1000000000000-f<j
 .have P:cB (R=(f,o,dA)):=by show _=_;rw[C.o,Ma (La W)]
  clear h C;go_enter func241,ntmps241;go_wp2;go_ret;exact⟨oB (by rw[P.o]),by rw[P.o];exact I.o,fB.refl _ _⟩
 have P:cB (R=(f+j,kD c.w (f+j) o,eA)):=by show _=_;rw[C.o,Ja (λe=>by obtain e|e:=e;exact G e;exact W e)]
 clear C I;obtain⟨d,G⟩:∃d,d=f+j:=⟨_,rfl⟩
 rw[<-G]at P;have I:j<=1000000000000:=by omega
 have I:=G.symm;have hm0:0<=d:=by omega
 have hm1:d<=1000000000000:=by omega
 have I:=bB h.blk;have I:=h.ten.lt;have hB:=h0.size;have W:=h.lB;have HMB:=dB h.mB;have K:tC (·.N) o:=by rw[<-hL];exact(xW (key':=λt:gB=>t.N) (λp:gB×Nat=>p.1) (λ_=>rfl)).2 h.rise
 have I:fB (·=l) w (w.setCell (eB l 6) (aB d)):=(fB.refl (·=l) w).setCell (Ca rfl) 6 _;have Z:cB (jB (w.setCell (eB l 6) (aB d)) l (iV c d m) 154):=dB (by have:=h.blk.set 6 (aB d);simpa[iV]using this);have hsz:(w.setCell (eB l 6) (aB d)).1.size=w.1.size:=by simp
 have H1:cB _:=(h.moved I Z.o).trim;have HT1:cB (fB B w (w.setCell (eB l 6) (aB d))):=I.mono λi _ e=>by rw[e];exact W
 have y7:(w.setCell (eB l 6) (aB d)).cell? (eB l 7)=cA (.map (cA m)):=Z.o.cell 7;have b:=h.blk.free 6;have c0:cB _:=hL;have HUT:cB (∀W,fB B w W->xB O W):=λW hW=>h0.trans (hW.below hB λk hk hs=>by have:=HA0.o k hs;omega);have HR:=dB K;have HSL:=dB Y;have HKS:=dB hks;have HUU:=dB hU;have HEX:cB _:=λW hb=>JW l m c d W hb hm0 hm1 hw0 hw1;clear h hL K I Y hks hU h0 G;go_enter func241,ntmps241;go_wp2_with(first|(at_range;refine wpList_range_own _ rfl _ 152 rfl 9 159 vL underlying152 tE m _ _ rfl H1.o.ten ?_;intro w2 I h G)|go_in);try rw[hsz]at I
 have V:=dB I;have G:cB _:=HT1.o.trans' ((fB.grown h).mono λi _ e=>by cases e);have K0:cB (TkR c d o M B l m w.1.size (Maps.has (jE (L.map λp=>(p.1.N,kF p.2)))) w2):=by
  refine dB ⟨_,L,H1.o.keep λg W _=>h.block g W (by simp),?_,?_⟩;rw[yo λt Y=>?_,c0.o];rw[YE (key:=λp:gB×Nat=>p.1.N) (val:=λp=>kF p.2)];rw[<-c0.o]at Y;obtain⟨p,hp,rfl⟩:=Md.1 Y;rw[kM H1.o.rise hp];rfl;show (if w.1.size<(w.setCell (eB l 6) (aB d)).1.size then T w.1.size else aA)=aA;rw[Ja (by omega)]
 clear I h H1 Z y7 b x6 HT1 c0;generalize h:zA L=Y at *;generalize jE (L.map λp=>(p.1.N,kF p.2))=I at *;have hrl:l≠w.1.size:=by omega
 have hrm:m≠w.1.size:=by omega
 clear h;go_loopw [31] (λ_ wr=>∃(left:Lit->Bool)(h:Nat)(D:DataW Unit),cB (wr.ranges prog 9 tE m w.1.size Y D left h)/\cB (TkR c d o M B l m w.1.size left wr)/\cB (fB B w wr)) (λ_ wr=>wr.rangeLeft m w.1.size)
 case atStart=>exact⟨_,_,_,V.o,K0.o,G.o⟩
 case round=>
  obtain⟨left,h,D,E,HK,HT⟩:=hrel;clear V K0 G;go_wp2_with(first
   |(at_next;refine wpList_next_ranges _ rfl _ rfl 9 vL tE jA.string (λv:jA=>v) (λkey G hk=>by obtain⟨x,h,_⟩:=tr hk;exact⟨x,h⟩) (λv y _=>⟨v,rfl⟩) m w.1.size Y _ _ _ rfl E.o ?_ ?_)
   |go_in)
  .intro hc0 hl0;have h:cB (lE wr B l m c d (kD c.w d o) M):=by
    obtain⟨X,L',I,Z,_⟩:=HK.o;refine dB ⟨X,L',I,?_⟩;rw[Z,ow λn=>hl0 _]
   clear hc0 hl0;go_wp2;go_ret;exact⟨oB (by rw[P.o]),by rw[P.o];exact h.o,HT.o⟩
  .intro s v G yd yp w3 F H hlk hv hat J hlt hg3 hs3 hen;obtain⟨h,es,rfl,hss⟩:=tr H;obtain rfl:s=h:=by simpa using es
   obtain⟨X,L',I,Z,k3⟩:=HK.o;obtain⟨p,hp,U,h,rfl⟩:=aFm (y:=(yd,yp)) I Z E.o.owns hlk hv hat;have a:fB (·=w.1.size) wr w3:=(fB.grown hg3).mono λi _ e=>by simp only[Qa]at e;exact e.symm
   have G:=I.aside a k3 hrl hrm;have K1:=dB G;have K2:=dB Z;have K3:=dB k3;have HP:=dB hp;have HPN:=dB U;have HPT:=dB h;have RG3:=dB J;have HKEY:=dB H;have T3:cB _:=HT.o.trans (a.mono λi _ e=>La (by omega));have HLB:cB (jB w3 l (iV c d m) 154):=G.blk;have HCN:cB _:=E.o.left_eq;have HDM:cB _:=sr E.o.owns I.ten;have A:cB (oI c.w d (λs_1=>(λz=>left z&&!z.sameKey (kL s)) (kL s_1)) o=if xE (oE c.w d p.1)=eA then sE (·.N) s (oI c.w d (λs=>left (kL s)) o) else fC (·.N) (oE c.w d p.1) (oI c.w d (λs=>left (kL s)) o)):=by
    have:=aDv (win:=c.w) (now:=d) (left:=left) HR.o h (by rw[U];exact hlk);rw[U]at this;exact dB this
   have HRR:cB _:=J.lt;clear I Z k3 G a hp U h J H hlk hv hat hg3 hs3 HK E hss es;go_wp2_with fail;apply jC (HEX.o _ HLB.o);intro w4 G;have h:cB _:=K1.o.keep λg W _=>G.block g W;have I:=G.size;have T4:cB _:=T3.o.trans' (fB.of G);have I:cB (w4.ranges prog 9 tE m w.1.size Y D (λz=>left z&&!z.sameKey (kL s)) F):=KR RG3.o (fB.of (S:=λ_=>False) G) (λe=>e) (λe=>e);have Z:cB (iA prog 282 #[.pointer (vB p.2),aB (d-c.w)] w4 λe w'=>e=vA (yA #[])/\tD w' (λg=>(λg=>B g/\X g=cA p.2) g\/w4.1.size<=g) p.2 (oE c.w d p.1) M/\fB (λg=>B g/\X g=cA p.2) w4 w'):=my p.2 p.1 c.w d (d-c.w) (λg=>B g/\X g=cA p.2) M O w4 (h.o.idx p HP.o) (HUT.o w4 T4.o) HUU.o (λg W=>HA0.o g W.1) rfl (HSL.o p.1 HPT.o) hM (HKS.o p.1 HPT.o);clear G RG3 K1 HLB T3;go_wp2_with fail;apply jC Z.o;rintro w5 ⟨G,N⟩;have HI5:=dB G;have HT5:=dB N;have O:cB (rI 140 #[.pointer (vB p.2)] w5 (sA (xE (oE c.w d p.1)))):=OU p.2 _ _ M w5 G;have Q:cB (w5.ranges prog 9 tE m w.1.size Y D (λz=>left z&&!z.sameKey (kL s)) F):=KR I.o N (λe=>by rw[h.o.tm]at e;cases e.2) (λe=>by rw[K3.o]at e;cases e.2);have T5:cB _:=T4.o.trans' (N.mono λi _ e=>e.1);have x7:yC w5 l 7 (.map (cA m)):=(N.blk h.o.blk (λe=>by rw[h.o.tl]at e;cases e.2)).cell 7;clear G N Z I;cases hidl:xE (oE c.w d p.1) with
   |true=>
    rw[hidl]at O A;rw[Ma rfl]at A;clear hidl;go_wp2_with fail;apply kO O.o;go_wp2_with(at_delete;refine wpList_delete_ranges _ rfl _ _ 152 9 rfl 159 vL underlying152 tE m w.1.size Y _ _ _ rfl Q.o _ _ rfl HKEY.o ?_;intro w6 I r G u);rw[Maps.strike_twice]at r;have G:=fB.mapped u;have a0:cB (TkR c d o M B l m w.1.size (λz=>left z&&!z.sameKey (kL s)) w6):=by
     have Y:=r.owns;rw[HDM.o]at Y;refine dB ⟨X,_,iL.left (k:=s) (S:=(λg=>B g/\X g=cA p.2)) h.o (λg hs q hq Z e=>?_) (λg _ hs e=>by rw[e]at hs;cases hs.2) HT5.o G Y,?_,K3.o⟩;rw[hs.2]at e;have:=eS h.o.nd hq HP.o (Lc e).symm;rw[this]at Z;exact Z HPN.o;rw[sZ (key':=λt:gB=>t.N) (λp:gB×Nat=>p.1) (λ_=>rfl),K2.o];exact A.o.symm
    have Z:cB _:=T5.o.trans' (G.mono λi _ e=>(show i=m from e) ▸ HMB.o);have Y:=dB r;clear r u G;go_wp2;refine⟨⟨_,_,_,_,_,_,_,_,_,_,_,_,_,_,_,_,_,_,⟨_,I,_,Y.o,a0.o,Z.o⟩,rfl⟩,by rw[Y.o.left_eq,HCN.o];omega⟩
   |false=>
    rw[hidl]at O A;rw[Ja (by simp)]at A;clear hidl;have a0:cB (TkR c d o M B l m w.1.size (λz=>left z&&!z.sameKey (kL s)) w5):=by
     refine dB ⟨_,_,iL.turned (p:=p) (t':=oE c.w d p.1) h.o (λg W=>HA.o g (Ua T4.o.size W)) HP.o rfl HT5.o HI5.o,?_,?_⟩;rw[cS (key':=λt:gB=>t.N) (λp:gB×Nat=>p.1) (λ_=>rfl),K2.o];exact A.o.symm;show (if w.1.size<w4.1.size then X w.1.size else cA p.2)=aA;rw[Ma (by have:=Q.o.lt;have:=HRR.o;omega)];exact K3.o
    go_wp2_with fail;apply kO O.o;go_wp2;exact⟨⟨_,F,_,Q.o,a0.o,T5.o⟩,by rw[Q.o.left_eq,HCN.o];exact hlt⟩
end
section
open Go.Maps
def wY(n:Nat)(w:fA):rI 152 #[aB n] w (sA (decide (n=1) ||decide (n=2))):=by
 by_cases a:n=1
 .subst a;go_enter func152,ntmps152;go_wp2;go_ret;exact⟨oB (by simp),rfl⟩
 have d:¬((n:Int)=1):=by omega
 by_cases b:n=2
 .subst b;go_enter func152,ntmps152;go_wp2;go_ret;exact⟨oB (by simp),rfl⟩
 have f:¬((n:Int)=2):=by omega
 have c:cB ((decide (n=1) ||decide (n=2))=dA):=by show _=_;simp[a,b]
 go_enter func152,ntmps152;go_wp2;go_ret;exact⟨oB (by rw[c.o];simp;omega),rfl⟩
def aOs(x:jA)(w:fA):(Instr.typeAssert (.iface 311 x) 267 311 eA).run prog w=.ok (yA #[x,sA eA]) w:=by kernel_rfl
def aOt(x:jA)(w:fA):(Instr.typeAssert (.iface 313 x) 267 311 eA).run prog w=.ok (yA #[uA #[aB 0,pA ⟨#[]⟩,pA ⟨#[]⟩],sA dA]) w:=by kernel_rfl
def aOu(x:jA)(w:fA):(Instr.typeAssert (.iface 313 x) 267 313 eA).run prog w=.ok (yA #[x,sA eA]) w:=by kernel_rfl
def aOv(x:jA)(w:fA):(Instr.typeAssert (.iface 315 x) 267 311 eA).run prog w=.ok (yA #[uA #[aB 0,pA ⟨#[]⟩,pA ⟨#[]⟩],sA dA]) w:=by kernel_rfl
def aOw(x:jA)(w:fA):(Instr.typeAssert (.iface 315 x) 267 313 eA).run prog w=.ok (yA #[uA #[aB 0,pA ⟨#[]⟩,aB 0],sA dA]) w:=by kernel_rfl
def aOx(x:jA)(w:fA):(Instr.typeAssert (.iface 315 x) 267 315 eA).run prog w=.ok (yA #[x,sA eA]) w:=by kernel_rfl
def oj(l m:Nat)(r:nE)(c:lC)(f:Int)(k:List gB)(M:Nat)(B:Nat->Prop)(K w:fA)(h:lE w B l m c f k M)(Y:xB K w)(S:∀g,w.1.size<=g->B g)(O:∀g,B g->K.1.size<=g)(T:kH K)(Q:iC c f k=eA)(a0:zA k+eC k<=1900000)(Z:1<=M)(o:M<=1000000000)(hn:r.T.size<=1400000)(hx:r.X.size<=1400000)(hk:gV r=eA):
 iA prog 198 #[.pointer (vB l),rU r] w λe R=>e=vA (sA (vD c f k r).2.2)/\lE R B l m c (vD c f k r).1 (vD c f k r).2.1 (M+1)/\fB B w R:=by
 obtain⟨hc,q0,q1,G,ht⟩:=bG Q;obtain⟨v0,v1⟩:=ud hc;have G:=Y.size;have hb:∀i(U:i<zA k),fF k[i]<=1900000:=λi U=>by have:=fX k i U;omega
 have E:∀t∈k,zA t.Z<=1000000000/\zA t.M<=1000000000/\fE t.Z<=1900000:=λt D=>by
  obtain⟨i,U,rfl⟩:=Ib D;have:=hb i U;unfold fF at this;omega
 have F:∀W,xB w W->xB K W:=λW s=>Y.trans (s.mono G);have J:cB (∀W,xB w W->fB B w W):=λW s=>fB.of s;have G:cB _:=λW s=>PL l m r.T r.X c f B k M W (h.z s) (λg P=>S g (Ua (Below.size s) P)) (T.z (F W s)) hn hx Z o (λt D=>(E t D).1) (λt D y I=>(AH (aK (kJ ht t D)).2.2.1 y I).2.2) (by omega);have I:cB (∀W,xB w W->iA prog 241 #[.pointer (vB l),aB r.U] W λe R=>e=vA (sA (xI c.w f k r.U).2.2)/\lE R B l m c (xI c.w f k r.U).1 (xI c.w f k r.U).2.1 M/\fB B W R):=λW s=>yi l m r.U c f k M B K W (h.z s) (F W s) (λg P=>S g (Ua s.size P)) O T q0 q1 v0 v1 o (λt D=>(E t D).1) (λt D p o=>by
  obtain⟨j,Z,rfl⟩:=Ib o;have o:=wN t.Z j Z;have o:=tM t.Z (j+1);have:=(E t D).2.2;omega)
 have H:cB _:=λW s=>SI l m r.T r.X r.U c f B k M W (h.z s) (λg P=>S g (Ua (Below.size s) P)) (T.z (F W s)) hn hx (λt D=>(E t D).2.1) (by omega);clear S O h Y T Q a0 hb E F ht hc;have L:cB (vD c f k r=if r.K=1 then(f,(fJ c f k r.T r.X).1,decide ((fJ c f k r.T r.X).2=1) ||decide ((fJ c f k r.T r.X).2=2)) else if r.K=2 then xI c.w f k r.U else if r.K=3 then(f,(bQ k r.T r.X r.U).1,(bQ k r.T r.X r.U).2) else(f,k,dA)):=rfl;have u:cB (rU r=if r.K=1 then .iface 311 (uA #[aB 1,pA r.T,pA r.X]) else if r.K=2 then .iface 313 (uA #[aB 2,pA lA,aB r.U]) else if r.K=3 then .iface 315 (uA #[aB 3,pA r.T,pA r.X,aB r.U]) else .nilIface):=rfl;generalize vD c f k r=X at *;generalize rU r=V at *;have h:r.K=1\/r.K=2\/r.K=3:=by simpa[gV]using hk
 clear hk;obtain⟨m,v,x,z⟩:=r;simp only at *;obtain rfl|rfl|rfl:=h
 .have n:cB (X=(f,(fJ c f k v x).1,decide ((fJ c f k v x).2=1) ||decide ((fJ c f k v x).2=2))):=by show _=_;rw[L.o,Ma rfl]
  have N:V=.iface 311 (uA #[aB 1,pA v,pA x]):=by rw[u.o,Ma rfl]
  clear L u I H;subst N;generalize fJ c f k v x=h at *;have a:=aOs (uA #[aB 1,pA v,pA x]);go_enter func198,ntmps198;go_wp2_with fail;apply jC (G.o _ bC);rintro w1 ⟨o,q⟩;have A:=dB o;have C:cB _:=(J.o _ bC).trans' q;clear o q;go_wp2_with fail;apply kO (wY _ _);go_wp2;go_ret;exact⟨oB (by rw[n.o]),by rw[n.o];exact A.o,C.o⟩
 .have n:cB (X=xI c.w f k z):=by show _=_;rw[L.o,Ja (by decide),Ma rfl]
  have N:V=.iface 313 (uA #[aB 2,pA lA,aB z]):=by rw[u.o,Ja (by decide),Ma rfl]
  clear L u G H;subst N;generalize xI c.w f k z=h at *;have a:=aOt (uA #[aB 2,pA lA,aB z]);have b:=aOu (uA #[aB 2,pA lA,aB z]);go_enter func198,ntmps198;go_wp2_with fail;apply jC (I.o _ bC);rintro w1 ⟨o,q⟩;have A:=dB o;have C:cB _:=(J.o _ bC).trans' q;clear o q;go_wp2;go_ret;exact⟨oB (by rw[n.o]),by rw[n.o];exact A.o.mono (by omega),C.o⟩
 have n:cB (X=(f,(bQ k v x z).1,(bQ k v x z).2)):=by show _=_;rw[L.o,Ja (by decide),Ja (by decide),Ma rfl]
 have N:V=.iface 315 (uA #[aB 3,pA v,pA x,aB z]):=by rw[u.o,Ja (by decide),Ja (by decide),Ma rfl]
 clear L u G I;subst N;generalize bQ k v x z=h at *;have a:=aOv (uA #[aB 3,pA v,pA x,aB z]);have b:=aOw (uA #[aB 3,pA v,pA x,aB z]);have d:=aOx (uA #[aB 3,pA v,pA x,aB z]);go_enter func198,ntmps198;go_wp2_with fail;apply jC (H.o _ bC);rintro w1 ⟨o,q⟩;have A:=dB o;have C:cB _:=(J.o _ bC).trans' q;clear o q;go_wp2;go_ret;exact⟨oB (by rw[n.o]),by rw[n.o];exact A.o.mono (by omega),C.o⟩
end
section
open Go.Maps
def qh{c:lC}{a:Int}{b:List gB}{r:nE}(h:gV r=dA):vD c a b r=(a,b,dA):=by grind [gV,vD]
def XC(l m:Nat)(a:nC)(cap:Nat)(f:List nE)(c:lC)(p:Int)(q:List gB)(M:Nat)(B:Nat->Prop)(A w:fA)(h:lE w B l m c p q M)(h0:xB A w)(hA:∀g,w.1.size<=g->B g)(z:∀g,B g->A.1.size<=g)(X:∀W,fB B w W->yI W a f)(hU:kH A)(R:iC c p q=eA)(hlen:zA f<=500)(P:zA q+eC q+2*zA f+eD f<=1900000)(U:∀r∈f,r.T.size<=1400000/\r.X.size<=1400000)(hM1:1<=M)(hM:M<=900000000):
 iA prog 124 #[tA (cA ⟨l,0,aA⟩),qA a (zA f) cap] w λe y=>e=vA (sA (bF c p q f).2.2)/\((bF c p q f).2.2=eA->lE y B l m c (bF c p q f).1 (bF c p q f).2.1 (M+zA f))/\fB B w y:=by
 have HF:=dB X;have HU:=dB hU;have HSZ:=dB U;have G:=dB h;have b0:cB (∀W,fB B w W->xB A W):=λW D=>h0.trans (D.below h0.size λk hk hs=>by have:=z k hs;omega);have Y:=dB hA;have Z:=dB z;have L:=dB R;have F:=dB P;clear X hU U h h0 R P hA z;go_enter func124,ntmps124;go_wp2;go_loopw [11] (λi wr=>∃(k:Nat)(n:Int)(j:List gB),k<=zA f/\i=mA oA k/\cB (lE wr B l m c n j (M+k))/\cB (fB B w wr)/\cB (iC c n j=eA)/\cB (zA j+eC j+2*(zA f-k)+eD (f.drop k)<=1900000)/\cB (bF c n j (f.drop k)=bF c p q f)) (λi _=>zA f-(intOf i).toNat)
 case atStart=>exact⟨0,p,q,Oa _,rfl,G.o,fB.refl _ _,L.o,dB (by simpa using F.o),rfl⟩
 case round=>
  obtain⟨k,n,j,hk,rfl,HL,C,V,HK,H⟩:=hrel;clear G L F;by_cases s:k<zA f
  .obtain ⟨b,o,rfl,hbw,r0,r1,r2,r3⟩:=(HF.o _ C.o).at s;obtain⟨hn,hx⟩:=HSZ.o _ (Gb s);have hkb:=HK.o;have hdr:=FR f s;have T:=dX V.o f[k];have HRS:cB ((vD c n j f[k]).2.2=eA->bF c n j (f.drop k)=bF c (vD c n j f[k]).1 (vD c n j f[k]).2.1 (f.drop (k+1))):=λh=>WA s h;have J:cB ((vD c n j f[k]).2.2=dA->(bF c p q f).2.2=dA):=λh=>by rw[<-H.o,WC s h]
   have HRE:cB ((vD c n j f[k]).2.2=eA->bF c n j (f.drop k)=bF c p q f):=λ_=>H.o;have HOK:cB ((vD c n j f[k]).2.2=eA->iC c (vD c n j f[k]).1 (vD c n j f[k]).2.1=eA):=λh=>gT V.o h;have c0:cB (zA (vD c n j f[k]).2.1+eC (vD c n j f[k]).2.1+2*(zA f-(k+1))+eD (f.drop (k+1))<=1900000):=by show _<=_;omega
   have d0:cB (gV f[k]=dA->(vD c n j f[k]).2.2=dA):=λh=>by rw[qh h]
   have K:cB (∀W,cF 197 #[uA #[mA oA f[k].K,pA f[k].T,pA f[k].X,mA oA f[k].U]] W (yA #[rU f[k],sA (gV f[k])])):=λW=>zO f[k] W;have a0:cB (gV f[k]=eA->∀W,xB wr W->iA prog 198 #[tA (cA ⟨l,0,aA⟩),rU f[k]] W λe y=>e=vA (sA (vD c n j f[k]).2.2)/\lE y B l m c (vD c n j f[k]).1 (vD c n j f[k]).2.1 (M+k+1)/\fB B w y):=λu W D=>(oj l m f[k] c n j (M+k) B A W (HL.o.z D) (b0.o _ (C.o.trans' (fB.of D))) (λg hg=>Y.o g (Ua (Ua C.o.size D.size) hg)) Z.o HU.o V.o (by omega) (by omega) (by omega) hn hx u).mono λe y ⟨h1,h2,h3⟩=>⟨h1,h2,(C.o.trans' (fB.of D)).trans' h3⟩
   clear hkb hdr T HL V HK H hn hx;generalize vD c n j f[k]=S at *;obtain⟨n1,d,b1⟩:=S;go_wp2_with fail;apply jC (K.o _);intro w1 N;have x:=aC bC N;have v:=dB x;clear N x K r0 r1 r2 r3;cases u:gV f[k]with
   |false=>
    have X:=d0.o u;subst X;have t:=J.o rfl;go_wp2;go_ret;exact⟨oB (by rw[t]),λe=>(by rw[t]at e;cases e),C.o.trans' (fB.of v.o)⟩
   |true=>
    have Y:=dB (a0.o u);go_wp2_with fail;apply jC (Y.o _ v.o);rintro w2 ⟨Q,O⟩;have HL2:=dB Q;have E:=dB O;clear Q O;cases b1 with
    |false=>
     have t:=J.o rfl;go_wp2;go_ret;exact⟨oB (by rw[t]),λe=>(by rw[t]at e;cases e),E.o⟩
    |true=>
     have HO2:=dB (HOK.o rfl);have HR3:cB _:=(HRS.o rfl).symm.trans (HRE.o rfl);go_wp2;exact⟨⟨k+1,n1,d,by omega,by go_num,HL2.o,E.o,HO2.o,c0.o,HR3.o⟩,by simp[intOf];omega⟩
  obtain rfl:k=zA f:=by omega
  have I:cB (bF c p q f=(n,j,eA)):=by show _=_;rw[<-H.o,Kg];rfl
  clear H;go_wp2;go_ret;exact⟨oB (by rw[I.o]),λ_=>(by rw[I.o];exact HL.o),C.o⟩
end
section
open Go.Maps
def SD(c:lC)(o:Int)(a:nC)(s:Nat)(p:List gB)(ar:nC)(capr:Nat)(q:List nE)(w:fA)(hf:aD w a p)(hr:yI w ar q)(hlr:zA q<=2000000)(hbk:zA p+eC p+zA q+eD q<=1400000)(hU:kH w):
 iA prog 267 #[uE c,uA #[mA oA o,qA a (zA p) s],qA ar (zA q) capr] w λe Y=>oT (vG c o p q) w e Y:=by
 have hbt:zA p+eC p<=1900000:=by omega
 obtain⟨b,f,j,n⟩:=gR hbt;have hfs:=lW hbt;have HO:cB _:=λW J=>QJ c o a s p 1900000 W (hf.z J) b (by omega) (hU.z J);have b0:cB _:=λW J=>AQ o a s p W (hf.z J) (by omega) (λt ht=>by have:=hfs t ht;omega);have d0:cB (∀l m K W,zA q<=500->iC c o p=eA->xB w K->xB K W->lE W (K.1.size<=·) l m c o p 1900000->iA prog 124 #[tA (cA ⟨l,0,aA⟩),qA ar (zA q) capr] W λe Y=>e=vA (sA (bF c o p q).2.2)/\((bF c o p q).2.2=eA->lE Y (K.1.size<=·) l m c (bF c o p q).1 (bF c o p q).2.1 (1900000+zA q))/\xB K Y):=λl m K W I T hW0 J h=>(XC l m ar capr q c o p 1900000 (K.1.size<=·) K W h J (λg hg=>Ua J.size hg) (λg hg=>hg) (λW' ht=>hr.z (aC hW0 (J.trans (ht.below J.size λk hk e=>by omega)))) (hU.z hW0) T I (by omega) (λr hm=>by
  have h1:r.T.size+r.X.size<=eD q:=by
   obtain⟨i,hi,rfl⟩:=Ib hm;have h2:=zT q i hi;have h3:=pX q (i+1);omega
  omega) (by omega) (by omega)).mono λe Y ⟨h1,h2,h3⟩=>⟨h1,h2,J.trans (h3.below J.size λk hk e=>by omega)⟩
 have e0:cB (∀l m B W M,zA q<=500->iC c o p=eA->lE W B l m c (bF c o p q).1 (bF c o p q).2.1 M->iA prog 20 #[tA (cA ⟨l,0,aA⟩)] W λe Y=>∃a s,e=vA (uA #[mA oA (bF c o p q).1,.slice a (zA (bF c o p q).2.1) s])/\dD Y W.1.size a (bF c o p q).2.1/\xB W Y):=λl m B W M I T h=>by
  have L:=VZ (rs:=q) T;exact VG l m c _ B _ M W h (aGv λx hx=>by
   obtain⟨k1,k2,k3,k4,k5⟩:=lW (ts:=(bF c o p q).2.1) (by omega) x hx;exact⟨k1,k2,k3,by omega,by omega⟩) (by omega)
 have HV0:cB (iC c o p=dA->vG c o p q=(0,[],dA)):=λh=>by unfold vG;rw[Ma h]
 have N:cB (iC c o p=eA->500<zA q->vG c o p q=(o,p,dA)):=λh I=>by unfold vG;rw[Ja (by rw[h];decide),Ma I]
 have O:cB (iC c o p=eA->zA q<=500->(bF c o p q).2.2=dA->vG c o p q=(o,p,dA)):=λh I h6=>by unfold vG;rw[Ja (by rw[h];decide),Ja (by omega),Ja (by rw[h6];decide)]
 have P:cB (iC c o p=eA->zA q<=500->(bF c o p q).2.2=eA->vG c o p q=bF c o p q):=λh I h6=>by unfold vG;rw[Ja (by rw[h];decide),Ja (by omega),Ma h6]
 clear hf b f j n hfs hU hr;unfold LX at HO;unfold oT;generalize vG c o p q=V at *;generalize bF c o p q=R at *;unfold uE at *;go_enter func267,ntmps267;have B1:cB (xB w (((w.alloc (xA #[mA oA c.w,mA oA c.tl,mA oA c.ml,mA oA c.sh,mA oA c.ha,mA oA c.sg] 24)).alloc (xA #[mA oA o,qA a (zA p) s] 40)).alloc (xA #[mA oA 0,qA aA 0 0] 40))):=aC (aC bC bC) bC;have R1:cB _:=dB (by have:=jB.new ((w.alloc (xA #[mA oA c.w,mA oA c.tl,mA oA c.ml,mA oA c.sh,mA oA c.ha,mA oA c.sg] 24)).alloc (xA #[mA oA o,qA a (zA p) s] 40)) #[mA oA 0,qA aA 0 0] 40;simpa using this);have S1:cB _:=dB (by have:=(jB.new (w.alloc (xA #[mA oA c.w,mA oA c.tl,mA oA c.ml,mA oA c.sh,mA oA c.ha,mA oA c.sg] 24)) #[mA oA o,qA a (zA p) s] 40).alloc (xA #[mA oA 0,qA aA 0 0] 40);simpa using this);go_wp2_with fail;refine(HO.o _ B1.o).mono ?_;intro e Z hx;have HX:=dB hx;clear hx;obtain⟨T,rfl,L⟩|⟨T,l,m,rfl,hlo,U,L⟩:=HX.o
 .have HB:cB _:=aC B1.o L;have RB:cB (jB Z (w.1.size+1+1) #[mA oA 0,qA aA 0 0] 40):=R1.o.z L;have HV:cB _:=HV0.o T;have y0:Z.cell? ⟨w.1.size+1+1,0,aA⟩=cA (mA oA 0):=RB.o.cell 0;have y1:Z.cell? ⟨w.1.size+1+1,1,aA⟩=cA (qA aA 0 0):=RB.o.cell 1;have d:=RB.o.free 0;have b:=RB.o.free 1;clear HX L T;go_wp2;refine bodyPost_ret (v:=yA #[uA #[mA oA 0,qA aA 0 0],sA dA]) (by simp[results,results267,go_sem,y0,y1]) rfl ?_;rw[HV.o];refine⟨aA,0,rfl,Ca rfl,?_⟩;first
   |exact(HB.o.setCell (by show w.1.size<=w.1.size+1+1;omega) _).setCell (by show w.1.size<=w.1.size+1+1;omega) _
   |exact HB.o
 have HB:cB _:=aC B1.o L;have RB:cB (jB Z (w.1.size+1+1) #[mA oA 0,qA aA 0 0] 40):=R1.o.z L;have SB:cB (jB Z (w.1.size+1) #[mA oA o,qA a (zA p) s] 40):=S1.o.z L;have H:=dB T;have HL:=dB U;have a0:=dB L;have hs0:=bB R1.o;generalize (((w.alloc (xA #[mA oA c.w,mA oA c.tl,mA oA c.ml,mA oA c.sh,mA oA c.ha,mA oA c.sg] 24)).alloc (xA #[mA oA o,qA a (zA p) s] 40)).alloc (xA #[mA oA 0,qA aA 0 0] 40))=w0 at *;clear HX L T U HO HV0 R1 S1;by_cases I:zA q<=500
 .have h5':¬(500<zA q):=by omega
  go_wp2_with fail;apply jC (d0.o l m _ _ I H.o B1.o a0.o HL.o);rintro w2 ⟨hl2,Q⟩;have c0:=dB hl2;have R2:cB (jB w2 (w.1.size+1+1) #[mA oA 0,qA aA 0 0] 40):=dB ((Q.block _ hs0).trans (((a0.o.block _ hs0).symm).trans RB.o));have S2:cB (jB w2 (w.1.size+1) #[mA oA o,qA a (zA p) s] 40):=dB ((Q.block _ (by omega)).trans (((a0.o.block _ (by omega)).symm).trans SB.o));have B2:cB _:=aC B1.o Q;clear hl2 Q d0;rcases hbv:R.2.2 with _|_
  .have HV:cB _:=O.o H.o I hbv;clear c0 e0 N O P;have s0:w2.cell? ⟨w.1.size+1,0,aA⟩=cA (mA oA o):=S2.o.cell 0;have s1:w2.cell? ⟨w.1.size+1,1,aA⟩=cA (qA a (zA p) s):=S2.o.cell 1;go_wp2_with fail;refine(b0.o _ B2.o).mono ?_;rintro e u ⟨z,E,rfl,D,y⟩;have G:cB (dD u w2.1.size z p):=D;have F:cB (jB u (w.1.size+1+1) #[mA oA 0,qA aA 0 0] 40):=R2.o.z y;have B3:cB _:=aC B2.o y;clear D y s0 s1;have y0:u.cell? ⟨w.1.size+1+1,0,aA⟩=cA (mA oA 0):=F.o.cell 0;have y1:u.cell? ⟨w.1.size+1+1,1,aA⟩=cA (qA aA 0 0):=F.o.cell 1;have d:=F.o.free 0;have b:=F.o.free 1;have hw2:=bB R2.o;go_wp2;have A:fB (·=w.1.size+1+1) u ((u.setCell ⟨w.1.size+1+1,0,aA⟩ (mA oA o)).setCell ⟨w.1.size+1+1,1,aA⟩ (qA z (zA p) E)):=((fB.refl (·=w.1.size+1+1) u).setCell (Ca rfl) 0 _).setCell (Ca rfl) 1 _;refine bodyPost_ret (v:=yA #[uA #[mA oA o,qA z (zA p) E],sA dA]) (by simp[results,results267,go_sem,y0,y1]) rfl ?_;rw[HV.o];have X:dD ((u.setCell ⟨w.1.size+1+1,0,aA⟩ (mA oA o)).setCell ⟨w.1.size+1+1,1,aA⟩ (qA z (zA p) E)) w.1.size z p:=(dD.turned G.o A (λg h1 h2 e=>by omega)).mono (by omega);have C:=((fB.of (S:=λi=>w.1.size<=i) B3.o).trans' (A.mono λi _ e=>by omega)).below (Ia _) λi hi h=>by omega
   first
    |exact⟨z,⟨E,rfl⟩,X,C⟩
    |exact⟨z,E,rfl,X,C⟩
  have HV:cB _:=P.o H.o I hbv;have HL3:=dB (c0.o hbv);clear c0 b0 N O P;go_wp2_with fail;refine(e0.o l m _ _ _ I H.o HL3.o).mono ?_;rintro e u ⟨z,E,rfl,D,y⟩;have G:cB (dD u w2.1.size z R.2.1):=D;have F:cB (jB u (w.1.size+1+1) #[mA oA 0,qA aA 0 0] 40):=R2.o.z y;have B3:cB _:=aC B2.o y;clear D y;have y0:u.cell? ⟨w.1.size+1+1,0,aA⟩=cA (mA oA 0):=F.o.cell 0;have y1:u.cell? ⟨w.1.size+1+1,1,aA⟩=cA (qA aA 0 0):=F.o.cell 1;have d:=F.o.free 0;have b:=F.o.free 1;have hw2:=bB R2.o;go_wp2;have A:fB (·=w.1.size+1+1) u ((u.setCell ⟨w.1.size+1+1,0,aA⟩ (mA oA R.1)).setCell ⟨w.1.size+1+1,1,aA⟩ (qA z (zA R.2.1) E)):=((fB.refl (·=w.1.size+1+1) u).setCell (Ca rfl) 0 _).setCell (Ca rfl) 1 _;refine bodyPost_ret (v:=yA #[uA #[mA oA R.1,qA z (zA R.2.1) E],sA eA]) (by simp[results,results267,go_sem,y0,y1]) rfl ?_;rw[HV.o,hbv];have X:dD ((u.setCell ⟨w.1.size+1+1,0,aA⟩ (mA oA R.1)).setCell ⟨w.1.size+1+1,1,aA⟩ (qA z (zA R.2.1) E)) w.1.size z R.2.1:=(dD.turned G.o A (λg h1 h2 e=>by omega)).mono (by omega);have C:=((fB.of (S:=λi=>w.1.size<=i) B3.o).trans' (A.mono λi _ e=>by omega)).below (Ia _) λi hi h=>by omega
  first
   |exact⟨z,⟨E,rfl⟩,X,C⟩
   |exact⟨z,E,rfl,X,C⟩
 have h5':500<zA q:=by omega
 have HV:cB _:=N.o H.o h5';have R2:=RB;have S2:=SB;have B2:=HB;clear d0 e0 N O P;have s0:Z.cell? ⟨w.1.size+1,0,aA⟩=cA (mA oA o):=S2.o.cell 0;have s1:Z.cell? ⟨w.1.size+1,1,aA⟩=cA (qA a (zA p) s):=S2.o.cell 1;go_wp2_with fail;refine(b0.o _ B2.o).mono ?_;rintro e u ⟨z,E,rfl,D,y⟩;have G:cB (dD u Z.1.size z p):=D;have F:cB (jB u (w.1.size+1+1) #[mA oA 0,qA aA 0 0] 40):=R2.o.z y;have B3:cB _:=aC B2.o y;clear D y s0 s1;have y0:u.cell? ⟨w.1.size+1+1,0,aA⟩=cA (mA oA 0):=F.o.cell 0;have y1:u.cell? ⟨w.1.size+1+1,1,aA⟩=cA (qA aA 0 0):=F.o.cell 1;have d:=F.o.free 0;have b:=F.o.free 1;have hw2:=bB R2.o;go_wp2;have A:fB (·=w.1.size+1+1) u ((u.setCell ⟨w.1.size+1+1,0,aA⟩ (mA oA o)).setCell ⟨w.1.size+1+1,1,aA⟩ (qA z (zA p) E)):=((fB.refl (·=w.1.size+1+1) u).setCell (Ca rfl) 0 _).setCell (Ca rfl) 1 _;refine bodyPost_ret (v:=yA #[uA #[mA oA o,qA z (zA p) E],sA dA]) (by simp[results,results267,go_sem,y0,y1]) rfl ?_;rw[HV.o];have X:dD ((u.setCell ⟨w.1.size+1+1,0,aA⟩ (mA oA o)).setCell ⟨w.1.size+1+1,1,aA⟩ (qA z (zA p) E)) w.1.size z p:=(dD.turned G.o A (λg h1 h2 e=>by omega)).mono (by omega);have C:=((fB.of (S:=λi=>w.1.size<=i) B3.o).trans' (A.mono λi _ e=>by omega)).below (Ia _) λi hi h=>by omega
 first
  |exact⟨z,⟨E,rfl⟩,X,C⟩
  |exact⟨z,E,rfl,X,C⟩
end
def bs{K:xD}{L:jG}{p:pB}{a:Int}(h:bR L p a≠0):qE K L p a=(K,L,bR L p a):=by
 have c:dF p=lA ↔ yB p.size 1 60000=dA:=by
  constructor
  .intro e;rw[Yc];intro f;have g:1<=p.size/\p.size<=60000:=by simp only[yB,Sa,Ab]at f;omega
   have:=sT g;rw[e,Nf]at this;omega
  intro f;rw[dF,Ja];intro g;have:yB p.size 1 60000=eA:=by simp[yB];omega
  rw[this]at f;cases f
 unfold bR at h |-
 unfold qE;split;rfl
 rename_i j;rw[Ja j]at h;by_cases b:yB p.size 1 60000=dA
 .rw[Ma b,Ma (c.2 b)]
 rw[Ja b,Ja (λe=>b (c.1 e))];rw[Ja b]at h;by_cases d:L.last=999999/\jP L (8+p.size) a=eA
 .rw[Ma d];have g:1<=p.size/\p.size<=60000:=by
   have:yB p.size 1 60000=eA:=by simpa using b
   simp only[yB,Sa,Ab]at this;omega
  have k:=sT g;have i:=d.2;simp only[jP,Sa,Ab]at i;rw[Ma ⟨i.1,by rw[k];have:=i.2;simp only[Int.natCast_add];omega⟩,Ma d.1]
 .rw[Ja d]at h;exact absurd rfl h
def br{K:xD}{L:jG}{p:pB}{a:Int}(h:bR L p a=0):qE K L p a=mO K L (dF p) a/\bJ L=eA/\(dF p).size<=60008/\(jP L (dF p).size a=eA->L.last≠999999):=by
 unfold bR at h;split at h
 .cases h
 rename_i i;split at h
 .cases h
 rename_i m;split at h
 .cases h
 rename_i j;have n:1<=p.size/\p.size<=60000:=by
  have:yB p.size 1 60000=eA:=by simpa using m
  simp only[yB,Sa,Ab]at this;omega
 have l:=sT n;have k:(bJ L&&yB a 1 1000000000)=eA:=by simpa using i
 simp only[Sa]at k;have f:¬dF p=lA:=λe=>by rw[e,Nf]at l;omega
 have g:(((dF p).size:Nat):Int)=8+(p.size:Int):=by rw[l];omega
 refine⟨?_,k.1,by omega,λb d=>j ⟨d,by rw[<-g];exact b⟩⟩;unfold qE mO;rw[Ja i,Ja f];by_cases b:jP L (dF p).size a=eA
 .rw[Ma b];have c:=b;simp only[jP,Sa,Ab]at c;rw[Ma c,Ja (λd=>j ⟨d,by rw[<-g];exact b⟩)]
 rw[Ja b,Ja];intro c;apply b;simp[jP,c.1,c.2]
def aAz{K:xD}{L:jG}{f:pB}{a:Int}(h:wE K.fs K.c K.k K.cr K.fl=dA):mO K L f a=(⟨[],0,0,0,0,dA⟩,L,6):=by
 have b:∀d,cE K d=(⟨[],0,0,0,0,dA⟩,6):=λd=>by
  unfold cE zQ;rw[Ja (by simp[h])]
 unfold mO;split;rw[b,Ma (by simp)];unfold mH;rw[b,Ma (by simp)]
