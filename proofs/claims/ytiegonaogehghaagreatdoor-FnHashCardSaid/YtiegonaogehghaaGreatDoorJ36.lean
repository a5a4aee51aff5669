import Derived.Test.YtiegonaogehghaaGreatDoorJ34
import Derived.Test.YtiegonaogehghaaGreatDoorJ31
import Derived.Test.YtiegonaogehghaaGreatDoorJ33
set_option maxRecDepth 100000
set_option maxHeartbeats 8000000
set_option linter.defProp false
open Bool renaming true->dA,false->cA
open ByteArray renaming empty->kA
open Option renaming some->bA,none->aA
open List renaming length->yA
namespace Go.Proofs.YtiegonaogehghaaGreatDoor
open Value renaming slice->pA,bool->qA,agg->tA,string->oA,tuple->xA,pointer->sA,int->lA
open Go renaming World->eA,Value->iA,TypeId->jA,Calls->gA
open Obj renaming cells->vA
open Ending renaming returned->uA
open IntKind renaming i64->mA
open Go.RowKit Tryz
def nsn(h:nB)(r:qE):List qE:=if h.toList.isEmpty=dA then [] else [r]
def wrS(c:gC)(a:Int)(b:nB)(S:List fB×nB×List qE)(x:oF):List fB×nB×List qE:=
 ((uH c a S.1 b x).2.1,S.2.1++qB 1 ((uH c a S.1 b x).1:Nat),S.2.2++nsn (uH c a S.1 b x).2.2 ⟨1,b,(uH c a S.1 b x).2.2,0⟩)
def fL(c:gC)(a:Int)(b:nB)(d:List fB)(e:List oF):List fB×nB×List qE:=e.foldl (wrS c a b) (d,kA,[])
def RJ{c:gC}{now:Int}{te:nB}{ts:List fB}(a:List oF)(k:Nat)(h:k<yA a):fL c now te ts (a.take (k+1))=wrS c now te (fL c now te ts (a.take k)) a[k]:=by
 rw[fL,Pa h,Dg];rfl
def aHp(l:bC):tQ l<=255:=by
 unfold tQ cP RS;repeat' split
 all_goals simp
def lu(d:List bC):(uB d).2.1<=255:=by
 have a:∀(l:List bC)(i c j:Nat),aD l i=bA (c,j)->c<=255:=by
  intro l;induction l with
  |nil=>intro i c j h;cases h
  |cons x r b=>
   intro i c j h;rw[aD]at h;split at h;exact b _ _ _ h
   cases h
   exact aHp x
 unfold uB;split;simp;split
 .rename_i h;exact a _ _ _ _ h
 split;simp;split<;>simp
def ny{c:gC}{a:Int}{b:List fB}(h:kC c a b=dA)(d:nB)(x:oF):kC c a (uH c a b d x).2.1=dA/\yA (uH c a b d x).2.1+aC (uH c a b d x).2.1<=yA b+aC b+2+d.size+(gW x).size/\(uH c a b d x).2.2.size<=(gW x).size/\(uH c a b d x).1<=255:=by
 have j:(rI (uB x.B).1).size<=(gW x).size:=by have:=UY (uB x.B).1;have:=BO x.B;have:=rZ (ls:=x.B);have:=oP x;omega
 have k:ByteArray.empty.size=0:=rfl;have i:(uB x.B).2.1<=255:=lu _;have g:(sH c a b d (rI (uB x.B).1)).2.2<=5:=by unfold sH;(repeat' split)<;>simp
 unfold uH;split;exact ⟨h,by dsimp only;omega,by dsimp only;omega,i⟩;split;exact ⟨h,by dsimp only;omega,by dsimp only;omega,by simp⟩;split
 .rename_i f;have e:=eX h ⟨1,d,rI (uB x.B).1,0⟩;rw[WV h]at f g |-
  exact⟨qx h f,by dsimp only[mE,Td]at e |-;rw[Ma rfl]at e;dsimp only at e;omega,j,by omega⟩
 exact ⟨h,by dsimp only;omega,by dsimp only;omega,by omega⟩
def aFu{c:gC}{a:Int}{f:List fB}(h:kC c a f=dA)(b:nB)(d:List oF)(k:Nat)(n:k<=yA d):kC c a (fL c a b f (d.take k)).1=dA/\yA (fL c a b f (d.take k)).1+aC (fL c a b f (d.take k)).1<=yA f+aC f+(cE (d.take k)).size+k*(b.size+2)/\(fL c a b f (d.take k)).2.1.size=k/\yA (fL c a b f (d.take k)).2.2<=k/\dD (fL c a b f (d.take k)).2.2<=(cE (d.take k)).size+k*b.size/\∀r∈(fL c a b f (d.take k)).2.2,r.K=1/\r.U=0:=by
 induction k with
 |zero=>exact⟨h,by simp[fL,cE],rfl,Ia _,by simp[fL,dD],λr e=>by cases e⟩
 |succ k i=>
  have g:k<yA d:=n;obtain⟨j,q,l,s,t,m⟩:=i (by omega);clear i;rw[RJ d k g,pP d k g,Ka];generalize fL c a b f (d.take k)=S at *;obtain⟨p,u,v,_⟩:=ny j b d[k];unfold wrS;generalize uH c a S.1 b d[k]=J at *;have o:yA (nsn J.2.2 ⟨1,b,J.2.2,0⟩)<=1/\dD (nsn J.2.2 ⟨1,b,J.2.2,0⟩)<=b.size+J.2.2.size/\∀r∈nsn J.2.2 ⟨1,b,J.2.2,0⟩,r.K=1/\r.U=0:=by
   unfold nsn;split;exact ⟨by simp,by simp[dD],λr e=>by cases e⟩;exact ⟨by simp,by simp[dD],λr e=>by rw[Uf.1 e];exact⟨rfl,rfl⟩⟩
  generalize nsn J.2.2 ⟨1,b,J.2.2,0⟩=Z at *;dsimp only;rw[Nat.succ_mul,Nat.succ_mul];refine⟨p,by omega,by rw[Ka,kB,l],by rw[Kb];omega,by rw[yS];omega,λr e=>?_⟩;rcases Ee.1 e with e|e;exact m r e;exact o.2.2 r e
def nI(c:gC)(N:pC)(r:dG):pC×nB:=
 if N.deg=dA/\r.K<=4 then(N,qB 1 3)
 else if (r.K≠2/\r.K≠4)/\oC r.T=cA then(N,qB 1 2)
 else if r.K=1 then
  if (fL c N.now r.T N.ts r.P).2.2=[] then(N,qB 1 0++qB 2 (yA r.P:Nat)++(fL c N.now r.T N.ts r.P).2.1)
  else((zF c N (fL c N.now r.T N.ts r.P).2.2).1,bN (zF c N (fL c N.now r.T N.ts r.P).2.2).1 (zF c N (fL c N.now r.T N.ts r.P).2.2).2 (qB 1 0++qB 2 (yA r.P:Nat)++(fL c N.now r.T N.ts r.P).2.1))
 else if r.K=2 then
  if (uV c N.now N.ts r.U).2.2=cA then(N,qB 1 2)
  else((zF c N [⟨2,kA,kA,r.U⟩]).1,bN (zF c N [⟨2,kA,kA,r.U⟩]).1 (zF c N [⟨2,kA,kA,r.U⟩]).2 (qB 1 0))
 else if r.K=3 then
  if (kN c N.now N.ts r.T r.R r.U).2.2=cA then(N,qB 1 2)
  else((zF c N [⟨3,r.T,r.R,r.U⟩]).1,bN (zF c N [⟨3,r.T,r.R,r.U⟩]).1 (zF c N [⟨3,r.T,r.R,r.U⟩]).2 (qB 1 0))
 else if r.K=4 then((DF c N).1,bN (DF c N).1 (DF c N).2 (qB 1 0))
 else if r.K=5 then
  if (fG c N.now N.ts r.T r.R).1<0 then(N,qB 1 2)
  else(N,qB 1 0++qB 8 (fG c N.now N.ts r.T r.R).1++qB 8 (fG c N.now N.ts r.T r.R).2)
 else(N,qB 1 0++qB 8 N.now++qB 4 (yA (xB N.ts r.T).Z:Nat)++oG (xB N.ts r.T).Z)
def qR(c:gC)(N:pC)(r:dG):pC×nB:=if N.up=cA then(N,qB 1 4) else nI c N r
structure kz(c:gC)(m:Nat)(N:pC):Prop where
 fit:JE N.d.fs
 st:kC c N.now N.ts=dA
 w:jG N.ts≤m
 lsn:0≤N.lsn∧N.lsn≤1000000000000000
section
variable {c:gC} {m k:Nat} {N:pC} {rs:List qE}
theorem kz.mono(h:kz c m N)(a:m<=k):kz c k N:=⟨h.fit,h.st,Ua h.w a,h.lsn⟩
theorem YY(i:cF c=dA)(h:kz c m N)(o:yA rs<=500)(n:27*yA rs+dD rs<=k)(l:k<=65535):kz c (m+k) (zF c N rs).1:=by
 have b:kz c (m+k) N:=h.mono (by omega);rcases aDz (N:=N) (rs:=rs) i with⟨_,e⟩|⟨_,⟨_,e⟩|⟨a,⟨_,e⟩|⟨f,⟨_,e⟩|⟨_,e⟩⟩⟩⟩;rw[e];exact b;rw[e];exact b;rw[e];exact b;rw[e];exact b;rw[e];obtain⟨p,j⟩:=aFd (rs:=rs) h.st (by omega);have d:rG c N.now N.ts rs=bG c N.now N.ts rs:=by
  unfold rG at a |-
  rw[Ja (by rw[h.st];decide),Ja (by omega)]at a |-
  by_cases g:(bG c N.now N.ts rs).2.2=dA
  .rw[Ma g]
  rw[Ja g]at a;cases a
 rw[d]at a |-
 have o:=h.w;simp only[zB,Sa,Ab]at f;unfold oy;split;exact ⟨JU h.fit,j a,by show jG (bG c N.now N.ts rs).2.1<=_;omega,by show 0<=N.lsn+1/\N.lsn+1<=1000000000000000;omega⟩;split;exact b;exact ⟨JU h.fit,h.st,b.w,h.lsn⟩
theorem aKn(b:cF c=dA)(h:kz c m N)(e:m<=1000000):kz c m (DF c N).1:=by
 have f:=(jw (lsn:=N.lsn) h.st (Ua h.w e) h.lsn.1 h.lsn.2).2.1;have a:=XZ _ _ h.fit (TO (K:=N.d) (L:=N.l) (text:=eO N.lsn N.now N.ts) (by omega));unfold DF;rw[Ja (by rw[b];decide)];split;exact h;split;exact h;split;exact h;split;exact h;split;exact ⟨a,h.st,h.w,h.lsn⟩;exact ⟨a,h.st,h.w,h.lsn⟩
theorem rr(b:cF c=dA)(h:kz c m N)(g:m<=1000000){r:dG}(n:(cE r.P).size<=32700)(f:yA r.P<=5)(i:r.T.size<=16)(j:r.R.size<=16):kz c (m+33000) (qR c N r).1:=by
 have a:kz c (m+33000) N:=h.mono (by omega);have l:ByteArray.empty.size=0:=rfl;unfold qR;split;exact a;unfold nI;split;exact a;split;exact a;split
 .obtain ⟨_,_,_,d,e,_⟩:=aFu h.st r.T r.P (yA r.P) (Ia _);rw[Rb]at d e;have:=Hf f i;split
  .exact a
  exact YY b h (by omega) (by omega) (by omega)
 split
 .split
  .exact a
  exact YY b h (by simp) (by simp only[List.length_singleton,dD];omega) (by omega)
 split
 .split
  .exact a
  exact YY b h (by simp) (by simp only[List.length_singleton,dD];omega) (by omega)
 split;exact (aKn b h g).mono (by omega);split
 .split
  .exact a
  exact a
 exact a
end
section
open Go.Maps
attribute [local go_sem] wF uG fK gB.drewI oK.drewI oK.new oK.alloc oK.alloc2
def dk1:gE:=⟨[⟨gK 1,⟨#[]⟩,0⟩],1000000,1,0,0,cA⟩
def nd1:pC:=⟨dk1,⟨1,1,0⟩,0,[],0,cA,dA⟩
def qh:fE ⟨[],1000000,0,0,0,cA⟩ (vG 1)=(dk1,0):=by kernel_rfl
def sd{c:gC}(b:cF c=dA):kz c 0 nd1:=
 ⟨by have:=eV (D:=⟨[],1000000,0,0,0,cA⟩) (op:=vG 1) pO (by have:=zN 1;unfold maxLen;show(gK 1).size<=_;omega) (Oa _);rw[qh]at this;exact this,aQ b (by show zB 0 0 1000000000000=dA;decide) (by simp[nd1]) rfl,Ia _,⟨Xd _,by show(0:Int)<=1000000000000000;decide⟩⟩
structure O0(w W:World)(c:gC)(a:jC)(ca:Nat):Prop where
 C:gB W w.1.size #[zA c.w,zA c.tl,zA c.ml,zA c.sh,zA c.ha,zA c.sg] 24
 D:gB W (w.1.size+1) #[pA a 0 ca,zA 1000000,zA 0,zA 0,zA 0,qA cA] 35
 R:gB W (w.1.size+1+1) (dC aA 0 aA 0 xK) 42
 B:tB w W
section
variable {w W W':eA} {c:gC} {a a':jC} {ca ca':Nat}
theorem O0.new:O0 w (((w.alloc (vA #[zA c.w,zA c.tl,zA c.ml,zA c.sh,zA c.ha,zA c.sg] 24)).alloc (vA #[pA a 0 ca,zA 1000000,zA 0,zA 0,zA 0,qA cA] 35)).alloc (vA (dC aA 0 aA 0 xK) 42)) c a ca:=
 ⟨((gB.new _ _ _).alloc _).alloc _,by have:=(gB.new (w.alloc (vA #[zA c.w,zA c.tl,zA c.ml,zA c.sh,zA c.ha,zA c.sg] 24)) #[pA a 0 ca,zA 1000000,zA 0,zA 0,zA 0,qA cA] 35).alloc (vA (dC aA 0 aA 0 xK) 42);simpa using this,
   by have:=gB.new ((w.alloc (vA #[zA c.w,zA c.tl,zA c.ml,zA c.sh,zA c.ha,zA c.sg] 24)).alloc (vA #[pA a 0 ca,zA 1000000,zA 0,zA 0,zA 0,qA cA] 35)) (dC aA 0 aA 0 xK) 42;simpa using this,vB (vB yB yB) yB⟩
theorem O0.z(h:O0 w W c a ca)(b:tB W W'):O0 w W' c a ca:=⟨h.C.z b,h.D.z b,h.R.z b,vB h.B b⟩
theorem O0.lt(h:O0 w W c a ca):w.1.size+1+1<W.1.size:=aB h.R
theorem O0.cells(h:O0 w W c a ca):W.cell? (dB w.1.size 0)=bA (zA c.w)/\W.cell? (dB w.1.size 1)=bA (zA c.tl)/\W.cell? (dB w.1.size 2)=bA (zA c.ml)/\W.cell? (dB w.1.size 3)=bA (zA c.sh)/\W.cell? (dB w.1.size 4)=bA (zA c.ha)/\W.cell? (dB w.1.size 5)=bA (zA c.sg)/\W.cell? (dB (w.1.size+1) 0)=bA (pA a 0 ca)/\W.cell? (dB (w.1.size+1) 1)=bA (zA 1000000)/\W.cell? (dB (w.1.size+1) 2)=bA (zA 0)/\W.cell? (dB (w.1.size+1) 3)=bA (zA 0)/\W.cell? (dB (w.1.size+1) 4)=bA (zA 0)/\W.cell? (dB (w.1.size+1) 5)=bA (qA cA)/\oK W (w.1.size+1+1)/\w.1.size<W.1.size/\w.1.size+1<W.1.size/\w.1.size+1+1<W.1.size/\¬w.1.size=W.1.size/\¬w.1.size+1=W.1.size/\¬w.1.size+1+1=W.1.size:=
 have:=h.lt
 ⟨h.C.cell 0,h.C.cell 1,h.C.cell 2,h.C.cell 3,h.C.cell 4,h.C.cell 5,h.D.cell 0,h.D.cell 1,h.D.cell 2,h.D.cell 3,h.D.cell 4,h.D.cell 5,h.R.box rfl,by omega,by omega,this,by omega,by omega,by omega⟩
theorem aKi{C:eA->Prop}(h:O0 w W c a ca)(k:∀X,O0 w X c a' ca'->C X):C ((((((W.setCell (dB (w.1.size+1) 0) (pA a' 0 ca')).setCell (dB (w.1.size+1) 1) (zA 1000000)).setCell (dB (w.1.size+1) 2) (zA 0)).setCell (dB (w.1.size+1) 3) (zA 0)).setCell (dB (w.1.size+1) 4) (zA 0)).setCell (dB (w.1.size+1) 5) (qA cA)):=by
 have b:eB (·=w.1.size+1) W ((((((W.setCell (dB (w.1.size+1) 0) (pA a' 0 ca')).setCell (dB (w.1.size+1) 1) (zA 1000000)).setCell (dB (w.1.size+1) 2) (zA 0)).setCell (dB (w.1.size+1) 3) (zA 0)).setCell (dB (w.1.size+1) 4) (zA 0)).setCell (dB (w.1.size+1) 5) (qA cA)):=((((((eB.refl (·=w.1.size+1) W).setCell (Ca rfl) 0 _).setCell (Ca rfl) 1 _).setCell (Ca rfl) 2 _).setCell (Ca rfl) 3 _).setCell (Ca rfl) 4 _).setCell (Ca rfl) 5 _;exact k _ ⟨b.blk h.C (by omega),by have:=(((((h.D.set 0 (pA a' 0 ca')).set 1 (zA 1000000)).set 2 (zA 0)).set 3 (zA 0)).set 4 (zA 0)).set 5 (qA cA);simpa using this,b.blk h.R (by omega),h.B.trans (b.below h.B.size λk d e=>by omega)⟩
theorem ln{C:eA->Prop}{w:eA}{cs:Array iA}{t:jA}(k:∀W,tB w W->gB W w.1.size cs t->W.1.size=w.1.size+1->C W):C (w.alloc (vA cs t)):=k _ yB (gB.new w _ _) (by simp)
end
def PV{g:Func}{t:Act}{w W:eA}{c:gC}{a a' f:jC}{ca ca' b i j:Nat}{M:pC}{x:iA}(h:g.results=#[.cell i 42,.tmp j])(l:t.tmps.getD i undef=.pointer (pB (w.1.size+1+1)))(m:t.tmps.getD j undef=x)(p:t.defers=[])(P:O0 w W c a ca)(n:rB W a' M.d.fs)(o:uC W f M.ts):bodyPost prog g (λe q=>RN M x w e q) .ret t (W.setRow (w.1.size+1+1) (dC a' ca' f b M)):=
 bodyPost_ret (qn h l m P.R.row (uG _ _ _ _ _)) p ⟨a',ca',f,b,rfl,n.store P.R (kF _ _ _ _ _) (lG _ _ _),o.store P.R (kF _ _ _ _ _) (lG _ _ _),P.B.trans ((lG _ _ _).below P.B.size λk r e=>by omega)⟩
def aLx(b:Bool)(t:nB):jN [] b cA t=(kA,cA):=by
 unfold jN;cases b<;>simp[iE]
def ZT(c:gC)(w:eA)(h:cF c=dA):
 gA prog 13 #[jE c,tA #[pA aA 0 0,zA 1000000,zA 0,zA 0,zA 0,qA cA]] w λe w'=>RN nd1 (zA 0) w e w':=by
 have J:=cB (λW=>yJ c W);rw[h]at J;have N:sE [] 1000000 0 0 0=dA:=by decide
 have G:=cB (λW=>tU aA 0 [] 1000000 0 0 0 cA W (Ca rfl) pO.H (by simp) pO.sum);rw[N]at G;have L:=cB (λW=>OZ aA 0 ⟨[],1000000,0,0,0,cA⟩ W (Ca rfl) (by simp));have H:=cB (λQ R t W=>sW Q R [] 1000000 0 0 0 cA t W (Ca rfl) (by simp));have I:=cB (λQ R t W=>ZV Q R [] 1000000 0 0 0 cA t W (Ca rfl) pO.H (by simp) pO.sum);have V:=cB (λQ R W=>SJ Q R 1000000 0 0 0 W N dk1 qh);unfold aAy at V;simp only[List.length_nil]at G L H I;simp only[aLx]at I;simp only[iE]at H;clear h N;rw[show nd1=⟨dk1,⟨1,1,0⟩,0,[],0,cA,dA⟩ from rfl];generalize dk1=K at *;unfold jE at *;have fz:=yK;go_enter func13,ntmps13;go_wp2_with fail;apply hC (J.o _);intro w1 b;have P:=cB ((O0.new (w:=w) (c:=c) (a:=aA) (ca:=0)).z b);clear b J;obtain⟨d,f,g,h,j,l,m,n,o,p,q,r,s,u,v,x,y,z,A⟩:=P.o.cells;go_wp2_with fail;apply hC (G.o _);intro w2 b;replace P:=cB (P.o.z b);clear b G d f g h j l m n o p q r s u v x y z A;obtain⟨d,f,g,h,j,l,m,n,o,p,q,r,s,u,v,x,y,z,A⟩:=P.o.cells;go_wp2_with fail;refine(L.o _).mono ?_;rintro e k ⟨Q,R,rfl,k,b⟩;replace P:=cB (P.o.z b);have D:=P.o.D.free 0;have G:=P.o.D.free 1;have J:=P.o.D.free 2;have O:=P.o.D.free 3;have U:=P.o.D.free 4;have Y:=P.o.D.free 5;clear k b L d f g h j l m n o p q r s u v x y z A;obtain⟨d,f,g,h,j,l,m,n,o,p,q,r,s,u,v,x,y,z,A⟩:=P.o.cells;go_upto_region 6 with fail;refine aKi (C:=λW=>Code.wp prog _ _ _ W) P.o ?_;intro w4 T;replace P:=cB T;clear T D G J O U Y d f g h j l m n o p q r s u v x y z A;obtain⟨d,f,g,h,j,l,m,n,o,p,q,r,s,u,v,x,y,z,A⟩:=P.o.cells;go_wp2_with fail;apply hC (H.o _ _ _ _);intro D b;replace P:=cB (P.o.z b);clear b H d f g h j l m n o p q r s u v x y z A;obtain⟨d,f,g,h,j,l,m,n,o,p,q,r,s,u,v,x,y,z,A⟩:=P.o.cells;go_upto_region 15 with fail;refine ln (C:=λW=>Code.wp prog _ _ _ W) ?_;intro k b k O;clear O;replace P:=cB (P.o.z b);have S:=cB k;clear b k d f g h j l m n o p q r s u v x y z A;generalize D.1.size=Y at *;obtain⟨d,f,g,h,j,l,m,n,o,p,q,r,s,u,v,x,y,z,A⟩:=P.o.cells;go_wp2_with fail;apply hC (I.o _ _ _ _);intro k b;replace P:=cB (P.o.z b);replace S:=cB (S.o.z b);clear b I d f g h j l m n o p q r s u v x y z A;obtain⟨d,f,g,h,j,l,m,n,o,p,q,r,s,u,v,x,y,z,A⟩:=P.o.cells;go_wp2_with fail;refine(V.o _ _ _).mono ?_;rintro e k ⟨D,G,I,I,rfl,U,b⟩;replace P:=cB (P.o.z b);replace S:=cB (S.o.z b);have F:=cB U;clear b U V d f g h j l m n o p q r s u v x y z A;go_upto_region 23 with fail;refine ln (C:=λW=>Code.wp prog _ _ _ (W.alloc _)) ?_;intro I b J U;refine ln (C:=λW=>Code.wp prog _ _ _ W) ?_;intro B M I O;clear O;rw[U]at I;replace b:=vB b M;replace P:=cB (P.o.z b);replace S:=cB (S.o.z b);replace F:=cB (F.o.z b);have E:=cB (J.z M);have X:=cB I;clear b M J I U;generalize k.1.size=Z at *;have k:tC B Z 0 (pA D (yA K.fs) G):=E.o.cell 0;have I:tC B Z 1 (zA K.c):=E.o.cell 1;have J:tC B Z 2 (zA K.k):=E.o.cell 2;have O:tC B Z 3 (zA K.cr):=E.o.cell 3;have U:tC B Z 4 (zA K.fl):=E.o.cell 4;have q5:tC B Z 5 (qA K.dn):=E.o.cell 5;obtain⟨d,f,g,h,j,l,m,n,o,p,q,r,s,u,v,x,y,z,A⟩:=P.o.cells;clear d f g h j l m n o p q r s u v x y z A k I J O U q5;go_upto_region 25 with fail;go_wp2_with fail;go_loopw [8,20,21,22,23,24,88] (λl8 _ _ _ _ _ i wr=>i=zA 0/\l8=zA 0/\wr=B) (λ_ _ _ _ _ _ i _=>0-(intOf i).toNat)
 case atStart=>exact⟨rfl,rfl,rfl⟩
 case round=>
  obtain⟨rfl,rfl,rfl⟩:=hrel;have fM:=lE D G aA 0 ⟨K,⟨1,1,0⟩,0,[],0,cA,dA⟩;dsimp only[List.length_nil]at fM;have k:tC wr Z 0 (pA D (yA K.fs) G):=E.o.cell 0;have I:tC wr Z 1 (zA K.c):=E.o.cell 1;have J:tC wr Z 2 (zA K.k):=E.o.cell 2;have O:tC wr Z 3 (zA K.cr):=E.o.cell 3;have U:tC wr Z 4 (zA K.fl):=E.o.cell 4;have q5:tC wr Z 5 (qA K.dn):=E.o.cell 5;have k:tC wr (Z+1) 0 (zA 1):=X.o.cell 0;have k:tC wr (Z+1) 1 (zA 1):=X.o.cell 1;have k:tC wr (Z+1) 2 (zA 0):=X.o.cell 2;have k:tC wr Y 0 (zA 0):=S.o.cell 0;have k:tC wr Y 1 (pA aA 0 0):=S.o.cell 1;obtain⟨d,f,g,h,j,l,m,n,o,p,q,r,s,u,v,x,y,z,A⟩:=P.o.cells;clear fz;go_wp2;exact PV rfl rfl rfl rfl P.o F.o (Ca rfl)
end
def GI(p:iA->Prop)(w:eA)(B:Nat)(T:jA)(sz:Nat)(v:iA)(n:Nat)(xs:List iA):Prop:=
 w.ownsRow B T sz v n xs/\v.ownBlock≠aA/\∀g j u,v.ownBlock=bA g->w.cell? (dB g j)=bA u->p u
section
variable {p:iA→Prop} {w w':eA} {B n:Nat} {T:jA} {sz:Nat} {v:iA} {xs:List iA}
theorem GI.turn{S:Nat->Prop}(h:GI p w B T sz v n xs)(c:eB S w w')(b:∀g,v.ownBlock=bA g->¬S g):GI p w' B T sz v n xs:=
 ⟨c.row h.1 b,h.2.1,λg j u a d=>h.2.2 g j u a (by rw[<-eA.cell?_of_block (c.block g (h.1.lt g a).2 (b g a))];exact d)⟩
theorem GI.z(h:GI p w B T sz v n xs)(a:tB w w'):GI p w' B T sz v n xs:=h.turn (eB.of a (S:=λ_=>False)) λ_ _ e=>e
theorem aFe{P:Program}{t L:jA}{i:TypeInfo}{z:iA}(N:P.underlying t=bA (.slice T))(M:P.info? T=bA i)(I:i.zero=bA z)(m:i.size=sz)(h:z.cells.size=sz)(h:GI p w B T sz v n xs)
{C:Addr}{c:Nat}{a:List iA}(J:yA a=1*sz)(l:∀j u,a[j]?=bA u->w.cell? (C.add j)=bA u)(U:∀u∈a,u.oneCell'=dA)(V:n+1<=5000001)(F:(n+1)*i.bytes<=140737488355328)
{g E:Nat}(D:(Builtin.append_ #[t,t] L #[v,pA (bA C) 1 c]).run P w=.ok (pA (pB g) (n+1) E) w')(O:∀u∈a,p u)(S:∀u∈z.cells.toList,p u):∀j u,w'.cell? (dB g j)=bA u->p u:=by
 subst m;obtain⟨m,R,o⟩:=h;obtain⟨rfl,rfl⟩|⟨q,d,f,rfl,X,H,h,Y,G,s⟩:=m.2;exact absurd rfl R;have K:∀u∈f.toList,p u:=λu x=>by
  obtain⟨j,Z,e⟩:=Ib x;refine o q j u rfl ?_;rw[cell_of_row w q j f T (0,0) H,<-Yd,Va Z,e]
 by_cases o:n+1<=d
 .have y:n*i.size+yA a<=f.size:=by rw[J,G,<-Nat.add_mul];exact Nat.mul_le_mul_right _ o
  rw[run_append_room (P:=P) w t L T i N M q n d f H C 1 c a J l U o y]at D;injection D with e1 e2;obtain rfl:q=g:=by injection e1 with e1;injection e1 with e1;injection e1
  subst e2;intro j u x;rw[cell_of_row _ q j _ T (0,0) (setRow_heap w q f _ T _ H)]at x;have b:=Array.mem_of_getElem? x;simp only[List.mem_toArray,Ee]at b;rcases b with(b|b)|b;exact K u (Ce b);exact O u b;exact K u (Ng b)
 have r:∀j u,xs[j]?=bA u->w.cell? (((dB q 0):Addr).add j)=bA u:=m.cells (g:=q) rfl;rw[run_append_grow (P:=P) w t L T i z N M I (dB q 0) n d xs m.1 r C 1 c a J l (by omega) (by omega) (growslice_fits (by omega) F)]at D;injection D with e1 e2;obtain rfl:w.1.size=g:=by injection e1 with e1;injection e1 with e1;injection e1
 subst e2;intro j u x;rw[cell_of_row _ w.1.size j _ T (0,0) (heap_alloc_new w.drew _)]at x;have b:=Array.mem_of_getElem? x;simp only[Array.mem_append,List.mem_toArray]at b;rcases b with(b|b)|b;rw[<-s]at b;exact K u (Ce b);exact O u b;unfold Builtin.zeroCells at b;obtain⟨k,h,e⟩:=Array.mem_map.1 b;have I:=Array.mem_range.1 h;have A:0<z.cells.size:=Nat.pos_of_ne_zero λQ=>by rw[Q,Nat.mul_zero]at I;omega
 rw[getElem!_pos z.cells _ (Nat.mod_lt k A)]at e;exact S u (by rw[<-e];simp)
end
def ud{p:iA->Prop}{K:Array Oper}{f:List Oper}{o:Oper}{a:Act}{Q:Exit->Act->eA->Prop}{w:eA}(y:o.guard=aA)(s x:Operand){m T:jA}{z:iA}{sz b:Nat}
(V:o.op=.call { callee:=.builtin .append,args:=#[s,x],argTypes:=#[m,m] })(F:prog.underlying m=bA (.slice T))(r:(prog.info? T).map (λi=>(i.zero,i.size,i.bytes))=bA (bA z,sz,b))(G:z.cells.size=sz)(L:0<sz)(R:b<=100)
{B n:Nat}{v:iA}{xs:List iA}{cs:Array iA}(Z:a.eval s=v)(Y:GI p w B T sz v n xs){q:Nat}(S:a.eval x=pA (pB q) 1 1)(X:w.1.size=q)(D:cs.size=sz)(A:∀u∈cs.toList,u.oneCell'=dA)(U:n<=5000000)(h:B<=w.1.size)(W:∀u∈cs.toList,p u)(pz:∀u∈z.cells.toList,p u)
(h:∀g c w',bB (GI p w' B T sz (pA (pB g) (n+1) c) (n+1) (xs++cs.toList))->bB (eB (λi=>v.ownBlock=bA i) w w')->wpList prog K Q f (a.put o.dst (pA (pB g) (n+1) c)) w'):
 wpList prog K Q (o::f) a (w.alloc (vA cs T)):=by
 subst X;obtain⟨i,r,H,I,J⟩:=info_parts r;have E:(n+1)*b<=140737488355328:=Ua (Hf (Nat.add_le_add_right U 1) R) (by decide);have l:=Y.z (pF w (vA cs T));have k:∀j u,cs.toList[j]?=bA u->(w.alloc (vA cs T)).cell? (((dB w.1.size 0):Addr).add j)=bA u:=by
  have:=eA.news_of_block (cs:=cs) (t:=T) (fr:=(0,0)) (heap_alloc_new w (vA cs T));simpa using this
 obtain⟨g,c,w',d,M,N,O,O⟩:=run_append_lies (P:=prog) (w.alloc (vA cs T)) m o.type B T i z sz b F r H I J G L v n xs l.1 (dB w.1.size 0) 1 1 cs.toList (by simpa using D) k A (by omega) (by simp[maxLen];omega) E (by simp;omega) (w.1.size+1) (by simp);refine wpList_plain y λ_ O=>?_;unfold Oper.wp execOp;simp only[V,resolve,invoke,builtin,Sem.run_bind,Sem.run_pure,Result.andThen_ok,Hg,Fc,Ag,Z,S,d];refine O _ _ (h g c w' ⟨M,by simp[iA.ownBlock],λh j u C h=>?_⟩ ((eB.of (pF w (vA cs T))).trans' ((eB.grown N).mono λi _ e=>e)));simp only[iA.ownBlock,Qa]at C;subst C;exact aFe F r H I G l (by simpa using D) k A (by omega) (by rw[J];exact E) d W pz j u h
section
variable {w W:eA} {S:Nat→Prop} {p:iA→Prop}
def ui(p:iA->Prop):Prop:=(∀s,¬p (oA s))\/∀n,¬p (zA n)
theorem IE(i:∀g j u,S g->w.cell? (dB g j)=bA u->p u)(f:eB S w W)(a:ui p){b o k:Nat}{s:nB}{n:Int}(d:b<w.1.size)(h:w.cell? (dB b o)=bA (oA s))(l:w.cell? (dB b k)=bA (zA n)):b<W.1.size/\∀j,W.cell? (dB b j)=w.cell? (dB b j):=by
 have c:¬S b:=λe=>by
  obtain a|a:=a;exact a _ (i b o _ e h);exact a _ (i b k _ e l)
 exact⟨Bb d f.size,λj=>eA.cell?_of_block (f.block b d c)⟩
theorem rB.keptP(q:∀g j u,S g->w.cell? (dB g j)=bA u->p u)(m:eB S w W)(l:ui p){a:jC}{c:List jB}(h:rB w a c):rB W a c:=by
 obtain h|⟨b,o,e,d,h⟩:=h;exact Ca h
 cases c with
 |nil=>exact Ca rfl
 |cons f r=>
  obtain⟨s,t⟩:=IE q m l d (h 0 (by simp)).1 (h 0 (by simp)).2.2;exact La ⟨b,o,e,s,λi k=>by simp only[t];exact h i k⟩
theorem lC.keptP(q:∀g j u,S g->w.cell? (dB g j)=bA u->p u)(m:eB S w W)(l:ui p){a:jC}{c:List iB}(h:lC w a c):lC W a c:=by
 obtain h|⟨b,o,e,d,h⟩:=h;exact Ca h
 cases c with
 |nil=>exact Ca rfl
 |cons f r=>
  obtain⟨s,t⟩:=IE q m l d (h 0 (by simp)).1 (h 0 (by simp)).2;exact La ⟨b,o,e,s,λi k=>by simp only[t];exact h i k⟩
theorem uC.keptP(q:∀g j u,S g->w.cell? (dB g j)=bA u->p u)(m:eB S w W)(l:ui p){a:jC}{s:List fB}(h:uC w a s):uC W a s:=by
 obtain h|⟨b,o,e,F,h⟩:=h;exact Ca h
 cases s with
 |nil=>exact Ca rfl
 |cons f r=>
  obtain⟨_,_,_,_,d,k,_⟩:=h 0 (by simp);obtain⟨H,c⟩:=IE q m l F d k;refine La ⟨b,o,e,H,λi G=>?_⟩;obtain⟨t,y,x,z,A,d,k,C,D,E⟩:=h i G;exact⟨t,y,x,z,(c _).trans A,(c _).trans d,(c _).trans k,(c _).trans C,D.keptP q m l,E.keptP q m l⟩
end
section
open Go.Maps
def nDk(w:eA)(g:Nat):Prop:=∀cur t,w.heap[g]?=bA (vA cur t (0,0))->t≠151/\t≠153/\t≠72
def oQ(w w':eA):Prop:=∀(b:Nat)(o:Obj),w.heap[b]?=bA o->nDk w b->w'.heap[b]?=bA o
section
variable {w w':eA} {b:Nat} {cur:Array iA} {t:jA}
theorem nJ.kw(k:nJ w w'):oQ w w':=λb o h a=>k b o h λcur t e=>⟨(a cur t (h.trans (Kd bA e))).1,(a cur t (h.trans (Kd bA e))).2.1⟩
theorem oQ.of(h:tB w w'):oQ w w':=(nJ.of h).kw
theorem oQ.trans{a:eA}(h:oQ a w)(k:oQ w w'):oQ a w':=λx o d c=>k x o (h x o d c) λcur t e=>c cur t (d.trans ((h x o d c).symm.trans e))
theorem oQ.p{P D:Nat}{L:mG}(k:eB (·=P) w w')(h:DN w P D L):oQ w w':=λb _ a c=>(k.block b (CI a) λe=>by subst e;exact(c _ _ h).2.2 rfl).trans a
theorem aHv(h:gB w b cur t)(d:t≠151/\t≠153/\t≠72):nDk w b:=λa f c=>by
 have e:=Lc ((show w.heap[b]?=_ from h).symm.trans c);cases e;exact d
theorem aHw{H:Type}{P:Program}{k:jA}{R:iA->Option (DataW H×List MemPlace)}{m n:Nat}{D:DataW H}(h:w.ownsMap P k R m n D):nDk w m:=λcur t c=>by
 obtain⟨e,a,d,r⟩:=h;rw[d]at c;cases c
theorem oQ.blk(k:oQ w w')(h:gB w b cur t)(a:t≠151/\t≠153/\t≠72):gB w' b cur t:=k b _ h (aHv h a)
theorem oQ.map{H:Type}(e:oQ w w'){P:Program}{k:jA}{R:iA->Option (DataW H×List MemPlace)}{m n:Nat}{D:DataW H}(h:w.ownsMap P k R m n D):w'.ownsMap P k R m n D:=by
 obtain⟨c,a,d,r⟩:=id h;exact⟨c,a,e m _ d (aHw h),r⟩
theorem eE.apart{B:Nat->Prop}{l m:Nat}{c:gC}{a:Int}{M:Nat}(h:eE w B l m c a [] M)(k:oQ w w'):eE w' B l m c a [] M:=by
 obtain⟨T,L,h,e⟩:=h;obtain rfl:L=[]:=by cases L with
  |nil=>rfl
  |cons p r=>cases e
 exact⟨T,[],{ h with blk:=k.blk h.blk (by decide),ten:=k.map h.ten,idx:=λp d=>by cases d},e⟩
end
def aMe(P D:Nat)(a:jC)(c:Nat)(w:eA)(g:w.cell? (dB P 0)=bA (.pointer (pB D)))(f:w.cell? (dB D 4)=bA (pA a 0 c)):
 hI 127 #[.pointer (pB P)] w (pA aA 0 0):=by
 go_enter func127,ntmps127;go_wp2;go_loopw [3,16] (λd i wr=>i=zA 0/\d=pA aA 0 0/\wr=w) (λ_ i _=>0-(intOf i).toNat)
 case atStart=>exact⟨rfl,rfl,rfl⟩
 case round=>
  obtain⟨rfl,rfl,rfl⟩:=hrel;go_wp2;go_ret;exact⟨rfl,rfl⟩
def lg0:mG:=⟨0,0,0⟩
def dk0:gE:=⟨[],1000000,0,0,0,cA⟩
def aJg{d w:eA}{B P D:Nat}(h:eQ d w B P D dk0 lg0):
 gA prog 70 #[.pointer (pB P)] w λe w'=>e=uA (xA #[pA aA 0 0,.nilIface])/\eQ d w' B P D dk1 ⟨1,1,0⟩/\oQ w w':=by
 obtain⟨v,k⟩:=h.drive;obtain⟨a,n,rfl,I⟩:=k.files;have m:=cB h;have f:=cB (aMe P D a n w h.wr.cells.1 k.cell4);obtain⟨x,C,E,F⟩:=h.wr.cells;have G:tC w D 3 (qA cA):=k.blk.cell 3;have o:=gB.free h.wr 1;have q:=gB.free h.wr 2;have r:=gB.free h.wr 3;clear h k I;go_enter func70,ntmps70;go_wp2_with fail;apply cO f.o;go_upto_region 6 with fail;have c:bB (eQ d (((w.setCell (dB P 1) (zA 1)).setCell (dB P 2) (zA 1)).setCell (dB P 3) (zA 0)) B P D dk0 ⟨1,1,0⟩):=((m.o.set (L':=⟨1,0,0⟩) 1 _ (by simp[lg0])).set (L':=⟨1,1,0⟩) 2 _ (by simp)).set (L':=⟨1,1,0⟩) 3 _ (by simp);have A:=cB (oQ.p ((((eB.refl (·=P) w).setCell (Ca rfl) 1 (zA 1)).setCell (Ca rfl) 2 (zA 1)).setCell (Ca rfl) 3 (zA 0)) m.o.wr);clear x C E F G o q r m f;generalize ((w.setCell (dB P 1) (zA 1)).setCell (dB P 2) (zA 1)).setCell (dB P 3) (zA 0)=L at *;obtain⟨x,_,_,_⟩:=c.o.wr.cells;have l:bB (∀W,eQ d W B P D dk0 ⟨1,1,0⟩->gA prog 125 #[.pointer (pB D),tA #[zA 1,oA (gK 1),oA ⟨#[]⟩,oA ⟨#[]⟩,zA 0]] W λe w'=>e=uA .nilIface/\eQ d w' B P D dk1 ⟨1,1,0⟩/\nJ W w'):=λW H=>by
  have:=tj (vG 1) H (IK (by omega) (by omega) (by omega));rw[show fE dk0 (vG 1)=(dk1,0) from qh]at this;exact this
 go_region_held3 (λw'=>w'.cell? (dB P 0)=bA (.pointer (pB D)))
  (first|exact i.o.wr.cells.1|exact g.o.wr.cells.1|exact(c.o.z bD.drew).wr.cells.1)
  (first
  |(go_at_call 128;apply hC (wN 1 _ (c.o.z bD.drew).tab);intro J j;have y:=cB (A.o.trans (oQ.of (vB bD.drew j)));have g:bB (eQ d J B P D dk0 ⟨1,1,0⟩):=(c.o.z bD.drew).z j)
  |(go_at_call 125;apply hC (l.o _ g.o);rintro K ⟨u,s⟩;have z:=cB (y.o.trans s.kw);have i:bB (eQ d K B P D dk1 ⟨1,1,0⟩):=u))
 all_goals
  go_wp2;go_ret2;exact⟨rfl,i.o,z.o⟩
def Ck0(c:gC)(w:eA)(e:Ending)(w':eA):Prop:=
 ∃h l m,e=uA (xA #[.pointer (pB h),.nilIface])/\w.1.size<=h/\gB w' h #[.pointer (pB l),zA 0] 83/\eE w' (λg=>w.1.size<=g/\g≠h) l m c 0 [] 1900000/\tB w w'
def aGp{w W a:eA}{c:gC}{l m:Nat}(d:tB w W)(e:tB W a)(h:eE a (W.1.size<=·) l m c 0 [] 1900000):
 Ck0 c w (uA (xA #[.pointer (pB a.1.size),.nilIface])) (a.alloc (vA #[.pointer (pB l),zA 0] 83)):=by
 have f:=d.size;have k:=e.size;exact⟨_,l,m,rfl,by omega,gB.new _ _ _,h.re λg i j=>⟨yB.block g i,Ua f j,by omega⟩,vB (vB d e) yB⟩
def aNb{J w:eA}{B P D:Nat}{L:mG}(c:gC)(h:eQ J w B P D dk0 L)(u:cF c=dA)(r:bH w):
 gA prog 69 #[.pointer (pB P),jE c] w λe w'=>Ck0 c w e w':=by
 obtain⟨v,o⟩:=h.drive;obtain⟨a,q,rfl,j⟩:=o.files;have n:=cB (λW=>rT a q [] ckN W (Ca rfl) (BL rfl) (by simp));have d:=cB (λW(H:tB w W)=>FH c 0 aA 0 [] 1900000 W (Ca rfl) (rP (ts:=[]) (by decide)).1 (by simp) (r.z H));have k:kC c 0 []=dA:=aQ u (by decide) (by simp) rfl;unfold mZ at d;rw[k]at d;rw[show fI [] ckN (fC ckN [])=cA from rfl]at n;simp only[List.length_nil]at n d;have E:tC w D 4 (pA a 0 q):=o.cell4;have F:=aB o.blk;obtain⟨C,_,_,_⟩:=h.wr.cells;have G:=aB h.wr;clear o j h u r k;unfold jE at *;have g:=cB (show gB ((w.alloc (vA #[zA c.w,zA c.tl,zA c.ml,zA c.sh,zA c.ha,zA c.sg] 24)).alloc (vA #[zA 0,pA aA 0 0] 40)) w.1.size #[zA c.w,zA c.tl,zA c.ml,zA c.sh,zA c.ha,zA c.sg] 24/\gB ((w.alloc (vA #[zA c.w,zA c.tl,zA c.ml,zA c.sh,zA c.ha,zA c.sg] 24)).alloc (vA #[zA 0,pA aA 0 0] 40)) (w.1.size+1) #[zA 0,pA aA 0 0] 40 from⟨(gB.new _ _ _).alloc _,by have:=gB.new (w.alloc (vA #[zA c.w,zA c.tl,zA c.ml,zA c.sh,zA c.ha,zA c.sg] 24)) #[zA 0,pA aA 0 0] 40;simpa using this⟩);have i:=cB (vB (pF w (vA #[zA c.w,zA c.tl,zA c.ml,zA c.sh,zA c.ha,zA c.sg] 24)) (pF _ (vA #[zA 0,pA aA 0 0] 40)));go_enter func69,ntmps69;go_wp2_with fail;apply hC (n.o _);intro y f;have p:=cB (vB i.o f);obtain⟨K,M,N,O,Q,R⟩:=(g.o.1.z f).c6;have S:tC y (w.1.size+1) 0 (zA 0):=(g.o.2.z f).cell 0;have T:tC y (w.1.size+1) 1 (pA aA 0 0):=(g.o.2.z f).cell 1;clear f n C E g i;go_wp2_with fail;refine(d.o _ p.o).mono ?_;rintro e U I;obtain⟨e,_⟩|⟨_,l,m,rfl,_,x,s⟩:=I
 .cases e
 have A:=cB x;have z:=cB s;clear x s d K M N O Q R S T;go_wp2;go_ret2;exact aGp p.o z.o A.o
end
def gY(a b:jC)(f g:Nat)(N:pC)(w:eA):
 vE 225 #[tA (dC a f b g N)] w (qA (N.up&&!N.deg)):=by
 unfold dC;obtain⟨d,l,i,m,h,c,j⟩:=N;cases j<;>cases c
 all_goals(
  go_enter func225,ntmps225
  go_wp2
  go_ret
  exact⟨rfl,yB⟩)
def NZ(a b f:jC)(h g d:Nat)(N:pC)(K:gE)(L:mG)(w:eA):
 vE 227 #[tA (dC a h b g N),tA #[pA f (yA K.fs) d,zA K.c,zA K.k,zA K.cr,zA K.fl,qA K.dn],tA #[zA L.first,zA L.last,zA L.size]] w (tA #[pA f (yA K.fs) d,zA K.c,zA K.k,zA K.cr,zA K.fl,qA K.dn,zA L.first,zA L.last,zA L.size,zA N.now,pA b (yA N.ts) g,zA N.lsn,qA dA,qA (!K.dn)]):=by
 unfold dC;go_enter func227,ntmps227;go_wp2;refine bodyPost_ret (v:=tA #[pA f (yA K.fs) d,zA K.c,zA K.k,zA K.cr,zA K.fl,qA K.dn,zA L.first,zA L.last,zA L.size,zA N.now,pA b (yA N.ts) g,zA N.lsn,qA dA,qA (!K.dn)]) (by simp[results,results227,go_sem]) rfl ⟨rfl,?_⟩;exact vB (vB (vB yB yB) yB) yB
def eW(a b:jC)(ca cb:Nat)(N:pC)(w:eA)(h:rB w a N.d.fs)(m:yA N.d.fs<=1048576)(l:uC w b N.ts)(c:yA N.ts<=2000000)(E:∀t∈N.ts,yA t.M<=2000000/\yA t.Z<=2000000):
 gA prog 22 #[tA (dC a ca b cb N)] w λe w'=>∃H B I D,e=uA (tA (dC H B I D N))/\oJ w' (λx=>w.1.size<=x/\x<w'.1.size) H I N/\tB w w':=by
 unfold dC;have G:=cB (λW(d:tB w W)=>TQ a ca N.d.fs W (h.z d) m);have HS:=cB (λW(d:tB w W)=>AQ N.now b cb N.ts W (l.z d) c E);clear h l E;go_enter func22,ntmps22;go_wp2_with fail;refine(G.o _ (vB yB yB)).mono ?_;rintro e w1 ⟨v,rfl,J,A⟩;obtain⟨H,B,rfl,F⟩:=gH J;have R:=cB (((gB.new w _ _).alloc _).z A);have Y:=cB ((gB.new (w.alloc _) _ _).z A);simp only[eA.size_alloc]at Y F;have d:=cB (F.toA (Ia _));have U:=cB (vB (vB yB yB) A);have c:=A.size;simp only[eA.size_alloc]at c;obtain⟨c,l,o2,o3,o4,o5,o6,o7,o8,o9,M,O,P,Q⟩:=R.o.n14;obtain⟨j,m,n,o,p,q,r,s,u,y,f,g,h,i⟩:=R.o.frees;clear A J F G;go_wp2_with fail;refine aGk (C:=λW=>gA prog _ _ W _) R.o ?_;intro w2 X G;have Z:=cB (G.blk Y.o (by omega));have J:=cB (d.o.turned G (λx L _ e=>by omega));have hz2:=G.size;have V:=cB (U.o.trans (G.below (by have:=U.o.size;omega) (λk hk e=>by omega)));clear c l o2 o3 o4 o5 o6 o7 o8 o9 M O P Q j m n o p q r s u y f g h i R Y d U G;refine(HS.o _ V.o).mono ?_;rintro e U ⟨I,D,rfl,K,z⟩;have Y:=cB (J.o.z z);have X3:=cB (K.toA (Ia _));have G:=cB (vB V.o z);have d:=z.size;obtain⟨c,l,o2,o3,o4,o5,o6,o7,o8,o9,M,O,P,Q⟩:=(X.z z).n14;obtain⟨j,m,n,o,p,q,r,s,u,y,f,g,h,i⟩:=(X.z z).frees;obtain⟨m,o,O,r3,r4,r5,r6,r7,r8,r9,c,d,h,l⟩:=(Z.o.z z).n14;obtain⟨g0,g1,g2,g3,g4,g5,g6,g7,g8,g9,g10,g11,g12,g13⟩:=(Z.o.z z).frees;clear z K X Z J V HS;go_wp2;refine bodyPost_ret (v:=tA #[pA H (yA N.d.fs) B,zA N.d.c,zA N.d.k,zA N.d.cr,zA N.d.fl,qA N.d.dn,zA N.l.first,zA N.l.last,zA N.l.size,zA N.now,pA I (yA N.ts) D,zA N.lsn,qA N.deg,qA N.up]) (by simp[results,results22,go_sem,m,o,O,r3,r4,r5,r6,r7,r8,r9,c,d,h,l]) rfl ?_;refine eB.end2 (S:=λx=>x=w.1.size\/x=w.1.size+1) (C:=λW=>∃a1 c1 c d,Ending.returned (tA #[pA H (yA N.d.fs) B,zA N.d.c,zA N.d.k,zA N.d.cr,zA N.d.fl,qA N.d.dn,zA N.l.first,zA N.l.last,zA N.l.size,zA N.now,pA I (yA N.ts) D,zA N.lsn,qA N.deg,qA N.up])=Ending.returned (tA #[pA a1 (yA N.d.fs) c1,zA N.d.c,zA N.d.k,zA N.d.cr,zA N.d.fl,qA N.d.dn,zA N.l.first,zA N.l.last,zA N.l.size,zA N.now,pA c (yA N.ts) d,zA N.lsn,qA N.deg,qA N.up])/\oJ W (λx=>w.1.size<=x/\x<W.1.size) a1 c N/\tB w W) U (by
  repeat (with_reducible first|exact eB.refl _ _|refine eB.setCell ?_ (Ca (by first|exact Ca rfl|exact La rfl)) _ _)) ?_
 intro w6 T;have c:=T.size;exact⟨_,_,_,_,rfl,⟨_,_,Y.o.turned T (λx L _ e=>by omega),X3.o.turned T (λx L _ e=>by omega),λx L=>by omega,λx L=>by omega,λx L e=>by omega⟩,G.o.trans (T.below (by have:=G.o.size;omega) (λk hk e=>by omega))⟩
section
open Go.Maps
def aDy{win now:Int}{left:Lit->Bool}{a:List fB}(c:sC (·.N) a){t:fB}(d:t∈a)(b:left (kL t.N)=dA):
 jI win now (λs=>(λz=>left z&&!z.sameKey (kL t.N)) (kL s)) a=if yE (uE win now t)=dA then rE (·.N) t.N (jI win now (λs=>left (kL s)) a) else cC (·.N) (uE win now t) (jI win now (λs=>left (kL s)) a):=by grind [sC,kL,jI,yE,uE,rE,cC,ow,CQ]
def yn(l m:Nat)(j:Int)(c:gC)(f:Int)(o:List fB)(M:Nat)(B:Nat->Prop)(O w:eA)(h:eE w B l m c f o M)(h0:tB O w)(W:∀g,w.1.size<=g->B g)(G:∀g,B g->O.1.size<=g)(hU:bH O)(I:0<=f)(I:f<=1000000000000)(hw0:1<=c.w)(hw1:c.w<=1000000000)(hM:M<=1000000000)(U:∀t∈o,yA t.Z<=1000000000)(Y:∀t∈o,∀p∈t.Z,p.s.size<=1000000000):
 gA prog 246 #[.pointer (pB l),zA j] w λe w'=>e=uA (qA (mK c.w f o j).2.2)/\eE w' B l m c (mK c.w f o j).1 (mK c.w f o j).2.1 M/\eB B w w':=by
 have I:=cB h;have HA:=cB W;have HA0:=cB G;clear W G;obtain⟨T,L,h,hL⟩:=h;have C:bB (mK c.w f o j=if j<1\/1000000000000-f<j then(f,o,cA) else(f+j,uD c.w (f+j) o,dA)):=rfl;have x6:tC w l 6 (zA f):=h.blk.cell 6;generalize mK c.w f o j=R at *;by_cases G:j<1
 .have P:bB (R=(f,o,cA)):=by show _=_;rw[C.o,Ma (Ca G)]
  clear h C;go_enter func246,ntmps246;go_wp2;go_ret;exact⟨oB (by rw[P.o]),by rw[P.o];exact I.o,eB.refl _ _⟩
 by_cases W:1000000000000-f<j
 .have P:bB (R=(f,o,cA)):=by show _=_;rw[C.o,Ma (La W)]
  clear h C;go_enter func246,ntmps246;go_wp2;go_ret;exact⟨oB (by rw[P.o]),by rw[P.o];exact I.o,eB.refl _ _⟩
 have P:bB (R=(f+j,uD c.w (f+j) o,dA)):=by show _=_;rw[C.o,Ja (λe=>by obtain e|e:=e;exact G e;exact W e)]
 clear C I;obtain⟨d,G⟩:∃d,d=f+j:=⟨_,rfl⟩
 rw[<-G]at P;have I:j<=1000000000000:=by omega
 have I:=G.symm;have hm0:0<=d:=by omega
 have hm1:d<=1000000000000:=by omega
 have I:=aB h.blk;have I:=h.ten.lt;have hB:=h0.size;have W:=h.lB;have HMB:=cB h.mB;have K:sC (·.N) o:=by rw[<-hL];exact(xW (key':=λt:fB=>t.N) (λp:fB×Nat=>p.1) (λ_=>rfl)).2 h.rise
 have I:eB (·=l) w (w.setCell (dB l 6) (zA d)):=(eB.refl (·=l) w).setCell (Ca rfl) 6 _;have Z:bB (gB (w.setCell (dB l 6) (zA d)) l (kV c d m) 161):=cB (by have:=h.blk.set 6 (zA d);simpa[kV]using this);have hsz:(w.setCell (dB l 6) (zA d)).1.size=w.1.size:=by simp
 have H1:bB _:=(h.moved I Z.o).trim;have HT1:bB (eB B w (w.setCell (dB l 6) (zA d))):=I.mono λi _ e=>by rw[e];exact W
 have y7:(w.setCell (dB l 6) (zA d)).cell? (dB l 7)=bA (.map (bA m)):=Z.o.cell 7;have b:=h.blk.free 6;have c0:bB _:=hL;have HUT:bB (∀W,eB B w W->tB O W):=λW hW=>h0.trans (hW.below hB λk hk hs=>by have:=HA0.o k hs;omega);have HR:=cB K;have HSL:=cB U;have HKS:=cB Y;have HUU:=cB hU;have HEX:bB _:=λW hb=>JQ l m c d W hb hm0 hm1 hw0 hw1;clear h hL K I U Y hU h0 G;go_enter func246,ntmps246;go_wp2_with(first|(at_range;refine wpList_range_own _ rfl _ 159 rfl 9 97 qL underlying159 nE m _ _ rfl H1.o.ten ?_;intro w2 I h G)|go_in);try rw[hsz]at I
 have V:=cB I;have G:bB _:=HT1.o.trans' ((eB.grown h).mono λi _ e=>by cases e);have U:bB (TkR c d o M B l m w.1.size (Maps.has (aE (L.map λp=>(p.1.N,fF p.2)))) w2):=by
  refine cB ⟨_,L,H1.o.keep λg W _=>h.block g W (by simp),?_,?_⟩;rw[yv λt Y=>?_,c0.o];rw[YE (key:=λp:fB×Nat=>p.1.N) (val:=λp=>fF p.2)];rw[<-c0.o]at Y;obtain⟨p,hp,rfl⟩:=Md.1 Y;rw[cK H1.o.rise hp];rfl;show (if w.1.size<(w.setCell (dB l 6) (zA d)).1.size then T w.1.size else aA)=aA;rw[Ja (by omega)]
 clear I h H1 Z y7 b x6 HT1 c0;generalize h:yA L=Y at *;generalize aE (L.map λp=>(p.1.N,fF p.2))=I at *;have hrl:l≠w.1.size:=by omega
 have hrm:m≠w.1.size:=by omega
 clear h;go_loopw [31] (λ_ wr=>∃(left:Lit->Bool)(h:Nat)(D:DataW Unit),bB (wr.ranges prog 9 nE m w.1.size Y D left h)/\bB (TkR c d o M B l m w.1.size left wr)/\bB (eB B w wr)) (λ_ wr=>wr.rangeLeft m w.1.size)
 case atStart=>exact⟨_,_,_,V.o,U.o,G.o⟩
 case round=>
  obtain⟨left,h,D,E,HK,HT⟩:=hrel;clear V U G;go_wp2_with(first
   |(at_next;refine wpList_next_ranges _ rfl _ rfl 9 qL nE iA.string (λv:iA=>v) (λkey G hk=>by obtain⟨x,h,_⟩:=tk hk;exact⟨x,h⟩) (λv y _=>⟨v,rfl⟩) m w.1.size Y _ _ _ rfl E.o ?_ ?_)
   |go_in)
  .intro hc0 hl0;have h:bB (eE wr B l m c d (uD c.w d o) M):=by
    obtain⟨X,L',I,Z,_⟩:=HK.o;refine cB ⟨X,L',I,?_⟩;rw[Z,ov λn=>hl0 _]
   clear hc0 hl0;go_wp2;go_ret;exact⟨oB (by rw[P.o]),by rw[P.o];exact h.o,HT.o⟩
  .intro s v G yd yp w3 F H hlk hv hat J hlt hg3 hs3 hen;obtain⟨s',es,rfl,hss⟩:=tk H;obtain rfl:s=s':=by simpa using es
   obtain⟨X,L',I,Z,k3⟩:=HK.o;obtain⟨p,hp,U,h,rfl⟩:=aFp (y:=(yd,yp)) I Z E.o.owns hlk hv hat;have a:eB (·=w.1.size) wr w3:=(eB.grown hg3).mono λi _ e=>by simp only[Qa]at e;exact e.symm
   have G:=I.aside a k3 hrl hrm;have K1:=cB G;have K2:=cB Z;have K3:=cB k3;have HP:=cB hp;have HPN:=cB U;have HPT:=cB h;have RG3:=cB J;have HKEY:=cB H;have T3:bB _:=HT.o.trans (a.mono λi _ e=>La (by omega));have HLB:bB (gB w3 l (kV c d m) 161):=G.blk;have HCN:bB _:=E.o.left_eq;have HDM:bB _:=sk E.o.owns I.ten;have A:bB (jI c.w d (λs_1=>(λz=>left z&&!z.sameKey (kL s)) (kL s_1)) o=if yE (uE c.w d p.1)=dA then rE (·.N) s (jI c.w d (λs=>left (kL s)) o) else cC (·.N) (uE c.w d p.1) (jI c.w d (λs=>left (kL s)) o)):=by
    have:=aDy (win:=c.w) (now:=d) (left:=left) HR.o h (by rw[U];exact hlk);rw[U]at this;exact cB this
   have HRR:bB _:=J.lt;clear I Z k3 G a hp U h J H hlk hv hat hg3 hs3 HK E hss es;go_wp2_with fail;apply hC (HEX.o _ HLB.o);intro w4 G;have h:bB _:=K1.o.keep λg W _=>G.block g W;have I:=G.size;have T4:bB _:=T3.o.trans' (eB.of G);have I:bB (w4.ranges prog 9 nE m w.1.size Y D (λz=>left z&&!z.sameKey (kL s)) F):=KK RG3.o (eB.of (S:=λ_=>False) G) (λe=>e) (λe=>e);have U:bB (gA prog 286 #[.pointer (pB p.2),zA (d-c.w)] w4 λe w'=>e=uA (xA #[])/\mD w' (λg=>(λg=>B g/\X g=bA p.2) g\/w4.1.size<=g) p.2 (uE c.w d p.1) M/\eB (λg=>B g/\X g=bA p.2) w4 w'):=mx p.2 p.1 c.w d (d-c.w) (λg=>B g/\X g=bA p.2) M O w4 (h.o.idx p HP.o) (HUT.o w4 T4.o) HUU.o (λg W=>HA0.o g W.1) rfl (HSL.o p.1 HPT.o) hM (HKS.o p.1 HPT.o);clear G RG3 K1 HLB T3;go_wp2_with fail;apply hC U.o;rintro Z ⟨G,N⟩;have HI5:=cB G;have HT5:=cB N;have O:bB (hI 146 #[.pointer (pB p.2)] Z (qA (yE (uE c.w d p.1)))):=OO p.2 _ _ M Z G;have Q:bB (Z.ranges prog 9 nE m w.1.size Y D (λz=>left z&&!z.sameKey (kL s)) F):=KK I.o N (λe=>by rw[h.o.tm]at e;cases e.2) (λe=>by rw[K3.o]at e;cases e.2);have T5:bB _:=T4.o.trans' (N.mono λi _ e=>e.1);have x7:tC Z l 7 (.map (bA m)):=(N.blk h.o.blk (λe=>by rw[h.o.tl]at e;cases e.2)).cell 7;clear G N U I;cases hidl:yE (uE c.w d p.1) with
   |true=>
    rw[hidl]at O A;rw[Ma rfl]at A;clear hidl;go_wp2_with fail;apply cO O.o;go_wp2_with(at_delete;refine wpList_delete_ranges _ rfl _ _ 159 9 rfl 97 qL underlying159 nE m w.1.size Y _ _ _ rfl Q.o _ _ rfl HKEY.o ?_;intro w6 I r G u);rw[Maps.strike_twice]at r;have G:=eB.mapped u;have a0:bB (TkR c d o M B l m w.1.size (λz=>left z&&!z.sameKey (kL s)) w6):=by
     have Y:=r.owns;rw[HDM.o]at Y;refine cB ⟨X,_,cL.left (k:=s) (S:=(λg=>B g/\X g=bA p.2)) h.o (λg hs q hq U e=>?_) (λg _ hs e=>by rw[e]at hs;cases hs.2) HT5.o G Y,?_,K3.o⟩;rw[hs.2]at e;have:=zR h.o.nd hq HP.o (Lc e).symm;rw[this]at U;exact U HPN.o;rw[sZ (key':=λt:fB=>t.N) (λp:fB×Nat=>p.1) (λ_=>rfl),K2.o];exact A.o.symm
    have Y:bB _:=T5.o.trans' (G.mono λi _ e=>(show i=m from e) ▸ HMB.o);have U:=cB r;clear r u G;go_wp2;refine⟨⟨_,_,_,_,_,_,_,_,_,_,_,_,_,_,_,_,_,_,⟨_,I,_,U.o,a0.o,Y.o⟩,rfl⟩,by rw[U.o.left_eq,HCN.o];omega⟩
   |false=>
    rw[hidl]at O A;rw[Ja (by simp)]at A;clear hidl;have a0:bB (TkR c d o M B l m w.1.size (λz=>left z&&!z.sameKey (kL s)) Z):=by
     refine cB ⟨_,_,cL.turned (p:=p) (t':=uE c.w d p.1) h.o (λg W=>HA.o g (Ua T4.o.size W)) HP.o rfl HT5.o HI5.o,?_,?_⟩;rw[wR (key':=λt:fB=>t.N) (λp:fB×Nat=>p.1) (λ_=>rfl),K2.o];exact A.o.symm;show (if w.1.size<w4.1.size then X w.1.size else bA p.2)=aA;rw[Ma (by have:=Q.o.lt;have:=HRR.o;omega)];exact K3.o
    go_wp2_with fail;apply cO O.o;go_wp2;exact⟨⟨_,F,_,Q.o,a0.o,T5.o⟩,by rw[Q.o.left_eq,HCN.o];exact hlt⟩
end
section
open Go.Maps
def uY(n:Nat)(w:eA):hI 157 #[zA n] w (qA (decide (n=1) ||decide (n=2))):=by
 by_cases a:n=1
 .subst a;go_enter func157,ntmps157;go_wp2;go_ret;exact⟨oB (by simp),rfl⟩
 have d:¬((n:Int)=1):=by omega
 by_cases b:n=2
 .subst b;go_enter func157,ntmps157;go_wp2;go_ret;exact⟨oB (by simp),rfl⟩
 have f:¬((n:Int)=2):=by omega
 have c:bB ((decide (n=1) ||decide (n=2))=cA):=by show _=_;simp[a,b]
 go_enter func157,ntmps157;go_wp2;go_ret;exact⟨oB (by rw[c.o];simp;omega),rfl⟩
def aOu(x:iA)(w:eA):(Instr.typeAssert (.iface 315 x) 273 315 dA).run prog w=.ok (xA #[x,qA dA]) w:=by kernel_rfl
def aOv(x:iA)(w:eA):(Instr.typeAssert (.iface 317 x) 273 315 dA).run prog w=.ok (xA #[tA #[zA 0,oA ⟨#[]⟩,oA ⟨#[]⟩],qA cA]) w:=by kernel_rfl
def aOw(x:iA)(w:eA):(Instr.typeAssert (.iface 317 x) 273 317 dA).run prog w=.ok (xA #[x,qA dA]) w:=by kernel_rfl
def aOx(x:iA)(w:eA):(Instr.typeAssert (.iface 319 x) 273 315 dA).run prog w=.ok (xA #[tA #[zA 0,oA ⟨#[]⟩,oA ⟨#[]⟩],qA cA]) w:=by kernel_rfl
def aOy(x:iA)(w:eA):(Instr.typeAssert (.iface 319 x) 273 317 dA).run prog w=.ok (xA #[tA #[zA 0,oA ⟨#[]⟩,zA 0],qA cA]) w:=by kernel_rfl
def aOz(x:iA)(w:eA):(Instr.typeAssert (.iface 319 x) 273 319 dA).run prog w=.ok (xA #[x,qA dA]) w:=by kernel_rfl
def oj(l m:Nat)(r:qE)(c:gC)(f:Int)(k:List fB)(M:Nat)(B:Nat->Prop)(K w:eA)(h:eE w B l m c f k M)(Y:tB K w)(S:∀g,w.1.size<=g->B g)(O:∀g,B g->K.1.size<=g)(T:bH K)(Q:kC c f k=dA)(a0:yA k+aC k<=1900000)(Z:1<=M)(o:M<=1000000000)(hn:r.T.size<=1400000)(hx:r.X.size<=1400000)(hk:jV r=dA):
 gA prog 204 #[.pointer (pB l),qU r] w λe R=>e=uA (qA (mE c f k r).2.2)/\eE R B l m c (mE c f k r).1 (mE c f k r).2.1 (M+1)/\eB B w R:=by
 obtain⟨hc,q0,q1,G,ht⟩:=yG Q;obtain⟨v0,v1⟩:=uc hc;have G:=Y.size;have hb:∀i(U:i<yA k),aF k[i]<=1900000:=λi U=>by have:=gT k i U;omega
 have E:∀t∈k,yA t.Z<=1000000000/\yA t.M<=1000000000/\yD t.Z<=1900000:=λt D=>by
  obtain⟨i,U,rfl⟩:=Ib D;have:=hb i U;unfold aF at this;omega
 have F:∀W,tB w W->tB K W:=λW s=>Y.trans (s.mono G);have J:bB (∀W,tB w W->eB B w W):=λW s=>eB.of s;have G:bB _:=λW s=>PF l m r.T r.X c f B k M W (h.z s) (λg P=>S g (Ua (Below.size s) P)) (T.z (F W s)) hn hx Z o (λt D=>(E t D).1) (λt D y I=>(AH (tJ (zI ht t D)).2.2.1 y I).2.2) (by omega);have I:bB (∀W,tB w W->gA prog 246 #[.pointer (pB l),zA r.U] W λe R=>e=uA (qA (mK c.w f k r.U).2.2)/\eE R B l m c (mK c.w f k r.U).1 (mK c.w f k r.U).2.1 M/\eB B W R):=λW s=>yn l m r.U c f k M B K W (h.z s) (F W s) (λg P=>S g (Ua s.size P)) O T q0 q1 v0 v1 o (λt D=>(E t D).1) (λt D p o=>by
  obtain⟨j,U,rfl⟩:=Ib o;have o:=qN t.Z j U;have o:=gM t.Z (j+1);have:=(E t D).2.2;omega)
 have H:bB _:=λW s=>SA l m r.T r.X r.U c f B k M W (h.z s) (λg P=>S g (Ua (Below.size s) P)) (T.z (F W s)) hn hx (λt D=>(E t D).2.1) (by omega);clear S O h Y T Q a0 hb E F ht hc;have L:bB (mE c f k r=if r.K=1 then(f,(dL c f k r.T r.X).1,decide ((dL c f k r.T r.X).2=1) ||decide ((dL c f k r.T r.X).2=2)) else if r.K=2 then mK c.w f k r.U else if r.K=3 then(f,(uR k r.T r.X r.U).1,(uR k r.T r.X r.U).2) else(f,k,cA)):=rfl;have u:bB (qU r=if r.K=1 then .iface 315 (tA #[zA 1,oA r.T,oA r.X]) else if r.K=2 then .iface 317 (tA #[zA 2,oA kA,zA r.U]) else if r.K=3 then .iface 319 (tA #[zA 3,oA r.T,oA r.X,zA r.U]) else .nilIface):=rfl;generalize mE c f k r=X at *;generalize qU r=V at *;have h:r.K=1\/r.K=2\/r.K=3:=by simpa[jV]using hk
 clear hk;obtain⟨m,v,x,z⟩:=r;simp only at *;obtain rfl|rfl|rfl:=h
 .have n:bB (X=(f,(dL c f k v x).1,decide ((dL c f k v x).2=1) ||decide ((dL c f k v x).2=2))):=by show _=_;rw[L.o,Ma rfl]
  have N:V=.iface 315 (tA #[zA 1,oA v,oA x]):=by rw[u.o,Ma rfl]
  clear L u I H;subst N;generalize dL c f k v x=h at *;have a:=aOu (tA #[zA 1,oA v,oA x]);go_enter func204,ntmps204;go_wp2_with fail;apply hC (G.o _ yB);rintro w1 ⟨o,q⟩;have A:=cB o;have C:bB _:=(J.o _ yB).trans' q;clear o q;go_wp2_with fail;apply cO (uY _ _);go_wp2;go_ret;exact⟨oB (by rw[n.o]),by rw[n.o];exact A.o,C.o⟩
 .have n:bB (X=mK c.w f k z):=by show _=_;rw[L.o,Ja (by decide),Ma rfl]
  have N:V=.iface 317 (tA #[zA 2,oA kA,zA z]):=by rw[u.o,Ja (by decide),Ma rfl]
  clear L u G H;subst N;generalize mK c.w f k z=h at *;have a:=aOv (tA #[zA 2,oA kA,zA z]);have b:=aOw (tA #[zA 2,oA kA,zA z]);go_enter func204,ntmps204;go_wp2_with fail;apply hC (I.o _ yB);rintro w1 ⟨o,q⟩;have A:=cB o;have C:bB _:=(J.o _ yB).trans' q;clear o q;go_wp2;go_ret;exact⟨oB (by rw[n.o]),by rw[n.o];exact A.o.mono (by omega),C.o⟩
 have n:bB (X=(f,(uR k v x z).1,(uR k v x z).2)):=by show _=_;rw[L.o,Ja (by decide),Ja (by decide),Ma rfl]
 have N:V=.iface 319 (tA #[zA 3,oA v,oA x,zA z]):=by rw[u.o,Ja (by decide),Ja (by decide),Ma rfl]
 clear L u G I;subst N;generalize uR k v x z=h at *;have a:=aOx (tA #[zA 3,oA v,oA x,zA z]);have b:=aOy (tA #[zA 3,oA v,oA x,zA z]);have d:=aOz (tA #[zA 3,oA v,oA x,zA z]);go_enter func204,ntmps204;go_wp2_with fail;apply hC (H.o _ yB);rintro w1 ⟨o,q⟩;have A:=cB o;have C:bB _:=(J.o _ yB).trans' q;clear o q;go_wp2;go_ret;exact⟨oB (by rw[n.o]),by rw[n.o];exact A.o.mono (by omega),C.o⟩
end
section
open Go.Maps
def qi{c:gC}{a:Int}{b:List fB}{r:qE}(h:jV r=cA):mE c a b r=(a,b,cA):=by grind [jV,mE]
def WY(l m:Nat)(a:jC)(cap:Nat)(f:List qE)(c:gC)(p:Int)(q:List fB)(M:Nat)(B:Nat->Prop)(A w:eA)(h:eE w B l m c p q M)(h0:tB A w)(hA:∀g,w.1.size<=g->B g)(z:∀g,B g->A.1.size<=g)(X:∀W,eB B w W->pI W a f)(hU:bH A)(R:kC c p q=dA)(hlen:yA f<=500)(P:yA q+aC q+2*yA f+dD f<=1900000)(U:∀r∈f,r.T.size<=1400000/\r.X.size<=1400000)(hM1:1<=M)(hM:M<=900000000):
 gA prog 132 #[sA (bA ⟨l,0,aA⟩),pA a (yA f) cap] w λe y=>e=uA (qA (bG c p q f).2.2)/\((bG c p q f).2.2=dA->eE y B l m c (bG c p q f).1 (bG c p q f).2.1 (M+yA f))/\eB B w y:=by
 have HF:=cB X;have HU:=cB hU;have HSZ:=cB U;have G:=cB h;have b0:bB (∀W,eB B w W->tB A W):=λW D=>h0.trans (D.below h0.size λk hk hs=>by have:=z k hs;omega);have Y:=cB hA;have Z:=cB z;have L:=cB R;have F:=cB P;clear X hU U h h0 R P hA z;go_enter func132,ntmps132;go_wp2;go_loopw [11] (λi wr=>∃(k:Nat)(n:Int)(j:List fB),k<=yA f/\i=lA mA k/\bB (eE wr B l m c n j (M+k))/\bB (eB B w wr)/\bB (kC c n j=dA)/\bB (yA j+aC j+2*(yA f-k)+dD (f.drop k)<=1900000)/\bB (bG c n j (f.drop k)=bG c p q f)) (λi _=>yA f-(intOf i).toNat)
 case atStart=>exact⟨0,p,q,Oa _,rfl,G.o,eB.refl _ _,L.o,cB (by simpa using F.o),rfl⟩
 case round=>
  obtain⟨k,n,j,hk,rfl,HL,C,V,HK,H⟩:=hrel;clear G L F;by_cases s:k<yA f
  .obtain ⟨b,o,rfl,hbw,r0,r1,r2,r3⟩:=(HF.o _ C.o).at s;obtain⟨hn,hx⟩:=HSZ.o _ (Gb s);have hkb:=HK.o;have hdr:=FN f s;have T:=eX V.o f[k];have HRS:bB ((mE c n j f[k]).2.2=dA->bG c n j (f.drop k)=bG c (mE c n j f[k]).1 (mE c n j f[k]).2.1 (f.drop (k+1))):=λh=>VW s h;have J:bB ((mE c n j f[k]).2.2=cA->(bG c p q f).2.2=cA):=λh=>by rw[<-H.o,VX s h]
   have HRE:bB ((mE c n j f[k]).2.2=dA->bG c n j (f.drop k)=bG c p q f):=λ_=>H.o;have HOK:bB ((mE c n j f[k]).2.2=dA->kC c (mE c n j f[k]).1 (mE c n j f[k]).2.1=dA):=λh=>GA V.o h;have c0:bB (yA (mE c n j f[k]).2.1+aC (mE c n j f[k]).2.1+2*(yA f-(k+1))+dD (f.drop (k+1))<=1900000):=by show _<=_;omega
   have d0:bB (jV f[k]=cA->(mE c n j f[k]).2.2=cA):=λh=>by rw[qi h]
   have K:bB (∀W,vE 203 #[tA #[lA mA f[k].K,oA f[k].T,oA f[k].X,lA mA f[k].U]] W (xA #[qU f[k],qA (jV f[k])])):=λW=>vO f[k] W;have a0:bB (jV f[k]=dA->∀W,tB wr W->gA prog 204 #[sA (bA ⟨l,0,aA⟩),qU f[k]] W λe y=>e=uA (qA (mE c n j f[k]).2.2)/\eE y B l m c (mE c n j f[k]).1 (mE c n j f[k]).2.1 (M+k+1)/\eB B w y):=λu W D=>(oj l m f[k] c n j (M+k) B A W (HL.o.z D) (b0.o _ (C.o.trans' (eB.of D))) (λg hg=>Y.o g (Ua (Ua C.o.size D.size) hg)) Z.o HU.o V.o (by omega) (by omega) (by omega) hn hx u).mono λe y ⟨h1,h2,h3⟩=>⟨h1,h2,(C.o.trans' (eB.of D)).trans' h3⟩
   clear hkb hdr T HL V HK H hn hx;generalize mE c n j f[k]=S at *;obtain⟨n1,d,b1⟩:=S;go_wp2_with fail;apply hC (K.o _);intro w1 N;have x:=vB yB N;have v:=cB x;clear N x K r0 r1 r2 r3;cases u:jV f[k]with
   |false=>
    have X:=d0.o u;subst X;have t:=J.o rfl;go_wp2;go_ret;exact⟨oB (by rw[t]),λe=>(by rw[t]at e;cases e),C.o.trans' (eB.of v.o)⟩
   |true=>
    have Y:=cB (a0.o u);go_wp2_with fail;apply hC (Y.o _ v.o);rintro w2 ⟨Q,O⟩;have HL2:=cB Q;have E:=cB O;clear Q O;cases b1 with
    |false=>
     have t:=J.o rfl;go_wp2;go_ret;exact⟨oB (by rw[t]),λe=>(by rw[t]at e;cases e),E.o⟩
    |true=>
     have HO2:=cB (HOK.o rfl);have HR3:bB _:=(HRS.o rfl).symm.trans (HRE.o rfl);go_wp2;exact⟨⟨k+1,n1,d,by omega,by go_num,HL2.o,E.o,HO2.o,c0.o,HR3.o⟩,by simp[intOf];omega⟩
  obtain rfl:k=yA f:=by omega
  have I:bB (bG c p q f=(n,j,dA)):=by show _=_;rw[<-H.o,Kg];rfl
  clear H;go_wp2;go_ret;exact⟨oB (by rw[I.o]),λ_=>(by rw[I.o];exact HL.o),C.o⟩
end
section
open Go.Maps
def RU(c:gC)(o:Int)(a:jC)(s:Nat)(p:List fB)(ar:jC)(capr:Nat)(q:List qE)(w:eA)(hf:uC w a p)(hr:pI w ar q)(hlr:yA q<=2000000)(hbk:yA p+aC p+yA q+dD q<=1400000)(hU:bH w):
 gA prog 270 #[jE c,tA #[lA mA o,pA a (yA p) s],pA ar (yA q) capr] w λe Y=>nT (rG c o p q) w e Y:=by
 have hbt:yA p+aC p<=1900000:=by omega
 obtain⟨b,f,j,n⟩:=rP hbt;have hfs:=lW hbt;have HO:bB _:=λW J=>FH c o a s p 1900000 W (hf.z J) b (by omega) (hU.z J);have b0:bB _:=λW J=>AQ o a s p W (hf.z J) (by omega) (λt ht=>by have:=hfs t ht;omega);have d0:bB (∀l m K W,yA q<=500->kC c o p=dA->tB w K->tB K W->eE W (K.1.size<=·) l m c o p 1900000->gA prog 132 #[sA (bA ⟨l,0,aA⟩),pA ar (yA q) capr] W λe Y=>e=uA (qA (bG c o p q).2.2)/\((bG c o p q).2.2=dA->eE Y (K.1.size<=·) l m c (bG c o p q).1 (bG c o p q).2.1 (1900000+yA q))/\tB K Y):=λl m K W I T hW0 J h=>(WY l m ar capr q c o p 1900000 (K.1.size<=·) K W h J (λg hg=>Ua J.size hg) (λg hg=>hg) (λW' ht=>hr.z (vB hW0 (J.trans (ht.below J.size λk hk e=>by omega)))) (hU.z hW0) T I (by omega) (λr hm=>by
  have h1:r.T.size+r.X.size<=dD q:=by
   obtain⟨i,hi,rfl⟩:=Ib hm;have h2:=yT q i hi;have h3:=nX q (i+1);omega
  omega) (by omega) (by omega)).mono λe Y ⟨h1,h2,h3⟩=>⟨h1,h2,J.trans (h3.below J.size λk hk e=>by omega)⟩
 have e0:bB (∀l m B W M,yA q<=500->kC c o p=dA->eE W B l m c (bG c o p q).1 (bG c o p q).2.1 M->gA prog 21 #[sA (bA ⟨l,0,aA⟩)] W λe Y=>∃a s,e=uA (tA #[lA mA (bG c o p q).1,.slice a (yA (bG c o p q).2.1) s])/\zC Y W.1.size a (bG c o p q).2.1/\tB W Y):=λl m B W M I T h=>by
  have L:=VU (rs:=q) T;exact VC l m c _ B _ M W h (aGz λx hx=>by
   obtain⟨k1,k2,k3,k4,k5⟩:=lW (ts:=(bG c o p q).2.1) (by omega) x hx;exact⟨k1,k2,k3,by omega,by omega⟩) (by omega)
 have HV0:bB (kC c o p=cA->rG c o p q=(0,[],cA)):=λh=>by unfold rG;rw[Ma h]
 have N:bB (kC c o p=dA->500<yA q->rG c o p q=(o,p,cA)):=λh I=>by unfold rG;rw[Ja (by rw[h];decide),Ma I]
 have O:bB (kC c o p=dA->yA q<=500->(bG c o p q).2.2=cA->rG c o p q=(o,p,cA)):=λh I h6=>by unfold rG;rw[Ja (by rw[h];decide),Ja (by omega),Ja (by rw[h6];decide)]
 have P:bB (kC c o p=dA->yA q<=500->(bG c o p q).2.2=dA->rG c o p q=bG c o p q):=λh I h6=>by unfold rG;rw[Ja (by rw[h];decide),Ja (by omega),Ma h6]
 clear hf b f j n hfs hU hr;unfold mZ at HO;unfold nT;generalize rG c o p q=V at *;generalize bG c o p q=R at *;unfold jE at *;go_enter func270,ntmps270;have B1:bB (tB w (((w.alloc (vA #[lA mA c.w,lA mA c.tl,lA mA c.ml,lA mA c.sh,lA mA c.ha,lA mA c.sg] 24)).alloc (vA #[lA mA o,pA a (yA p) s] 40)).alloc (vA #[lA mA 0,pA aA 0 0] 40))):=vB (vB yB yB) yB;have R1:bB _:=cB (by have:=gB.new ((w.alloc (vA #[lA mA c.w,lA mA c.tl,lA mA c.ml,lA mA c.sh,lA mA c.ha,lA mA c.sg] 24)).alloc (vA #[lA mA o,pA a (yA p) s] 40)) #[lA mA 0,pA aA 0 0] 40;simpa using this);have S1:bB _:=cB (by have:=(gB.new (w.alloc (vA #[lA mA c.w,lA mA c.tl,lA mA c.ml,lA mA c.sh,lA mA c.ha,lA mA c.sg] 24)) #[lA mA o,pA a (yA p) s] 40).alloc (vA #[lA mA 0,pA aA 0 0] 40);simpa using this);go_wp2_with fail;refine(HO.o _ B1.o).mono ?_;intro e Z hx;have HX:=cB hx;clear hx;obtain⟨T,rfl,L⟩|⟨T,l,m,rfl,hlo,U,L⟩:=HX.o
 .have HB:bB _:=vB B1.o L;have RB:bB (gB Z (w.1.size+1+1) #[lA mA 0,pA aA 0 0] 40):=R1.o.z L;have HV:bB _:=HV0.o T;have y0:Z.cell? ⟨w.1.size+1+1,0,aA⟩=bA (lA mA 0):=RB.o.cell 0;have y1:Z.cell? ⟨w.1.size+1+1,1,aA⟩=bA (pA aA 0 0):=RB.o.cell 1;have d:=RB.o.free 0;have b:=RB.o.free 1;clear HX L T;go_wp2;refine bodyPost_ret (v:=xA #[tA #[lA mA 0,pA aA 0 0],qA cA]) (by simp[results,results270,go_sem,y0,y1]) rfl ?_;rw[HV.o];refine⟨aA,0,rfl,Ca rfl,?_⟩;first
   |exact(HB.o.setCell (by show w.1.size<=w.1.size+1+1;omega) _).setCell (by show w.1.size<=w.1.size+1+1;omega) _
   |exact HB.o
 have HB:bB _:=vB B1.o L;have RB:bB (gB Z (w.1.size+1+1) #[lA mA 0,pA aA 0 0] 40):=R1.o.z L;have SB:bB (gB Z (w.1.size+1) #[lA mA o,pA a (yA p) s] 40):=S1.o.z L;have H:=cB T;have HL:=cB U;have a0:=cB L;have hs0:=aB R1.o;generalize (((w.alloc (vA #[lA mA c.w,lA mA c.tl,lA mA c.ml,lA mA c.sh,lA mA c.ha,lA mA c.sg] 24)).alloc (vA #[lA mA o,pA a (yA p) s] 40)).alloc (vA #[lA mA 0,pA aA 0 0] 40))=w0 at *;clear HX L T U HO HV0 R1 S1;by_cases I:yA q<=500
 .have h5':¬(500<yA q):=by omega
  go_wp2_with fail;apply hC (d0.o l m _ _ I H.o B1.o a0.o HL.o);rintro w2 ⟨hl2,Q⟩;have c0:=cB hl2;have R2:bB (gB w2 (w.1.size+1+1) #[lA mA 0,pA aA 0 0] 40):=cB ((Q.block _ hs0).trans (((a0.o.block _ hs0).symm).trans RB.o));have S2:bB (gB w2 (w.1.size+1) #[lA mA o,pA a (yA p) s] 40):=cB ((Q.block _ (by omega)).trans (((a0.o.block _ (by omega)).symm).trans SB.o));have B2:bB _:=vB B1.o Q;clear hl2 Q d0;rcases hbv:R.2.2 with _|_
  .have HV:bB _:=O.o H.o I hbv;clear c0 e0 N O P;have s0:w2.cell? ⟨w.1.size+1,0,aA⟩=bA (lA mA o):=S2.o.cell 0;have s1:w2.cell? ⟨w.1.size+1,1,aA⟩=bA (pA a (yA p) s):=S2.o.cell 1;go_wp2_with fail;refine(b0.o _ B2.o).mono ?_;rintro e u ⟨z,E,rfl,D,y⟩;have G:bB (zC u w2.1.size z p):=D;have F:bB (gB u (w.1.size+1+1) #[lA mA 0,pA aA 0 0] 40):=R2.o.z y;have B3:bB _:=vB B2.o y;clear D y s0 s1;have y0:u.cell? ⟨w.1.size+1+1,0,aA⟩=bA (lA mA 0):=F.o.cell 0;have y1:u.cell? ⟨w.1.size+1+1,1,aA⟩=bA (pA aA 0 0):=F.o.cell 1;have d:=F.o.free 0;have b:=F.o.free 1;have hw2:=aB R2.o;go_wp2;have A:eB (·=w.1.size+1+1) u ((u.setCell ⟨w.1.size+1+1,0,aA⟩ (lA mA o)).setCell ⟨w.1.size+1+1,1,aA⟩ (pA z (yA p) E)):=((eB.refl (·=w.1.size+1+1) u).setCell (Ca rfl) 0 _).setCell (Ca rfl) 1 _;refine bodyPost_ret (v:=xA #[tA #[lA mA o,pA z (yA p) E],qA cA]) (by simp[results,results270,go_sem,y0,y1]) rfl ?_;rw[HV.o];have X:zC ((u.setCell ⟨w.1.size+1+1,0,aA⟩ (lA mA o)).setCell ⟨w.1.size+1+1,1,aA⟩ (pA z (yA p) E)) w.1.size z p:=(zC.turned G.o A (λg h1 h2 e=>by omega)).mono (by omega);have C:=((eB.of (S:=λi=>w.1.size<=i) B3.o).trans' (A.mono λi _ e=>by omega)).below (Ia _) λi hi h=>by omega
   first
    |exact⟨z,⟨E,rfl⟩,X,C⟩
    |exact⟨z,E,rfl,X,C⟩
  have HV:bB _:=P.o H.o I hbv;have HL3:=cB (c0.o hbv);clear c0 b0 N O P;go_wp2_with fail;refine(e0.o l m _ _ _ I H.o HL3.o).mono ?_;rintro e u ⟨z,E,rfl,D,y⟩;have G:bB (zC u w2.1.size z R.2.1):=D;have F:bB (gB u (w.1.size+1+1) #[lA mA 0,pA aA 0 0] 40):=R2.o.z y;have B3:bB _:=vB B2.o y;clear D y;have y0:u.cell? ⟨w.1.size+1+1,0,aA⟩=bA (lA mA 0):=F.o.cell 0;have y1:u.cell? ⟨w.1.size+1+1,1,aA⟩=bA (pA aA 0 0):=F.o.cell 1;have d:=F.o.free 0;have b:=F.o.free 1;have hw2:=aB R2.o;go_wp2;have A:eB (·=w.1.size+1+1) u ((u.setCell ⟨w.1.size+1+1,0,aA⟩ (lA mA R.1)).setCell ⟨w.1.size+1+1,1,aA⟩ (pA z (yA R.2.1) E)):=((eB.refl (·=w.1.size+1+1) u).setCell (Ca rfl) 0 _).setCell (Ca rfl) 1 _;refine bodyPost_ret (v:=xA #[tA #[lA mA R.1,pA z (yA R.2.1) E],qA dA]) (by simp[results,results270,go_sem,y0,y1]) rfl ?_;rw[HV.o,hbv];have X:zC ((u.setCell ⟨w.1.size+1+1,0,aA⟩ (lA mA R.1)).setCell ⟨w.1.size+1+1,1,aA⟩ (pA z (yA R.2.1) E)) w.1.size z R.2.1:=(zC.turned G.o A (λg h1 h2 e=>by omega)).mono (by omega);have C:=((eB.of (S:=λi=>w.1.size<=i) B3.o).trans' (A.mono λi _ e=>by omega)).below (Ia _) λi hi h=>by omega
  first
   |exact⟨z,⟨E,rfl⟩,X,C⟩
   |exact⟨z,E,rfl,X,C⟩
 have h5':500<yA q:=by omega
 have HV:bB _:=N.o H.o h5';have R2:=RB;have S2:=SB;have B2:=HB;clear d0 e0 N O P;have s0:Z.cell? ⟨w.1.size+1,0,aA⟩=bA (lA mA o):=S2.o.cell 0;have s1:Z.cell? ⟨w.1.size+1,1,aA⟩=bA (pA a (yA p) s):=S2.o.cell 1;go_wp2_with fail;refine(b0.o _ B2.o).mono ?_;rintro e u ⟨z,E,rfl,D,y⟩;have G:bB (zC u Z.1.size z p):=D;have F:bB (gB u (w.1.size+1+1) #[lA mA 0,pA aA 0 0] 40):=R2.o.z y;have B3:bB _:=vB B2.o y;clear D y s0 s1;have y0:u.cell? ⟨w.1.size+1+1,0,aA⟩=bA (lA mA 0):=F.o.cell 0;have y1:u.cell? ⟨w.1.size+1+1,1,aA⟩=bA (pA aA 0 0):=F.o.cell 1;have d:=F.o.free 0;have b:=F.o.free 1;have hw2:=aB R2.o;go_wp2;have A:eB (·=w.1.size+1+1) u ((u.setCell ⟨w.1.size+1+1,0,aA⟩ (lA mA o)).setCell ⟨w.1.size+1+1,1,aA⟩ (pA z (yA p) E)):=((eB.refl (·=w.1.size+1+1) u).setCell (Ca rfl) 0 _).setCell (Ca rfl) 1 _;refine bodyPost_ret (v:=xA #[tA #[lA mA o,pA z (yA p) E],qA cA]) (by simp[results,results270,go_sem,y0,y1]) rfl ?_;rw[HV.o];have X:zC ((u.setCell ⟨w.1.size+1+1,0,aA⟩ (lA mA o)).setCell ⟨w.1.size+1+1,1,aA⟩ (pA z (yA p) E)) w.1.size z p:=(zC.turned G.o A (λg h1 h2 e=>by omega)).mono (by omega);have C:=((eB.of (S:=λi=>w.1.size<=i) B3.o).trans' (A.mono λi _ e=>by omega)).below (Ia _) λi hi h=>by omega
 first
  |exact⟨z,⟨E,rfl⟩,X,C⟩
  |exact⟨z,E,rfl,X,C⟩
end
def br{K:gE}{L:mG}{p:nB}{a:Int}(h:xQ L p a≠0):pE K L p a=(K,L,xQ L p a):=by
 have c:mF p=kA ↔ zB p.size 1 60000=cA:=by
  constructor
  .intro e;rw[Yc];intro f;have g:1<=p.size/\p.size<=60000:=by simp only[zB,Sa,Ab]at f;omega
   have:=qY g;rw[e,Nf]at this;omega
  intro f;rw[mF,Ja];intro g;have:zB p.size 1 60000=dA:=by simp[zB];omega
  rw[this]at f;cases f
 unfold xQ at h |-
 unfold pE;split;rfl
 rename_i j;rw[Ja j]at h;by_cases b:zB p.size 1 60000=cA
 .rw[Ma b,Ma (c.2 b)]
 rw[Ja b,Ja (λe=>b (c.1 e))];rw[Ja b]at h;by_cases d:L.last=999999/\gP L (8+p.size) a=dA
 .rw[Ma d];have g:1<=p.size/\p.size<=60000:=by
   have:zB p.size 1 60000=dA:=by simpa using b
   simp only[zB,Sa,Ab]at this;omega
  have k:=qY g;have i:=d.2;simp only[gP,Sa,Ab]at i;rw[Ma ⟨i.1,by rw[k];have:=i.2;simp only[Int.natCast_add];omega⟩,Ma d.1]
 .rw[Ja d]at h;exact absurd rfl h
def bq{K:gE}{L:mG}{p:nB}{a:Int}(h:xQ L p a=0):pE K L p a=iO K L (mF p) a/\iJ L=dA/\(mF p).size<=60008/\(gP L (mF p).size a=dA->L.last≠999999):=by
 unfold xQ at h;split at h
 .cases h
 rename_i i;split at h
 .cases h
 rename_i m;split at h
 .cases h
 rename_i j;have n:1<=p.size/\p.size<=60000:=by
  have:zB p.size 1 60000=dA:=by simpa using m
  simp only[zB,Sa,Ab]at this;omega
 have l:=qY n;have k:(iJ L&&zB a 1 1000000000)=dA:=by simpa using i
 simp only[Sa]at k;have f:¬mF p=kA:=λe=>by rw[e,Nf]at l;omega
 have g:(((mF p).size:Nat):Int)=8+(p.size:Int):=by rw[l];omega
 refine⟨?_,k.1,by omega,λb d=>j ⟨d,by rw[<-g];exact b⟩⟩;unfold pE iO;rw[Ja i,Ja f];by_cases b:gP L (mF p).size a=dA
 .rw[Ma b];have c:=b;simp only[gP,Sa,Ab]at c;rw[Ma c,Ja (λd=>j ⟨d,by rw[<-g];exact b⟩)]
 rw[Ja b,Ja];intro c;apply b;simp[gP,c.1,c.2]
def aBg{K:gE}{L:mG}{f:nB}{a:Int}(h:sE K.fs K.c K.k K.cr K.fl=cA):iO K L f a=(⟨[],0,0,0,0,cA⟩,L,6):=by
 have b:∀d,fE K d=(⟨[],0,0,0,0,cA⟩,6):=λd=>by
  unfold fE vQ;rw[Ja (by simp[h])]
 unfold iO;split;rw[b,Ma (by simp)];unfold xH;rw[b,Ma (by simp)]
