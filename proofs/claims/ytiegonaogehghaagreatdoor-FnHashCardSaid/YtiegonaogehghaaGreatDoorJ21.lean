import Derived.Test.YtiegonaogehghaaGreatDoorJ16
import Derived.Test.YtiegonaogehghaaGreatDoorJ17
import Derived.Test.YtiegonaogehghaaGreatDoorJ03
set_option maxRecDepth 100000
set_option maxHeartbeats 1000000
set_option linter.defProp false
open Bool renaming true->dA,false->cA
open ByteArray renaming empty->kA
open List renaming length->yA
namespace Go.Proofs.YtiegonaogehghaaGreatDoor
open Go renaming World->eA,Value->iA,TypeId->jA
open Value renaming slice->pA,bool->qA,string->oA
open Obj renaming cells->vA
open Ending renaming returned->uA
open Go.RowKit Tryz
def yL(t:fB)(s:List fB×Bool)(p:fB):List fB×Bool:=
 (s.1++(if s.2=dA then [] else if uJ p.N t.N=dA then [] else [t])++(if (p.N.toList==t.N.toList)=dA then [] else [p]),if s.2=dA then dA else !uJ p.N t.N)
def wV(t:fB)(b:Bool)(a:List fB):List fB×Bool:=a.foldl (yL t) ([],b)
def DD(t:fB)(b:Bool)(a:List fB):List fB:=(wV t b a).1++if (wV t b a).2=dA then [] else [t]
def qr(t:fB)(b:Bool)(a:List fB)(k:Nat)(h:k<yA a):wV t b (a.take (k+1))=yL t (wV t b (a.take k)) a[k]:=by
 rw[Pa h,wV,Dg];rfl
theorem aAm(t:fB)(c:List fB):∀(a:List fB)(b:Bool),c.foldl (yL t) (a,b)=(a++(c.foldl (yL t) ([],b)).1,(c.foldl (yL t) ([],b)).2):=by induction c<;>grind [yL]
def JC(t p:fB)(r:List fB)(b:Bool):DD t b (p::r)=(yL t ([],b) p).1++DD t (yL t ([],b) p).2 r:=by grind [DD,yL,wV,aAm]
theorem eU{t:fB}{a:List fB}(h:∀p∈a,p.N≠t.N):DD t dA a=a:=by
 induction a with
 |nil=>rfl
 |cons p r d=>
  rw[JC];have b:=zD (h p (Kc ..));simp only[yL,b,Td,Mb];simp[d λq c=>h q (Sb _ c)]
def aFr{t:fB}{f:List fB}(j:sC (·.N) f):DD t cA f=cC (·.N) t f:=by
 induction f with
 |nil=>rfl
 |cons p r l=>
  have h:=l j.tail;rw[JC,cC];by_cases c:uJ p.N t.N=dA
  .have d:=zD (eJ c);simp only[yL,c,d,Td];simp[h]
  have b:uJ p.N t.N=cA:=by simpa using c
  have a:∀q∈r,q.N≠t.N:=λq k e=>by
   have i:=j.head q k;rw[e]at i;exact c i
  by_cases d:p.N=t.N
  .have g:=(dE _ _).2 d;simp only[yL,b,g,Td];simp[eU a]
  have g:=zD d;simp only[yL,b,g];simp[eU a]
def aDh(b a:Int)(c:List fB)(k:Nat)(h:k<yA c):uD b a (c.take (k+1))=uD b a (c.take k)++if yE (uE b a c[k])=dA then [] else [uE b a c[k]]:=by
 rw[Pa h,uD,Ld,Vf];congr 1;by_cases e:yE (uE b a c[k])=dA
 .rw[Ma e];simp[e]
 rw[Ja e];simp[e]
def aLd(b a:Int)(c:List fB)(k:Nat):yA (uD b a (c.take k))<=yA c:=by grind [uD]
def aFs{t:fB}{b:Bool}{c:List fB}{q:fB}(h:q∈DD t b c):q=t\/q∈c:=by
 induction c generalizing b with
 |nil=>
  unfold DD wV at h;simp only[List.foldl_nil,Mb]at h;cases b with
  |true=>cases h
  |false=>exact Ca (by simpa using h)
 |cons p r e=>
  rw[JC,Ee]at h;obtain h|h:=h
  .unfold yL at h;simp only[Mb,Ee]at h;obtain h|h:=h
   .by_cases d:b=dA
    .rw[Ma d]at h;cases h
    rw[Ja d]at h;by_cases a:uJ p.N t.N=dA
    .rw[Ma a]at h;cases h
    rw[Ja a]at h;exact Ca (by simpa using h)
   by_cases a:(p.N.toList==t.N.toList)=dA
   .rw[Ma a]at h;cases h
   rw[Ja a]at h;exact La (by simp at h;simp[h])
  rcases e h with h|h;exact Ca h;exact La (Sb _ h)
def dL(c:gC)(d:Int)(b:List fB)(a key:nB):List fB×Nat:=
 if (oC a&&kK key)=cA then(b,5)
 else if (xC (·.s) key (xB b a).Z).isSome=dA then(cC (·.N) (vI (xB b a) key d) b,1)
 else if (if (xB b a).L = -1 then c.tl else(xB b a).L)<=(yA (xB b a).Z:Nat)\/((xC (·.N) a b).isNone&&decide (10000<=yA b))=dA then(b,3)
 else if tG (xB b a).M (wD key) c.ml<=(oI wD (xB b a).Z (wD key):Nat) then(b,4)
 else(cC (·.N) (vI (xB b a) key d) b,2)
def aAi{d c:Int}{a:List fB}(h:tM d c a=dA){name:nB}: -1<=(xB a name).L/\(xB a name).L<=1000000:=by
 rcases xL (ts:=a) (name:=name) with⟨b,_⟩|⟨b,_⟩;have:=zI h _ b;simp only[fO,Sa]at this;exact zJ this.1.1.1.2;rw[b];exact⟨by simp,by simp⟩
def WV{c:gC}{d:Int}{b:List fB}(h:kC c d b=dA)(a key:nB):sH c d b a key=(d,(dL c d b a key).1,(dL c d b a key).2):=by
 obtain⟨_,_,_,l,m⟩:=yG h;unfold sH dL;rw[Ja (by rw[h];simp)];by_cases e:(oC a&&kK key)=cA
 .rw[Ma e,Ma e]
 rw[Ja e,Ja e];by_cases g:(xC (·.s) key (xB b a).Z).isSome=dA
 .rw[Ma g,Ma g]
 rw[Ja g,Ja g];have n:(wD key).toList.isEmpty=cA:=by
  have:(oC a&&kK key)=dA:=by simpa using e
  simp only[Sa,kK]at this;simpa using this.2
 have i:kE c (xB b a) kA=(((yA (xB b a).Z:Nat):Int),if (xB b a).L = -1 then c.tl else(xB b a).L):=by
  unfold kE;rw[Ma (show ByteArray.empty.toList.isEmpty=dA by rw[ByteArray.toList_eq];rfl)];have:=(aAi m (name:=a)).1;by_cases k:(xB b a).L = -1
  .rw[Ma k,Ma (by omega)]
  rw[Ja k,Ja (by omega)]
 have j:kE c (xB b a) (wD key)=(((oI wD (xB b a).Z (wD key):Nat):Int),tG (xB b a).M (wD key) c.ml):=by
  unfold kE;rw[Ja (by rw[n];simp)]
 have h:=qp m (name:=a);rw[i,j];simp only;have f:(yE (xB b a)=dA/\yA b=10000) ↔ ((xC (·.N) a b).isNone&&decide (10000<=yA b))=dA:=by
  rw[h,Sa,Ab];cases xC (·.N) a b with
  |none=>simp;omega
  |some q=>simp
 simp only[f];generalize (if (xB b a).L = -1 then c.tl else(xB b a).L)=o;split;rfl;split<;>rfl
def mc{met:nB->nB}{l a:List iB}(h:l.map (·.s)=a.map (·.s))(m:nB):oI met l m=oI met a m:=by
 have:∀l:List iB,oI met l m=yA ((l.map (·.s)).filter λs=>(met s).toList==m.toList):=λl=>by
  unfold oI;rw[List.filter_map,Xa];rfl
 rw[this,this,h]
def EO{a:jC}{f:Nat}{d:List jB}{c k j l:Int}{m b:Bool}(h:sE d c k j l=b)(w:eA)(n:rB w a d)(o:eP d)(g:yA d<=maxLen)(i:qC d<=1000000000):
 vE 16 #[.agg #[pA a (yA d) f,zA c,zA k,zA j,zA l,qA m]] w (qA b):=h ▸ oU a f d c k j l m w n o g i
def lM{a:jC}{f:Nat}{d:List jB}{c k j l:Int}{m b:Bool}(h:sE d c k j l=b)(w:eA)(n:rB w a d)(o:eP d)(g:yA d<=maxLen)(i:qC d<=1000000000):
 vE 39 #[.agg #[pA a (yA d) f,zA c,zA k,zA j,zA l,qA m]] w (qA b):=h ▸ tU a f d c k j l m w n o g i
def rK{a:List jB}{c k b d:Int}(h:sE a c k b d=dA):bI a=dA/\yA a<=1000/\0<=c/\c<=1000000000/\(qC a:Int)<=c/\0<=k/\k<=1000000000000000/\0<=b/\b<=1000000000000000/\0<=d/\d<=1000000000000000:=by grind [sE,bI,qC,zB]
theorem QT(e:List jB)(c k a d:Int)(b:Bool)(f:pK):(kJ e c k a d b f).1<=6:=by grind [kJ,zO,DS]
def uI.set_below{w:eA}{B:Nat}{a:jC}{c:List jB}(h:uI w B a c){p:Addr}(m:p.block<B)(v:iA):uI (w.setCell p v) B a c:=by
 obtain h|⟨g,o,b,t,rfl,e,f,h⟩:=h;exact Ca h;have d:=Below.heap_setCell w p v g (by omega);have l:∀j,(w.setCell p v).cell? (dB g j)=w.cell? (dB g j):=λj=>eA.cell?_of_block d;exact La ⟨g,o,b,t,rfl,e,d.trans f,λi k=>by simp only[l];exact h i k⟩
def LC{w c:eA}{x y z:Array iA}{a b tz:jA}(d:Below (((w.alloc (vA x a)).alloc (vA y b)).alloc (vA z tz)).1.size (((w.alloc (vA x a)).alloc (vA y b)).alloc (vA z tz)) c):
 gB c w.1.size x a/\gB c (w.1.size+1) y b/\gB c (w.1.size+1+1) z tz/\tB w c:=by
 refine⟨?_,?_,?_,vB (vB (vB yB yB) yB) d⟩;exact (gB.z (gB.z (gB.z (g:=w.1.size) (heap_alloc_new w (vA x a)) bD) yB) yB).z d;have h:=gB.z (g:=(w.alloc (vA x a)).1.size) (heap_alloc_new (w.alloc (vA x a)) (vA y b)) (vB yB d);simpa using h;have h:=gB.z (g:=((w.alloc (vA x a)).alloc (vA y b)).1.size) (heap_alloc_new ((w.alloc (vA x a)).alloc (vA y b)) (vA z tz)) d;simpa using h
def vQ(d:List jB)(c k a b:Int)(f:Bool)(e:pK):Nat×List jB×Int×Int×Int×Int×Bool:=
 if (sE d c k a b&&IJ e)=dA then((kJ d c k a b f e).1,(kJ d c k a b f e).2.1,c,(kJ d c k a b f e).2.2.1,a,b,(kJ d c k a b f e).2.2.2) else(6,[],0,0,0,0,cA)
def aOj(R:Nat×List jB×Int×Int×Int×Int×Bool)(a:jC)(b:Nat):iA:=
 .tuple #[.agg #[pA a (yA R.2.1) b,zA R.2.2.1,zA R.2.2.2.1,zA R.2.2.2.2.1,zA R.2.2.2.2.2.1,qA R.2.2.2.2.2.2],zA R.1]
def fE(D:gE)(a:pK):gE×Nat:=
 (⟨(vQ D.fs D.c D.k D.cr D.fl D.dn a).2.1,(vQ D.fs D.c D.k D.cr D.fl D.dn a).2.2.1,(vQ D.fs D.c D.k D.cr D.fl D.dn a).2.2.2.1,(vQ D.fs D.c D.k D.cr D.fl D.dn a).2.2.2.2.1,(vQ D.fs D.c D.k D.cr D.fl D.dn a).2.2.2.2.2.1,(vQ D.fs D.c D.k D.cr D.fl D.dn a).2.2.2.2.2.2⟩,(vQ D.fs D.c D.k D.cr D.fl D.dn a).1)
structure JE(fs:List jB):Prop where
 H:eP fs
 len:yA fs≤1048576
 sum:qC fs≤1000000000
def pO:JE []:=⟨λi h=>absurd h (by simp),by simp,by simp[qC]⟩
def tN(a:List jB)(i:Nat)(f:jB)(h:i<yA a):qC (a.set i f)+a[i].data.size=qC a+f.data.size:=by
 induction a generalizing i with
 |nil=>exact absurd h (by simp)
 |cons g r b=>
  cases i with
  |zero=>simp[qC];omega
  |succ i=>
   have:=b i (by simpa using h);simp only[Jd,Ec,qC];omega
def qm{a:List jB}(i:Nat)(b:i<yA a):a[i].data.size<=qC a:=by
 have c:=gI a i b;have d:=pH a (i+1);omega
def qV{a:List jB}(h:eP a){f:jB}(b:f∈a):f.N.size<=maxLen/\f.data.size<=maxLen:=by
 obtain⟨i,c,rfl⟩:=Ib b;exact h i c
def QO{a:List jB}(h:∀f∈a,f.N.size<=maxLen/\f.data.size<=maxLen):eP a:=λ_ b=>h _ (Gb b)
def IV{a:List jB}(h:eP a){i:Nat}{f:jB}(b:f.N.size<=maxLen/\f.data.size<=maxLen):eP (a.set i f):=by grind [eP]
def ad(a:List jB)(i:Nat):qC (a.eraseIdx i)<=qC a:=by
 induction a generalizing i with
 |nil=>simp
 |cons g r b=>
  cases i with
  |zero=>simp[qC]
  |succ i=>have:=b i;simp only[List.eraseIdx_cons_succ,qC];omega
def qX(a:List jB)(i:Nat)(h:i<yA a):qC (a.eraseIdx i)+a[i].data.size=qC a:=by
 induction a generalizing i with
 |nil=>exact absurd h (by simp)
 |cons g r b=>
  cases i with
  |zero=>simp[qC];omega
  |succ i=>
   have:=b i (by simpa using h);simp only[List.eraseIdx_cons_succ,Ec,qC];omega
def SP(p:jB->Bool)(a:List jB):qC (a.filter p)<=qC a:=by induction a<;>grind [qC]
def ae(a:List jB)(f:jB):qC (lH a f)=qC a+f.data.size:=by induction a<;>grind [qC,lH]
def yq{fs:List jB}{f g:jB}(h:g∈lH fs f):g=f\/g∈fs:=by induction fs<;>grind [lH]
def CY(a:List jB)(i:Nat)(f:jB):qC (dM a i f)=qC a+f.data.size:=by
 have h:=lQ (a.take i) (a.drop i);rw[Za]at h;rw[dM,lQ];simp only[qC];omega
def aKq{a:List jB}{c:Int}{b:pK}(h:JE a)(u:yA a<=1000)(v:c<=1000000000)(q:b.N.size<=maxLen)(s:b.tq.size<=maxLen):JE (zO a c b).2:=by
 have w:(1000000000:Nat)<=maxLen:=by unfold maxLen;omega
 unfold zO;simp only;split
 .split
  .exact h
  split;exact h;refine ⟨QO λf i=>?_,?_,?_⟩
  .simp only[dM,Ee,Lb]at i;obtain i|rfl|i:=i
   .exact qV h.H (Ce i)
   .exact ⟨q,by simp[maxLen]⟩
   exact qV h.H (Ng i)
  .show (yA (dM a _ _))<=_;rw[dM];simp only[Kb,Hb,Zb,Rc];omega
  show qC (dM a _ _)<=_;rw[CY];have:=h.sum;simpa using this
 split;exact h
 rename_i f i;obtain⟨j,rfl⟩:=Pb.1 i;have e:=qV h.H (Gb j);have p:=qm _ j;have y:=h.sum;split
 .exact h
 split
 .split
  .exact h
  rename_i x;have d:=tN a (fC b.N a) ⟨a[fC b.N a].N,a[fC b.N a].data++b.data,a[fC b.N a].Y⟩ j;simp only[Ka]at d;refine⟨IV h.H ⟨e.1,?_⟩,?_,?_⟩
  .show (a[fC b.N a].data++b.data).size<=maxLen;rw[Ka];omega
  .show (yA (a.set _ _))<=_;rw[Pd];omega
  show qC (a.set _ _)<=_;omega
 split
 .have d:=tN a (fC b.N a) ⟨a[fC b.N a].N,a[fC b.N a].data,a[fC b.N a].data.size⟩ j;refine⟨IV h.H e,?_,?_⟩
  .show (yA (a.set _ _))<=_;rw[Pd];omega
  show qC (a.set _ _)<=_;simp only at d;omega
 split
 .split
  .have d:=tN a (fC b.N a) ⟨a[fC b.N a].N,a[fC b.N a].data.extract 0 b.size.toNat,b.size⟩ j;have z:(a[fC b.N a].data.extract 0 b.size.toNat).size<=a[fC b.N a].data.size:=by rw[Je];omega
   refine⟨IV h.H ⟨e.1,?_⟩,?_,?_⟩;show (a[fC b.N a].data.extract 0 b.size.toNat).size<=maxLen;omega;show yA (a.set _ _)<=_;rw[Pd];omega;show qC (a.set _ _)<=_;simp only at d;omega
  exact h
 split
 .have n:yA (a.eraseIdx (fC b.N a))<=yA a:=by rw[Ad];split<;>omega
  have o:=qX a (fC b.N a) j;refine⟨QO λg k=>?_,?_,?_⟩
  .rcases yq (fs:=kD (a.eraseIdx (fC b.N a)) b.tq) (f:=⟨b.tq,a[fC b.N a].data,a[fC b.N a].Y⟩) k with rfl|k
   .exact ⟨s,e.2⟩
   exact qV h.H (Sf (De.1 k).1)
  .show (yA (vH _ _))<=_;have m:∀(l:List jB)(f:jB),yA (lH l f)=yA l+1:=λl f=>by
    induction l with
    |nil=>rfl
    |cons g r t=>unfold lH;split<;>simp[t]
   have:yA (kD (a.eraseIdx (fC b.N a)) b.tq)<=yA (a.eraseIdx (fC b.N a)):=Pc _ _;rw[vH,m];simp only;omega
  .show qC (vH _ _)<=_;have:=SP (λf=>!(f.N.toList==b.tq.toList)) (a.eraseIdx (fC b.N a));rw[vH,ae];simp only[kD];omega
 refine ⟨QO λg k=>qV h.H (Sf k),?_,?_⟩
 .show (yA (a.eraseIdx _))<=_;rw[Ad];split<;>omega
 show qC (a.eraseIdx _)<=_;have:=ad a (fC b.N a);omega
theorem eV{D:gE}{op:pK}(h:JE D.fs)(e:op.N.size<=maxLen)(f:op.tq.size<=maxLen):JE (fE D op).1.fs:=by
 show JE (vQ D.fs D.c D.k D.cr D.fl D.dn op).2.1;unfold vQ;split
 .rename_i a;simp only[Sa]at a;obtain⟨_,b,_,d,_⟩:=rK a.1;unfold kJ;split
  .exact aKq h b d e f
  exact h
 exact pO
def iJ(L:mG):Bool:=zB L.last 1 999999&&zB L.first 1 L.last&&zB L.size 0 1000000000
def vG(n:Int):pK:=⟨1,gK n,⟨#[]⟩,⟨#[]⟩,0⟩
def kI(n:Int)(f:nB):pK:=⟨2,gK n,⟨#[]⟩,f,0⟩
def uS(n:Int):pK:=⟨3,gK n,⟨#[]⟩,⟨#[]⟩,0⟩
def xH(D:gE)(L:mG)(f:nB):gE×mG×Nat:=
 if (fE D (kI L.last f)).2≠0 then((fE D (kI L.last f)).1,L,(fE D (kI L.last f)).2)
 else if (fE (fE D (kI L.last f)).1 (uS L.last)).2≠0 then((fE (fE D (kI L.last f)).1 (uS L.last)).1,L,(fE (fE D (kI L.last f)).1 (uS L.last)).2)
 else((fE (fE D (kI L.last f)).1 (uS L.last)).1,⟨L.first,L.last,L.size+f.size⟩,0)
def pE(D:gE)(L:mG)(p:nB)(a:Int):gE×mG×Nat:=
 if (iJ L&&zB a 1 1000000000)=cA then(D,L,21)
 else if mF p=kA then(D,L,22)
 else if L.size≠0/\a<L.size+(mF p).size then
  if L.last=999999 then(D,L,23)
  else if (fE D (vG (L.last+1))).2≠0 then((fE D (vG (L.last+1))).1,L,(fE D (vG (L.last+1))).2)
  else xH (fE D (vG (L.last+1))).1 ⟨L.first,L.last+1,0⟩ (mF p)
 else xH D L (mF p)
def lj{D b:gE}{L:mG}{p F:nB}{a:Int}{x:Nat}(g:mF p=F)(c:¬(iJ L&&zB a 1 1000000000)=cA)(d:¬mF p=kA)(e:L.size≠0/\a<L.size+F.size)(f:¬L.last=999999)(h:fE D (vG (L.last+1))=(b,x)):
 pE D L p a=if x≠0 then(b,L,x) else xH b ⟨L.first,L.last+1,0⟩ F:=by
 subst g;unfold pE;rw[Ja c,Ja d,Ma e,Ja f,h]
def zV{D a:gE}{L:mG}{f:nB}{x:Nat}(b:fE D (kI L.last f)=(a,x))(c:¬x=0):xH D L f=(a,L,x):=by
 unfold xH;rw[b,Ma c]
def aW{D c a:gE}{L:mG}{f:nB}{x y:Nat}(d:fE D (kI L.last f)=(c,x))(e:x=0)(b:fE c (uS L.last)=(a,y)):xH D L f=if y≠0 then(a,L,y) else(a,⟨L.first,L.last,L.size+f.size⟩,0):=by
 unfold xH;rw[d,Ja (by simp[e])];simp only;rw[b]
def uO(r:qE):Prop:=r.T.size<=255/\r.X.size<=65535/\((r.K=1/\r.U=0)\/(r.K=2/\r.T.size=0/\r.X.size=0)\/r.K=3)
def rcD(r:qE):Decidable (uO r):=by unfold uO;exact inferInstance
def bg(r:qE):Bool:=@decide (uO r) (rcD r)
theorem VP{r:qE}(h:uO r):bg r=dA:=@Ac _ (rcD r) h
theorem BB{r:qE}(h:¬uO r):bg r=cA:=@Ub _ (rcD r) h
def XX(r:qE):nB:=qB 1 r.K++xM r.T++vF r.X++qB 8 r.U
def sM:List qE->nB
 |[]=>kA
 |r::q=>XX r++sM q
def ur(a:List qE):Prop:=∀i(h:i<yA a),uO a[i]
def AP(a:Int)(b:List qE):Prop:=1<=a/\a<=1000000000000000/\1<=yA b/\yA b<=500/\ur b
def LR(a:Int)(n:Nat):nB:=qB 8 a++qB 2 (n:Nat)
def aMz(a:Int)(b:List qE):Decidable (AP a b):=by unfold AP ur uO;exact inferInstance
def cR(a:Int)(b:List qE):nB:=haveI:=aMz a b;if AP a b then LR a (yA b)++sM b else kA
def XD{a:Int}{b:List qE}(h:AP a b):cR a b=LR a (yA b)++sM b:=by unfold cR;rw[Ma h]
def LQ{lsn:Int}{rs:List qE}(h:¬AP lsn rs):cR lsn rs=kA:=by unfold cR;rw[Ja h]
def DZ:∀(a b:List qE),sM (a++b)=sM a++sM b
 |[],b=>by simp[sM]
 |r::q,b=>by
  show XX r++sM (q++b)=XX r++sM q++sM b;rw[DZ q b,Wa]
def mr(a:List qE)(k:Nat)(h:k<yA a):sM (a.take (k+1))=sM (a.take k)++XX a[k]:=by
 rw[Pa h,DZ];simp[sM]
def wh(r:qE):(XX r).size=12+r.T.size+r.X.size:=by grind [XX,kB,lF,bF]
def XE(a:Int)(n:Nat):(LR a n).size=10:=by unfold LR;rw[Ka,kB,kB]
def qz{b:List qE}{k:Nat}(d:k<yA b)(h:¬uO b[k])(a:Int):cR a b=kA:=LQ λc=>h (c.2.2.2.2 k d)
def jI(b a:Int)(left:nB->Bool)(c:List fB):List fB:=(c.map λt=>if left t.N=dA then t else uE b a t).filter λt=>left t.N||!yE t
def gp{win now:Int}{left:nB->Bool}(t:fB):(if left t.N=dA then t else uE win now t).N=t.N:=by split<;>rfl
def yv{b a:Int}{left:nB->Bool}{c:List fB}(h:∀t∈c,left t.N=dA):jI b a left c=c:=by
 have e:c.map (λt=>if left t.N=dA then t else uE b a t)=c:=by
  have:∀t∈c,(if left t.N=dA then t else uE b a t)=id t:=λt d=>by rw[Ma (h t d)];rfl
  rw[Ge this,List.map_id]
 unfold jI;rw[e];exact Jc.2 λt d=>by rw[h t d];rfl
def ov{b a:Int}{left:nB->Bool}{c:List fB}(h:∀n,left n=cA):jI b a left c=uD b a c:=by
 unfold jI uD;simp only[h,Rf,Bd,Cf]
theorem sS{b a:Int}{left:nB->Bool}{p:fB}{r:List fB}:jI b a left (p::r)=if (left p.N||!yE (if left p.N=dA then p else uE b a p))=dA then(if left p.N=dA then p else uE b a p):: jI b a left r else jI b a left r:=by
 unfold jI;rw[Fc,List.filter_cons,gp]
def VF{b a:Int}{left:nB->Bool}{c:List fB}{q:fB}(h:q∈jI b a left c):∃t∈c,q=(if left t.N=dA then t else uE b a t)/\q.N=t.N:=by grind [jI,uE]
def gn{c b:Int}{left a:nB->Bool}{d:List fB}(h:∀t∈d,left t.N=a t.N):jI c b left d=jI c b a d:=by induction d<;>grind [jI,sS]
theorem ow{b a:Int}{left c:nB->Bool}{j:List fB}(v:sC (·.N) j){t:fB}(o:t∈j)(C:left t.N=dA)(k:∀n,c n=(left n&&!(n.toList==t.N.toList))):
 jI b a c j=if yE (uE b a t)=dA then rE (·.N) t.N (jI b a left j) else cC (·.N) (uE b a t) (jI b a left j):=by
 induction j with
 |nil=>cases o
 |cons p r E=>
  have i:c t.N=cA:=by rw[k,(dE t.N t.N).2 rfl];simp
  have f:∀n,n≠t.N->c n=left n:=λn g=>by rw[k,zD g];simp
  rcases Lb.1 o with rfl|o
  .have h:jI b a c r=jI b a left r:=gn λq m=>f q.N (λe=>eJ (v.head q m) e.symm);have g:∀q∈jI b a left r,q.N≠t.N:=λq m=>by
    obtain⟨s,D,_,e⟩:=VF m;rw[e];exact λB=>eJ (v.head s D) B.symm
   rw[sS,sS,i,C,h];simp only[Bd,Cf,Rf,Td,Bool.true_or];by_cases d:yE (uE b a t)=dA
   .rw[Ma d,d];have z:rE (·.N) t.N (jI b a left r)=jI b a left r:=Jc.2 λq m=>by rw[zD (g q m)];rfl
    unfold rE at z |-
    rw[A0 (by simp),z];simp
   have w:yE (uE b a t)=cA:=by simpa using d
   rw[Ja d,w,Ma (by rfl),cC,Ja (by show ¬uJ t.N t.N=dA;rw[mN];simp),Ma (by exact(dE t.N t.N).2 rfl)]
  .have y:=v.head t o;have l:=eJ y;have x:=E v.tail o;rw[sS,sS,f p.N l,x];by_cases u:(left p.N||!yE (if left p.N=dA then p else uE b a p))=dA
   .rw[Ma u,Ma u];have A:=gp (win:=b) (now:=a) (left:=left) p;generalize (if left p.N=dA then p else uE b a p)=q at *;by_cases d:yE (uE b a t)=dA
    .rw[Ma d,Ma d];unfold rE;rw[Wc (by show(!(q.N.toList==t.N.toList))=dA;rw[A,zD l];rfl)]
    rw[Ja d,Ja d,cC,Ma (by show uJ q.N t.N=dA;rw[A];exact y)]
   rw[Ja u,Ja u]
def mK(c b:Int)(d:List fB)(a:Int):Int×List fB×Bool:=if a<1\/1000000000000-b<a then(b,d,cA) else(b+a,uD c (b+a) d,dA)
def km{c:gC}{a:Int}{d:List fB}(h:kC c a d=dA)(b:Int):uV c a d b=mK c.w a d b:=by
 unfold uV mK;rw[Ja (by rw[h];simp)]
def xz{b a u:Int}{t:fB}{c:List iB}(h:u=a-b)(f:c.filter (λp=>decide (u<p.n))=t.Z.filter (λp=>decide (u<p.n)))(d:∀p∈c,u<p.n):uE b a t=⟨t.N,t.L,t.M,c⟩:=by
 unfold uE;have e:(λp:iB=>decide (a-p.n<b))=λp=>decide (u<p.n):=by
  funext p;rw[decide_eq_decide];omega
 rw[e,<-f,Jc.2 λp g=>Ac (d p g)]
def NI{α:Type}{key:α->nB}{l:List α}(b:sC key l){a:α}(h:a∈l):(a::rE key (key a) l).Perm l:=by
 induction l with
 |nil=>cases h
 |cons p r c=>
  unfold rE at c |-
  rcases Lb.1 h with rfl|h
  .rw[A0 (by simp)];have:r.filter (λq=>!((key q).toList==(key a).toList))=r:=Jc.2 λq d=>by rw[zD (λe=>eJ (b.head q d) e.symm)];rfl
   rw[this]
  rw[Wc (by rw[zD (eJ (b.head a h))];rfl)];exact(List.Perm.swap _ _ _).trans ((c b.tail h).cons p)
def ck{met:nB->nB}{l:List iB}(a:sC (·.s) l){p:iB}(h:p∈l)(m:nB):oI met l m=oI met (rE (·.s) p.s l) m+if met p.s=m then 1 else 0:=by
 rw[<-TU];exact TW (NI a h).symm m
theorem MQ{f:Nat->Bool}{n:Nat}(h:∀k,k<n->f k=dA):dI f n=dA:=by induction n<;>grind [dI,gL]
theorem QF{l:List iB}(b:sC (·.s) l){k:Nat}(a:k<yA l):wL l k=dA:=by
 cases k with
 |zero=>rfl
 |succ k=>
  rw[xS (by omega) a];have:=Qe.1 b k (k+1) (by omega) a (by omega);simpa using this
theorem pr{l:List fB}(b:sC (·.N) l){k:Nat}(a:k<yA l):yN l k=dA:=by
 cases k with
 |zero=>rfl
 |succ k=>
  rw[nV (by omega) a];have:=Qe.1 b k (k+1) (by omega) a (by omega);simpa using this
def gm{a:List iB}(b:sC (·.s) a)(h:∀m∈a,xE m.s=dA/\zB m.n 0 1000000=dA):tL a=dA:=by grind [sC,xE,zB,tL,MQ,xY,QF]
def jd{b a:Int}{c:List iB}(d:sC (·.s) c)(h:∀x∈c,kK x.s=dA/\zB x.n 0 a=dA/\a-x.n<b):bL b a c=dA:=by grind [sC,kK,zB,bL,MQ,pV,QF]
theorem RA{b a:Int}{c:List fB}(d:sC (·.N) c)(h:∀t∈c,fO b a t=dA):tM b a c=dA:=by grind [sC,fO,tM,MQ,fT,pr]
def aQ{c:gC}{a:Int}{b:List fB}(d:cF c=dA)(e:zB a 0 1000000000000=dA)(f:yA b<=10000)(g:tM c.w a b=dA):kC c a b=dA:=by
 unfold kC;rw[d,e,g,Ac f];rfl
def LZ{a:List iB}(h:tL a=dA):(∀m∈a,xE m.s=dA/\zB m.n 0 1000000=dA)/\sC (·.s) a:=by
 refine⟨λm c=>?_,?_⟩;obtain ⟨i,b,rfl⟩:=Ib c;have:=zM h b;rw[xY b]at this;simp only[Sa]at this;exact⟨this.1.2,this.2⟩;have:=IG (n:=yA a) h (Ia _);rwa [Rb]at this
def FU{b a:Int}{c:List iB}(h:bL b a c=dA):(∀x∈c,kK x.s=dA/\zB x.n 0 a=dA/\a-x.n<b)/\sC (·.s) c:=by
 refine⟨λx e=>?_,?_⟩;obtain ⟨i,d,rfl⟩:=Ib e;have:=zM h d;rw[pV d]at this;simp only[Sa,Ab]at this;exact⟨this.1.1.2,this.1.2,this.2⟩;have:=IU (n:=yA c) h (Ia _);rwa [Rb]at this
def GB{b a:Int}{t:fB}(h:fO b a t=dA):oC t.N=dA/\zB t.L (-1) 1000000=dA/\tL t.M=dA/\bL b a t.Z=dA/\yE t=cA:=by grind [fO,oC,zB,tL,bL,yE]
def an{b a:Int}{t:fB}(c:oC t.N=dA)(d:zB t.L (-1) 1000000=dA)(e:tL t.M=dA)(f:bL b a t.Z=dA)(g:yE t=cA):fO b a t=dA:=by
 unfold fO;rw[c,d,e,f,g];rfl
def GR{n a b:Int}(c:a<=n)(d:n<=b):zB n a b=dA:=by
 unfold zB;rw[Ac c,Ac d];rfl
def uc{c:gC}(h:cF c=dA):1<=c.w/\c.w<=1000000000:=by
 simp only[cF,Sa]at h;exact zJ h.1.1.1.1.1
def cU{c b:Int}{a:List fB}(h:tM c b a=dA){name:nB}:zB (xB a name).L (-1) 1000000=dA/\tL (xB a name).M=dA/\bL c b (xB a name).Z=dA:=by
 rcases xL (ts:=a) (name:=name) with⟨d,_⟩|⟨d,_⟩;obtain ⟨_,e,f,g,_⟩:=GB (zI h _ d);exact⟨e,f,g⟩;rw[d];exact⟨rfl,rfl,rfl⟩
def YL{b:List fB}{t:fB}(d:sC (·.N) b)(e:yA b<=10000)(h:((xC (·.N) t.N b).isNone&&decide (10000<=yA b))=cA):yA (cC (·.N) t b)<=10000:=by
 have c:=EW (a:=t) d;cases hg:xC (·.N) t.N b with
 |some q=>simp only[hg,Wf,Td]at c;omega
 |none=>
  rw[hg]at h;simp only[hg,Xf,Bd,Cf]at c;simp only[Option.isNone_none,Oc,Xe]at h;omega
def OT{b a:Int}{c:List fB}{t:fB}(h:tM b a c=dA)(d:fO b a t=dA):tM b a (cC (·.N) t c)=dA:=by grind [tM,fO,cC,RA,dK,mQ,sK,zI]
def qv{c:gC}{b:Int}{d:List fB}(f:kC c b d=dA){a key:nB}(e:(oC a&&kK key)=dA):fO c.w b (vI (xB d a) key b)=dA:=by
 obtain⟨i,h,p,q,j⟩:=yG f;obtain⟨k,l,m⟩:=cU j (name:=a);obtain⟨n,o⟩:=FU m;rw[Sa]at e;refine an (by show oC (xB d a).N=dA;rw[cG];exact e.1) k l ?_ TF;refine jd (dK o) λx g=>?_;rcases sK (show x∈cC (·.s) ⟨key,b⟩ (xB d a).Z from g) with rfl|g
 .exact ⟨e.2,GR h (Xd _),by have:=(uc i).1;show b-b<_;omega⟩
 exact n x g
theorem qx{c:gC}{d:Int}{b:List fB}(f:kC c d b=dA){a key:nB}(g:(dL c d b a key).2=1\/(dL c d b a key).2=2):kC c d (dL c d b a key).1=dA:=by
 obtain⟨p,v,w,r,m⟩:=yG f;have o:=GR v w;have t:=mQ m;have i:(vI (xB b a) key d).N=a:=cG;unfold dL at g |-
 by_cases k:(oC a&&kK key)=cA
 .rw[Ma k]at g;omega
 rw[Ja k]at g |-
 have h:(oC a&&kK key)=dA:=by simpa using k
 by_cases j:(xC (·.s) key (xB b a).Z).isSome=dA
 .rw[Ma j];refine aQ p o (YL t r ?_) (OT m (qv f h));rw[i];rcases xL (ts:=b) (name:=a) with⟨_,u⟩|⟨e,_⟩
  .cases hg:xC (·.N) a b with
   |none=>rw[hg]at u;cases u
   |some q=>rfl
  rw[e]at j;cases j
 rw[Ja j]at g |-
 by_cases l:(if (xB b a).L = -1 then c.tl else(xB b a).L)<=(yA (xB b a).Z:Nat)\/((xC (·.N) a b).isNone&&decide (10000<=yA b))=dA
 .rw[Ma l]at g;omega
 rw[Ja l]at g |-
 by_cases n:tG (xB b a).M (wD key) c.ml<=(oI wD (xB b a).Z (wD key):Nat)
 .rw[Ma n]at g;omega
 rw[Ja n];refine aQ p o (YL t r ?_) (OT m (qv f h));rw[i];cases hd:((xC (·.N) a b).isNone&&decide (10000<=yA b)) with
 |false=>rfl
 |true=>exact absurd (La hd) l
theorem aIu{c:gC}{k:Int}{g:List fB}(f:kC c k g=dA){a b:nB}{d:Int}:kC c k (uR g a b d).1=dA:=by
 obtain⟨v,C,D,w,l⟩:=yG f;have u:=GR C D;have y:=mQ l;obtain⟨E,z,F⟩:=cU l (name:=a);obtain⟨A,B⟩:=LZ z;unfold uR;by_cases n:(oC a&&(b.toList.isEmpty||xE b) &&zB d (-1) 1000000)=cA
 .rw[Ma n];exact f
 rw[Ja n];have e:=(Bool.not_eq_false _).mp n;simp only[Sa]at e;by_cases o:yE (qH (xB g a) b d)=dA
 .rw[Ma o];refine aQ v u (Ua (Pc _ _) w) (RA (nP y) λt s=>zI l t (xR.1 s).1)
 rw[Ja o];by_cases p:((xC (·.N) a g).isNone&&decide (10000<=yA g))=dA
 .rw[Ma p];exact f
 rw[Ja p];have j:(qH (xB g a) b d).N=a:=by rw[uP,cG]
 refine aQ v u (YL y w (by rw[j];simpa using p)) (OT l ?_);refine an (by rw[j];exact e.1.1) ?_ ?_ (by rw[VA];exact F) (by simpa using o)
 .unfold qH;split
  .exact e.2
  exact E
 unfold qH;split;exact z
 rename_i q;have r:xE b=dA:=by
  have:=e.1.2;rw[Fe]at this;obtain h|h:=this;exact absurd h q;exact h
 simp only;split
 .exact gm (nP B) λm i=>A m (xR.1 i).1
 rename_i x;refine gm (dK B) λm i=>?_;rcases sK i with rfl|i
 .have:=zJ e.2;exact⟨r,GR (by show 0<=d;omega) this.2⟩
 exact A m i
theorem aFn{c:gC}{a:Int}{d:List fB}(e:kC c a d=dA){b:Int}:kC c (mK c.w a d b).1 (mK c.w a d b).2.1=dA:=by
 obtain⟨k,D,E,l,h⟩:=yG e;have n:=mQ h;unfold mK;split;exact e
 rename_i F;have f:yA (uD c.w (a+b) d)<=yA d:=by
  unfold uD;have:=Pc (λt=>!yE t) (d.map (uE c.w (a+b)));rw[Xa]at this;exact this
 refine aQ k (GR (by omega) (by omega)) (Ua f l) (RA ?_ λt g=>?_);exact Mf _ (Te.2 n);obtain ⟨i,j⟩:=De.1 g;obtain⟨q,m,rfl⟩:=Md.1 i;obtain⟨p,r,s,u,_⟩:=GB (zI h q m);obtain⟨v,y⟩:=FU u;refine an p r s (jd (Mf _ y) λx o=>?_) (by simpa using j);obtain⟨z,A⟩:=De.1 o;obtain⟨B,C,_⟩:=v x z;have:=zJ C;exact⟨B,GR this.1 (by omega),by simpa using A⟩
def mE(c:gC)(a:Int)(b:List fB)(r:qE):Int×List fB×Bool:=
 if r.K=1 then(a,(dL c a b r.T r.X).1,decide ((dL c a b r.T r.X).2=1) ||decide ((dL c a b r.T r.X).2=2))
 else if r.K=2 then mK c.w a b r.U
 else if r.K=3 then(a,(uR b r.T r.X r.U).1,(uR b r.T r.X r.U).2)
 else(a,b,cA)
def bG(c:gC):Int->List fB->List qE->Int×List fB×Bool
 |a,b,[]=>(a,b,dA)
 |a,b,r::d=>if (mE c a b r).2.2=dA then bG c (mE c a b r).1 (mE c a b r).2.1 d else((mE c a b r).1,(mE c a b r).2.1,cA)
def rG(c:gC)(a:Int)(b:List fB)(d:List qE):Int×List fB×Bool:=
 if kC c a b=cA then(0,[],cA) else if 500<yA d then(a,b,cA) else if (bG c a b d).2.2=dA then bG c a b d else(a,b,cA)
def GA{c:gC}{a:Int}{b:List fB}(h:kC c a b=dA){r:qE}(d:(mE c a b r).2.2=dA):kC c (mE c a b r).1 (mE c a b r).2.1=dA:=by grind [kC,mE,qx,aFn,aIu]
theorem FJ{p:iB}(l:List iB):yD (cC (·.s) p l)<=yD l+p.s.size/\yA (cC (·.s) p l)<=yA l+1:=by induction l<;>grind [yD,cC]
theorem mX(f:iB->Bool)(l:List iB):yD (l.filter f)<=yD l/\yA (l.filter f)<=yA l:=by induction l<;>grind [yD]
theorem sX(f:fB->Bool)(l:List fB):aC (l.filter f)<=aC l/\yA (l.filter f)<=yA l:=by induction l<;>grind [aC]
def GC{a:List fB}(f:sC (·.N) a){t:fB}{k:Nat}(h:aF t<=aF (xB a t.N)+k):yA (cC (·.N) t a)+aC (cC (·.N) t a)<=yA a+aC a+1+t.N.size+k:=by
 have g:aF ⟨t.N,-1,[],[]⟩=t.N.size:=by simp[aF,yD]
 have key:(∃q∈a,q.N=t.N/\aF t<=aF q+k)\/(aF t<=t.N.size+k):=by
  rcases xL (ts:=a) (name:=t.N) with⟨m,_⟩|⟨e,_⟩;exact Ca ⟨_,m,cG,h⟩;rw[e,g]at h;exact La h
 clear h g;obtain⟨q,c,d,j⟩|j:=key
 .have:yA (cC (·.N) t a)+aC (cC (·.N) t a)<=yA a+aC a+k:=by
   induction a with
   |nil=>cases c
   |cons p r i=>
    rw[cC];rcases Lb.1 c with rfl|c;rw[Ja (by rw[d,mN];simp),Ma ((dE _ _).2 d)];simp only[Zb,aC];omega;have b:=f.head q c;simp only[d]at b;rw[Ma b];have:=i f.tail c;simp only[Zb,aC];omega
  omega
 .have:∀l:List fB,yA (cC (·.N) t l)+aC (cC (·.N) t l)<=yA l+aC l+1+aF t:=λl=>by
   induction l with
   |nil=>simp[cC,aC]
   |cons p r i=>
    rw[cC];split;simp only[Zb,aC];omega;split<;>(simp only[Zb,aC];omega)
  have:=this a;omega
def um{c:List fB}{a key:nB}{b:Int}:aF (vI (xB c a) key b)<=aF (xB c (vI (xB c a) key b).N)+(1+key.size):=by grind [aF,vI,xB,cG,FJ]
def yj{d:List fB}{b a:nB}{c:Int}:aF (qH (xB d b) a c)<=aF (xB d (qH (xB d b) a c).N)+(1+a.size):=by grind [aF,qH,xB,yD,rE,uP,cG,FJ,mX]
def ya{win now:Int}(a:List fB):yA (uD win now a)+aC (uD win now a)<=yA a+aC a:=by induction a<;>grind [uD,aC,yE,uE,aF,sX,mX]
def eX{c:gC}{b:Int}{a:List fB}(h:kC c b a=dA)(r:qE):yA (mE c b a r).2.1+aC (mE c b a r).2.1<=yA a+aC a+2+r.T.size+r.X.size:=by
 have g:=mQ (yG h).2.2.2.2;have d:yA a+aC a<=yA a+aC a+2+r.T.size+r.X.size:=by omega
 have f:yA (cC (·.N) (vI (xB a r.T) r.X b) a)+aC (cC (·.N) (vI (xB a r.T) r.X b) a)<=yA a+aC a+2+r.T.size+r.X.size:=by
  have:=GC g (t:=vI (xB a r.T) r.X b) um;have e:(vI (xB a r.T) r.X b).N=r.T:=cG;rw[e]at this;omega
 have i:yA (cC (·.N) (qH (xB a r.T) r.X r.U) a)+aC (cC (·.N) (qH (xB a r.T) r.X r.U) a)<=yA a+aC a+2+r.T.size+r.X.size:=by
  have:=GC g (t:=qH (xB a r.T) r.X r.U) yj;have e:(qH (xB a r.T) r.X r.U).N=r.T:=by rw[uP,cG]
  rw[e]at this;omega
 unfold mE;split
 .unfold dL;split
  .exact d
  split;exact f;generalize (if (xB a r.T).L = -1 then c.tl else(xB a r.T).L)=j;split;exact d;split;exact d;exact f
 split
 .unfold mK;split
  .exact d
  have:=ya (win:=c.w) (now:=b+r.U) a;show(uD c.w (b+r.U) a).length+aC (uD c.w (b+r.U) a)<=_;omega
 split
 .unfold uR;split
  .exact d
  split;have:=sX (λp=>!((λq:fB=>q.N) p).toList==r.T.toList) a;show(rE (·.N) r.T a).length+aC (rE (·.N) r.T a)<=_;unfold rE;omega;split;exact d;exact i
 exact d
def VU{c:gC}:∀{rs:List qE}{now:Int}{ts:List fB},kC c now ts=dA->yA (bG c now ts rs).2.1+aC (bG c now ts rs).2.1<=yA ts+aC ts+2*yA rs+dD rs
 |[],now,ts,_=>by simp[bG,dD]
 |r::rs,now,ts,h=>by
  have b:=eX h r;rw[bG];simp only[Zb,dD];split
  .rename_i a;have d:=VU (rs:=rs) (GA h a);omega
  show yA (mE c now ts r).2.1+aC (mE c now ts r).2.1<=_;omega
def VW{c:gC}{a:Int}{d:List fB}{b:List qE}{k:Nat}(e:k<yA b)(f:(mE c a d b[k]).2.2=dA):bG c a d (b.drop k)=bG c (mE c a d b[k]).1 (mE c a d b[k]).2.1 (b.drop (k+1)):=by
 rw[Cb e,bG,Ma f]
def VX{c:gC}{a:Int}{d:List fB}{b:List qE}{k:Nat}(e:k<yA b)(f:(mE c a d b[k]).2.2=cA):bG c a d (b.drop k)=((mE c a d b[k]).1,(mE c a d b[k]).2.1,cA):=by
 rw[Cb e,bG,Ja (by rw[f];decide)]
def FN(a:List qE){k:Nat}(b:k<yA a):dD (a.drop k)=a[k].T.size+a[k].X.size+dD (a.drop (k+1)):=by
 rw[Cb b,dD]
def uL(t:iB)(s:List iB×Bool)(p:iB):List iB×Bool:=
 (s.1++(if s.2=dA then [] else if uJ p.s t.s=dA then [] else [t])++(if (p.s.toList==t.s.toList)=dA then [] else [p]),if s.2=dA then dA else !uJ p.s t.s)
def kX(t:iB)(b:Bool)(a:List iB):List iB×Bool:=a.foldl (uL t) ([],b)
def ib(t:iB)(b:Bool)(a:List iB):List iB:=(kX t b a).1++if (kX t b a).2=dA then [] else [t]
def pe(t:iB)(b:Bool)(a:List iB)(k:Nat)(h:k<yA a):kX t b (a.take (k+1))=uL t (kX t b (a.take k)) a[k]:=by
 rw[Pa h,kX,Dg];rfl
theorem zh(t:iB)(c:List iB):∀(a:List iB)(b:Bool),c.foldl (uL t) (a,b)=(a++(c.foldl (uL t) ([],b)).1,(c.foldl (uL t) ([],b)).2):=by induction c<;>grind [uL]
def VJ(t p:iB)(r:List iB)(b:Bool):ib t b (p::r)=(uL t ([],b) p).1++ib t (uL t ([],b) p).2 r:=by grind [ib,uL,kX,zh]
def wT(t:iB)(c:List iB):ib t dA c=rE (·.s) t.s c:=by
 induction c with
 |nil=>rfl
 |cons p r d=>
  rw[VJ];by_cases b:(p.s.toList==t.s.toList)=dA
  .simp only[uL,b,Td,Mb,d];unfold rE;rw[A0 (by rw[b];simp)]
  have a:(p.s.toList==t.s.toList)=cA:=by simpa using b
  simp only[uL,a,Td,Mb,d];unfold rE;rw[Wc (by rw[a];rfl)];rfl
def ic{t:iB}{g:List iB}(l:sC (·.s) g):ib t cA g=cC (·.s) t g:=by
 induction g with
 |nil=>rfl
 |cons p r m=>
  have j:=m l.tail;rw[VJ,cC];by_cases d:uJ p.s t.s=dA
  .have f:(p.s.toList==t.s.toList)=cA:=zD (eJ d);simp only[uL,d,f,Td];simp[j]
  have c:uJ p.s t.s=cA:=by simpa using d
  have b:∀q∈r,q.s≠t.s:=λq i e=>by
   have k:=l.head q i;rw[e]at k;exact d k
  have a:rE (·.s) t.s r=r:=Jc.2 λq i=>by rw[zD (b q i)];rfl
  by_cases f:p.s=t.s
  .have h:(p.s.toList==t.s.toList)=dA:=(dE _ _).2 f;simp only[uL,c,h,Td];simp[wT,a]
  have h:(p.s.toList==t.s.toList)=cA:=zD f;simp only[uL,c,h];simp[wT,a]
def aDr{t:fB}{a:nB}{limit:Int}(c:sC (·.s) t.M)(b:a.toList.isEmpty=cA):qH t a limit=⟨t.N,t.L,ib ⟨a,limit⟩ (decide (limit<0)) t.M,t.Z⟩:=by
 unfold qH;rw[Ja (by rw[b];simp)];by_cases h:limit<0
 .rw[Ma h,Ac h,wT]
 rw[Ja h,Ub h,ic c]
def bW(w:eA)(cs:Array iA)(t:jA):gB (w.alloc (vA cs t)) w.1.size cs t:=heap_alloc_new _ _
def DG(a:jC)(c:List jB)(P:Nat):Prop:=c=[]\/∃b o,a=some (dB b o)/\b≠P
def jO{w a:eA}{cs:Array iA}{t:jA}(h:Below (w.alloc (vA cs t)).1.size (w.alloc (vA cs t)) a):gB a w.1.size cs t:=(bW w cs t).z h
def cY{w:eA}{P:Nat}{i j k l m n a b c d e f:iA}{t:jA}(h:gB w P #[i,j,k,l,m,n] t):
 gB ((((((w.setCell (dB P 0) a).setCell (dB P 1) b).setCell (dB P 2) c).setCell (dB P 3) d).setCell (dB P 4) e).setCell (dB P 5) f) P #[a,b,c,d,e,f] t:=by
 have g:=(((((h.set 0 a).set 1 b).set 2 c).set 3 d).set 4 e).set 5 f;simpa using g
def iL{w a:eA}{cs:Array iA}{t:jA}(h:Below (w.alloc (vA cs t)).drew.1.size (w.alloc (vA cs t)).drew a):gB a w.1.size cs t:=(bW w cs t).z ⟨h.os,h.tape,h.output,h.size,h.block⟩
def lh{w:eA}{a:jC}{d:List jB}{P:Nat}{t:jA}(h:rB w a d)(j:gB w P #[pA none 0 0,zA 0,zA 0,zA 0,zA 0,qA cA] t):DG a d P:=by
 obtain h|⟨b,o,e,_,h⟩:=h;exact Ca h
 by_cases f:d=[]
 .exact Ca f
 refine La ⟨b,o,e,λg=>?_⟩;subst g;have i:0<yA d:=by
  cases d with
  |nil=>exact absurd rfl f
  |cons _ _=>simp
 have c:=(h 0 i).1;rw[j.cell]at c;simp only[Nat.zero_mul,Bg]at c;match o,c with
 |0,c=>simp at c
 |1,c=>simp at c
 |2,c=>simp at c
 |3,c=>simp at c
 |4,c=>simp at c
 |5,c=>simp at c
 |n+6,c=>simp at c
def pJ{w:eA}{P:Nat}(a b c d e f:iA):
 pD P w ((((((w.setCell (dB P 0) a).setCell (dB P 1) b).setCell (dB P 2) c).setCell (dB P 3) d).setCell (dB P 4) e).setCell (dB P 5) f):=
 ((((((pD.refl P w).setCell 0 a).setCell 1 b).setCell 2 c).setCell 3 d).setCell 4 e).setCell 5 f
def rB.apart{w e:eA}{P:Nat}{a:jC}{c:List jB}(h:rB w a c)(f:DG a c P)(g:pD P w e):rB e a c:=by
 obtain i|⟨b,o,rfl,d⟩:=f;exact Ca i;exact h.but g d
def zQ(n:Int)(w:eA):
 vE 106 #[zA n] w (oA (gK n)):=by
 by_cases h:1<=n/\n<=999999
 .have k:zB n 1 999999=dA:=by unfold zB;simp;omega
  have E:bB (gK n=ZN n.toNat):=Ma h;obtain⟨N,rfl⟩:=Yf (show 0<=n by omega);have o:N<=999999:=by omega
  have p:=aBx;clear h;go_enter func106,ntmps106;go_wp2_with(go_at_call 90;apply cO (qD _ _ _ _));go_loopw [0,3,4] (λm s i wr=>∃(j M:Nat)(c:nB),j<=6/\i=zA j/\m=zA M/\s=oA c/\bB (M=N / 10 ^ j)/\M<=999999/\c.size=j/\bB (c.data.toList=CR N j)/\tB w wr) (λ_ _ i _=>6-(intOf i).toNat)
  case atStart=>exact⟨0,N,kA,by omega,rfl,rfl,rfl,by show _=_;simp,o,rfl,rfl,bD⟩
  case round=>
   obtain⟨j,M,c,r,rfl,rfl,rfl,g,l,d,b,a⟩:=hrel;by_cases q:j<6
   .go_wp2;refine⟨⟨j+1,M / 10,_,by omega,by go_num,by go_num,rfl,?_,by omega,?_,?_,vB a yB⟩,by simp[intOf];omega⟩
    .show _=_;rw[g.o,Fg,Od]
    .rw[ab,d]
    show _=_;rw[aIz,b.o,CR,g.o]
   go_wp2;go_ret;have e:j=6:=by omega
   subst e;refine⟨Kd (λx=>Ending.returned (oA x)) ?_,a⟩;rw[E.o,ZN];refine yw _ _ ?_;rw[Hd,<-b.o];simp
 have k:zB n 1 999999=cA:=by unfold zB;simp;omega
 have E:bB (gK n=kA):=Ja h;go_enter func106,ntmps106;go_wp2_with(go_at_call 90;apply cO (qD _ _ _ _));go_ret;exact⟨Kd (λx=>Ending.returned (oA x)) E.o.symm,bD⟩
section
open Go.Lib
def zt{w:eA}{B:Nat}{e:jA}{c:Nat}{v:iA}{n:Nat}{f:List iA}(h:w.ownsRow B e c v n f):∃a b,v=pA a n b:=by
 obtain⟨rfl,rfl⟩|⟨g,b,d,rfl,_⟩:=h.2;exact ⟨_,_,rfl⟩;exact ⟨_,_,rfl⟩
def BJ(a:List Int):(strOfNums a).size=yA a:=by
 rw[jR];simp[strOfNums]
def SO(s:nB):∃a:List Int,strCells s=a.map (iA.int .u8)/\yA a=s.size:=by
 refine⟨s.data.toList.map λb=>(b.toNat:Int),?_,by rw[Xa,jR]⟩;simp[strCells]
def vV(s:nB)(m n:Nat)(w:eA)(T:s.size<=m)(L:m<=4)(S:n<=70000):
 Calls prog 97 #[oA s,zA (n:Nat)] w λe P=>∃t:nB,t.size<=n*m/\e=uA (oA t)/\tB w P:=by
 obtain⟨D,j,x,y,z⟩:=LY;have E:bB (prog.info? 5=some D):=j;clear j;obtain⟨u,o,l⟩:=SO s;have B:bB (strCells s=u.map (iA.int .u8)/\yA u=s.size):=⟨o,l⟩
 clear o l;go_enter func97,ntmps97;go_wp2;go_loopw [5,6] (λA i wr=>∃(k:Nat)(b:List Int)(p:jC)(r:Nat),k<=n/\i=zA (k:Nat)/\A=pA p (yA b) r/\yA b<=k*m/\bB (wr.ownsRow w.1.size 5 1 (pA p (yA b) r) (yA b) (b.map (iA.int .u8)))/\tB w wr) (λ_ i _=>n-(intOf i).toNat)
 case atStart=>
  exact⟨0,[],_,_,by omega,rfl,rfl,by simp,eA.ownsRow_made w #[] 0 (Ia _) (by simp[maxLen]) (by simp),yB⟩
 case round=>
  obtain⟨k,b,p,r,R,rfl,rfl,O,c,d⟩:=hrel;have N:=d.size;have J:k*m<=70000*4:=Hf (by omega) L;have I:(k+1)*m=k*m+m:=Nat.succ_mul _ _;by_cases K:k<n
  .have g:(k:Int)<(n:Int):=by omega
   go_wp2_with(at_builtin;refine wpList_append_own_string _ rfl _ _ _ _ rfl w.1.size 5 D underlying22 underlying9 E.o x y z (pA p (yA b) r) (yA b) (b.map (iA.int .u8)) rfl (by exact c.o) s rfl (by simp[maxLen];omega) (by omega) (by omega) ?_;intro U Q a f C);obtain⟨F,G,rfl⟩:=zt a;have v:tB w Q:=d.grown f (by omega) (λq M=>mH c.o q M);rw[B.o.1,<-Ld]at a;have h:yA (b++u)=yA b+s.size:=by rw[Kb,B.o.2]
   rw[<-h]at a;refine⟨⟨k+1,b++u,F,G,by omega,by go_num,by rw[h],by omega,a,v⟩,by simp[intOf];omega⟩
  have g:¬((k:Int)<(n:Int)):=by omega
  have H:=NC c.o;go_wp2;go_ret;obtain rfl:k=n:=by omega
  exact⟨strOfNums b,by rw[BJ];exact O,rfl,d⟩
end
def XC(B P N:Nat)(w:eA)(h:sD w B P N)(K:N<=100000):
 Calls prog 98 #[.pointer (pB B)] w λe u=>∃s:nB,s.size<=258/\e=uA (oA s)/\sD u B P (N+1)/\pD B w u:=by
 have t:bB (sD w B P N):=h;have C:=h.lt;clear h;go_enter func98,ntmps98;go_wp2_with fail;refine(vV ⟨#[195,169]⟩ 2 128 w (by decide) (by omega) (by omega)).mono ?_;rintro e x ⟨a,E,rfl,j⟩;have q:bB (tB w x):=j;clear j;go_wp2_with fail;refine(vV ⟨#[195,169]⟩ 2 129 x (by decide) (by omega) (by omega)).mono ?_;rintro e y ⟨b,F,rfl,k⟩;have r:bB (tB w y):=vB q.o k;clear k q;go_wp2_with fail;refine(vV ⟨#[122]⟩ 1 129 y (by decide) (by omega) (by omega)).mono ?_;rintro e f ⟨c,G,rfl,l⟩;have n:bB (tB w f):=vB r.o l;clear l r;go_wp2_with fail;have o:bB (lP (f.alloc (vA ([⟨#[128]⟩,⟨#[192,128]⟩,⟨#[237,160,128]⟩,⟨#[244,144,128,128]⟩,⟨#[226,130]⟩,⟨#[31]⟩,⟨#[127]⟩,⟨#[194,133]⟩,⟨#[240,128,128,128]⟩,⟨#[255]⟩,⟨#[97,195]⟩,a,b,c,⟨#[194,160]⟩,⟨#[239,191,189]⟩,⟨#[244,143,191,191]⟩,⟨#[238,128,128]⟩].map iA.string).toArray 9)) f.1.size 18 258):=aT f _ 258 _ 18 rfl (by
  simp only[List.all_cons,List.all_nil,Bool.and_true,Sa,Ab];refine⟨by decide,by decide,by decide,by decide,by decide,by decide,by decide,by decide,by decide,by decide,by decide,by omega,by omega,by omega,by decide,by decide,by decide,by decide⟩)
 simp only[Fc,Ag]at o;have i:=(t.o.z n.o).z (pF f (vA #[oA ⟨#[128]⟩,oA ⟨#[192,128]⟩,oA ⟨#[237,160,128]⟩,oA ⟨#[244,144,128,128]⟩,oA ⟨#[226,130]⟩,oA ⟨#[31]⟩,oA ⟨#[127]⟩,oA ⟨#[194,133]⟩,oA ⟨#[240,128,128,128]⟩,oA ⟨#[255]⟩,oA ⟨#[97,195]⟩,oA a,oA b,oA c,oA ⟨#[194,160]⟩,oA ⟨#[239,191,189]⟩,oA ⟨#[244,143,191,191]⟩,oA ⟨#[238,128,128]⟩] 9));have J:w.1.size<=f.1.size:=n.o.size;refine(cD B P N 18 _ i (by omega) (by omega) (by omega)).mono ?_;rintro e z ⟨v,H,rfl,m,d⟩;have g:=o.o.but d (by omega);obtain⟨s,p,D⟩:=g.at H;have A:bB (sD z B P (N+1)/\pD B w z):=⟨m,((pD.of n.o).z yB).trans d⟩
 clear m d g o i n t;have I:(v:Int)<18:=by omega
 go_wp2;go_ret;exact⟨s,D,rfl,A.o⟩
def RW(p:nB)(w:eA)(i:p.size<=maxLen):
 vE 303 #[oA p] w (oA (mF p)):=by
 have m:bB _:=i;unfold maxLen at i;have f:bB (∀W,hI 317 #[zA (p.size:Int)] W (qA (zB p.size 1 60000))):=λW=>dp _ W;by_cases h:1<=p.size/\p.size<=60000
 .have g:zB p.size 1 60000=dA:=by simp[zB];omega
  rw[g]at f;have E:bB (mF p=qB 4 p.size++qB 4 (lL p:Nat)++p):=Ma h;have o:=kB 4 (p.size:Int);have n:=kB 4 ((lL p:Nat):Int);have j:bB (∀W,vE 79 #[zA (p.size:Int),zA 4] W (oA (qB 4 p.size))):=λW=>fH 4 _ W (by omega);have k:bB (∀W,vE 79 #[zA (lL p:Nat),zA 4] W (oA (qB 4 (lL p:Nat)))):=λW=>fH 4 _ W (by omega);generalize qB 4 (p.size:Int)=A at *;generalize qB 4 ((lL p:Nat):Int)=B at *;go_enter func303,ntmps303;go_wp2_with(go_at_call 317;apply cO (f.o _));apply hC (j.o _);intro q b;go_wp2_with fail;apply hC (JY p _ m.o);intro r c;go_wp2_with fail;apply hC (k.o _);intro s d;have l:bB _:=vB (vB b c) d;clear b c d;go_wp2;go_ret;exact⟨MC E.o.symm,l.o⟩
 have g:zB p.size 1 60000=cA:=by simp[zB];omega
 rw[g]at f;have E:bB (mF p=kA):=Ja h;go_enter func303,ntmps303;go_wp2_with(go_at_call 317;apply cO (f.o _));go_ret;exact⟨MC E.o.symm,bD⟩
section
open Go.Maps Go.Sort
def gd{x y:nB}(h:uJ x y=dA):x.data.toList<=y.data.toList:=by
 unfold uJ at h;rw[bytesLess_eq,Af,ByteArray.toList_eq,ByteArray.toList_eq]at h;exact List.le_of_lt h
def IY{α:Type}{key:α->nB}{L:List α}(j:sC key L){k:List (List UInt8)}(i:k.Perm (L.map λp=>(key p).data.toList)):
 (k.mergeSort (λx y=>decide (x<=y)))=L.map λp=>(key p).data.toList:=by
 have e:=(List.mergeSort_perm k (λx y=>decide (x<=y))).trans i;have f:(k.mergeSort (λx y=>decide (x<=y))).Pairwise (λa b=>a<=b):=by
  have:=List.pairwise_mergeSort (le:=fun(x y:List UInt8)=>decide (x<=y)) (λa b c h d=>by simp only[Af]at *;exact List.le_trans h d) (λa b=>by simp only[Fe,Af];exact List.le_total a b) k;simpa using this
 have g:(L.map λp=>(key p).data.toList).Pairwise (λa b=>a<=b):=Te.2 (j.imp λh=>gd h);exact Qf (le:=λa b=>a<=b) (λa b _ _ h d=>List.le_antisymm h d) f g e
def NY{α:Type}(key:α->nB)(L:List α):(L.map λp=>(key p).data.toList).map encStr=L.map λp=>iA.string (key p):=by
 rw[Vd];exact Ge λp _=>by simp[encStr]
def FP{w:eA}{B d:Nat}{e:jA}{a:Nat}{v:iA}{n:Nat}{f:List iA}(h:w.ownsRow B e a v n f)(l:d<=B):w.ownsRow d e a v n f:=by
 refine⟨h.1,?_⟩;obtain i|⟨g,b,c,j,k,r⟩:=h.2;exact Ca i;exact La ⟨g,b,c,j,Ua l k,r⟩
def fq(x:Nat)(t:fB)(S:Nat->Prop)(M:Nat)(w:eA)(h:mD w S x t M)(z:yA t.Z<=1000000000):
 Calls prog 30 #[.pointer (pB x)] w λe c=>∃v,e=uA v/\c.ownsRow w.1.size 9 1 v (yA t.Z) (t.Z.map λp=>oA p.s)/\tB w c:=by
 obtain⟨C,d,y,B,Q,A,D,h⟩:=h;have u:tC w x 2 (.map (some d)):=h.blk.cell 2;have j:yA Q=yA t.Z:=by rw[<-h.q1,Xa]
 have b:Maps.size (aE (Q.map λq=>(q.1.s,fF q.2)))=yA t.Z:=by rw[kM,j]
 have l:bB (Calls prog 94 #[.map (some d)] w λe c=>e=uA (.func (.func 168) #[] #[.pointer (pB w.1.size)])/\c=w.alloc (vA #[.map (some d)] 185)):=callsIn_wide.1 (maps_Keys_94 (some d) w);have n:bB (Calls prog 74 #[.func (.func 168) #[] #[.pointer (pB w.1.size)]] (w.alloc (vA #[.map (some d)] 185)) λe c=>∃v,e=uA v/\c.ownsRow w.1.size 9 1 v (yA t.Z) (t.Z.map λp=>oA p.s)/\tB w c):=by
  refine Calls.mono (callsIn_wide.1 (slices_Sorted_keys_74_94 d _ _ nE w h.Z (by rw[b];unfold maxLen;omega) (by rw[b];omega))) ?_;rintro e r ⟨v,m,rfl,i,a,_,g⟩;have o:(strKeys (aE (Q.map λq=>(q.1.s,fF q.2))))=t.Z.map λp=>p.s.data.toList:=by
   rw[uU,Vd,<-h.q1,Vd];rfl
  rw[o]at i;have f:yA m=yA t.Z:=by rw[i.length_eq,Xa]
  rw[IY (key:=λp:iB=>p.s) h.rs i,NY (λp:iB=>p.s),f]at a;exact⟨v,rfl,FP a (by simp),vB yB g⟩
 clear h j b;go_enter func30,ntmps30;go_wp2_with fail;apply hC l.o;rintro r rfl;go_wp2_with fail;refine n.o.mono ?_;rintro e E ⟨v,rfl,a,g⟩;have m:=cB a;have k:=cB g;clear a g;go_wp2;go_ret;exact⟨v,rfl,m.o,k.o⟩
end
