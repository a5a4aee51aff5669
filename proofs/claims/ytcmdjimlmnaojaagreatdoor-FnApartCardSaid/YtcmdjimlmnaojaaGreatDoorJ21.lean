import Derived.Test.YtcmdjimlmnaojaaGreatDoorJ16
import Derived.Test.YtcmdjimlmnaojaaGreatDoorJ17
import Derived.Test.YtcmdjimlmnaojaaGreatDoorJ03
set_option maxRecDepth 100000
set_option maxHeartbeats 1000000
set_option linter.defProp false
open Bool renaming true->eA,false->dA
open ByteArray renaming empty->lA
open List renaming length->zA
namespace Go.Proofs.YtcmdjimlmnaojaaGreatDoor
open Go renaming World->fA,Value->jA,TypeId->kA
open Value renaming slice->qA,bool->sA,string->pA
open Obj renaming cells->xA
open Ending renaming returned->vA
open Go.RowKit Tryz
def eM(t:gB)(s:List gB×Bool)(p:gB):List gB×Bool:=
 (s.1++(if s.2=eA then [] else if bK p.N t.N=eA then [] else [t])++(if (p.N.toList==t.N.toList)=eA then [] else [p]),if s.2=eA then eA else !bK p.N t.N)
def vV(t:gB)(b:Bool)(a:List gB):List gB×Bool:=a.foldl (eM t) ([],b)
def DH(t:gB)(b:Bool)(a:List gB):List gB:=(vV t b a).1++if (vV t b a).2=eA then [] else [t]
def qq(t:gB)(b:Bool)(a:List gB)(k:Nat)(h:k<zA a):vV t b (a.take (k+1))=eM t (vV t b (a.take k)) a[k]:=by
 rw[Pa h,vV,Dg];rfl
theorem aAh(t:gB)(c:List gB):∀(a:List gB)(b:Bool),c.foldl (eM t) (a,b)=(a++(c.foldl (eM t) ([],b)).1,(c.foldl (eM t) ([],b)).2):=by induction c<;>grind [eM]
def JI(t p:gB)(r:List gB)(b:Bool):DH t b (p::r)=(eM t ([],b) p).1++DH t (eM t ([],b) p).2 r:=by grind [DH,eM,vV,aAh]
theorem fU{t:gB}{a:List gB}(h:∀p∈a,p.N≠t.N):DH t eA a=a:=by
 induction a with
 |nil=>rfl
 |cons p r d=>
  rw[JI];have b:=yD (h p (Kc ..));simp only[eM,b,Td,Mb];simp[d λq c=>h q (Sb _ c)]
def aFo{t:gB}{f:List gB}(j:tC (·.N) f):DH t dA f=fC (·.N) t f:=by
 induction f with
 |nil=>rfl
 |cons p r l=>
  have h:=l j.tail;rw[JI,fC];by_cases c:bK p.N t.N=eA
  .have d:=yD (mI c);simp only[eM,c,d,Td];simp[h]
  have b:bK p.N t.N=dA:=by simpa using c
  have a:∀q∈r,q.N≠t.N:=λq k e=>by
   have i:=j.head q k;rw[e]at i;exact c i
  by_cases d:p.N=t.N
  .have g:=(gE _ _).2 d;simp only[eM,b,g,Td];simp[fU a]
  have g:=yD d;simp only[eM,b,g];simp[fU a]
def aDe(b a:Int)(c:List gB)(k:Nat)(h:k<zA c):kD b a (c.take (k+1))=kD b a (c.take k)++if xE (oE b a c[k])=eA then [] else [oE b a c[k]]:=by
 rw[Pa h,kD,Ld,Vf];congr 1;by_cases e:xE (oE b a c[k])=eA
 .rw[Ma e];simp[e]
 rw[Ja e];simp[e]
def aLc(b a:Int)(c:List gB)(k:Nat):zA (kD b a (c.take k))<=zA c:=by grind [kD]
def aFp{t:gB}{b:Bool}{c:List gB}{q:gB}(h:q∈DH t b c):q=t\/q∈c:=by
 induction c generalizing b with
 |nil=>
  unfold DH vV at h;simp only[List.foldl_nil,Mb]at h;cases b with
  |true=>cases h
  |false=>exact Ca (by simpa using h)
 |cons p r e=>
  rw[JI,Ee]at h;obtain h|h:=h
  .unfold eM at h;simp only[Mb,Ee]at h;obtain h|h:=h
   .by_cases d:b=eA
    .rw[Ma d]at h;cases h
    rw[Ja d]at h;by_cases a:bK p.N t.N=eA
    .rw[Ma a]at h;cases h
    rw[Ja a]at h;exact Ca (by simpa using h)
   by_cases a:(p.N.toList==t.N.toList)=eA
   .rw[Ma a]at h;cases h
   rw[Ja a]at h;exact La (by simp at h;simp[h])
  rcases e h with h|h;exact Ca h;exact La (Sb _ h)
def fJ(c:lC)(d:Int)(b:List gB)(a key:pB):List gB×Nat:=
 if (uC a&&qK key)=dA then(b,5)
 else if (xC (·.s) key (rB b a).Z).isSome=eA then(fC (·.N) (sI (rB b a) key d) b,1)
 else if (if (rB b a).L = -1 then c.tl else(rB b a).L)<=(zA (rB b a).Z:Nat)\/((xC (·.N) a b).isNone&&decide (10000<=zA b))=eA then(b,3)
 else if cH (rB b a).M (dE key) c.ml<=(tI dE (rB b a).Z (dE key):Nat) then(b,4)
 else(fC (·.N) (sI (rB b a) key d) b,2)
def aAd{d c:Int}{a:List gB}(h:bN d c a=eA){name:pB}: -1<=(rB a name).L/\(rB a name).L<=1000000:=by
 rcases dM (ts:=a) (name:=name) with⟨b,_⟩|⟨b,_⟩;have:=kJ h _ b;simp only[cP,Sa]at this;exact nL this.1.1.1.2;rw[b];exact⟨by simp,by simp⟩
def nZ{c:lC}{d:Int}{b:List gB}(h:iC c d b=eA)(a key:pB):dI c d b a key=(d,(fJ c d b a key).1,(fJ c d b a key).2):=by
 obtain⟨_,_,_,l,m⟩:=bG h;unfold dI fJ;rw[Ja (by rw[h];simp)];by_cases e:(uC a&&qK key)=dA
 .rw[Ma e,Ma e]
 rw[Ja e,Ja e];by_cases g:(xC (·.s) key (rB b a).Z).isSome=eA
 .rw[Ma g,Ma g]
 rw[Ja g,Ja g];have n:(dE key).toList.isEmpty=dA:=by
  have:(uC a&&qK key)=eA:=by simpa using e
  simp only[Sa,qK]at this;simpa using this.2
 have i:pE c (rB b a) lA=(((zA (rB b a).Z:Nat):Int),if (rB b a).L = -1 then c.tl else(rB b a).L):=by
  unfold pE;rw[Ma (show ByteArray.empty.toList.isEmpty=eA by rw[ByteArray.toList_eq];rfl)];have:=(aAd m (name:=a)).1;by_cases k:(rB b a).L = -1
  .rw[Ma k,Ma (by omega)]
  rw[Ja k,Ja (by omega)]
 have j:pE c (rB b a) (dE key)=(((tI dE (rB b a).Z (dE key):Nat):Int),cH (rB b a).M (dE key) c.ml):=by
  unfold pE;rw[Ja (by rw[n];simp)]
 have h:=qo m (name:=a);rw[i,j];simp only;have f:(xE (rB b a)=eA/\zA b=10000) ↔ ((xC (·.N) a b).isNone&&decide (10000<=zA b))=eA:=by
  rw[h,Sa,Ab];cases xC (·.N) a b with
  |none=>simp;omega
  |some q=>simp
 simp only[f];generalize (if (rB b a).L = -1 then c.tl else(rB b a).L)=o;split;rfl;split<;>rfl
def mg{met:pB->pB}{l a:List kB}(h:l.map (·.s)=a.map (·.s))(m:pB):tI met l m=tI met a m:=by
 have:∀l:List kB,tI met l m=zA ((l.map (·.s)).filter λs=>(met s).toList==m.toList):=λl=>by
  unfold tI;rw[List.filter_map,Xa];rfl
 rw[this,this,h]
def EW{a:nC}{f:Nat}{d:List iB}{c k j l:Int}{m b:Bool}(h:wE d c k j l=b)(w:fA)(n:uB w a d)(o:iP d)(g:zA d<=maxLen)(i:pC d<=1000000000):
 cF 15 #[.agg #[qA a (zA d) f,aB c,aB k,aB j,aB l,sA m]] w (sA b):=h ▸ pU a f d c k j l m w n o g i
def wM{a:nC}{f:Nat}{d:List iB}{c k j l:Int}{m b:Bool}(h:wE d c k j l=b)(w:fA)(n:uB w a d)(o:iP d)(g:zA d<=maxLen)(i:pC d<=1000000000):
 cF 34 #[.agg #[qA a (zA d) f,aB c,aB k,aB j,aB l,sA m]] w (sA b):=h ▸ uU a f d c k j l m w n o g i
def pJ{a:List iB}{c k b d:Int}(h:wE a c k b d=eA):gI a=eA/\zA a<=1000/\0<=c/\c<=1000000000/\(pC a:Int)<=c/\0<=k/\k<=1000000000000000/\0<=b/\b<=1000000000000000/\0<=d/\d<=1000000000000000:=by grind [wE,gI,pC,yB]
theorem RC(e:List iB)(c k a d:Int)(b:Bool)(f:oK):(wI e c k a d b f).1<=6:=by grind [wI,jN,DX]
def eJ.set_below{w:fA}{B:Nat}{a:nC}{c:List iB}(h:eJ w B a c){p:Addr}(m:p.block<B)(v:jA):eJ (w.setCell p v) B a c:=by
 obtain h|⟨g,o,b,t,rfl,e,f,h⟩:=h;exact Ca h;have d:=Below.heap_setCell w p v g (by omega);have l:∀j,(w.setCell p v).cell? (eB g j)=w.cell? (eB g j):=λj=>fA.cell?_of_block d;exact La ⟨g,o,b,t,rfl,e,d.trans f,λi k=>by simp only[l];exact h i k⟩
def LJ{w c:fA}{x y z:Array jA}{a b tz:kA}(d:Below (((w.alloc (xA x a)).alloc (xA y b)).alloc (xA z tz)).1.size (((w.alloc (xA x a)).alloc (xA y b)).alloc (xA z tz)) c):
 jB c w.1.size x a/\jB c (w.1.size+1) y b/\jB c (w.1.size+1+1) z tz/\xB w c:=by
 refine⟨?_,?_,?_,aC (aC (aC bC bC) bC) d⟩;exact (jB.z (jB.z (jB.z (g:=w.1.size) (heap_alloc_new w (xA x a)) gD) bC) bC).z d;have h:=jB.z (g:=(w.alloc (xA x a)).1.size) (heap_alloc_new (w.alloc (xA x a)) (xA y b)) (aC bC d);simpa using h;have h:=jB.z (g:=((w.alloc (xA x a)).alloc (xA y b)).1.size) (heap_alloc_new ((w.alloc (xA x a)).alloc (xA y b)) (xA z tz)) d;simpa using h
def zQ(d:List iB)(c k a b:Int)(f:Bool)(e:oK):Nat×List iB×Int×Int×Int×Int×Bool:=
 if (wE d c k a b&&AN e)=eA then((wI d c k a b f e).1,(wI d c k a b f e).2.1,c,(wI d c k a b f e).2.2.1,a,b,(wI d c k a b f e).2.2.2) else(6,[],0,0,0,0,dA)
def aOh(R:Nat×List iB×Int×Int×Int×Int×Bool)(a:nC)(b:Nat):jA:=
 .tuple #[.agg #[qA a (zA R.2.1) b,aB R.2.2.1,aB R.2.2.2.1,aB R.2.2.2.2.1,aB R.2.2.2.2.2.1,sA R.2.2.2.2.2.2],aB R.1]
def cE(D:xD)(a:oK):xD×Nat:=
 (⟨(zQ D.fs D.c D.k D.cr D.fl D.dn a).2.1,(zQ D.fs D.c D.k D.cr D.fl D.dn a).2.2.1,(zQ D.fs D.c D.k D.cr D.fl D.dn a).2.2.2.1,(zQ D.fs D.c D.k D.cr D.fl D.dn a).2.2.2.2.1,(zQ D.fs D.c D.k D.cr D.fl D.dn a).2.2.2.2.2.1,(zQ D.fs D.c D.k D.cr D.fl D.dn a).2.2.2.2.2.2⟩,(zQ D.fs D.c D.k D.cr D.fl D.dn a).1)
structure JK(fs:List iB):Prop where
 H:iP fs
 len:zA fs≤1048576
 sum:pC fs≤1000000000
def vO:JK []:=⟨λi h=>absurd h (by simp),by simp,by simp[pC]⟩
def cM(a:List iB)(i:Nat)(f:iB)(h:i<zA a):pC (a.set i f)+a[i].data.size=pC a+f.data.size:=by
 induction a generalizing i with
 |nil=>exact absurd h (by simp)
 |cons g r b=>
  cases i with
  |zero=>simp[pC];omega
  |succ i=>
   have:=b i (by simpa using h);simp only[Jd,Ec,pC];omega
def ql{a:List iB}(i:Nat)(b:i<zA a):a[i].data.size<=pC a:=by
 have c:=kI a i b;have d:=xH a (i+1);omega
def pV{a:List iB}(h:iP a){f:iB}(b:f∈a):f.N.size<=maxLen/\f.data.size<=maxLen:=by
 obtain⟨i,c,rfl⟩:=Ib b;exact h i c
def QU{a:List iB}(h:∀f∈a,f.N.size<=maxLen/\f.data.size<=maxLen):iP a:=λ_ b=>h _ (Gb b)
def JB{a:List iB}(h:iP a){i:Nat}{f:iB}(b:f.N.size<=maxLen/\f.data.size<=maxLen):iP (a.set i f):=by grind [iP]
def aa(a:List iB)(i:Nat):pC (a.eraseIdx i)<=pC a:=by
 induction a generalizing i with
 |nil=>simp
 |cons g r b=>
  cases i with
  |zero=>simp[pC]
  |succ i=>have:=b i;simp only[List.eraseIdx_cons_succ,pC];omega
def mR(a:List iB)(i:Nat)(h:i<zA a):pC (a.eraseIdx i)+a[i].data.size=pC a:=by
 induction a generalizing i with
 |nil=>exact absurd h (by simp)
 |cons g r b=>
  cases i with
  |zero=>simp[pC];omega
  |succ i=>
   have:=b i (by simpa using h);simp only[List.eraseIdx_cons_succ,Ec,pC];omega
def BK(p:iB->Bool)(a:List iB):pC (a.filter p)<=pC a:=by induction a<;>grind [pC]
def GF(a:List iB)(f:iB):pC (nG a f)=pC a+f.data.size:=by induction a<;>grind [pC,nG]
def yk{fs:List iB}{f g:iB}(h:g∈nG fs f):g=f\/g∈fs:=by induction fs<;>grind [nG]
def eX(a:List iB)(i:Nat)(f:iB):pC (mM a i f)=pC a+f.data.size:=by
 have h:=pQ (a.take i) (a.drop i);rw[Za]at h;rw[mM,pQ];simp only[pC];omega
def aKn{a:List iB}{c:Int}{b:oK}(h:JK a)(u:zA a<=1000)(v:c<=1000000000)(q:b.N.size<=maxLen)(s:b.tq.size<=maxLen):JK (jN a c b).2:=by
 have w:(1000000000:Nat)<=maxLen:=by unfold maxLen;omega
 unfold jN;simp only;split
 .split
  .exact h
  split;exact h;refine ⟨QU λf i=>?_,?_,?_⟩
  .simp only[mM,Ee,Lb]at i;obtain i|rfl|i:=i
   .exact pV h.H (Ce i)
   .exact ⟨q,by simp[maxLen]⟩
   exact pV h.H (Ng i)
  .show (zA (mM a _ _))<=_;rw[mM];simp only[Kb,Hb,Zb,Rc];omega
  show pC (mM a _ _)<=_;rw[eX];have:=h.sum;simpa using this
 split;exact h
 rename_i f i;obtain⟨j,rfl⟩:=Pb.1 i;have e:=pV h.H (Gb j);have p:=ql _ j;have y:=h.sum;split
 .exact h
 split
 .split
  .exact h
  rename_i x;have d:=cM a (dC b.N a) ⟨a[dC b.N a].N,a[dC b.N a].data++b.data,a[dC b.N a].Y⟩ j;simp only[Ka]at d;refine⟨JB h.H ⟨e.1,?_⟩,?_,?_⟩
  .show (a[dC b.N a].data++b.data).size<=maxLen;rw[Ka];omega
  .show (zA (a.set _ _))<=_;rw[Pd];omega
  show pC (a.set _ _)<=_;omega
 split
 .have d:=cM a (dC b.N a) ⟨a[dC b.N a].N,a[dC b.N a].data,a[dC b.N a].data.size⟩ j;refine⟨JB h.H e,?_,?_⟩
  .show (zA (a.set _ _))<=_;rw[Pd];omega
  show pC (a.set _ _)<=_;simp only at d;omega
 split
 .split
  .have d:=cM a (dC b.N a) ⟨a[dC b.N a].N,a[dC b.N a].data.extract 0 b.size.toNat,b.size⟩ j;have z:(a[dC b.N a].data.extract 0 b.size.toNat).size<=a[dC b.N a].data.size:=by rw[Je];omega
   refine⟨JB h.H ⟨e.1,?_⟩,?_,?_⟩;show (a[dC b.N a].data.extract 0 b.size.toNat).size<=maxLen;omega;show zA (a.set _ _)<=_;rw[Pd];omega;show pC (a.set _ _)<=_;simp only at d;omega
  exact h
 split
 .have n:zA (a.eraseIdx (dC b.N a))<=zA a:=by rw[Ad];split<;>omega
  have o:=mR a (dC b.N a) j;refine⟨QU λg k=>?_,?_,?_⟩
  .rcases yk (fs:=vC (a.eraseIdx (dC b.N a)) b.tq) (f:=⟨b.tq,a[dC b.N a].data,a[dC b.N a].Y⟩) k with rfl|k
   .exact ⟨s,e.2⟩
   exact pV h.H (Sf (De.1 k).1)
  .show (zA (yG _ _))<=_;have m:∀(l:List iB)(f:iB),zA (nG l f)=zA l+1:=λl f=>by
    induction l with
    |nil=>rfl
    |cons g r t=>unfold nG;split<;>simp[t]
   have:zA (vC (a.eraseIdx (dC b.N a)) b.tq)<=zA (a.eraseIdx (dC b.N a)):=Pc _ _;rw[yG,m];simp only;omega
  .show pC (yG _ _)<=_;have:=BK (λf=>!(f.N.toList==b.tq.toList)) (a.eraseIdx (dC b.N a));rw[yG,GF];simp only[vC];omega
 refine ⟨QU λg k=>pV h.H (Sf k),?_,?_⟩
 .show (zA (a.eraseIdx _))<=_;rw[Ad];split<;>omega
 show pC (a.eraseIdx _)<=_;have:=aa a (dC b.N a);omega
theorem dV{D:xD}{op:oK}(h:JK D.fs)(e:op.N.size<=maxLen)(f:op.tq.size<=maxLen):JK (cE D op).1.fs:=by
 show JK (zQ D.fs D.c D.k D.cr D.fl D.dn op).2.1;unfold zQ;split
 .rename_i a;simp only[Sa]at a;obtain⟨_,b,_,d,_⟩:=pJ a.1;unfold wI;split
  .exact aKn h b d e f
  exact h
 exact vO
def bJ(L:jG):Bool:=yB L.last 1 999999&&yB L.first 1 L.last&&yB L.size 0 1000000000
def sG(n:Int):oK:=⟨1,sH n,⟨#[]⟩,⟨#[]⟩,0⟩
def bI(n:Int)(f:pB):oK:=⟨2,sH n,⟨#[]⟩,f,0⟩
def jR(n:Int):oK:=⟨3,sH n,⟨#[]⟩,⟨#[]⟩,0⟩
def mH(D:xD)(L:jG)(f:pB):xD×jG×Nat:=
 if (cE D (bI L.last f)).2≠0 then((cE D (bI L.last f)).1,L,(cE D (bI L.last f)).2)
 else if (cE (cE D (bI L.last f)).1 (jR L.last)).2≠0 then((cE (cE D (bI L.last f)).1 (jR L.last)).1,L,(cE (cE D (bI L.last f)).1 (jR L.last)).2)
 else((cE (cE D (bI L.last f)).1 (jR L.last)).1,⟨L.first,L.last,L.size+f.size⟩,0)
def qE(D:xD)(L:jG)(p:pB)(a:Int):xD×jG×Nat:=
 if (bJ L&&yB a 1 1000000000)=dA then(D,L,21)
 else if dF p=lA then(D,L,22)
 else if L.size≠0/\a<L.size+(dF p).size then
  if L.last=999999 then(D,L,23)
  else if (cE D (sG (L.last+1))).2≠0 then((cE D (sG (L.last+1))).1,L,(cE D (sG (L.last+1))).2)
  else mH (cE D (sG (L.last+1))).1 ⟨L.first,L.last+1,0⟩ (dF p)
 else mH D L (dF p)
def lq{D b:xD}{L:jG}{p F:pB}{a:Int}{x:Nat}(g:dF p=F)(c:¬(bJ L&&yB a 1 1000000000)=dA)(d:¬dF p=lA)(e:L.size≠0/\a<L.size+F.size)(f:¬L.last=999999)(h:cE D (sG (L.last+1))=(b,x)):
 qE D L p a=if x≠0 then(b,L,x) else mH b ⟨L.first,L.last+1,0⟩ F:=by
 subst g;unfold qE;rw[Ja c,Ja d,Ma e,Ja f,h]
def zV{D a:xD}{L:jG}{f:pB}{x:Nat}(b:cE D (bI L.last f)=(a,x))(c:¬x=0):mH D L f=(a,L,x):=by
 unfold mH;rw[b,Ma c]
def aW{D c a:xD}{L:jG}{f:pB}{x y:Nat}(d:cE D (bI L.last f)=(c,x))(e:x=0)(b:cE c (jR L.last)=(a,y)):mH D L f=if y≠0 then(a,L,y) else(a,⟨L.first,L.last,L.size+f.size⟩,0):=by
 unfold mH;rw[d,Ja (by simp[e])];simp only;rw[b]
def yO(r:nE):Prop:=r.T.size<=255/\r.X.size<=65535/\((r.K=1/\r.U=0)\/(r.K=2/\r.T.size=0/\r.X.size=0)\/r.K=3)
def rcD(r:nE):Decidable (yO r):=by unfold yO;exact inferInstance
def bd(r:nE):Bool:=@decide (yO r) (rcD r)
theorem VU{r:nE}(h:yO r):bd r=eA:=@Ac _ (rcD r) h
theorem BB{r:nE}(h:¬yO r):bd r=dA:=@Ub _ (rcD r) h
def XW(r:nE):pB:=tB 1 r.K++gN r.T++dG r.X++tB 8 r.U
def aN:List nE->pB
 |[]=>lA
 |r::q=>XW r++aN q
def uu(a:List nE):Prop:=∀i(h:i<zA a),yO a[i]
def fY(a:Int)(b:List nE):Prop:=1<=a/\a<=1000000000000000/\1<=zA b/\zA b<=500/\uu b
def ME(a:Int)(n:Nat):pB:=tB 8 a++tB 2 (n:Nat)
def aMx(a:Int)(b:List nE):Decidable (fY a b):=by unfold fY uu yO;exact inferInstance
def oO(a:Int)(b:List nE):pB:=haveI:=aMx a b;if fY a b then ME a (zA b)++aN b else lA
def MD{a:Int}{b:List nE}(h:fY a b):oO a b=ME a (zA b)++aN b:=by unfold oO;rw[Ma h]
def MC{lsn:Int}{rs:List nE}(h:¬fY lsn rs):oO lsn rs=lA:=by unfold oO;rw[Ja h]
def EG:∀(a b:List nE),aN (a++b)=aN a++aN b
 |[],b=>by simp[aN]
 |r::q,b=>by
  show XW r++aN (q++b)=XW r++aN q++aN b;rw[EG q b,Wa]
def mu(a:List nE)(k:Nat)(h:k<zA a):aN (a.take (k+1))=aN (a.take k)++XW a[k]:=by
 rw[Pa h,EG];simp[aN]
def wh(r:nE):(XW r).size=12+r.T.size+r.X.size:=by grind [XW,nB,sF,eF]
def DT(a:Int)(n:Nat):(ME a n).size=10:=by unfold ME;rw[Ka,nB,nB]
def qz{b:List nE}{k:Nat}(d:k<zA b)(h:¬yO b[k])(a:Int):oO a b=lA:=MC λc=>h (c.2.2.2.2 k d)
def oI(b a:Int)(left:pB->Bool)(c:List gB):List gB:=(c.map λt=>if left t.N=eA then t else oE b a t).filter λt=>left t.N||!xE t
def gr{win now:Int}{left:pB->Bool}(t:gB):(if left t.N=eA then t else oE win now t).N=t.N:=by split<;>rfl
def yo{b a:Int}{left:pB->Bool}{c:List gB}(h:∀t∈c,left t.N=eA):oI b a left c=c:=by
 have e:c.map (λt=>if left t.N=eA then t else oE b a t)=c:=by
  have:∀t∈c,(if left t.N=eA then t else oE b a t)=id t:=λt d=>by rw[Ma (h t d)];rfl
  rw[Ge this,List.map_id]
 unfold oI;rw[e];exact Jc.2 λt d=>by rw[h t d];rfl
def ow{b a:Int}{left:pB->Bool}{c:List gB}(h:∀n,left n=dA):oI b a left c=kD b a c:=by
 unfold oI kD;simp only[h,Rf,Bd,Cf]
theorem vS{b a:Int}{left:pB->Bool}{p:gB}{r:List gB}:oI b a left (p::r)=if (left p.N||!xE (if left p.N=eA then p else oE b a p))=eA then(if left p.N=eA then p else oE b a p):: oI b a left r else oI b a left r:=by
 unfold oI;rw[Fc,List.filter_cons,gr]
def VJ{b a:Int}{left:pB->Bool}{c:List gB}{q:gB}(h:q∈oI b a left c):∃t∈c,q=(if left t.N=eA then t else oE b a t)/\q.N=t.N:=by grind [oI,oE]
def gq{c b:Int}{left a:pB->Bool}{d:List gB}(h:∀t∈d,left t.N=a t.N):oI c b left d=oI c b a d:=by induction d<;>grind [oI,vS]
theorem ox{b a:Int}{left c:pB->Bool}{j:List gB}(v:tC (·.N) j){t:gB}(o:t∈j)(C:left t.N=eA)(k:∀n,c n=(left n&&!(n.toList==t.N.toList))):
 oI b a c j=if xE (oE b a t)=eA then sE (·.N) t.N (oI b a left j) else fC (·.N) (oE b a t) (oI b a left j):=by
 induction j with
 |nil=>cases o
 |cons p r E=>
  have i:c t.N=dA:=by rw[k,(gE t.N t.N).2 rfl];simp
  have f:∀n,n≠t.N->c n=left n:=λn g=>by rw[k,yD g];simp
  rcases Lb.1 o with rfl|o
  .have h:oI b a c r=oI b a left r:=gq λq m=>f q.N (λe=>mI (v.head q m) e.symm);have g:∀q∈oI b a left r,q.N≠t.N:=λq m=>by
    obtain⟨s,D,_,e⟩:=VJ m;rw[e];exact λB=>mI (v.head s D) B.symm
   rw[vS,vS,i,C,h];simp only[Bd,Cf,Rf,Td,Bool.true_or];by_cases d:xE (oE b a t)=eA
   .rw[Ma d,d];have z:sE (·.N) t.N (oI b a left r)=oI b a left r:=Jc.2 λq m=>by rw[yD (g q m)];rfl
    unfold sE at z |-
    rw[A0 (by simp),z];simp
   have w:xE (oE b a t)=dA:=by simpa using d
   rw[Ja d,w,Ma (by rfl),fC,Ja (by show ¬bK t.N t.N=eA;rw[sN];simp),Ma (by exact(gE t.N t.N).2 rfl)]
  .have y:=v.head t o;have l:=mI y;have x:=E v.tail o;rw[vS,vS,f p.N l,x];by_cases u:(left p.N||!xE (if left p.N=eA then p else oE b a p))=eA
   .rw[Ma u,Ma u];have A:=gr (win:=b) (now:=a) (left:=left) p;generalize (if left p.N=eA then p else oE b a p)=q at *;by_cases d:xE (oE b a t)=eA
    .rw[Ma d,Ma d];unfold sE;rw[Wc (by show(!(q.N.toList==t.N.toList))=eA;rw[A,yD l];rfl)]
    rw[Ja d,Ja d,fC,Ma (by show bK q.N t.N=eA;rw[A];exact y)]
   rw[Ja u,Ja u]
def xI(c b:Int)(d:List gB)(a:Int):Int×List gB×Bool:=if a<1\/1000000000000-b<a then(b,d,dA) else(b+a,kD c (b+a) d,eA)
def GJ{c:lC}{a:Int}{d:List gB}(h:iC c a d=eA)(b:Int):BL c a d b=xI c.w a d b:=by
 unfold BL xI;rw[Ja (by rw[h];simp)]
def xv{b a u:Int}{t:gB}{c:List kB}(h:u=a-b)(f:c.filter (λp=>decide (u<p.n))=t.Z.filter (λp=>decide (u<p.n)))(d:∀p∈c,u<p.n):oE b a t=⟨t.N,t.L,t.M,c⟩:=by
 unfold oE;have e:(λp:kB=>decide (a-p.n<b))=λp=>decide (u<p.n):=by
  funext p;rw[decide_eq_decide];omega
 rw[e,<-f,Jc.2 λp g=>Ac (d p g)]
def NV{α:Type}{key:α->pB}{l:List α}(b:tC key l){a:α}(h:a∈l):(a::sE key (key a) l).Perm l:=by
 induction l with
 |nil=>cases h
 |cons p r c=>
  unfold sE at c |-
  rcases Lb.1 h with rfl|h
  .rw[A0 (by simp)];have:r.filter (λq=>!((key q).toList==(key a).toList))=r:=Jc.2 λq d=>by rw[yD (λe=>mI (b.head q d) e.symm)];rfl
   rw[this]
  rw[Wc (by rw[yD (mI (b.head a h))];rfl)];exact(List.Perm.swap _ _ _).trans ((c b.tail h).cons p)
def cl{met:pB->pB}{l:List kB}(a:tC (·.s) l){p:kB}(h:p∈l)(m:pB):tI met l m=tI met (sE (·.s) p.s l) m+if met p.s=m then 1 else 0:=by
 rw[<-UC];exact UD (NV a h).symm m
theorem NC{f:Nat->Bool}{n:Nat}(h:∀k,k<n->f k=eA):iI f n=eA:=by induction n<;>grind [iI,lL]
theorem QN{l:List kB}(b:tC (·.s) l){k:Nat}(a:k<zA l):bM l k=eA:=by
 cases k with
 |zero=>rfl
 |succ k=>
  rw[zS (by omega) a];have:=Qe.1 b k (k+1) (by omega) a (by omega);simpa using this
theorem pr{l:List gB}(b:tC (·.N) l){k:Nat}(a:k<zA l):eO l k=eA:=by
 cases k with
 |zero=>rfl
 |succ k=>
  rw[lV (by omega) a];have:=Qe.1 b k (k+1) (by omega) a (by omega);simpa using this
def gp{a:List kB}(b:tC (·.s) a)(h:∀m∈a,aF m.s=eA/\yB m.n 0 1000000=eA):yL a=eA:=by grind [tC,aF,yB,yL,NC,zY,QN]
def jh{b a:Int}{c:List kB}(d:tC (·.s) c)(h:∀x∈c,qK x.s=eA/\yB x.n 0 a=eA/\a-x.n<b):fL b a c=eA:=by grind [tC,qK,yB,fL,NC,oV,QN]
theorem RM{b a:Int}{c:List gB}(d:tC (·.N) c)(h:∀t∈c,cP b a t=eA):bN b a c=eA:=by grind [tC,cP,bN,NC,tV,pr]
def dQ{c:lC}{a:Int}{b:List gB}(d:lG c=eA)(e:yB a 0 1000000000000=eA)(f:zA b<=10000)(g:bN c.w a b=eA):iC c a b=eA:=by
 unfold iC;rw[d,e,g,Ac f];rfl
def MJ{a:List kB}(h:yL a=eA):(∀m∈a,aF m.s=eA/\yB m.n 0 1000000=eA)/\tC (·.s) a:=by
 refine⟨λm c=>?_,?_⟩;obtain ⟨i,b,rfl⟩:=Ib c;have:=nO h b;rw[zY b]at this;simp only[Sa]at this;exact⟨this.1.2,this.2⟩;have:=IN (n:=zA a) h (Ia _);rwa [Rb]at this
def FY{b a:Int}{c:List kB}(h:fL b a c=eA):(∀x∈c,qK x.s=eA/\yB x.n 0 a=eA/\a-x.n<b)/\tC (·.s) c:=by
 refine⟨λx e=>?_,?_⟩;obtain ⟨i,d,rfl⟩:=Ib e;have:=nO h d;rw[oV d]at this;simp only[Sa,Ab]at this;exact⟨this.1.1.2,this.1.2,this.2⟩;have:=JA (n:=zA c) h (Ia _);rwa [Rb]at this
def GG{b a:Int}{t:gB}(h:cP b a t=eA):uC t.N=eA/\yB t.L (-1) 1000000=eA/\yL t.M=eA/\fL b a t.Z=eA/\xE t=dA:=by grind [cP,uC,yB,yL,fL,xE]
def ai{b a:Int}{t:gB}(c:uC t.N=eA)(d:yB t.L (-1) 1000000=eA)(e:yL t.M=eA)(f:fL b a t.Z=eA)(g:xE t=dA):cP b a t=eA:=by
 unfold cP;rw[c,d,e,f,g];rfl
def GZ{n a b:Int}(c:a<=n)(d:n<=b):yB n a b=eA:=by
 unfold yB;rw[Ac c,Ac d];rfl
def ud{c:lC}(h:lG c=eA):1<=c.w/\c.w<=1000000000:=by
 simp only[lG,Sa]at h;exact nL h.1.1.1.1.1
def dU{c b:Int}{a:List gB}(h:bN c b a=eA){name:pB}:yB (rB a name).L (-1) 1000000=eA/\yL (rB a name).M=eA/\fL c b (rB a name).Z=eA:=by
 rcases dM (ts:=a) (name:=name) with⟨d,_⟩|⟨d,_⟩;obtain ⟨_,e,f,g,_⟩:=GG (kJ h _ d);exact⟨e,f,g⟩;rw[d];exact⟨rfl,rfl,rfl⟩
def YK{b:List gB}{t:gB}(d:tC (·.N) b)(e:zA b<=10000)(h:((xC (·.N) t.N b).isNone&&decide (10000<=zA b))=dA):zA (fC (·.N) t b)<=10000:=by
 have c:=FB (a:=t) d;cases hg:xC (·.N) t.N b with
 |some q=>simp only[hg,Wf,Td]at c;omega
 |none=>
  rw[hg]at h;simp only[hg,Xf,Bd,Cf]at c;simp only[Option.isNone_none,Oc,Xe]at h;omega
def OX{b a:Int}{c:List gB}{t:gB}(h:bN b a c=eA)(d:cP b a t=eA):bN b a (fC (·.N) t c)=eA:=by grind [bN,cP,fC,RM,jK,gL,uK,kJ]
def qv{c:lC}{b:Int}{d:List gB}(f:iC c b d=eA){a key:pB}(e:(uC a&&qK key)=eA):cP c.w b (sI (rB d a) key b)=eA:=by
 obtain⟨i,h,p,q,j⟩:=bG f;obtain⟨k,l,m⟩:=dU j (name:=a);obtain⟨n,o⟩:=FY m;rw[Sa]at e;refine ai (by show uC (rB d a).N=eA;rw[gF];exact e.1) k l ?_ TM;refine jh (jK o) λx g=>?_;rcases uK (show x∈fC (·.s) ⟨key,b⟩ (rB d a).Z from g) with rfl|g
 .exact ⟨e.2,GZ h (Xd _),by have:=(ud i).1;show b-b<_;omega⟩
 exact n x g
theorem qx{c:lC}{d:Int}{b:List gB}(f:iC c d b=eA){a key:pB}(g:(fJ c d b a key).2=1\/(fJ c d b a key).2=2):iC c d (fJ c d b a key).1=eA:=by
 obtain⟨p,v,w,r,m⟩:=bG f;have o:=GZ v w;have t:=gL m;have i:(sI (rB b a) key d).N=a:=gF;unfold fJ at g |-
 by_cases k:(uC a&&qK key)=dA
 .rw[Ma k]at g;omega
 rw[Ja k]at g |-
 have h:(uC a&&qK key)=eA:=by simpa using k
 by_cases j:(xC (·.s) key (rB b a).Z).isSome=eA
 .rw[Ma j];refine dQ p o (YK t r ?_) (OX m (qv f h));rw[i];rcases dM (ts:=b) (name:=a) with⟨_,u⟩|⟨e,_⟩
  .cases hg:xC (·.N) a b with
   |none=>rw[hg]at u;cases u
   |some q=>rfl
  rw[e]at j;cases j
 rw[Ja j]at g |-
 by_cases l:(if (rB b a).L = -1 then c.tl else(rB b a).L)<=(zA (rB b a).Z:Nat)\/((xC (·.N) a b).isNone&&decide (10000<=zA b))=eA
 .rw[Ma l]at g;omega
 rw[Ja l]at g |-
 by_cases n:cH (rB b a).M (dE key) c.ml<=(tI dE (rB b a).Z (dE key):Nat)
 .rw[Ma n]at g;omega
 rw[Ja n];refine dQ p o (YK t r ?_) (OX m (qv f h));rw[i];cases hd:((xC (·.N) a b).isNone&&decide (10000<=zA b)) with
 |false=>rfl
 |true=>exact absurd (La hd) l
theorem aIs{c:lC}{k:Int}{g:List gB}(f:iC c k g=eA){a b:pB}{d:Int}:iC c k (bQ g a b d).1=eA:=by
 obtain⟨v,C,D,w,l⟩:=bG f;have u:=GZ C D;have y:=gL l;obtain⟨E,z,F⟩:=dU l (name:=a);obtain⟨A,B⟩:=MJ z;unfold bQ;by_cases n:(uC a&&(b.toList.isEmpty||aF b) &&yB d (-1) 1000000)=dA
 .rw[Ma n];exact f
 rw[Ja n];have e:=(Bool.not_eq_false _).mp n;simp only[Sa]at e;by_cases o:xE (pH (rB g a) b d)=eA
 .rw[Ma o];refine dQ v u (Ua (Pc _ _) w) (RM (pP y) λt s=>kJ l t (vP.1 s).1)
 rw[Ja o];by_cases p:((xC (·.N) a g).isNone&&decide (10000<=zA g))=eA
 .rw[Ma p];exact f
 rw[Ja p];have j:(pH (rB g a) b d).N=a:=by rw[sM,gF]
 refine dQ v u (YK y w (by rw[j];simpa using p)) (OX l ?_);refine ai (by rw[j];exact e.1.1) ?_ ?_ (by rw[VE];exact F) (by simpa using o)
 .unfold pH;split
  .exact e.2
  exact E
 unfold pH;split;exact z
 rename_i q;have r:aF b=eA:=by
  have:=e.1.2;rw[Fe]at this;obtain h|h:=this;exact absurd h q;exact h
 simp only;split
 .exact gp (pP B) λm i=>A m (vP.1 i).1
 rename_i x;refine gp (jK B) λm i=>?_;rcases uK i with rfl|i
 .have:=nL e.2;exact⟨r,GZ (by show 0<=d;omega) this.2⟩
 exact A m i
theorem aFk{c:lC}{a:Int}{d:List gB}(e:iC c a d=eA){b:Int}:iC c (xI c.w a d b).1 (xI c.w a d b).2.1=eA:=by
 obtain⟨k,D,E,l,h⟩:=bG e;have n:=gL h;unfold xI;split;exact e
 rename_i F;have f:zA (kD c.w (a+b) d)<=zA d:=by
  unfold kD;have:=Pc (λt=>!xE t) (d.map (oE c.w (a+b)));rw[Xa]at this;exact this
 refine dQ k (GZ (by omega) (by omega)) (Ua f l) (RM ?_ λt g=>?_);exact Mf _ (Te.2 n);obtain ⟨i,j⟩:=De.1 g;obtain⟨q,m,rfl⟩:=Md.1 i;obtain⟨p,r,s,u,_⟩:=GG (kJ h q m);obtain⟨v,y⟩:=FY u;refine ai p r s (jh (Mf _ y) λx o=>?_) (by simpa using j);obtain⟨z,A⟩:=De.1 o;obtain⟨B,C,_⟩:=v x z;have:=nL C;exact⟨B,GZ this.1 (by omega),by simpa using A⟩
def vD(c:lC)(a:Int)(b:List gB)(r:nE):Int×List gB×Bool:=
 if r.K=1 then(a,(fJ c a b r.T r.X).1,decide ((fJ c a b r.T r.X).2=1) ||decide ((fJ c a b r.T r.X).2=2))
 else if r.K=2 then xI c.w a b r.U
 else if r.K=3 then(a,(bQ b r.T r.X r.U).1,(bQ b r.T r.X r.U).2)
 else(a,b,dA)
def bF(c:lC):Int->List gB->List nE->Int×List gB×Bool
 |a,b,[]=>(a,b,eA)
 |a,b,r::d=>if (vD c a b r).2.2=eA then bF c (vD c a b r).1 (vD c a b r).2.1 d else((vD c a b r).1,(vD c a b r).2.1,dA)
def vG(c:lC)(a:Int)(b:List gB)(d:List nE):Int×List gB×Bool:=
 if iC c a b=dA then(0,[],dA) else if 500<zA d then(a,b,dA) else if (bF c a b d).2.2=eA then bF c a b d else(a,b,dA)
def gT{c:lC}{a:Int}{b:List gB}(h:iC c a b=eA){r:nE}(d:(vD c a b r).2.2=eA):iC c (vD c a b r).1 (vD c a b r).2.1=eA:=by grind [iC,vD,qx,aFk,aIs]
theorem FN{p:kB}(l:List kB):fE (fC (·.s) p l)<=fE l+p.s.size/\zA (fC (·.s) p l)<=zA l+1:=by induction l<;>grind [fE,fC]
theorem oX(f:kB->Bool)(l:List kB):fE (l.filter f)<=fE l/\zA (l.filter f)<=zA l:=by induction l<;>grind [fE]
theorem tX(f:gB->Bool)(l:List gB):eC (l.filter f)<=eC l/\zA (l.filter f)<=zA l:=by induction l<;>grind [eC]
def GI{a:List gB}(f:tC (·.N) a){t:gB}{k:Nat}(h:fF t<=fF (rB a t.N)+k):zA (fC (·.N) t a)+eC (fC (·.N) t a)<=zA a+eC a+1+t.N.size+k:=by
 have g:fF ⟨t.N,-1,[],[]⟩=t.N.size:=by simp[fF,fE]
 have key:(∃q∈a,q.N=t.N/\fF t<=fF q+k)\/(fF t<=t.N.size+k):=by
  rcases dM (ts:=a) (name:=t.N) with⟨m,_⟩|⟨e,_⟩;exact Ca ⟨_,m,gF,h⟩;rw[e,g]at h;exact La h
 clear h g;obtain⟨q,c,d,j⟩|j:=key
 .have:zA (fC (·.N) t a)+eC (fC (·.N) t a)<=zA a+eC a+k:=by
   induction a with
   |nil=>cases c
   |cons p r i=>
    rw[fC];rcases Lb.1 c with rfl|c;rw[Ja (by rw[d,sN];simp),Ma ((gE _ _).2 d)];simp only[Zb,eC];omega;have b:=f.head q c;simp only[d]at b;rw[Ma b];have:=i f.tail c;simp only[Zb,eC];omega
  omega
 .have:∀l:List gB,zA (fC (·.N) t l)+eC (fC (·.N) t l)<=zA l+eC l+1+fF t:=λl=>by
   induction l with
   |nil=>simp[fC,eC]
   |cons p r i=>
    rw[fC];split;simp only[Zb,eC];omega;split<;>(simp only[Zb,eC];omega)
  have:=this a;omega
def uo{c:List gB}{a key:pB}{b:Int}:fF (sI (rB c a) key b)<=fF (rB c (sI (rB c a) key b).N)+(1+key.size):=by grind [fF,sI,rB,gF,FN]
def ye{d:List gB}{b a:pB}{c:Int}:fF (pH (rB d b) a c)<=fF (rB d (pH (rB d b) a c).N)+(1+a.size):=by grind [fF,pH,rB,fE,sE,sM,gF,FN,oX]
def xw{win now:Int}(a:List gB):zA (kD win now a)+eC (kD win now a)<=zA a+eC a:=by induction a<;>grind [kD,eC,xE,oE,fF,tX,oX]
def dX{c:lC}{b:Int}{a:List gB}(h:iC c b a=eA)(r:nE):zA (vD c b a r).2.1+eC (vD c b a r).2.1<=zA a+eC a+2+r.T.size+r.X.size:=by
 have g:=gL (bG h).2.2.2.2;have d:zA a+eC a<=zA a+eC a+2+r.T.size+r.X.size:=by omega
 have f:zA (fC (·.N) (sI (rB a r.T) r.X b) a)+eC (fC (·.N) (sI (rB a r.T) r.X b) a)<=zA a+eC a+2+r.T.size+r.X.size:=by
  have:=GI g (t:=sI (rB a r.T) r.X b) uo;have e:(sI (rB a r.T) r.X b).N=r.T:=gF;rw[e]at this;omega
 have i:zA (fC (·.N) (pH (rB a r.T) r.X r.U) a)+eC (fC (·.N) (pH (rB a r.T) r.X r.U) a)<=zA a+eC a+2+r.T.size+r.X.size:=by
  have:=GI g (t:=pH (rB a r.T) r.X r.U) ye;have e:(pH (rB a r.T) r.X r.U).N=r.T:=by rw[sM,gF]
  rw[e]at this;omega
 unfold vD;split
 .unfold fJ;split
  .exact d
  split;exact f;generalize (if (rB a r.T).L = -1 then c.tl else(rB a r.T).L)=j;split;exact d;split;exact d;exact f
 split
 .unfold xI;split
  .exact d
  have:=xw (win:=c.w) (now:=b+r.U) a;show(kD c.w (b+r.U) a).length+eC (kD c.w (b+r.U) a)<=_;omega
 split
 .unfold bQ;split
  .exact d
  split;have:=tX (λp=>!((λq:gB=>q.N) p).toList==r.T.toList) a;show(sE (·.N) r.T a).length+eC (sE (·.N) r.T a)<=_;unfold sE;omega;split;exact d;exact i
 exact d
def VZ{c:lC}:∀{rs:List nE}{now:Int}{ts:List gB},iC c now ts=eA->zA (bF c now ts rs).2.1+eC (bF c now ts rs).2.1<=zA ts+eC ts+2*zA rs+eD rs
 |[],now,ts,_=>by simp[bF,eD]
 |r::rs,now,ts,h=>by
  have b:=dX h r;rw[bF];simp only[Zb,eD];split
  .rename_i a;have d:=VZ (rs:=rs) (gT h a);omega
  show zA (vD c now ts r).2.1+eC (vD c now ts r).2.1<=_;omega
def WA{c:lC}{a:Int}{d:List gB}{b:List nE}{k:Nat}(e:k<zA b)(f:(vD c a d b[k]).2.2=eA):bF c a d (b.drop k)=bF c (vD c a d b[k]).1 (vD c a d b[k]).2.1 (b.drop (k+1)):=by
 rw[Cb e,bF,Ma f]
def WC{c:lC}{a:Int}{d:List gB}{b:List nE}{k:Nat}(e:k<zA b)(f:(vD c a d b[k]).2.2=dA):bF c a d (b.drop k)=((vD c a d b[k]).1,(vD c a d b[k]).2.1,dA):=by
 rw[Cb e,bF,Ja (by rw[f];decide)]
def FR(a:List nE){k:Nat}(b:k<zA a):eD (a.drop k)=a[k].T.size+a[k].X.size+eD (a.drop (k+1)):=by
 rw[Cb b,eD]
def zL(t:kB)(s:List kB×Bool)(p:kB):List kB×Bool:=
 (s.1++(if s.2=eA then [] else if bK p.s t.s=eA then [] else [t])++(if (p.s.toList==t.s.toList)=eA then [] else [p]),if s.2=eA then eA else !bK p.s t.s)
def mX(t:kB)(b:Bool)(a:List kB):List kB×Bool:=a.foldl (zL t) ([],b)
def ih(t:kB)(b:Bool)(a:List kB):List kB:=(mX t b a).1++if (mX t b a).2=eA then [] else [t]
def pe(t:kB)(b:Bool)(a:List kB)(k:Nat)(h:k<zA a):mX t b (a.take (k+1))=zL t (mX t b (a.take k)) a[k]:=by
 rw[Pa h,mX,Dg];rfl
theorem zb(t:kB)(c:List kB):∀(a:List kB)(b:Bool),c.foldl (zL t) (a,b)=(a++(c.foldl (zL t) ([],b)).1,(c.foldl (zL t) ([],b)).2):=by induction c<;>grind [zL]
def VN(t p:kB)(r:List kB)(b:Bool):ih t b (p::r)=(zL t ([],b) p).1++ih t (zL t ([],b) p).2 r:=by grind [ih,zL,mX,zb]
def xT(t:kB)(c:List kB):ih t eA c=sE (·.s) t.s c:=by
 induction c with
 |nil=>rfl
 |cons p r d=>
  rw[VN];by_cases b:(p.s.toList==t.s.toList)=eA
  .simp only[zL,b,Td,Mb,d];unfold sE;rw[A0 (by rw[b];simp)]
  have a:(p.s.toList==t.s.toList)=dA:=by simpa using b
  simp only[zL,a,Td,Mb,d];unfold sE;rw[Wc (by rw[a];rfl)];rfl
def ij{t:kB}{g:List kB}(l:tC (·.s) g):ih t dA g=fC (·.s) t g:=by
 induction g with
 |nil=>rfl
 |cons p r m=>
  have j:=m l.tail;rw[VN,fC];by_cases d:bK p.s t.s=eA
  .have f:(p.s.toList==t.s.toList)=dA:=yD (mI d);simp only[zL,d,f,Td];simp[j]
  have c:bK p.s t.s=dA:=by simpa using d
  have b:∀q∈r,q.s≠t.s:=λq i e=>by
   have k:=l.head q i;rw[e]at k;exact d k
  have a:sE (·.s) t.s r=r:=Jc.2 λq i=>by rw[yD (b q i)];rfl
  by_cases f:p.s=t.s
  .have h:(p.s.toList==t.s.toList)=eA:=(gE _ _).2 f;simp only[zL,c,h,Td];simp[xT,a]
  have h:(p.s.toList==t.s.toList)=dA:=yD f;simp only[zL,c,h];simp[xT,a]
def aDo{t:gB}{a:pB}{limit:Int}(c:tC (·.s) t.M)(b:a.toList.isEmpty=dA):pH t a limit=⟨t.N,t.L,ih ⟨a,limit⟩ (decide (limit<0)) t.M,t.Z⟩:=by
 unfold pH;rw[Ja (by rw[b];simp)];by_cases h:limit<0
 .rw[Ma h,Ac h,xT]
 rw[Ja h,Ub h,ij c]
def bW(w:fA)(cs:Array jA)(t:kA):jB (w.alloc (xA cs t)) w.1.size cs t:=heap_alloc_new _ _
def DL(a:nC)(c:List iB)(P:Nat):Prop:=c=[]\/∃b o,a=some (eB b o)/\b≠P
def pO{w a:fA}{cs:Array jA}{t:kA}(h:Below (w.alloc (xA cs t)).1.size (w.alloc (xA cs t)) a):jB a w.1.size cs t:=(bW w cs t).z h
def gY{w:fA}{P:Nat}{i j k l m n a b c d e f:jA}{t:kA}(h:jB w P #[i,j,k,l,m,n] t):
 jB ((((((w.setCell (eB P 0) a).setCell (eB P 1) b).setCell (eB P 2) c).setCell (eB P 3) d).setCell (eB P 4) e).setCell (eB P 5) f) P #[a,b,c,d,e,f] t:=by
 have g:=(((((h.set 0 a).set 1 b).set 2 c).set 3 d).set 4 e).set 5 f;simpa using g
def mL{w a:fA}{cs:Array jA}{t:kA}(h:Below (w.alloc (xA cs t)).drew.1.size (w.alloc (xA cs t)).drew a):jB a w.1.size cs t:=(bW w cs t).z ⟨h.os,h.tape,h.output,h.size,h.block⟩
def lp{w:fA}{a:nC}{d:List iB}{P:Nat}{t:kA}(h:uB w a d)(j:jB w P #[qA none 0 0,aB 0,aB 0,aB 0,aB 0,sA dA] t):DL a d P:=by
 obtain h|⟨b,o,e,_,h⟩:=h;exact Ca h
 by_cases f:d=[]
 .exact Ca f
 refine La ⟨b,o,e,λg=>?_⟩;subst g;have i:0<zA d:=by
  cases d with
  |nil=>exact absurd rfl f
  |cons _ _=>simp
 have c:=(h 0 i).1;rw[j.cell]at c;simp only[Nat.zero_mul,Bg]at c;match o,c with
 |0,c=>simp at c
 |1,c=>simp at c
 |2,c=>simp at c
 |3,c=>simp at c
 |4,c=>simp at c
 |5,c=>simp at c
 |n+6,c=>simp at c
def xJ{w:fA}{P:Nat}(a b c d e f:jA):
 sD P w ((((((w.setCell (eB P 0) a).setCell (eB P 1) b).setCell (eB P 2) c).setCell (eB P 3) d).setCell (eB P 4) e).setCell (eB P 5) f):=
 ((((((sD.refl P w).setCell 0 a).setCell 1 b).setCell 2 c).setCell 3 d).setCell 4 e).setCell 5 f
def uB.apart{w e:fA}{P:Nat}{a:nC}{c:List iB}(h:uB w a c)(f:DL a c P)(g:sD P w e):uB e a c:=by
 obtain i|⟨b,o,rfl,d⟩:=f;exact Ca i;exact h.but g d
def dR(n:Int)(w:fA):
 cF 98 #[aB n] w (pA (sH n)):=by
 by_cases h:1<=n/\n<=999999
 .have k:yB n 1 999999=eA:=by unfold yB;simp;omega
  have E:cB (sH n=SN n.toNat):=Ma h;obtain⟨N,rfl⟩:=Yf (show 0<=n by omega);have o:N<=999999:=by omega
  have p:=aBt;clear h;go_enter func98,ntmps98;go_wp2_with(go_at_call 86;apply kO (uD _ _ _ _));go_loopw [0,3,4] (λm s i wr=>∃(j M:Nat)(c:pB),j<=6/\i=aB j/\m=aB M/\s=pA c/\cB (M=N / 10 ^ j)/\M<=999999/\c.size=j/\cB (c.data.toList=zX N j)/\xB w wr) (λ_ _ i _=>6-(intOf i).toNat)
  case atStart=>exact⟨0,N,lA,by omega,rfl,rfl,rfl,by show _=_;simp,o,rfl,rfl,gD⟩
  case round=>
   obtain⟨j,M,c,r,rfl,rfl,rfl,g,l,d,b,a⟩:=hrel;by_cases q:j<6
   .go_wp2;refine⟨⟨j+1,M / 10,_,by omega,by go_num,by go_num,rfl,?_,by omega,?_,?_,aC a bC⟩,by simp[intOf];omega⟩
    .show _=_;rw[g.o,Fg,Od]
    .rw[ZZ,d]
    show _=_;rw[aIw,b.o,zX,g.o]
   go_wp2;go_ret;have e:j=6:=by omega
   subst e;refine⟨Kd (λx=>Ending.returned (pA x)) ?_,a⟩;rw[E.o,SN];refine yq _ _ ?_;rw[Hd,<-b.o];simp
 have k:yB n 1 999999=dA:=by unfold yB;simp;omega
 have E:cB (sH n=lA):=Ja h;go_enter func98,ntmps98;go_wp2_with(go_at_call 86;apply kO (uD _ _ _ _));go_ret;exact⟨Kd (λx=>Ending.returned (pA x)) E.o.symm,gD⟩
section
open Go.Lib
def zm{w:fA}{B:Nat}{e:kA}{c:Nat}{v:jA}{n:Nat}{f:List jA}(h:w.ownsRow B e c v n f):∃a b,v=qA a n b:=by
 obtain⟨rfl,rfl⟩|⟨g,b,d,rfl,_⟩:=h.2;exact ⟨_,_,rfl⟩;exact ⟨_,_,rfl⟩
def BJ(a:List Int):(strOfNums a).size=zA a:=by
 rw[pR];simp[strOfNums]
def SY(s:pB):∃a:List Int,strCells s=a.map (jA.int .u8)/\zA a=s.size:=by
 refine⟨s.data.toList.map λb=>(b.toNat:Int),?_,by rw[Xa,pR]⟩;simp[strCells]
def uV(s:pB)(m n:Nat)(w:fA)(T:s.size<=m)(L:m<=4)(S:n<=70000):
 Calls prog 89 #[pA s,aB (n:Nat)] w λe P=>∃t:pB,t.size<=n*m/\e=vA (pA t)/\xB w P:=by
 obtain⟨D,j,x,y,z⟩:=MI;have E:cB (prog.info? 5=some D):=j;clear j;obtain⟨u,o,l⟩:=SY s;have B:cB (strCells s=u.map (jA.int .u8)/\zA u=s.size):=⟨o,l⟩
 clear o l;go_enter func89,ntmps89;go_wp2;go_loopw [5,6] (λA i wr=>∃(k:Nat)(b:List Int)(p:nC)(r:Nat),k<=n/\i=aB (k:Nat)/\A=qA p (zA b) r/\zA b<=k*m/\cB (wr.ownsRow w.1.size 5 1 (qA p (zA b) r) (zA b) (b.map (jA.int .u8)))/\xB w wr) (λ_ i _=>n-(intOf i).toNat)
 case atStart=>
  exact⟨0,[],_,_,by omega,rfl,rfl,by simp,fA.ownsRow_made w #[] 0 (Ia _) (by simp[maxLen]) (by simp),bC⟩
 case round=>
  obtain⟨k,b,p,r,R,rfl,rfl,O,c,d⟩:=hrel;have N:=d.size;have J:k*m<=70000*4:=Hf (by omega) L;have I:(k+1)*m=k*m+m:=Nat.succ_mul _ _;by_cases K:k<n
  .have g:(k:Int)<(n:Int):=by omega
   go_wp2_with(at_builtin;refine wpList_append_own_string _ rfl _ _ _ _ rfl w.1.size 5 D underlying22 underlying9 E.o x y z (qA p (zA b) r) (zA b) (b.map (jA.int .u8)) rfl (by exact c.o) s rfl (by simp[maxLen];omega) (by omega) (by omega) ?_;intro U Q a f C);obtain⟨F,G,rfl⟩:=zm a;have v:xB w Q:=d.grown f (by omega) (λq M=>uH c.o q M);rw[B.o.1,<-Ld]at a;have h:zA (b++u)=zA b+s.size:=by rw[Kb,B.o.2]
   rw[<-h]at a;refine⟨⟨k+1,b++u,F,G,by omega,by go_num,by rw[h],by omega,a,v⟩,by simp[intOf];omega⟩
  have g:¬((k:Int)<(n:Int)):=by omega
  have H:=NR c.o;go_wp2;go_ret;obtain rfl:k=n:=by omega
  exact⟨strOfNums b,by rw[BJ];exact O,rfl,d⟩
end
def XE(B P N:Nat)(w:fA)(h:wD w B P N)(K:N<=100000):
 Calls prog 90 #[.pointer (vB B)] w λe u=>∃s:pB,s.size<=258/\e=vA (pA s)/\wD u B P (N+1)/\sD B w u:=by
 have t:cB (wD w B P N):=h;have C:=h.lt;clear h;go_enter func90,ntmps90;go_wp2_with fail;refine(uV ⟨#[195,169]⟩ 2 128 w (by decide) (by omega) (by omega)).mono ?_;rintro e x ⟨a,E,rfl,j⟩;have q:cB (xB w x):=j;clear j;go_wp2_with fail;refine(uV ⟨#[195,169]⟩ 2 129 x (by decide) (by omega) (by omega)).mono ?_;rintro e y ⟨b,F,rfl,k⟩;have r:cB (xB w y):=aC q.o k;clear k q;go_wp2_with fail;refine(uV ⟨#[122]⟩ 1 129 y (by decide) (by omega) (by omega)).mono ?_;rintro e f ⟨c,G,rfl,l⟩;have n:cB (xB w f):=aC r.o l;clear l r;go_wp2_with fail;have o:cB (nP (f.alloc (xA ([⟨#[128]⟩,⟨#[192,128]⟩,⟨#[237,160,128]⟩,⟨#[244,144,128,128]⟩,⟨#[226,130]⟩,⟨#[31]⟩,⟨#[127]⟩,⟨#[194,133]⟩,⟨#[240,128,128,128]⟩,⟨#[255]⟩,⟨#[97,195]⟩,a,b,c,⟨#[194,160]⟩,⟨#[239,191,189]⟩,⟨#[244,143,191,191]⟩,⟨#[238,128,128]⟩].map jA.string).toArray 9)) f.1.size 18 258):=cT f _ 258 _ 18 rfl (by
  simp only[List.all_cons,List.all_nil,Bool.and_true,Sa,Ab];refine⟨by decide,by decide,by decide,by decide,by decide,by decide,by decide,by decide,by decide,by decide,by decide,by omega,by omega,by omega,by decide,by decide,by decide,by decide⟩)
 simp only[Fc,Ag]at o;have i:=(t.o.z n.o).z (zF f (xA #[pA ⟨#[128]⟩,pA ⟨#[192,128]⟩,pA ⟨#[237,160,128]⟩,pA ⟨#[244,144,128,128]⟩,pA ⟨#[226,130]⟩,pA ⟨#[31]⟩,pA ⟨#[127]⟩,pA ⟨#[194,133]⟩,pA ⟨#[240,128,128,128]⟩,pA ⟨#[255]⟩,pA ⟨#[97,195]⟩,pA a,pA b,pA c,pA ⟨#[194,160]⟩,pA ⟨#[239,191,189]⟩,pA ⟨#[244,143,191,191]⟩,pA ⟨#[238,128,128]⟩] 9));have J:w.1.size<=f.1.size:=n.o.size;refine(iD B P N 18 _ i (by omega) (by omega) (by omega)).mono ?_;rintro e z ⟨v,H,rfl,m,d⟩;have g:=o.o.but d (by omega);obtain⟨s,p,D⟩:=g.at H;have A:cB (wD z B P (N+1)/\sD B w z):=⟨m,((sD.of n.o).z bC).trans d⟩
 clear m d g o i n t;have I:(v:Int)<18:=by omega
 go_wp2;go_ret;exact⟨s,D,rfl,A.o⟩
def SE(p:pB)(w:fA)(i:p.size<=maxLen):
 cF 300 #[pA p] w (pA (dF p)):=by
 have m:cB _:=i;unfold maxLen at i;have f:cB (∀W,rI 314 #[aB (p.size:Int)] W (sA (yB p.size 1 60000))):=λW=>ds _ W;by_cases h:1<=p.size/\p.size<=60000
 .have g:yB p.size 1 60000=eA:=by simp[yB];omega
  rw[g]at f;have E:cB (dF p=tB 4 p.size++tB 4 (pL p:Nat)++p):=Ma h;have o:=nB 4 (p.size:Int);have n:=nB 4 ((pL p:Nat):Int);have j:cB (∀W,cF 74 #[aB (p.size:Int),aB 4] W (pA (tB 4 p.size))):=λW=>oH 4 _ W (by omega);have k:cB (∀W,cF 74 #[aB (pL p:Nat),aB 4] W (pA (tB 4 (pL p:Nat)))):=λW=>oH 4 _ W (by omega);generalize tB 4 (p.size:Int)=A at *;generalize tB 4 ((pL p:Nat):Int)=B at *;go_enter func300,ntmps300;go_wp2_with(go_at_call 314;apply kO (f.o _));apply jC (j.o _);intro q b;go_wp2_with fail;apply jC (KE p _ m.o);intro r c;go_wp2_with fail;apply jC (k.o _);intro s d;have l:cB _:=aC (aC b c) d;clear b c d;go_wp2;go_ret;exact⟨MM E.o.symm,l.o⟩
 have g:yB p.size 1 60000=dA:=by simp[yB];omega
 rw[g]at f;have E:cB (dF p=lA):=Ja h;go_enter func300,ntmps300;go_wp2_with(go_at_call 314;apply kO (f.o _));go_ret;exact⟨MM E.o.symm,gD⟩
section
open Go.Maps Go.Sort
def gi{x y:pB}(h:bK x y=eA):x.data.toList<=y.data.toList:=by
 unfold bK at h;rw[bytesLess_eq,Af,ByteArray.toList_eq,ByteArray.toList_eq]at h;exact List.le_of_lt h
def JE{α:Type}{key:α->pB}{L:List α}(j:tC key L){k:List (List UInt8)}(i:k.Perm (L.map λp=>(key p).data.toList)):
 (k.mergeSort (λx y=>decide (x<=y)))=L.map λp=>(key p).data.toList:=by
 have e:=(List.mergeSort_perm k (λx y=>decide (x<=y))).trans i;have f:(k.mergeSort (λx y=>decide (x<=y))).Pairwise (λa b=>a<=b):=by
  have:=List.pairwise_mergeSort (le:=fun(x y:List UInt8)=>decide (x<=y)) (λa b c h d=>by simp only[Af]at *;exact List.le_trans h d) (λa b=>by simp only[Fe,Af];exact List.le_total a b) k;simpa using this
 have g:(L.map λp=>(key p).data.toList).Pairwise (λa b=>a<=b):=Te.2 (j.imp λh=>gi h);exact Qf (le:=λa b=>a<=b) (λa b _ _ h d=>List.le_antisymm h d) f g e
def OG{α:Type}(key:α->pB)(L:List α):(L.map λp=>(key p).data.toList).map encStr=L.map λp=>jA.string (key p):=by
 rw[Vd];exact Ge λp _=>by simp[encStr]
def FU{w:fA}{B d:Nat}{e:kA}{a:Nat}{v:jA}{n:Nat}{f:List jA}(h:w.ownsRow B e a v n f)(l:d<=B):w.ownsRow d e a v n f:=by
 refine⟨h.1,?_⟩;obtain i|⟨g,b,c,j,k,r⟩:=h.2;exact Ca i;exact La ⟨g,b,c,j,Ua l k,r⟩
def aDd(x:Nat)(t:gB)(S:Nat->Prop)(M:Nat)(w:fA)(h:tD w S x t M)(z:zA t.Z<=1000000000):
 Calls prog 132 #[.pointer (vB x)] w λe c=>∃v,e=vA v/\c.ownsRow w.1.size 9 1 v (zA t.Z) (t.Z.map λp=>pA p.s)/\xB w c:=by
 obtain⟨C,d,y,B,Q,A,D,h⟩:=h;have u:yC w x 2 (.map (some d)):=h.blk.cell 2;have j:zA Q=zA t.Z:=by rw[<-h.q1,Xa]
 have b:Maps.size (jE (Q.map λq=>(q.1.s,kF q.2)))=zA t.Z:=by rw[vM,j]
 have l:cB (Calls prog 203 #[.map (some d)] w λe c=>e=vA (.func (.func 254) #[] #[.pointer (vB w.1.size)])/\c=w.alloc (xA #[.map (some d)] 217)):=callsIn_wide.1 (maps_Keys_203 (some d) w);have n:cB (Calls prog 69 #[.func (.func 254) #[] #[.pointer (vB w.1.size)]] (w.alloc (xA #[.map (some d)] 217)) λe c=>∃v,e=vA v/\c.ownsRow w.1.size 9 1 v (zA t.Z) (t.Z.map λp=>pA p.s)/\xB w c):=by
  refine Calls.mono (callsIn_wide.1 (slices_Sorted_keys_69_203 d _ _ tE w h.Z (by rw[b];unfold maxLen;omega) (by rw[b];omega))) ?_;rintro e r ⟨v,m,rfl,i,a,_,g⟩;have o:(strKeys (jE (Q.map λq=>(q.1.s,kF q.2))))=t.Z.map λp=>p.s.data.toList:=by
   rw[vU,Vd,<-h.q1,Vd];rfl
  rw[o]at i;have f:zA m=zA t.Z:=by rw[i.length_eq,Xa]
  rw[JE (key:=λp:kB=>p.s) h.rs i,OG (λp:kB=>p.s),f]at a;exact⟨v,rfl,FU a (by simp),aC bC g⟩
 clear h j b;go_enter func132,ntmps132;go_wp2_with fail;apply jC l.o;rintro r rfl;go_wp2_with fail;refine n.o.mono ?_;rintro e E ⟨v,rfl,a,g⟩;have m:=dB a;have k:=dB g;clear a g;go_wp2;go_ret;exact⟨v,rfl,m.o,k.o⟩
end
