import Derived.Test.YtflbidbilgndeaaGreatDoorJ15
import Derived.Test.YtflbidbilgndeaaGreatDoorJ03
set_option maxRecDepth 100000
set_option maxHeartbeats 1000000
set_option linter.defProp false
open Bool renaming true->dA,false->cA
open ByteArray renaming empty->kA
open List renaming length->yA
namespace Go.Proofs.YtflbidbilgndeaaGreatDoor
open Go renaming World->eA,Value->iA,TypeId->jA
open Value renaming bool->qA,string->oA
open Obj renaming cells->vA
open Go.RowKit Tryz
def mM(t:fB)(s:List fB×Bool)(p:fB):List fB×Bool:=
 (s.1++(if s.2=dA then [] else if eK p.N t.N=dA then [] else [t])++(if (p.N.toList==t.N.toList)=dA then [] else [p]),if s.2=dA then dA else !eK p.N t.N)
def bX(t:fB)(b:Bool)(a:List fB):List fB×Bool:=a.foldl (mM t) ([],b)
def FG(t:fB)(b:Bool)(a:List fB):List fB:=(bX t b a).1++if (bX t b a).2=dA then [] else [t]
def ue(t:fB)(b:Bool)(a:List fB)(k:Nat)(h:k<yA a):bX t b (a.take (k+1))=mM t (bX t b (a.take k)) a[k]:=by
 rw[Pa h,bX,Dg];rfl
theorem aCt(t:fB)(c:List fB):∀(a:List fB)(b:Bool),c.foldl (mM t) (a,b)=(a++(c.foldl (mM t) ([],b)).1,(c.foldl (mM t) ([],b)).2):=by induction c<;>grind [mM]
def KO(t p:fB)(r:List fB)(b:Bool):FG t b (p::r)=(mM t ([],b) p).1++FG t (mM t ([],b) p).2 r:=by grind [FG,mM,bX,aCt]
theorem oV{t:fB}{a:List fB}(h:∀p∈a,p.N≠t.N):FG t dA a=a:=by
 induction a with
 |nil=>rfl
 |cons p r d=>
  rw[KO];have b:=zD (h p (Kc ..));simp only[mM,b,Td,Mb];simp[d λq c=>h q (Sb _ c)]
def aHo{t:fB}{f:List fB}(j:zC (·.N) f):FG t cA f=fC (·.N) t f:=by
 induction f with
 |nil=>rfl
 |cons p r l=>
  have h:=l j.tail;rw[KO,fC];by_cases c:eK p.N t.N=dA
  .have d:=zD (qJ c);simp only[mM,c,d,Td];simp[h]
  have b:eK p.N t.N=cA:=by simpa using c
  have a:∀q∈r,q.N≠t.N:=λq k e=>by
   have i:=j.head q k;rw[e]at i;exact c i
  by_cases d:p.N=t.N
  .have g:=(kE _ _).2 d;simp only[mM,b,g,Td];simp[oV a]
  have g:=zD d;simp only[mM,b,g];simp[oV a]
def aFk(b a:Int)(c:List fB)(k:Nat)(h:k<yA c):aE b a (c.take (k+1))=aE b a (c.take k)++if cF (xE b a c[k])=dA then [] else [xE b a c[k]]:=by
 rw[Pa h,aE,Ld,Vf];congr 1;by_cases e:cF (xE b a c[k])=dA
 .rw[Ma e];simp[e]
 rw[Ja e];simp[e]
def aNa(b a:Int)(c:List fB)(k:Nat):yA (aE b a (c.take k))<=yA c:=by grind [aE]
def aHp{t:fB}{b:Bool}{c:List fB}{q:fB}(h:q∈FG t b c):q=t\/q∈c:=by
 induction c generalizing b with
 |nil=>
  unfold FG bX at h;simp only[List.foldl_nil,Mb]at h;cases b with
  |true=>cases h
  |false=>exact Ca (by simpa using h)
 |cons p r e=>
  rw[KO,Ee]at h;obtain h|h:=h
  .unfold mM at h;simp only[Mb,Ee]at h;obtain h|h:=h
   .by_cases d:b=dA
    .rw[Ma d]at h;cases h
    rw[Ja d]at h;by_cases a:eK p.N t.N=dA
    .rw[Ma a]at h;cases h
    rw[Ja a]at h;exact Ca (by simpa using h)
   by_cases a:(p.N.toList==t.N.toList)=dA
   .rw[Ma a]at h;cases h
   rw[Ja a]at h;exact La (by simp at h;simp[h])
  rcases e h with h|h;exact Ca h;exact La (Sb _ h)
def nL(c:iC)(d:Int)(b:List fB)(a key:jB):List fB×Nat:=
 if (bD a&&rK key)=cA then(b,5)
 else if (dD (·.s) key (aC b a).Z).isSome=dA then(fC (·.N) (kJ (aC b a) key d) b,1)
 else if (if (aC b a).L = -1 then c.tl else(aC b a).L)<=(yA (aC b a).Z:Nat)\/((dD (·.N) a b).isNone&&decide (10000<=yA b))=dA then(b,3)
 else if xG (aC b a).M (cE key) c.ml<=(bJ cE (aC b a).Z (cE key):Nat) then(b,4)
 else(fC (·.N) (kJ (aC b a) key d) b,2)
def aCp{d c:Int}{a:List fB}(h:eN d c a=dA){name:jB}: -1<=(aC a name).L/\(aC a name).L<=1000000:=by
 rcases kM (ts:=a) (name:=name) with⟨b,_⟩|⟨b,_⟩;have:=nJ h _ b;simp only[oP,Sa]at this;exact xJ this.1.1.1.2;rw[b];exact⟨by simp,by simp⟩
def ZG{c:iC}{d:Int}{b:List fB}(h:nC c d b=dA)(a key:jB):cI c d b a key=(d,(nL c d b a key).1,(nL c d b a key).2):=by
 obtain⟨_,_,_,l,m⟩:=gH h;unfold cI nL;rw[Ja (by rw[h];simp)];by_cases e:(bD a&&rK key)=cA
 .rw[Ma e,Ma e]
 rw[Ja e,Ja e];by_cases g:(dD (·.s) key (aC b a).Z).isSome=dA
 .rw[Ma g,Ma g]
 rw[Ja g,Ja g];have n:(cE key).toList.isEmpty=cA:=by
  have:(bD a&&rK key)=dA:=by simpa using e
  simp only[Sa,rK]at this;simpa using this.2
 have i:qE c (aC b a) kA=(((yA (aC b a).Z:Nat):Int),if (aC b a).L = -1 then c.tl else(aC b a).L):=by
  unfold qE;rw[Ma (show ByteArray.empty.toList.isEmpty=dA by rw[ByteArray.toList_eq];rfl)];have:=(aCp m (name:=a)).1;by_cases k:(aC b a).L = -1
  .rw[Ma k,Ma (by omega)]
  rw[Ja k,Ja (by omega)]
 have j:qE c (aC b a) (cE key)=(((bJ cE (aC b a).Z (cE key):Nat):Int),xG (aC b a).M (cE key) c.ml):=by
  unfold qE;rw[Ja (by rw[n];simp)]
 have h:=uc m (name:=a);rw[i,j];simp only;have f:(cF (aC b a)=dA/\yA b=10000) ↔ ((dD (·.N) a b).isNone&&decide (10000<=yA b))=dA:=by
  rw[h,Sa,Ab];cases dD (·.N) a b with
  |none=>simp;omega
  |some q=>simp
 simp only[f];generalize (if (aC b a).L = -1 then c.tl else(aC b a).L)=o;split;rfl;split<;>rfl
def ox{met:jB->jB}{l a:List kB}(h:l.map (·.s)=a.map (·.s))(m:jB):bJ met l m=bJ met a m:=by
 have:∀l:List kB,bJ met l m=yA ((l.map (·.s)).filter λs=>(met s).toList==m.toList):=λl=>by
  unfold bJ;rw[List.filter_map,Xa];rfl
 rw[this,this,h]
def oS{a:mC}{f:Nat}{d:List iB}{c k j l:Int}{m b:Bool}(h:eF d c k j l=b)(w:eA)(n:tB w a d)(o:xO d)(g:yA d<=maxLen)(i:pC d<=1000000000):
 dF 18 #[.agg #[.slice a (yA d) f,zA c,zA k,zA j,zA l,qA m]] w (qA b):=h ▸ UN a f d c k j l m w n o g i
def lP{a:mC}{f:Nat}{d:List iB}{c k j l:Int}{m b:Bool}(h:eF d c k j l=b)(w:eA)(n:tB w a d)(o:xO d)(g:yA d<=maxLen)(i:pC d<=1000000000):
 dF 39 #[.agg #[.slice a (yA d) f,zA c,zA k,zA j,zA l,qA m]] w (qA b):=h ▸ yV a f d c k j l m w n o g i
def rG{a:List iB}{c k b d:Int}(h:eF a c k b d=dA):iI a=dA/\yA a<=1000/\0<=c/\c<=1000000000/\(pC a:Int)<=c/\0<=k/\k<=1000000000000000/\0<=b/\b<=1000000000000000/\0<=d/\d<=1000000000000000:=by grind [eF,iI,pC,bC]
def nj{w c:eA}{x y z:Array iA}{a b tz:jA}(d:Below (((w.alloc (vA x a)).alloc (vA y b)).alloc (vA z tz)).1.size (((w.alloc (vA x a)).alloc (vA y b)).alloc (vA z tz)) c):
 nB c w.1.size x a/\nB c (w.1.size+1) y b/\nB c (w.1.size+1+1) z tz/\uB w c:=by
 refine⟨?_,?_,?_,vB (vB (vB zB zB) zB) d⟩;exact (nB.z (nB.z (nB.z (g:=w.1.size) (heap_alloc_new w (vA x a)) iD) zB) zB).z d;have h:=nB.z (g:=(w.alloc (vA x a)).1.size) (heap_alloc_new (w.alloc (vA x a)) (vA y b)) (vB zB d);simpa using h;have h:=nB.z (g:=((w.alloc (vA x a)).alloc (vA y b)).1.size) (heap_alloc_new ((w.alloc (vA x a)).alloc (vA y b)) (vA z tz)) d;simpa using h
def cZ(d:List iB)(c k a b:Int)(f:Bool)(e:zN):Nat×List iB×Int×Int×Int×Int×Bool:=
 if (eF d c k a b&&US e)=dA then((iL d c k a b f e).1,(iL d c k a b f e).2.1,c,(iL d c k a b f e).2.2.1,a,b,(iL d c k a b f e).2.2.2) else(6,[],0,0,0,0,cA)
def aQj(R:Nat×List iB×Int×Int×Int×Int×Bool)(a:mC)(b:Nat):iA:=
 .tuple #[.agg #[.slice a (yA R.2.1) b,zA R.2.2.1,zA R.2.2.2.1,zA R.2.2.2.2.1,zA R.2.2.2.2.2.1,qA R.2.2.2.2.2.2],zA R.1]
def gF(D:yD)(a:zN):yD×Nat:=
 (⟨(cZ D.fs D.c D.k D.cr D.fl D.dn a).2.1,(cZ D.fs D.c D.k D.cr D.fl D.dn a).2.2.1,(cZ D.fs D.c D.k D.cr D.fl D.dn a).2.2.2.1,(cZ D.fs D.c D.k D.cr D.fl D.dn a).2.2.2.2.1,(cZ D.fs D.c D.k D.cr D.fl D.dn a).2.2.2.2.2.1,(cZ D.fs D.c D.k D.cr D.fl D.dn a).2.2.2.2.2.2⟩,(cZ D.fs D.c D.k D.cr D.fl D.dn a).1)
structure JH(fs:List iB):Prop where
 H:xO fs
 len:yA fs≤1048576
 sum:pC fs≤1000000000
def tQ:JH []:=⟨λi h=>absurd h (by simp),by simp,by simp[pC]⟩
def jM(a:List iB)(i:Nat)(f:iB)(h:i<yA a):pC (a.set i f)+a[i].data.size=pC a+f.data.size:=by
 induction a generalizing i with
 |nil=>exact absurd h (by simp)
 |cons g r b=>
  cases i with
  |zero=>simp[pC];omega
  |succ i=>
   have:=b i (by simpa using h);simp only[Jd,Ec,pC];omega
def TA{a:List iB}(i:Nat)(b:i<yA a):a[i].data.size<=pC a:=by
 have c:=bK a i b;have d:=yI a (i+1);omega
def vW{a:List iB}(h:xO a){f:iB}(b:f∈a):f.N.size<=maxLen/\f.data.size<=maxLen:=by
 obtain⟨i,c,rfl⟩:=Ib b;exact h i c
def SR{a:List iB}(h:∀f∈a,f.N.size<=maxLen/\f.data.size<=maxLen):xO a:=λ_ b=>h _ (Gb b)
def KJ{a:List iB}(h:xO a){i:Nat}{f:iB}(b:f.N.size<=maxLen/\f.data.size<=maxLen):xO (a.set i f):=by grind [xO]
def dy(a:List iB)(i:Nat):pC (a.eraseIdx i)<=pC a:=by
 induction a generalizing i with
 |nil=>simp
 |cons g r b=>
  cases i with
  |zero=>simp[pC]
  |succ i=>have:=b i;simp only[List.eraseIdx_cons_succ,pC];omega
def dS(a:List iB)(i:Nat)(h:i<yA a):pC (a.eraseIdx i)+a[i].data.size=pC a:=by
 induction a generalizing i with
 |nil=>exact absurd h (by simp)
 |cons g r b=>
  cases i with
  |zero=>simp[pC];omega
  |succ i=>
   have:=b i (by simpa using h);simp only[List.eraseIdx_cons_succ,Ec,pC];omega
def DM(p:iB->Bool)(a:List iB):pC (a.filter p)<=pC a:=by induction a<;>grind [pC]
def JA(a:List iB)(f:iB):pC (jG a f)=pC a+f.data.size:=by induction a<;>grind [pC,jG]
def aBg{fs:List iB}{f g:iB}(h:g∈jG fs f):g=f\/g∈fs:=by induction fs<;>grind [jG]
def lY(a:List iB)(i:Nat)(f:iB):pC (kN a i f)=pC a+f.data.size:=by
 have h:=zQ (a.take i) (a.drop i);rw[Za]at h;rw[kN,zQ];simp only[pC];omega
def aMs{a:List iB}{c:Int}{b:zN}(h:JH a)(u:yA a<=1000)(v:c<=1000000000)(q:b.N.size<=maxLen)(s:b.tq.size<=maxLen):JH (tU a c b).2:=by
 have w:(1000000000:Nat)<=maxLen:=by unfold maxLen;omega
 unfold tU;simp only;split
 .split
  .exact h
  split;exact h;refine ⟨SR λf i=>?_,?_,?_⟩
  .simp only[kN,Ee,Lb]at i;obtain i|rfl|i:=i
   .exact vW h.H (Ce i)
   .exact ⟨q,by simp[maxLen]⟩
   exact vW h.H (Ng i)
  .show (yA (kN a _ _))<=_;rw[kN];simp only[Kb,Hb,Zb,Rc];omega
  show pC (kN a _ _)<=_;rw[lY];have:=h.sum;simpa using this
 split;exact h
 rename_i f i;obtain⟨j,rfl⟩:=Pb.1 i;have e:=vW h.H (Gb j);have p:=TA _ j;have y:=h.sum;split
 .exact h
 split
 .split
  .exact h
  rename_i x;have d:=jM a (gC b.N a) ⟨a[gC b.N a].N,a[gC b.N a].data++b.data,a[gC b.N a].Y⟩ j;simp only[Ka]at d;refine⟨KJ h.H ⟨e.1,?_⟩,?_,?_⟩
  .show (a[gC b.N a].data++b.data).size<=maxLen;rw[Ka];omega
  .show (yA (a.set _ _))<=_;rw[Pd];omega
  show pC (a.set _ _)<=_;omega
 split
 .have d:=jM a (gC b.N a) ⟨a[gC b.N a].N,a[gC b.N a].data,a[gC b.N a].data.size⟩ j;refine⟨KJ h.H e,?_,?_⟩
  .show (yA (a.set _ _))<=_;rw[Pd];omega
  show pC (a.set _ _)<=_;simp only at d;omega
 split
 .split
  .have d:=jM a (gC b.N a) ⟨a[gC b.N a].N,a[gC b.N a].data.extract 0 b.size.toNat,b.size⟩ j;have z:(a[gC b.N a].data.extract 0 b.size.toNat).size<=a[gC b.N a].data.size:=by rw[Je];omega
   refine⟨KJ h.H ⟨e.1,?_⟩,?_,?_⟩;show (a[gC b.N a].data.extract 0 b.size.toNat).size<=maxLen;omega;show yA (a.set _ _)<=_;rw[Pd];omega;show pC (a.set _ _)<=_;simp only at d;omega
  exact h
 split
 .have n:yA (a.eraseIdx (gC b.N a))<=yA a:=by rw[Ad];split<;>omega
  have o:=dS a (gC b.N a) j;refine⟨SR λg k=>?_,?_,?_⟩
  .rcases aBg (fs:=yC (a.eraseIdx (gC b.N a)) b.tq) (f:=⟨b.tq,a[gC b.N a].data,a[gC b.N a].Y⟩) k with rfl|k
   .exact ⟨s,e.2⟩
   exact vW h.H (Sf (De.1 k).1)
  .show (yA (dH _ _))<=_;have m:∀(l:List iB)(f:iB),yA (jG l f)=yA l+1:=λl f=>by
    induction l with
    |nil=>rfl
    |cons g r t=>unfold jG;split<;>simp[t]
   have:yA (yC (a.eraseIdx (gC b.N a)) b.tq)<=yA (a.eraseIdx (gC b.N a)):=Pc _ _;rw[dH,m];simp only;omega
  .show pC (dH _ _)<=_;have:=DM (λf=>!(f.N.toList==b.tq.toList)) (a.eraseIdx (gC b.N a));rw[dH,JA];simp only[yC];omega
 refine ⟨SR λg k=>vW h.H (Sf k),?_,?_⟩
 .show (yA (a.eraseIdx _))<=_;rw[Ad];split<;>omega
 show pC (a.eraseIdx _)<=_;have:=dy a (gC b.N a);omega
def oT{D:yD}{op:zN}(h:JH D.fs)(e:op.N.size<=maxLen)(f:op.tq.size<=maxLen):JH (gF D op).1.fs:=by
 show JH (cZ D.fs D.c D.k D.cr D.fl D.dn op).2.1;unfold cZ;split
 .rename_i a;simp only[Sa]at a;obtain⟨_,b,_,d,_⟩:=rG a.1;unfold iL;split
  .exact aMs h b d e f
  exact h
 exact tQ
def bM(L:iH):Bool:=bC L.last 1 999999&&bC L.first 1 L.last&&bC L.size 0 1000000000
def aH(n:Int):zN:=⟨1,zE n,⟨#[]⟩,⟨#[]⟩,0⟩
def yJ(n:Int)(f:jB):zN:=⟨2,zE n,⟨#[]⟩,f,0⟩
def zR(n:Int):zN:=⟨3,zE n,⟨#[]⟩,⟨#[]⟩,0⟩
def kS(D:yD)(L:iH)(f:jB):yD×iH×Nat:=
 if (gF D (yJ L.last f)).2≠0 then((gF D (yJ L.last f)).1,L,(gF D (yJ L.last f)).2)
 else if (gF (gF D (yJ L.last f)).1 (zR L.last)).2≠0 then((gF (gF D (yJ L.last f)).1 (zR L.last)).1,L,(gF (gF D (yJ L.last f)).1 (zR L.last)).2)
 else((gF (gF D (yJ L.last f)).1 (zR L.last)).1,⟨L.first,L.last,L.size+f.size⟩,0)
def dI(D:yD)(L:iH)(p:jB)(a:Int):yD×iH×Nat:=
 if (bM L&&bC a 1 1000000000)=cA then(D,L,21)
 else if uD p=kA then(D,L,22)
 else if L.size≠0/\a<L.size+(uD p).size then
  if L.last=999999 then(D,L,23)
  else if (gF D (aH (L.last+1))).2≠0 then((gF D (aH (L.last+1))).1,L,(gF D (aH (L.last+1))).2)
  else kS (gF D (aH (L.last+1))).1 ⟨L.first,L.last+1,0⟩ (uD p)
 else kS D L (uD p)
def fP(r:xD):Prop:=r.T.size<=255/\r.X.size<=65535/\((r.K=1/\r.U=0)\/(r.K=2/\r.T.size=0/\r.X.size=0)\/r.K=3)
def rcD(r:xD):Decidable (fP r):=by unfold fP;exact inferInstance
def el(r:xD):Bool:=@decide (fP r) (rcD r)
theorem XY{r:xD}(h:fP r):el r=dA:=@Ac _ (rcD r) h
theorem DC{r:xD}(h:¬fP r):el r=cA:=@Ub _ (rcD r) h
def UI(r:xD):jB:=pB 1 r.K++aN r.T++aG r.X++pB 8 r.U
def wH:List xD->jB
 |[]=>kA
 |r::q=>UI r++wH q
def oc(a:List xD):Prop:=∀i(h:i<yA a),fP a[i]
def dW(a:Int)(b:List xD):Prop:=1<=a/\a<=1000000000000000/\1<=yA b/\yA b<=500/\oc b
def BI(a:Int)(n:Nat):jB:=pB 8 a++pB 2 (n:Nat)
def aPe(a:Int)(b:List xD):Decidable (dW a b):=by unfold dW oc fP;exact inferInstance
def lJ(a:Int)(b:List xD):jB:=haveI:=aPe a b;if dW a b then BI a (yA b)++wH b else kA
def FW{a:Int}{b:List xD}(h:dW a b):lJ a b=BI a (yA b)++wH b:=by unfold lJ;rw[Ma h]
def NW{lsn:Int}{rs:List xD}(h:¬dW lsn rs):lJ lsn rs=kA:=by unfold lJ;rw[Ja h]
def pX:∀(a b:List xD),wH (a++b)=wH a++wH b
 |[],b=>by simp[wH]
 |r::q,b=>by
  show UI r++wH (q++b)=UI r++wH q++wH b;rw[pX q b,Wa]
def pg(a:List xD)(k:Nat)(h:k<yA a):wH (a.take (k+1))=wH (a.take k)++UI a[k]:=by
 rw[Pa h,pX];simp[wH]
def zq(r:xD):(UI r).size=12+r.T.size+r.X.size:=by grind [UI,gB,rF,iF]
def FX(a:Int)(n:Nat):(BI a n).size=10:=by unfold BI;rw[Ka,gB,gB]
def uv{b:List xD}{k:Nat}(d:k<yA b)(h:¬fP b[k])(a:Int):lJ a b=kA:=NW λc=>h (c.2.2.2.2 k d)
def wI(b a:Int)(left:jB->Bool)(c:List fB):List fB:=(c.map λt=>if left t.N=dA then t else xE b a t).filter λt=>left t.N||!cF t
def jz{win now:Int}{left:jB->Bool}(t:fB):(if left t.N=dA then t else xE win now t).N=t.N:=by split<;>rfl
def aBj{b a:Int}{left:jB->Bool}{c:List fB}(h:∀t∈c,left t.N=dA):wI b a left c=c:=by
 have e:c.map (λt=>if left t.N=dA then t else xE b a t)=c:=by
  have:∀t∈c,(if left t.N=dA then t else xE b a t)=id t:=λt d=>by rw[Ma (h t d)];rfl
  rw[Ge this,List.map_id]
 unfold wI;rw[e];exact Jc.2 λt d=>by rw[h t d];rfl
def rj{b a:Int}{left:jB->Bool}{c:List fB}(h:∀n,left n=cA):wI b a left c=aE b a c:=by
 unfold wI aE;simp only[h,Rf,Bd,Cf]
theorem bU{b a:Int}{left:jB->Bool}{p:fB}{r:List fB}:wI b a left (p::r)=if (left p.N||!cF (if left p.N=dA then p else xE b a p))=dA then(if left p.N=dA then p else xE b a p):: wI b a left r else wI b a left r:=by
 unfold wI;rw[Fc,List.filter_cons,jz]
def XK{b a:Int}{left:jB->Bool}{c:List fB}{q:fB}(h:q∈wI b a left c):∃t∈c,q=(if left t.N=dA then t else xE b a t)/\q.N=t.N:=by grind [wI,xE]
def jy{c b:Int}{left a:jB->Bool}{d:List fB}(h:∀t∈d,left t.N=a t.N):wI c b left d=wI c b a d:=by induction d<;>grind [wI,bU]
theorem rk{b a:Int}{left c:jB->Bool}{j:List fB}(v:zC (·.N) j){t:fB}(o:t∈j)(C:left t.N=dA)(k:∀n,c n=(left n&&!(n.toList==t.N.toList))):
 wI b a c j=if cF (xE b a t)=dA then vE (·.N) t.N (wI b a left j) else fC (·.N) (xE b a t) (wI b a left j):=by
 induction j with
 |nil=>cases o
 |cons p r E=>
  have i:c t.N=cA:=by rw[k,(kE t.N t.N).2 rfl];simp
  have f:∀n,n≠t.N->c n=left n:=λn g=>by rw[k,zD g];simp
  rcases Lb.1 o with rfl|o
  .have h:wI b a c r=wI b a left r:=jy λq m=>f q.N (λe=>qJ (v.head q m) e.symm);have g:∀q∈wI b a left r,q.N≠t.N:=λq m=>by
    obtain⟨s,D,_,e⟩:=XK m;rw[e];exact λB=>qJ (v.head s D) B.symm
   rw[bU,bU,i,C,h];simp only[Bd,Cf,Rf,Td,Bool.true_or];by_cases d:cF (xE b a t)=dA
   .rw[Ma d,d];have z:vE (·.N) t.N (wI b a left r)=wI b a left r:=Jc.2 λq m=>by rw[zD (g q m)];rfl
    unfold vE at z |-
    rw[A0 (by simp),z];simp
   have w:cF (xE b a t)=cA:=by simpa using d
   rw[Ja d,w,Ma (by rfl),fC,Ja (by show ¬eK t.N t.N=dA;rw[bO];simp),Ma (by exact(kE t.N t.N).2 rfl)]
  .have y:=v.head t o;have l:=qJ y;have x:=E v.tail o;rw[bU,bU,f p.N l,x];by_cases u:(left p.N||!cF (if left p.N=dA then p else xE b a p))=dA
   .rw[Ma u,Ma u];have A:=jz (win:=b) (now:=a) (left:=left) p;generalize (if left p.N=dA then p else xE b a p)=q at *;by_cases d:cF (xE b a t)=dA
    .rw[Ma d,Ma d];unfold vE;rw[Wc (by show(!(q.N.toList==t.N.toList))=dA;rw[A,zD l];rfl)]
    rw[Ja d,Ja d,fC,Ma (by show eK q.N t.N=dA;rw[A];exact y)]
   rw[Ja u,Ja u]
def jK(c b:Int)(d:List fB)(a:Int):Int×List fB×Bool:=if a<1\/1000000000000-b<a then(b,d,cA) else(b+a,aE c (b+a) d,dA)
def nk{c:iC}{a:Int}{d:List fB}(h:nC c a d=dA)(b:Int):DN c a d b=jK c.w a d b:=by
 unfold DN jK;rw[Ja (by rw[h];simp)]
def aAu{b a u:Int}{t:fB}{c:List kB}(h:u=a-b)(f:c.filter (λp=>decide (u<p.n))=t.Z.filter (λp=>decide (u<p.n)))(d:∀p∈c,u<p.n):xE b a t=⟨t.N,t.L,t.M,c⟩:=by
 unfold xE;have e:(λp:kB=>decide (a-p.n<b))=λp=>decide (u<p.n):=by
  funext p;rw[decide_eq_decide];omega
 rw[e,<-f,Jc.2 λp g=>Ac (d p g)]
def PM{α:Type}{key:α->jB}{l:List α}(b:zC key l){a:α}(h:a∈l):(a::vE key (key a) l).Perm l:=by
 induction l with
 |nil=>cases h
 |cons p r c=>
  unfold vE at c |-
  rcases Lb.1 h with rfl|h
  .rw[A0 (by simp)];have:r.filter (λq=>!((key q).toList==(key a).toList))=r:=Jc.2 λq d=>by rw[zD (λe=>qJ (b.head q d) e.symm)];rfl
   rw[this]
  rw[Wc (by rw[zD (qJ (b.head a h))];rfl)];exact(List.Perm.swap _ _ _).trans ((c b.tail h).cons p)
def fw{met:jB->jB}{l:List kB}(a:zC (·.s) l){p:kB}(h:p∈l)(m:jB):bJ met l m=bJ met (vE (·.s) p.s l) m+if met p.s=m then 1 else 0:=by
 rw[<-VQ];exact VS (PM a h).symm m
theorem OS{f:Nat->Bool}{n:Nat}(h:∀k,k<n->f k=dA):lI f n=dA:=by induction n<;>grind [lI,sL]
theorem SI{l:List kB}(b:zC (·.s) l){k:Nat}(a:k<yA l):iM l k=dA:=by
 cases k with
 |zero=>rfl
 |succ k=>
  rw[jU (by omega) a];have:=Qe.1 b k (k+1) (by omega) a (by omega);simpa using this
theorem sk{l:List fB}(b:zC (·.N) l){k:Nat}(a:k<yA l):qO l k=dA:=by
 cases k with
 |zero=>rfl
 |succ k=>
  rw[rW (by omega) a];have:=Qe.1 b k (k+1) (by omega) a (by omega);simpa using this
def jx{a:List kB}(b:zC (·.s) a)(h:∀m∈a,bF m.s=dA/\bC m.n 0 1000000=dA):dM a=dA:=by grind [zC,bF,bC,dM,OS,AJ,SI]
def md{b a:Int}{c:List kB}(d:zC (·.s) c)(h:∀x∈c,rK x.s=dA/\bC x.n 0 a=dA/\a-x.n<b):gL b a c=dA:=by grind [zC,rK,bC,gL,OS,uW,SI]
theorem TI{b a:Int}{c:List fB}(d:zC (·.N) c)(h:∀t∈c,oP b a t=dA):eN b a c=dA:=by grind [zC,oP,eN,OS,aX,sk]
def sO{c:iC}{a:Int}{b:List fB}(d:lH c=dA)(e:bC a 0 1000000000000=dA)(f:yA b<=10000)(g:eN c.w a b=dA):nC c a b=dA:=by
 unfold nC;rw[d,e,g,Ac f];rfl
def OC{a:List kB}(h:dM a=dA):(∀m∈a,bF m.s=dA/\bC m.n 0 1000000=dA)/\zC (·.s) a:=by
 refine⟨λm c=>?_,?_⟩;obtain ⟨i,b,rfl⟩:=Ib c;have:=yO h b;rw[AJ b]at this;simp only[Sa]at this;exact⟨this.1.2,this.2⟩;have:=KC (n:=yA a) h (Ia _);rwa [Rb]at this
def IQ{b a:Int}{c:List kB}(h:gL b a c=dA):(∀x∈c,rK x.s=dA/\bC x.n 0 a=dA/\a-x.n<b)/\zC (·.s) c:=by
 refine⟨λx e=>?_,?_⟩;obtain ⟨i,d,rfl⟩:=Ib e;have:=yO h d;rw[uW d]at this;simp only[Sa,Ab]at this;exact⟨this.1.1.2,this.1.2,this.2⟩;have:=KI (n:=yA c) h (Ia _);rwa [Rb]at this
def JB{b a:Int}{t:fB}(h:oP b a t=dA):bD t.N=dA/\bC t.L (-1) 1000000=dA/\dM t.M=dA/\gL b a t.Z=dA/\cF t=cA:=by grind [oP,bD,bC,dM,gL,cF]
def dz{b a:Int}{t:fB}(c:bD t.N=dA)(d:bC t.L (-1) 1000000=dA)(e:dM t.M=dA)(f:gL b a t.Z=dA)(g:cF t=cA):oP b a t=dA:=by
 unfold oP;rw[c,d,e,f,g];rfl
def JR{n a b:Int}(c:a<=n)(d:n<=b):bC n a b=dA:=by
 unfold bC;rw[Ac c,Ac d];rfl
def xh{c:iC}(h:lH c=dA):1<=c.w/\c.w<=1000000000:=by
 simp only[lH,Sa]at h;exact xJ h.1.1.1.1.1
def mV{c b:Int}{a:List fB}(h:eN c b a=dA){name:jB}:bC (aC a name).L (-1) 1000000=dA/\dM (aC a name).M=dA/\gL c b (aC a name).Z=dA:=by
 rcases kM (ts:=a) (name:=name) with⟨d,_⟩|⟨d,_⟩;obtain ⟨_,e,f,g,_⟩:=JB (nJ h _ d);exact⟨e,f,g⟩;rw[d];exact⟨rfl,rfl,rfl⟩
def aw{b:List fB}{t:fB}(d:zC (·.N) b)(e:yA b<=10000)(h:((dD (·.N) t.N b).isNone&&decide (10000<=yA b))=cA):yA (fC (·.N) t b)<=10000:=by
 have c:=GU (a:=t) d;cases hg:dD (·.N) t.N b with
 |some q=>simp only[hg,Wf,Td]at c;omega
 |none=>
  rw[hg]at h;simp only[hg,Xf,Bd,Cf]at c;simp only[Option.isNone_none,Oc,Xe]at h;omega
def QZ{b a:Int}{c:List fB}{t:fB}(h:eN b a c=dA)(d:oP b a t=dA):eN b a (fC (·.N) t c)=dA:=by grind [eN,oP,fC,TI,kK,wS,yK,nJ]
def uo{c:iC}{b:Int}{d:List fB}(f:nC c b d=dA){a key:jB}(e:(bD a&&rK key)=dA):oP c.w b (kJ (aC d a) key b)=dA:=by
 obtain⟨i,h,p,q,j⟩:=gH f;obtain⟨k,l,m⟩:=mV j (name:=a);obtain⟨n,o⟩:=IQ m;rw[Sa]at e;refine dz (by show bD (aC d a).N=dA;rw[kG];exact e.1) k l ?_ VI;refine md (kK o) λx g=>?_;rcases yK (show x∈fC (·.s) ⟨key,b⟩ (aC d a).Z from g) with rfl|g
 .exact ⟨e.2,JR h (Xd _),by have:=(xh i).1;show b-b<_;omega⟩
 exact n x g
theorem ur{c:iC}{d:Int}{b:List fB}(f:nC c d b=dA){a key:jB}(g:(nL c d b a key).2=1\/(nL c d b a key).2=2):nC c d (nL c d b a key).1=dA:=by
 obtain⟨p,v,w,r,m⟩:=gH f;have o:=JR v w;have t:=wS m;have i:(kJ (aC b a) key d).N=a:=kG;unfold nL at g |-
 by_cases k:(bD a&&rK key)=cA
 .rw[Ma k]at g;omega
 rw[Ja k]at g |-
 have h:(bD a&&rK key)=dA:=by simpa using k
 by_cases j:(dD (·.s) key (aC b a).Z).isSome=dA
 .rw[Ma j];refine sO p o (aw t r ?_) (QZ m (uo f h));rw[i];rcases kM (ts:=b) (name:=a) with⟨_,u⟩|⟨e,_⟩
  .cases hg:dD (·.N) a b with
   |none=>rw[hg]at u;cases u
   |some q=>rfl
  rw[e]at j;cases j
 rw[Ja j]at g |-
 by_cases l:(if (aC b a).L = -1 then c.tl else(aC b a).L)<=(yA (aC b a).Z:Nat)\/((dD (·.N) a b).isNone&&decide (10000<=yA b))=dA
 .rw[Ma l]at g;omega
 rw[Ja l]at g |-
 by_cases n:xG (aC b a).M (cE key) c.ml<=(bJ cE (aC b a).Z (cE key):Nat)
 .rw[Ma n]at g;omega
 rw[Ja n];refine sO p o (aw t r ?_) (QZ m (uo f h));rw[i];cases hd:((dD (·.N) a b).isNone&&decide (10000<=yA b)) with
 |false=>rfl
 |true=>exact absurd (La hd) l
theorem aKx{c:iC}{k:Int}{g:List fB}(f:nC c k g=dA){a b:jB}{d:Int}:nC c k (uS g a b d).1=dA:=by
 obtain⟨v,C,D,w,l⟩:=gH f;have u:=JR C D;have y:=wS l;obtain⟨E,z,F⟩:=mV l (name:=a);obtain⟨A,B⟩:=OC z;unfold uS;by_cases n:(bD a&&(b.toList.isEmpty||bF b) &&bC d (-1) 1000000)=cA
 .rw[Ma n];exact f
 rw[Ja n];have e:=(Bool.not_eq_false _).mp n;simp only[Sa]at e;by_cases o:cF (sH (aC g a) b d)=dA
 .rw[Ma o];refine sO v u (Ua (Pc _ _) w) (TI (yP y) λt s=>nJ l t (yS.1 s).1)
 rw[Ja o];by_cases p:((dD (·.N) a g).isNone&&decide (10000<=yA g))=dA
 .rw[Ma p];exact f
 rw[Ja p];have j:(sH (aC g a) b d).N=a:=by rw[dQ,kG]
 refine sO v u (aw y w (by rw[j];simpa using p)) (QZ l ?_);refine dz (by rw[j];exact e.1.1) ?_ ?_ (by rw[XF];exact F) (by simpa using o)
 .unfold sH;split
  .exact e.2
  exact E
 unfold sH;split;exact z
 rename_i q;have r:bF b=dA:=by
  have:=e.1.2;rw[Fe]at this;obtain h|h:=this;exact absurd h q;exact h
 simp only;split
 .exact jx (yP B) λm i=>A m (yS.1 i).1
 rename_i x;refine jx (kK B) λm i=>?_;rcases yK i with rfl|i
 .have:=xJ e.2;exact⟨r,JR (by show 0<=d;omega) this.2⟩
 exact A m i
theorem aHj{c:iC}{a:Int}{d:List fB}(e:nC c a d=dA){b:Int}:nC c (jK c.w a d b).1 (jK c.w a d b).2.1=dA:=by
 obtain⟨k,D,E,l,h⟩:=gH e;have n:=wS h;unfold jK;split;exact e
 rename_i F;have f:yA (aE c.w (a+b) d)<=yA d:=by
  unfold aE;have:=Pc (λt=>!cF t) (d.map (xE c.w (a+b)));rw[Xa]at this;exact this
 refine sO k (JR (by omega) (by omega)) (Ua f l) (TI ?_ λt g=>?_);exact Mf _ (Te.2 n);obtain ⟨i,j⟩:=De.1 g;obtain⟨q,m,rfl⟩:=Md.1 i;obtain⟨p,r,s,u,_⟩:=JB (nJ h q m);obtain⟨v,y⟩:=IQ u;refine dz p r s (md (Mf _ y) λx o=>?_) (by simpa using j);obtain⟨z,A⟩:=De.1 o;obtain⟨B,C,_⟩:=v x z;have:=xJ C;exact⟨B,JR this.1 (by omega),by simpa using A⟩
def pE(c:iC)(a:Int)(b:List fB)(r:xD):Int×List fB×Bool:=
 if r.K=1 then(a,(nL c a b r.T r.X).1,decide ((nL c a b r.T r.X).2=1) ||decide ((nL c a b r.T r.X).2=2))
 else if r.K=2 then jK c.w a b r.U
 else if r.K=3 then(a,(uS b r.T r.X r.U).1,(uS b r.T r.X r.U).2)
 else(a,b,cA)
def nF(c:iC):Int->List fB->List xD->Int×List fB×Bool
 |a,b,[]=>(a,b,dA)
 |a,b,r::d=>if (pE c a b r).2.2=dA then nF c (pE c a b r).1 (pE c a b r).2.1 d else((pE c a b r).1,(pE c a b r).2.1,cA)
def vF(c:iC)(a:Int)(b:List fB)(d:List xD):Int×List fB×Bool:=
 if nC c a b=cA then(0,[],cA) else if 500<yA d then(a,b,cA) else if (nF c a b d).2.2=dA then nF c a b d else(a,b,cA)
def IZ{c:iC}{a:Int}{b:List fB}(h:nC c a b=dA){r:xD}(d:(pE c a b r).2.2=dA):nC c (pE c a b r).1 (pE c a b r).2.1=dA:=by grind [nC,pE,ur,aHj,aKx]
theorem IF{p:kB}(l:List kB):gE (fC (·.s) p l)<=gE l+p.s.size/\yA (fC (·.s) p l)<=yA l+1:=by induction l<;>grind [gE,fC]
theorem uY(f:kB->Bool)(l:List kB):gE (l.filter f)<=gE l/\yA (l.filter f)<=yA l:=by induction l<;>grind [gE]
theorem zY(f:fB->Bool)(l:List fB):cC (l.filter f)<=cC l/\yA (l.filter f)<=yA l:=by induction l<;>grind [cC]
def JE{a:List fB}(f:zC (·.N) a){t:fB}{k:Nat}(h:jF t<=jF (aC a t.N)+k):yA (fC (·.N) t a)+cC (fC (·.N) t a)<=yA a+cC a+1+t.N.size+k:=by
 have g:jF ⟨t.N,-1,[],[]⟩=t.N.size:=by simp[jF,gE]
 have key:(∃q∈a,q.N=t.N/\jF t<=jF q+k)\/(jF t<=t.N.size+k):=by
  rcases kM (ts:=a) (name:=t.N) with⟨m,_⟩|⟨e,_⟩;exact Ca ⟨_,m,kG,h⟩;rw[e,g]at h;exact La h
 clear h g;obtain⟨q,c,d,j⟩|j:=key
 .have:yA (fC (·.N) t a)+cC (fC (·.N) t a)<=yA a+cC a+k:=by
   induction a with
   |nil=>cases c
   |cons p r i=>
    rw[fC];rcases Lb.1 c with rfl|c;rw[Ja (by rw[d,bO];simp),Ma ((kE _ _).2 d)];simp only[Zb,cC];omega;have b:=f.head q c;simp only[d]at b;rw[Ma b];have:=i f.tail c;simp only[Zb,cC];omega
  omega
 .have:∀l:List fB,yA (fC (·.N) t l)+cC (fC (·.N) t l)<=yA l+cC l+1+jF t:=λl=>by
   induction l with
   |nil=>simp[fC,cC]
   |cons p r i=>
    rw[fC];split;simp only[Zb,cC];omega;split<;>(simp only[Zb,cC];omega)
  have:=this a;omega
def xt{c:List fB}{a key:jB}{b:Int}:jF (kJ (aC c a) key b)<=jF (aC c (kJ (aC c a) key b).N)+(1+key.size):=by grind [jF,kJ,aC,kG,IF]
def aBb{d:List fB}{b a:jB}{c:Int}:jF (sH (aC d b) a c)<=jF (aC d (sH (aC d b) a c).N)+(1+a.size):=by grind [jF,sH,aC,gE,vE,dQ,kG,IF,uY]
def aAv{win now:Int}(a:List fB):yA (aE win now a)+cC (aE win now a)<=yA a+cC a:=by induction a<;>grind [aE,cC,cF,xE,jF,zY,uY]
def kY{c:iC}{b:Int}{a:List fB}(h:nC c b a=dA)(r:xD):yA (pE c b a r).2.1+cC (pE c b a r).2.1<=yA a+cC a+2+r.T.size+r.X.size:=by
 have g:=wS (gH h).2.2.2.2;have d:yA a+cC a<=yA a+cC a+2+r.T.size+r.X.size:=by omega
 have f:yA (fC (·.N) (kJ (aC a r.T) r.X b) a)+cC (fC (·.N) (kJ (aC a r.T) r.X b) a)<=yA a+cC a+2+r.T.size+r.X.size:=by
  have:=JE g (t:=kJ (aC a r.T) r.X b) xt;have e:(kJ (aC a r.T) r.X b).N=r.T:=kG;rw[e]at this;omega
 have i:yA (fC (·.N) (sH (aC a r.T) r.X r.U) a)+cC (fC (·.N) (sH (aC a r.T) r.X r.U) a)<=yA a+cC a+2+r.T.size+r.X.size:=by
  have:=JE g (t:=sH (aC a r.T) r.X r.U) aBb;have e:(sH (aC a r.T) r.X r.U).N=r.T:=by rw[dQ,kG]
  rw[e]at this;omega
 unfold pE;split
 .unfold nL;split
  .exact d
  split;exact f;generalize (if (aC a r.T).L = -1 then c.tl else(aC a r.T).L)=j;split;exact d;split;exact d;exact f
 split
 .unfold jK;split
  .exact d
  have:=aAv (win:=c.w) (now:=b+r.U) a;show(aE c.w (b+r.U) a).length+cC (aE c.w (b+r.U) a)<=_;omega
 split
 .unfold uS;split
  .exact d
  split;have:=zY (λp=>!((λq:fB=>q.N) p).toList==r.T.toList) a;show(vE (·.N) r.T a).length+cC (vE (·.N) r.T a)<=_;unfold vE;omega;split;exact d;exact i
 exact d
def YC{c:iC}:∀{rs:List xD}{now:Int}{ts:List fB},nC c now ts=dA->yA (nF c now ts rs).2.1+cC (nF c now ts rs).2.1<=yA ts+cC ts+2*yA rs+gD rs
 |[],now,ts,_=>by simp[nF,gD]
 |r::rs,now,ts,h=>by
  have b:=kY h r;rw[nF];simp only[Zb,gD];split
  .rename_i a;have d:=YC (rs:=rs) (IZ h a);omega
  show yA (pE c now ts r).2.1+cC (pE c now ts r).2.1<=_;omega
def YD{c:iC}{a:Int}{d:List fB}{b:List xD}{k:Nat}(e:k<yA b)(f:(pE c a d b[k]).2.2=dA):nF c a d (b.drop k)=nF c (pE c a d b[k]).1 (pE c a d b[k]).2.1 (b.drop (k+1)):=by
 rw[Cb e,nF,Ma f]
def YE{c:iC}{a:Int}{d:List fB}{b:List xD}{k:Nat}(e:k<yA b)(f:(pE c a d b[k]).2.2=cA):nF c a d (b.drop k)=((pE c a d b[k]).1,(pE c a d b[k]).2.1,cA):=by
 rw[Cb e,nF,Ja (by rw[f];decide)]
def IJ(a:List xD){k:Nat}(b:k<yA a):gD (a.drop k)=a[k].T.size+a[k].X.size+gD (a.drop (k+1)):=by
 rw[Cb b,gD]
def eM(t:kB)(s:List kB×Bool)(p:kB):List kB×Bool:=
 (s.1++(if s.2=dA then [] else if eK p.s t.s=dA then [] else [t])++(if (p.s.toList==t.s.toList)=dA then [] else [p]),if s.2=dA then dA else !eK p.s t.s)
def sY(t:kB)(b:Bool)(a:List kB):List kB×Bool:=a.foldl (eM t) ([],b)
def kr(t:kB)(b:Bool)(a:List kB):List kB:=(sY t b a).1++if (sY t b a).2=dA then [] else [t]
def rv(t:kB)(b:Bool)(a:List kB)(k:Nat)(h:k<yA a):sY t b (a.take (k+1))=eM t (sY t b (a.take k)) a[k]:=by
 rw[Pa h,sY,Dg];rfl
theorem aBr(t:kB)(c:List kB):∀(a:List kB)(b:Bool),c.foldl (eM t) (a,b)=(a++(c.foldl (eM t) ([],b)).1,(c.foldl (eM t) ([],b)).2):=by induction c<;>grind [eM]
def XP(t p:kB)(r:List kB)(b:Bool):kr t b (p::r)=(eM t ([],b) p).1++kr t (eM t ([],b) p).2 r:=by grind [kr,eM,sY,aBr]
def eV(t:kB)(c:List kB):kr t dA c=vE (·.s) t.s c:=by
 induction c with
 |nil=>rfl
 |cons p r d=>
  rw[XP];by_cases b:(p.s.toList==t.s.toList)=dA
  .simp only[eM,b,Td,Mb,d];unfold vE;rw[A0 (by rw[b];simp)]
  have a:(p.s.toList==t.s.toList)=cA:=by simpa using b
  simp only[eM,a,Td,Mb,d];unfold vE;rw[Wc (by rw[a];rfl)];rfl
def kt{t:kB}{g:List kB}(l:zC (·.s) g):kr t cA g=fC (·.s) t g:=by
 induction g with
 |nil=>rfl
 |cons p r m=>
  have j:=m l.tail;rw[XP,fC];by_cases d:eK p.s t.s=dA
  .have f:(p.s.toList==t.s.toList)=cA:=zD (qJ d);simp only[eM,d,f,Td];simp[j]
  have c:eK p.s t.s=cA:=by simpa using d
  have b:∀q∈r,q.s≠t.s:=λq i e=>by
   have k:=l.head q i;rw[e]at k;exact d k
  have a:vE (·.s) t.s r=r:=Jc.2 λq i=>by rw[zD (b q i)];rfl
  by_cases f:p.s=t.s
  .have h:(p.s.toList==t.s.toList)=dA:=(kE _ _).2 f;simp only[eM,c,h,Td];simp[eV,a]
  have h:(p.s.toList==t.s.toList)=cA:=zD f;simp only[eM,c,h];simp[eV,a]
def aFt{t:fB}{a:jB}{limit:Int}(c:zC (·.s) t.M)(b:a.toList.isEmpty=cA):sH t a limit=⟨t.N,t.L,kr ⟨a,limit⟩ (decide (limit<0)) t.M,t.Z⟩:=by
 unfold sH;rw[Ja (by rw[b];simp)];by_cases h:limit<0
 .rw[Ma h,Ac h,eV]
 rw[Ja h,Ub h,kt c]
def BJ(w:eA)(cs:Array iA)(t:jA):nB (w.alloc (vA cs t)) w.1.size cs t:=heap_alloc_new _ _
def FJ(a:mC)(c:List iB)(P:Nat):Prop:=c=[]\/∃b o,a=some (dB b o)/\b≠P
def sM{w a:eA}{cs:Array iA}{t:jA}(h:Below (w.alloc (vA cs t)).1.size (w.alloc (vA cs t)) a):nB a w.1.size cs t:=(BJ w cs t).z h
def OU{w:eA}{P:Nat}{i j k l m n a b c d e f:iA}{t:jA}(h:nB w P #[i,j,k,l,m,n] t):
 nB ((((((w.setCell (dB P 0) a).setCell (dB P 1) b).setCell (dB P 2) c).setCell (dB P 3) d).setCell (dB P 4) e).setCell (dB P 5) f) P #[a,b,c,d,e,f] t:=by
 have g:=(((((h.set 0 a).set 1 b).set 2 c).set 3 d).set 4 e).set 5 f;simpa using g
def oe{w:eA}{a:mC}{d:List iB}{P:Nat}{t:jA}(h:tB w a d)(j:nB w P #[.slice none 0 0,zA 0,zA 0,zA 0,zA 0,qA cA] t):FJ a d P:=by
 obtain h|⟨b,o,e,_,h⟩:=h;exact Ca h
 by_cases f:d=[]
 .exact Ca f
 refine La ⟨b,o,e,λg=>?_⟩;subst g;have i:0<yA d:=by
  cases d with
  |nil=>exact absurd rfl f
  |cons _ _=>simp
 have c:=(h 0 i).1;rw[j.cell]at c;simp only[Nat.zero_mul,Bg]at c;match o,c with
 |0,c=>simp at c
 |1,c=>simp at c
 |2,c=>simp at c
 |3,c=>simp at c
 |4,c=>simp at c
 |5,c=>simp at c
 |n+6,c=>simp at c
def gR{w:eA}{P:Nat}(a b c d e f:iA):
 qD P w ((((((w.setCell (dB P 0) a).setCell (dB P 1) b).setCell (dB P 2) c).setCell (dB P 3) d).setCell (dB P 4) e).setCell (dB P 5) f):=
 ((((((qD.refl P w).setCell 0 a).setCell 1 b).setCell 2 c).setCell 3 d).setCell 4 e).setCell 5 f
def tB.apart{w e:eA}{P:Nat}{a:mC}{c:List iB}(h:tB w a c)(f:FJ a c P)(g:qD P w e):tB e a c:=by
 obtain i|⟨b,o,rfl,d⟩:=f;exact Ca i;exact h.but g d
def rR(n:Int)(w:eA):
 dF 104 #[zA n] w (oA (zE n)):=by
 by_cases h:1<=n/\n<=999999
 .have k:bC n 1 999999=dA:=by unfold bC;simp;omega
  have E:cB (zE n=KH n.toNat):=Ma h;obtain⟨N,rfl⟩:=Yf (show 0<=n by omega);have o:N<=999999:=by omega
  have p:=aEb;clear h;go_enter func104,ntmps104;go_wp2_with(go_at_call 91;apply dR (dE _ _ _ _));go_loopw [0,3,4] (λm s i wr=>∃(j M:Nat)(c:jB),j<=6/\i=zA j/\m=zA M/\s=oA c/\cB (M=N / 10 ^ j)/\M<=999999/\c.size=j/\cB (c.data.toList=eZ N j)/\uB w wr) (λ_ _ i _=>6-(intOf i).toNat)
  case atStart=>exact⟨0,N,kA,by omega,rfl,rfl,rfl,by show _=_;simp,o,rfl,rfl,iD⟩
  case round=>
   obtain⟨j,M,c,r,rfl,rfl,rfl,g,l,d,b,a⟩:=hrel;by_cases q:j<6
   .go_wp2;refine⟨⟨j+1,M / 10,_,by omega,by go_num,by go_num,rfl,?_,by omega,?_,?_,vB a zB⟩,by simp[intOf];omega⟩
    .show _=_;rw[g.o,Fg,Od]
    .rw[dw,d]
    show _=_;rw[aLd,b.o,eZ,g.o]
   go_wp2;go_ret;have e:j=6:=by omega
   subst e;refine⟨Kd (λx=>Ending.returned (oA x)) ?_,a⟩;rw[E.o,KH];refine aBk _ _ ?_;rw[Hd,<-b.o];simp
 have k:bC n 1 999999=cA:=by unfold bC;simp;omega
 have E:cB (zE n=kA):=Ja h;go_enter func104,ntmps104;go_wp2_with(go_at_call 91;apply dR (dE _ _ _ _));go_ret;exact⟨Kd (λx=>Ending.returned (oA x)) E.o.symm,iD⟩
section
open Go.Lib
def DL(a:List Int):(strOfNums a).size=yA a:=by
 rw[fR];simp[strOfNums]
end
def UM(p:jB)(w:eA)(i:p.size<=maxLen):
 dF 305 #[oA p] w (oA (uD p)):=by
 have m:cB _:=i;unfold maxLen at i;have f:cB (∀W,rL 319 #[zA (p.size:Int)] W (qA (bC p.size 1 60000))):=λW=>QO _ W;by_cases h:1<=p.size/\p.size<=60000
 .have g:bC p.size 1 60000=dA:=by simp[bC];omega
  rw[g]at f;have E:cB (uD p=pB 4 p.size++pB 4 (cJ p:Nat)++p):=Ma h;have o:=gB 4 (p.size:Int);have n:=gB 4 ((cJ p:Nat):Int);have j:cB (∀W,dF 79 #[zA (p.size:Int),zA 4] W (oA (pB 4 p.size))):=λW=>jI 4 _ W (by omega);have k:cB (∀W,dF 79 #[zA (cJ p:Nat),zA 4] W (oA (pB 4 (cJ p:Nat)))):=λW=>jI 4 _ W (by omega);generalize pB 4 (p.size:Int)=A at *;generalize pB 4 ((cJ p:Nat):Int)=B at *;go_enter func305,ntmps305;go_wp2_with(go_at_call 319;apply dR (f.o _));apply lC (j.o _);intro q b;go_wp2_with fail;apply lC (LP p _ m.o);intro r c;go_wp2_with fail;apply lC (k.o _);intro s d;have l:cB _:=vB (vB b c) d;clear b c d;go_wp2;go_ret;exact⟨OD E.o.symm,l.o⟩
 have g:bC p.size 1 60000=cA:=by simp[bC];omega
 rw[g]at f;have E:cB (uD p=kA):=Ja h;go_enter func305,ntmps305;go_wp2_with(go_at_call 319;apply dR (f.o _));go_ret;exact⟨OD E.o.symm,iD⟩
section
open Go.Maps Go.Sort
def js{x y:jB}(h:eK x y=dA):x.data.toList<=y.data.toList:=by
 unfold eK at h;rw[bytesLess_eq,Af,ByteArray.toList_eq,ByteArray.toList_eq]at h;exact List.le_of_lt h
def KL{α:Type}{key:α->jB}{L:List α}(j:zC key L){k:List (List UInt8)}(i:k.Perm (L.map λp=>(key p).data.toList)):
 (k.mergeSort (λx y=>decide (x<=y)))=L.map λp=>(key p).data.toList:=by
 have e:=(List.mergeSort_perm k (λx y=>decide (x<=y))).trans i;have f:(k.mergeSort (λx y=>decide (x<=y))).Pairwise (λa b=>a<=b):=by
  have:=List.pairwise_mergeSort (le:=fun(x y:List UInt8)=>decide (x<=y)) (λa b c h d=>by simp only[Af]at *;exact List.le_trans h d) (λa b=>by simp only[Fe,Af];exact List.le_total a b) k;simpa using this
 have g:(L.map λp=>(key p).data.toList).Pairwise (λa b=>a<=b):=Te.2 (j.imp λh=>js h);exact Qf (le:=λa b=>a<=b) (λa b _ _ h d=>List.le_antisymm h d) f g e
def QC{α:Type}(key:α->jB)(L:List α):(L.map λp=>(key p).data.toList).map encStr=L.map λp=>iA.string (key p):=by
 rw[Vd];exact Ge λp _=>by simp[encStr]
def aFj(x:Nat)(t:fB)(S:Nat->Prop)(M:Nat)(w:eA)(h:vD w S x t M)(z:yA t.Z<=1000000000):
 Calls prog 138 #[.pointer (yB x)] w λe c=>∃v,e=.returned v/\c.ownsRow w.1.size 9 1 v (yA t.Z) (t.Z.map λp=>oA p.s)/\uB w c:=by
 obtain⟨C,d,y,B,Q,A,D,h⟩:=h;have u:tC w x 2 (.map (some d)):=h.blk.cell 2;have j:yA Q=yA t.Z:=by rw[<-h.q1,Xa]
 have b:Maps.size (fE (Q.map λq=>(q.1.s,mF q.2)))=yA t.Z:=by rw[bN,j]
 have l:cB (Calls prog 208 #[.map (some d)] w λe c=>e=.returned (.func (.func 259) #[] #[.pointer (yB w.1.size)])/\c=w.alloc (vA #[.map (some d)] 223)):=callsIn_wide.1 (maps_Keys_208 (some d) w);have n:cB (Calls prog 74 #[.func (.func 259) #[] #[.pointer (yB w.1.size)]] (w.alloc (vA #[.map (some d)] 223)) λe c=>∃v,e=.returned v/\c.ownsRow w.1.size 9 1 v (yA t.Z) (t.Z.map λp=>oA p.s)/\uB w c):=by
  refine Calls.mono (callsIn_wide.1 (slices_Sorted_keys_74_208 d _ _ tE w h.Z (by rw[b];unfold maxLen;omega) (by rw[b];omega))) ?_;rintro e r ⟨v,s,rfl,i,a,_,g⟩;have o:(strKeys (fE (Q.map λq=>(q.1.s,mF q.2))))=t.Z.map λp=>p.s.data.toList:=by
   rw[zV,Vd,<-h.q1,Vd];rfl
  rw[o]at i;have f:yA s=yA t.Z:=by rw[i.length_eq,Xa]
  rw[KL (key:=λp:kB=>p.s) h.rs i,QC (λp:kB=>p.s),f]at a;exact⟨v,rfl,qI a (by simp),vB zB g⟩
 clear h j b;go_enter func138,ntmps138;go_wp2_with fail;apply lC l.o;rintro r rfl;go_wp2_with fail;refine n.o.mono ?_;rintro e E ⟨v,rfl,a,g⟩;have m:=bB a;have k:=bB g;clear a g;go_wp2;go_ret;exact⟨v,rfl,m.o,k.o⟩
end
