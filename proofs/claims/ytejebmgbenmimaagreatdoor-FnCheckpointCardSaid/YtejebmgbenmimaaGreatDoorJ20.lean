import Derived.Test.YtejebmgbenmimaaGreatDoorJ15
import Derived.Test.YtejebmgbenmimaaGreatDoorJ16
import Derived.Test.YtejebmgbenmimaaGreatDoorJ03
set_option maxRecDepth 100000
set_option maxHeartbeats 1000000
set_option linter.defProp false
open Bool renaming true->iA,false->gA
open ByteArray renaming empty->pA
open List renaming length->cB
namespace Go.Proofs.YtejebmgbenmimaaGreatDoor
open Go renaming World->jA,Value->mA,TypeId->oA
open Value renaming slice->uA,bool->vA,string->tA
open Obj renaming cells->aB
open Ending renaming returned->zA
open Go.RowKit Tryz
def aM(t:kB)(s:List kB×Bool)(p:kB):List kB×Bool:=
 (s.1++(if s.2=iA then [] else if vJ p.N t.N=iA then [] else [t])++(if (p.N.toList==t.N.toList)=iA then [] else [p]),if s.2=iA then iA else !vJ p.N t.N)
def uV(t:kB)(b:Bool)(a:List kB):List kB×Bool:=a.foldl (aM t) ([],b)
def DE(t:kB)(b:Bool)(a:List kB):List kB:=(uV t b a).1++if (uV t b a).2=iA then [] else [t]
def od(t:kB)(b:Bool)(a:List kB)(k:Nat)(h:k<cB a):uV t b (a.take (k+1))=aM t (uV t b (a.take k)) a[k]:=by
 rw[Pa h,uV,Dg];rfl
theorem xv(t:kB)(c:List kB):∀(a:List kB)(b:Bool),c.foldl (aM t) (a,b)=(a++(c.foldl (aM t) ([],b)).1,(c.foldl (aM t) ([],b)).2):=by induction c<;>grind [aM]
def IP(t p:kB)(r:List kB)(b:Bool):DE t b (p::r)=(aM t ([],b) p).1++DE t (aM t ([],b) p).2 r:=by grind [DE,aM,uV,xv]
theorem eU{t:kB}{a:List kB}(h:∀p∈a,p.N≠t.N):DE t iA a=a:=by
 induction a with
 |nil=>rfl
 |cons p r d=>
  rw[IP];have b:=aE (h p (Kc ..));simp only[aM,b,Td,Mb];simp[d λq c=>h q (Sb _ c)]
def aDp{t:kB}{f:List kB}(j:zC (·.N) f):DE t gA f=iC (·.N) t f:=by
 induction f with
 |nil=>rfl
 |cons p r l=>
  have h:=l j.tail;rw[IP,iC];by_cases c:vJ p.N t.N=iA
  .have d:=aE (iJ c);simp only[aM,c,d,Td];simp[h]
  have b:vJ p.N t.N=gA:=by simpa using c
  have a:∀q∈r,q.N≠t.N:=λq k e=>by
   have i:=j.head q k;rw[e]at i;exact c i
  by_cases d:p.N=t.N
  .have g:=(mE _ _).2 d;simp only[aM,b,g,Td];simp[eU a]
  have g:=aE d;simp only[aM,b,g];simp[eU a]
def aBe(b a:Int)(c:List kB)(k:Nat)(h:k<cB c):xD b a (c.take (k+1))=xD b a (c.take k)++if eF (aF b a c[k])=iA then [] else [aF b a c[k]]:=by
 rw[Pa h,xD,Ld,Vf];congr 1;by_cases e:eF (aF b a c[k])=iA
 .rw[Ma e];simp[e]
 rw[Ja e];simp[e]
def aJb(b a:Int)(c:List kB)(k:Nat):cB (xD b a (c.take k))<=cB c:=by grind [xD]
def aDq{t:kB}{b:Bool}{c:List kB}{q:kB}(h:q∈DE t b c):q=t\/q∈c:=by
 induction c generalizing b with
 |nil=>
  unfold DE uV at h;simp only[List.foldl_nil,Mb]at h;cases b with
  |true=>cases h
  |false=>exact Ca (by simpa using h)
 |cons p r e=>
  rw[IP,Ee]at h;obtain h|h:=h
  .unfold aM at h;simp only[Mb,Ee]at h;obtain h|h:=h
   .by_cases d:b=iA
    .rw[Ma d]at h;cases h
    rw[Ja d]at h;by_cases a:vJ p.N t.N=iA
    .rw[Ma a]at h;cases h
    rw[Ja a]at h;exact Ca (by simpa using h)
   by_cases a:(p.N.toList==t.N.toList)=iA
   .rw[Ma a]at h;cases h
   rw[Ja a]at h;exact La (by simp at h;simp[h])
  rcases e h with h|h;exact Ca h;exact La (Sb _ h)
def zK(c:kC)(d:Int)(b:List kB)(a key:vB):List kB×Nat:=
 if (xC a&&gK key)=gA then(b,5)
 else if (eD (·.s) key (eC b a).Z).isSome=iA then(iC (·.N) (zI (eC b a) key d) b,1)
 else if (if (eC b a).L = -1 then c.tl else(eC b a).L)<=(cB (eC b a).Z:Nat)\/((eD (·.N) a b).isNone&&decide (10000<=cB b))=iA then(b,3)
 else if zG (eC b a).M (cE key) c.ml<=(sI cE (eC b a).Z (cE key):Nat) then(b,4)
 else(iC (·.N) (zI (eC b a) key d) b,2)
def xp{d c:Int}{a:List kB}(h:wM d c a=iA){name:vB}: -1<=(eC a name).L/\(eC a name).L<=1000000:=by
 rcases zL (ts:=a) (name:=name) with⟨b,_⟩|⟨b,_⟩;have:=dJ h _ b;simp only[wO,Sa]at this;exact gL this.1.1.1.2;rw[b];exact⟨by simp,by simp⟩
def VX{c:kC}{d:Int}{b:List kB}(h:pC c d b=iA)(a key:vB):cI c d b a key=(d,(zK c d b a key).1,(zK c d b a key).2):=by
 obtain⟨_,_,_,l,m⟩:=dH h;unfold cI zK;rw[Ja (by rw[h];simp)];by_cases e:(xC a&&gK key)=gA
 .rw[Ma e,Ma e]
 rw[Ja e,Ja e];by_cases g:(eD (·.s) key (eC b a).Z).isSome=iA
 .rw[Ma g,Ma g]
 rw[Ja g,Ja g];have n:(cE key).toList.isEmpty=gA:=by
  have:(xC a&&gK key)=iA:=by simpa using e
  simp only[Sa,gK]at this;simpa using this.2
 have i:uE c (eC b a) pA=(((cB (eC b a).Z:Nat):Int),if (eC b a).L = -1 then c.tl else(eC b a).L):=by
  unfold uE;rw[Ma (show ByteArray.empty.toList.isEmpty=iA by rw[ByteArray.toList_eq];rfl)];have:=(xp m (name:=a)).1;by_cases k:(eC b a).L = -1
  .rw[Ma k,Ma (by omega)]
  rw[Ja k,Ja (by omega)]
 have j:uE c (eC b a) (cE key)=(((sI cE (eC b a).Z (cE key):Nat):Int),zG (eC b a).M (cE key) c.ml):=by
  unfold uE;rw[Ja (by rw[n];simp)]
 have h:=ob m (name:=a);rw[i,j];simp only;have f:(eF (eC b a)=iA/\cB b=10000) ↔ ((eD (·.N) a b).isNone&&decide (10000<=cB b))=iA:=by
  rw[h,Sa,Ab];cases eD (·.N) a b with
  |none=>simp;omega
  |some q=>simp
 simp only[f];generalize (if (eC b a).L = -1 then c.tl else(eC b a).L)=o;split;rfl;split<;>rfl
def jl{met:vB->vB}{l a:List pB}(h:l.map (·.s)=a.map (·.s))(m:vB):sI met l m=sI met a m:=by
 have:∀l:List pB,sI met l m=cB ((l.map (·.s)).filter λs=>(met s).toList==m.toList):=λl=>by
  unfold sI;rw[List.filter_map,Xa];rfl
 rw[this,this,h]
def qR{a:nC}{f:Nat}{d:List nB}{c k j l:Int}{m b:Bool}(h:rE d c k j l=b)(w:jA)(n:wB w a d)(o:gO d)(g:cB d<=maxLen)(i:tC d<=1000000000):
 gF 20 #[.agg #[uA a (cB d) f,dB c,dB k,dB j,dB l,vA m]] w (vA b):=h ▸ QX a f d c k j l m w n o g i
def qM{a:nC}{f:Nat}{d:List nB}{c k j l:Int}{m b:Bool}(h:rE d c k j l=b)(w:jA)(n:wB w a d)(o:gO d)(g:cB d<=maxLen)(i:tC d<=1000000000):
 gF 54 #[.agg #[uA a (cB d) f,dB c,dB k,dB j,dB l,vA m]] w (vA b):=h ▸ rU a f d c k j l m w n o g i
def nH{a:List nB}{c k b d:Int}(h:rE a c k b d=iA):fI a=iA/\cB a<=1000/\0<=c/\c<=1000000000/\(tC a:Int)<=c/\0<=k/\k<=1000000000000000/\0<=b/\b<=1000000000000000/\0<=d/\d<=1000000000000000:=by grind [rE,fI,tC,dC]
def KQ{w c:jA}{x y z:Array mA}{a b tz:oA}(d:Below (((w.alloc (aB x a)).alloc (aB y b)).alloc (aB z tz)).1.size (((w.alloc (aB x a)).alloc (aB y b)).alloc (aB z tz)) c):
 rB c w.1.size x a/\rB c (w.1.size+1) y b/\rB c (w.1.size+1+1) z tz/\zB w c:=by
 refine⟨?_,?_,?_,xB (xB (xB aC aC) aC) d⟩;exact (rB.z (rB.z (rB.z (g:=w.1.size) (heap_alloc_new w (aB x a)) jD) aC) aC).z d;have h:=rB.z (g:=(w.alloc (aB x a)).1.size) (heap_alloc_new (w.alloc (aB x a)) (aB y b)) (xB aC d);simpa using h;have h:=rB.z (g:=((w.alloc (aB x a)).alloc (aB y b)).1.size) (heap_alloc_new ((w.alloc (aB x a)).alloc (aB y b)) (aB z tz)) d;simpa using h
def yQ(d:List nB)(c k a b:Int)(f:Bool)(e:yK):Nat×List nB×Int×Int×Int×Int×Bool:=
 if (rE d c k a b&&GZ e)=iA then((tI d c k a b f e).1,(tI d c k a b f e).2.1,c,(tI d c k a b f e).2.2.1,a,b,(tI d c k a b f e).2.2.2) else(6,[],0,0,0,0,gA)
def aMh(R:Nat×List nB×Int×Int×Int×Int×Bool)(a:nC)(b:Nat):mA:=
 .tuple #[.agg #[uA a (cB R.2.1) b,dB R.2.2.1,dB R.2.2.2.1,dB R.2.2.2.2.1,dB R.2.2.2.2.2.1,vA R.2.2.2.2.2.2],dB R.1]
def fF(D:eE)(a:yK):eE×Nat:=
 (⟨(yQ D.fs D.c D.k D.cr D.fl D.dn a).2.1,(yQ D.fs D.c D.k D.cr D.fl D.dn a).2.2.1,(yQ D.fs D.c D.k D.cr D.fl D.dn a).2.2.2.1,(yQ D.fs D.c D.k D.cr D.fl D.dn a).2.2.2.2.1,(yQ D.fs D.c D.k D.cr D.fl D.dn a).2.2.2.2.2.1,(yQ D.fs D.c D.k D.cr D.fl D.dn a).2.2.2.2.2.2⟩,(yQ D.fs D.c D.k D.cr D.fl D.dn a).1)
structure DG(fs:List nB):Prop where
 H:gO fs
 len:cB fs≤1048576
 sum:tC fs≤1000000000
def bQ:DG []:=⟨λi h=>absurd h (by simp),by simp,by simp[tC]⟩
def yL(a:List nB)(i:Nat)(f:nB)(h:i<cB a):tC (a.set i f)+a[i].data.size=tC a+f.data.size:=by
 induction a generalizing i with
 |nil=>exact absurd h (by simp)
 |cons g r b=>
  cases i with
  |zero=>simp[tC];omega
  |succ i=>
   have:=b i (by simpa using h);simp only[Jd,Ec,tC];omega
def ny{a:List nB}(i:Nat)(b:i<cB a):a[i].data.size<=tC a:=by
 have c:=jI a i b;have d:=wH a (i+1);omega
def oV{a:List nB}(h:gO a){f:nB}(b:f∈a):f.N.size<=maxLen/\f.data.size<=maxLen:=by
 obtain⟨i,c,rfl⟩:=Ib b;exact h i c
def PQ{a:List nB}(h:∀f∈a,f.N.size<=maxLen/\f.data.size<=maxLen):gO a:=λ_ b=>h _ (Gb b)
def IJ{a:List nB}(h:gO a){i:Nat}{f:nB}(b:f.N.size<=maxLen/\f.data.size<=maxLen):gO (a.set i f):=by grind [gO]
def ZJ(a:List nB)(i:Nat):tC (a.eraseIdx i)<=tC a:=by
 induction a generalizing i with
 |nil=>simp
 |cons g r b=>
  cases i with
  |zero=>simp[tC]
  |succ i=>have:=b i;simp only[List.eraseIdx_cons_succ,tC];omega
def bR(a:List nB)(i:Nat)(h:i<cB a):tC (a.eraseIdx i)+a[i].data.size=tC a:=by
 induction a generalizing i with
 |nil=>exact absurd h (by simp)
 |cons g r b=>
  cases i with
  |zero=>simp[tC];omega
  |succ i=>
   have:=b i (by simpa using h);simp only[List.eraseIdx_cons_succ,Ec,tC];omega
def BL(p:nB->Bool)(a:List nB):tC (a.filter p)<=tC a:=by induction a<;>grind [tC]
def FR(a:List nB)(f:nB):tC (mG a f)=tC a+f.data.size:=by induction a<;>grind [tC,mG]
def vo{fs:List nB}{f g:nB}(h:g∈mG fs f):g=f\/g∈fs:=by induction fs<;>grind [mG]
def fX(a:List nB)(i:Nat)(f:nB):tC (iM a i f)=tC a+f.data.size:=by
 have h:=fQ (a.take i) (a.drop i);rw[Za]at h;rw[iM,fQ];simp only[tC];omega
def aIn{a:List nB}{c:Int}{b:yK}(h:DG a)(u:cB a<=1000)(v:c<=1000000000)(q:b.N.size<=maxLen)(s:b.tq.size<=maxLen):DG (iN a c b).2:=by
 have w:(1000000000:Nat)<=maxLen:=by unfold maxLen;omega
 unfold iN;simp only;split
 .split
  .exact h
  split;exact h;refine ⟨PQ λf i=>?_,?_,?_⟩
  .simp only[iM,Ee,Lb]at i;obtain i|rfl|i:=i
   .exact oV h.H (Ce i)
   .exact ⟨q,by simp[maxLen]⟩
   exact oV h.H (Ng i)
  .show (cB (iM a _ _))<=_;rw[iM];simp only[Kb,Hb,Zb,Rc];omega
  show tC (iM a _ _)<=_;rw[fX];have:=h.sum;simpa using this
 split;exact h
 rename_i f i;obtain⟨j,rfl⟩:=Pb.1 i;have e:=oV h.H (Gb j);have p:=ny _ j;have y:=h.sum;split
 .exact h
 split
 .split
  .exact h
  rename_i x;have d:=yL a (gC b.N a) ⟨a[gC b.N a].N,a[gC b.N a].data++b.data,a[gC b.N a].Y⟩ j;simp only[Ka]at d;refine⟨IJ h.H ⟨e.1,?_⟩,?_,?_⟩
  .show (a[gC b.N a].data++b.data).size<=maxLen;rw[Ka];omega
  .show (cB (a.set _ _))<=_;rw[Pd];omega
  show tC (a.set _ _)<=_;omega
 split
 .have d:=yL a (gC b.N a) ⟨a[gC b.N a].N,a[gC b.N a].data,a[gC b.N a].data.size⟩ j;refine⟨IJ h.H e,?_,?_⟩
  .show (cB (a.set _ _))<=_;rw[Pd];omega
  show tC (a.set _ _)<=_;simp only at d;omega
 split
 .split
  .have d:=yL a (gC b.N a) ⟨a[gC b.N a].N,a[gC b.N a].data.extract 0 b.size.toNat,b.size⟩ j;have z:(a[gC b.N a].data.extract 0 b.size.toNat).size<=a[gC b.N a].data.size:=by rw[Je];omega
   refine⟨IJ h.H ⟨e.1,?_⟩,?_,?_⟩;show (a[gC b.N a].data.extract 0 b.size.toNat).size<=maxLen;omega;show cB (a.set _ _)<=_;rw[Pd];omega;show tC (a.set _ _)<=_;simp only at d;omega
  exact h
 split
 .have n:cB (a.eraseIdx (gC b.N a))<=cB a:=by rw[Ad];split<;>omega
  have o:=bR a (gC b.N a) j;refine⟨PQ λg k=>?_,?_,?_⟩
  .rcases vo (fs:=yC (a.eraseIdx (gC b.N a)) b.tq) (f:=⟨b.tq,a[gC b.N a].data,a[gC b.N a].Y⟩) k with rfl|k
   .exact ⟨s,e.2⟩
   exact oV h.H (Sf (De.1 k).1)
  .show (cB (tG _ _))<=_;have m:∀(l:List nB)(f:nB),cB (mG l f)=cB l+1:=λl f=>by
    induction l with
    |nil=>rfl
    |cons g r t=>unfold mG;split<;>simp[t]
   have:cB (yC (a.eraseIdx (gC b.N a)) b.tq)<=cB (a.eraseIdx (gC b.N a)):=Pc _ _;rw[tG,m];simp only;omega
  .show tC (tG _ _)<=_;have:=BL (λf=>!(f.N.toList==b.tq.toList)) (a.eraseIdx (gC b.N a));rw[tG,FR];simp only[yC];omega
 refine ⟨PQ λg k=>oV h.H (Sf k),?_,?_⟩
 .show (cB (a.eraseIdx _))<=_;rw[Ad];split<;>omega
 show tC (a.eraseIdx _)<=_;have:=ZJ a (gC b.N a);omega
theorem nQ{D:eE}{op:yK}(h:DG D.fs)(e:op.N.size<=maxLen)(f:op.tq.size<=maxLen):DG (fF D op).1.fs:=by
 show DG (yQ D.fs D.c D.k D.cr D.fl D.dn op).2.1;unfold yQ;split
 .rename_i a;simp only[Sa]at a;obtain⟨_,b,_,d,_⟩:=nH a.1;unfold tI;split
  .exact aIn h b d e f
  exact h
 exact bQ
def rL(L:aI):Bool:=dC L.last 1 999999&&dC L.first 1 L.last&&dC L.size 0 1000000000
def pI(n:Int):yK:=⟨1,tF n,⟨#[]⟩,⟨#[]⟩,0⟩
def iK(n:Int)(f:vB):yK:=⟨2,tF n,⟨#[]⟩,f,0⟩
def xW(n:Int):yK:=⟨3,tF n,⟨#[]⟩,⟨#[]⟩,0⟩
def lR(D:eE)(L:aI)(f:vB):eE×aI×Nat:=
 if (fF D (iK L.last f)).2≠0 then((fF D (iK L.last f)).1,L,(fF D (iK L.last f)).2)
 else if (fF (fF D (iK L.last f)).1 (xW L.last)).2≠0 then((fF (fF D (iK L.last f)).1 (xW L.last)).1,L,(fF (fF D (iK L.last f)).1 (xW L.last)).2)
 else((fF (fF D (iK L.last f)).1 (xW L.last)).1,⟨L.first,L.last,L.size+f.size⟩,0)
def zH(D:eE)(L:aI)(p:vB)(a:Int):eE×aI×Nat:=
 if (rL L&&dC a 1 1000000000)=gA then(D,L,21)
 else if pF p=pA then(D,L,22)
 else if L.size≠0/\a<L.size+(pF p).size then
  if L.last=999999 then(D,L,23)
  else if (fF D (pI (L.last+1))).2≠0 then((fF D (pI (L.last+1))).1,L,(fF D (pI (L.last+1))).2)
  else lR (fF D (pI (L.last+1))).1 ⟨L.first,L.last+1,0⟩ (pF p)
 else lR D L (pF p)
def qO(r:tE):Prop:=r.T.size<=255/\r.X.size<=65535/\((r.K=1/\r.U=0)\/(r.K=2/\r.T.size=0/\r.X.size=0)\/r.K=3)
def rcD(r:tE):Decidable (qO r):=by unfold qO;exact inferInstance
def ZX(r:tE):Bool:=@decide (qO r) (rcD r)
theorem UQ{r:tE}(h:qO r):ZX r=iA:=@Ac _ (rcD r) h
theorem BD{r:tE}(h:¬qO r):ZX r=gA:=@Ub _ (rcD r) h
def WW(r:tE):vB:=uB 1 r.K++vM r.T++eG r.X++uB 8 r.U
def uM:List tE->vB
 |[]=>pA
 |r::q=>WW r++uM q
def ri(a:List tE):Prop:=∀i(h:i<cB a),qO a[i]
def eY(a:Int)(b:List tE):Prop:=1<=a/\a<=1000000000000000/\1<=cB b/\cB b<=500/\ri b
def LN(a:Int)(n:Nat):vB:=uB 8 a++uB 2 (n:Nat)
def aKz(a:Int)(b:List tE):Decidable (eY a b):=by unfold eY ri qO;exact inferInstance
def aN(a:Int)(b:List tE):vB:=haveI:=aKz a b;if eY a b then LN a (cB b)++uM b else pA
def LM{a:Int}{b:List tE}(h:eY a b):aN a b=LN a (cB b)++uM b:=by unfold aN;rw[Ma h]
def LL{lsn:Int}{rs:List tE}(h:¬eY lsn rs):aN lsn rs=pA:=by unfold aN;rw[Ja h]
def DX:∀(a b:List tE),uM (a++b)=uM a++uM b
 |[],b=>by simp[uM]
 |r::q,b=>by
  show WW r++uM (q++b)=WW r++uM q++uM b;rw[DX q b,Wa]
def ju(a:List tE)(k:Nat)(h:k<cB a):uM (a.take (k+1))=uM (a.take k)++WW a[k]:=by
 rw[Pa h,DX];simp[uM]
def tv(r:tE):(WW r).size=12+r.T.size+r.X.size:=by grind [WW,oB,sF,kF]
def DO(a:Int)(n:Nat):(LN a n).size=10:=by unfold LN;rw[Ka,oB,oB]
def ou{b:List tE}{k:Nat}(d:k<cB b)(h:¬qO b[k])(a:Int):aN a b=pA:=LL λc=>h (c.2.2.2.2 k d)
def oI(b a:Int)(left:vB->Bool)(c:List kB):List kB:=(c.map λt=>if left t.N=iA then t else aF b a t).filter λt=>left t.N||!eF t
def eg{win now:Int}{left:vB->Bool}(t:kB):(if left t.N=iA then t else aF win now t).N=t.N:=by split<;>rfl
def vr{b a:Int}{left:vB->Bool}{c:List kB}(h:∀t∈c,left t.N=iA):oI b a left c=c:=by
 have e:c.map (λt=>if left t.N=iA then t else aF b a t)=c:=by
  have:∀t∈c,(if left t.N=iA then t else aF b a t)=id t:=λt d=>by rw[Ma (h t d)];rfl
  rw[Ge this,List.map_id]
 unfold oI;rw[e];exact Jc.2 λt d=>by rw[h t d];rfl
def mg{b a:Int}{left:vB->Bool}{c:List kB}(h:∀n,left n=gA):oI b a left c=xD b a c:=by
 unfold oI xD;simp only[h,Rf,Bd,Cf]
theorem zS{b a:Int}{left:vB->Bool}{p:kB}{r:List kB}:oI b a left (p::r)=if (left p.N||!eF (if left p.N=iA then p else aF b a p))=iA then(if left p.N=iA then p else aF b a p):: oI b a left r else oI b a left r:=by
 unfold oI;rw[Fc,List.filter_cons,eg]
def UG{b a:Int}{left:vB->Bool}{c:List kB}{q:kB}(h:q∈oI b a left c):∃t∈c,q=(if left t.N=iA then t else aF b a t)/\q.N=t.N:=by grind [oI,aF]
def ef{c b:Int}{left a:vB->Bool}{d:List kB}(h:∀t∈d,left t.N=a t.N):oI c b left d=oI c b a d:=by induction d<;>grind [oI,zS]
theorem mh{b a:Int}{left c:vB->Bool}{j:List kB}(v:zC (·.N) j){t:kB}(o:t∈j)(C:left t.N=iA)(k:∀n,c n=(left n&&!(n.toList==t.N.toList))):
 oI b a c j=if eF (aF b a t)=iA then yE (·.N) t.N (oI b a left j) else iC (·.N) (aF b a t) (oI b a left j):=by
 induction j with
 |nil=>cases o
 |cons p r E=>
  have i:c t.N=gA:=by rw[k,(mE t.N t.N).2 rfl];simp
  have f:∀n,n≠t.N->c n=left n:=λn g=>by rw[k,aE g];simp
  rcases Lb.1 o with rfl|o
  .have h:oI b a c r=oI b a left r:=ef λq m=>f q.N (λe=>iJ (v.head q m) e.symm);have g:∀q∈oI b a left r,q.N≠t.N:=λq m=>by
    obtain⟨s,D,_,e⟩:=UG m;rw[e];exact λB=>iJ (v.head s D) B.symm
   rw[zS,zS,i,C,h];simp only[Bd,Cf,Rf,Td,Bool.true_or];by_cases d:eF (aF b a t)=iA
   .rw[Ma d,d];have z:yE (·.N) t.N (oI b a left r)=oI b a left r:=Jc.2 λq m=>by rw[aE (g q m)];rfl
    unfold yE at z |-
    rw[Id (by simp),z];simp
   have w:eF (aF b a t)=gA:=by simpa using d
   rw[Ja d,w,Ma (by rfl),iC,Ja (by show ¬vJ t.N t.N=iA;rw[mN];simp),Ma (by exact(mE t.N t.N).2 rfl)]
  .have y:=v.head t o;have l:=iJ y;have x:=E v.tail o;rw[zS,zS,f p.N l,x];by_cases u:(left p.N||!eF (if left p.N=iA then p else aF b a p))=iA
   .rw[Ma u,Ma u];have A:=eg (win:=b) (now:=a) (left:=left) p;generalize (if left p.N=iA then p else aF b a p)=q at *;by_cases d:eF (aF b a t)=iA
    .rw[Ma d,Ma d];unfold yE;rw[Wc (by show(!(q.N.toList==t.N.toList))=iA;rw[A,aE l];rfl)]
    rw[Ja d,Ja d,iC,Ma (by show vJ q.N t.N=iA;rw[A];exact y)]
   rw[Ja u,Ja u]
def uJ(c b:Int)(d:List kB)(a:Int):Int×List kB×Bool:=if a<1\/1000000000000-b<a then(b,d,gA) else(b+a,xD c (b+a) d,iA)
def QI{c:kC}{a:Int}{d:List kB}(h:pC c a d=iA)(b:Int):pZ c a d b=uJ c.w a d b:=by
 unfold pZ uJ;rw[Ja (by rw[h];simp)]
def uz{b a u:Int}{t:kB}{c:List pB}(h:u=a-b)(f:c.filter (λp=>decide (u<p.n))=t.Z.filter (λp=>decide (u<p.n)))(d:∀p∈c,u<p.n):aF b a t=⟨t.N,t.L,t.M,c⟩:=by
 unfold aF;have e:(λp:pB=>decide (a-p.n<b))=λp=>decide (u<p.n):=by
  funext p;rw[decide_eq_decide];omega
 rw[e,<-f,Jc.2 λp g=>Ac (d p g)]
def NC{α:Type}{key:α->vB}{l:List α}(b:zC key l){a:α}(h:a∈l):(a::yE key (key a) l).Perm l:=by
 induction l with
 |nil=>cases h
 |cons p r c=>
  unfold yE at c |-
  rcases Lb.1 h with rfl|h
  .rw[Id (by simp)];have:r.filter (λq=>!((key q).toList==(key a).toList))=r:=Jc.2 λq d=>by rw[aE (λe=>iJ (b.head q d) e.symm)];rfl
   rw[this]
  rw[Wc (by rw[aE (iJ (b.head a h))];rfl)];exact(List.Perm.swap _ _ _).trans ((c b.tail h).cons p)
def au{met:vB->vB}{l:List pB}(a:zC (·.s) l){p:pB}(h:p∈l)(m:vB):sI met l m=sI met (yE (·.s) p.s l) m+if met p.s=m then 1 else 0:=by
 rw[<-SI];exact SJ (NC a h).symm m
theorem MM{f:Nat->Bool}{n:Nat}(h:∀k,k<n->f k=iA):hI f n=iA:=by induction n<;>grind [hI,fL]
theorem PH{l:List pB}(b:zC (·.s) l){k:Nat}(a:k<cB l):wL l k=iA:=by
 cases k with
 |zero=>rfl
 |succ k=>
  rw[dT (by omega) a];have:=Qe.1 b k (k+1) (by omega) a (by omega);simpa using this
theorem my{l:List kB}(b:zC (·.N) l){k:Nat}(a:k<cB l):aO l k=iA:=by
 cases k with
 |zero=>rfl
 |succ k=>
  rw[kV (by omega) a];have:=Qe.1 b k (k+1) (by omega) a (by omega);simpa using this
def ee{a:List pB}(b:zC (·.s) a)(h:∀m∈a,dF m.s=iA/\dC m.n 0 1000000=iA):tL a=iA:=by grind [zC,dF,dC,tL,MM,bZ,PH]
def ge{b a:Int}{c:List pB}(d:zC (·.s) c)(h:∀x∈c,gK x.s=iA/\dC x.n 0 a=iA/\a-x.n<b):vK b a c=iA:=by grind [zC,gK,dC,vK,MM,nV,PH]
theorem QE{b a:Int}{c:List kB}(d:zC (·.N) c)(h:∀t∈c,wO b a t=iA):wM b a c=iA:=by grind [zC,wO,wM,MM,sV,my]
def tP{c:kC}{a:Int}{b:List kB}(d:mH c=iA)(e:dC a 0 1000000000000=iA)(f:cB b<=10000)(g:wM c.w a b=iA):pC c a b=iA:=by
 unfold pC;rw[d,e,g,Ac f];rfl
def LS{a:List pB}(h:tL a=iA):(∀m∈a,dF m.s=iA/\dC m.n 0 1000000=iA)/\zC (·.s) a:=by
 refine⟨λm c=>?_,?_⟩;obtain ⟨i,b,rfl⟩:=Ib c;have:=iO h b;rw[bZ b]at this;simp only[Sa]at this;exact⟨this.1.2,this.2⟩;have:=GY (n:=cB a) h (Ia _);rwa [Rb]at this
def FK{b a:Int}{c:List pB}(h:vK b a c=iA):(∀x∈c,gK x.s=iA/\dC x.n 0 a=iA/\a-x.n<b)/\zC (·.s) c:=by
 refine⟨λx e=>?_,?_⟩;obtain ⟨i,d,rfl⟩:=Ib e;have:=iO h d;rw[nV d]at this;simp only[Sa,Ab]at this;exact⟨this.1.1.2,this.1.2,this.2⟩;have:=II (n:=cB c) h (Ia _);rwa [Rb]at this
def FS{b a:Int}{t:kB}(h:wO b a t=iA):xC t.N=iA/\dC t.L (-1) 1000000=iA/\tL t.M=iA/\vK b a t.Z=iA/\eF t=gA:=by grind [wO,xC,dC,tL,vK,eF]
def ZK{b a:Int}{t:kB}(c:xC t.N=iA)(d:dC t.L (-1) 1000000=iA)(e:tL t.M=iA)(f:vK b a t.Z=iA)(g:eF t=gA):wO b a t=iA:=by
 unfold wO;rw[c,d,e,f,g];rfl
def GJ{n a b:Int}(c:a<=n)(d:n<=b):dC n a b=iA:=by
 unfold dC;rw[Ac c,Ac d];rfl
def qu{c:kC}(h:mH c=iA):1<=c.w/\c.w<=1000000000:=by
 simp only[mH,Sa]at h;exact gL h.1.1.1.1.1
def bU{c b:Int}{a:List kB}(h:wM c b a=iA){name:vB}:dC (eC a name).L (-1) 1000000=iA/\tL (eC a name).M=iA/\vK c b (eC a name).Z=iA:=by
 rcases zL (ts:=a) (name:=name) with⟨d,_⟩|⟨d,_⟩;obtain ⟨_,e,f,g,_⟩:=FS (dJ h _ d);exact⟨e,f,g⟩;rw[d];exact⟨rfl,rfl,rfl⟩
def XP{b:List kB}{t:kB}(d:zC (·.N) b)(e:cB b<=10000)(h:((eD (·.N) t.N b).isNone&&decide (10000<=cB b))=gA):cB (iC (·.N) t b)<=10000:=by
 have c:=EM (a:=t) d;cases hg:eD (·.N) t.N b with
 |some q=>simp only[hg,Wf,Td]at c;omega
 |none=>
  rw[hg]at h;simp only[hg,Xf,Bd,Cf]at c;simp only[Option.isNone_none,Oc,Xe]at h;omega
def OH{b a:Int}{c:List kB}{t:kB}(h:wM b a c=iA)(d:wO b a t=iA):wM b a (iC (·.N) t c)=iA:=by grind [wM,wO,iC,QE,bK,yR,lK,dJ]
def ol{c:kC}{b:Int}{d:List kB}(f:pC c b d=iA){a key:vB}(e:(xC a&&gK key)=iA):wO c.w b (zI (eC d a) key b)=iA:=by
 obtain⟨i,h,p,q,j⟩:=dH f;obtain⟨k,l,m⟩:=bU j (name:=a);obtain⟨n,o⟩:=FK m;rw[Sa]at e;refine ZK (by show xC (eC d a).N=iA;rw[nG];exact e.1) k l ?_ RW;refine ge (bK o) λx g=>?_;rcases lK (show x∈iC (·.s) ⟨key,b⟩ (eC d a).Z from g) with rfl|g
 .exact ⟨e.2,GJ h (Xd _),by have:=(qu i).1;show b-b<_;omega⟩
 exact n x g
theorem oq{c:kC}{d:Int}{b:List kB}(f:pC c d b=iA){a key:vB}(g:(zK c d b a key).2=1\/(zK c d b a key).2=2):pC c d (zK c d b a key).1=iA:=by
 obtain⟨p,v,w,r,m⟩:=dH f;have o:=GJ v w;have t:=yR m;have i:(zI (eC b a) key d).N=a:=nG;unfold zK at g |-
 by_cases k:(xC a&&gK key)=gA
 .rw[Ma k]at g;omega
 rw[Ja k]at g |-
 have h:(xC a&&gK key)=iA:=by simpa using k
 by_cases j:(eD (·.s) key (eC b a).Z).isSome=iA
 .rw[Ma j];refine tP p o (XP t r ?_) (OH m (ol f h));rw[i];rcases zL (ts:=b) (name:=a) with⟨_,u⟩|⟨e,_⟩
  .cases hg:eD (·.N) a b with
   |none=>rw[hg]at u;cases u
   |some q=>rfl
  rw[e]at j;cases j
 rw[Ja j]at g |-
 by_cases l:(if (eC b a).L = -1 then c.tl else(eC b a).L)<=(cB (eC b a).Z:Nat)\/((eD (·.N) a b).isNone&&decide (10000<=cB b))=iA
 .rw[Ma l]at g;omega
 rw[Ja l]at g |-
 by_cases n:zG (eC b a).M (cE key) c.ml<=(sI cE (eC b a).Z (cE key):Nat)
 .rw[Ma n]at g;omega
 rw[Ja n];refine tP p o (XP t r ?_) (OH m (ol f h));rw[i];cases hd:((eD (·.N) a b).isNone&&decide (10000<=cB b)) with
 |false=>rfl
 |true=>exact absurd (La hd) l
theorem aGq{c:kC}{k:Int}{g:List kB}(f:pC c k g=iA){a b:vB}{d:Int}:pC c k (wR g a b d).1=iA:=by
 obtain⟨v,C,D,w,l⟩:=dH f;have u:=GJ C D;have y:=yR l;obtain⟨E,z,F⟩:=bU l (name:=a);obtain⟨A,B⟩:=LS z;unfold wR;by_cases n:(xC a&&(b.toList.isEmpty||dF b) &&dC d (-1) 1000000)=gA
 .rw[Ma n];exact f
 rw[Ja n];have e:=(Bool.not_eq_false _).mp n;simp only[Sa]at e;by_cases o:eF (xH (eC g a) b d)=iA
 .rw[Ma o];refine tP v u (Ua (Pc _ _) w) (QE (gP y) λt s=>dJ l t (aS.1 s).1)
 rw[Ja o];by_cases p:((eD (·.N) a g).isNone&&decide (10000<=cB g))=iA
 .rw[Ma p];exact f
 rw[Ja p];have j:(xH (eC g a) b d).N=a:=by rw[nP,nG]
 refine tP v u (XP y w (by rw[j];simpa using p)) (OH l ?_);refine ZK (by rw[j];exact e.1.1) ?_ ?_ (by rw[UA];exact F) (by simpa using o)
 .unfold xH;split
  .exact e.2
  exact E
 unfold xH;split;exact z
 rename_i q;have r:dF b=iA:=by
  have:=e.1.2;rw[Fe]at this;obtain h|h:=this;exact absurd h q;exact h
 simp only;split
 .exact ee (gP B) λm i=>A m (aS.1 i).1
 rename_i x;refine ee (bK B) λm i=>?_;rcases lK i with rfl|i
 .have:=gL e.2;exact⟨r,GJ (by show 0<=d;omega) this.2⟩
 exact A m i
theorem aDk{c:kC}{a:Int}{d:List kB}(e:pC c a d=iA){b:Int}:pC c (uJ c.w a d b).1 (uJ c.w a d b).2.1=iA:=by
 obtain⟨k,D,E,l,h⟩:=dH e;have n:=yR h;unfold uJ;split;exact e
 rename_i F;have f:cB (xD c.w (a+b) d)<=cB d:=by
  unfold xD;have:=Pc (λt=>!eF t) (d.map (aF c.w (a+b)));rw[Xa]at this;exact this
 refine tP k (GJ (by omega) (by omega)) (Ua f l) (QE ?_ λt g=>?_);exact Mf _ (Te.2 n);obtain ⟨i,j⟩:=De.1 g;obtain⟨q,m,rfl⟩:=Md.1 i;obtain⟨p,r,s,u,_⟩:=FS (dJ h q m);obtain⟨v,y⟩:=FK u;refine ZK p r s (ge (Mf _ y) λx o=>?_) (by simpa using j);obtain⟨z,A⟩:=De.1 o;obtain⟨B,C,_⟩:=v x z;have:=gL C;exact⟨B,GJ this.1 (by omega),by simpa using A⟩
def pE(c:kC)(a:Int)(b:List kB)(r:tE):Int×List kB×Bool:=
 if r.K=1 then(a,(zK c a b r.T r.X).1,decide ((zK c a b r.T r.X).2=1) ||decide ((zK c a b r.T r.X).2=2))
 else if r.K=2 then uJ c.w a b r.U
 else if r.K=3 then(a,(wR b r.T r.X r.U).1,(wR b r.T r.X r.U).2)
 else(a,b,gA)
def aG(c:kC):Int->List kB->List tE->Int×List kB×Bool
 |a,b,[]=>(a,b,iA)
 |a,b,r::d=>if (pE c a b r).2.2=iA then aG c (pE c a b r).1 (pE c a b r).2.1 d else((pE c a b r).1,(pE c a b r).2.1,gA)
def oF(c:kC)(a:Int)(b:List kB)(d:List tE):Int×List kB×Bool:=
 if pC c a b=gA then(0,[],gA) else if 500<cB d then(a,b,gA) else if (aG c a b d).2.2=iA then aG c a b d else(a,b,gA)
def FP{c:kC}{a:Int}{b:List kB}(h:pC c a b=iA){r:tE}(d:(pE c a b r).2.2=iA):pC c (pE c a b r).1 (pE c a b r).2.1=iA:=by grind [pC,pE,oq,aDk,aGq]
theorem EY{p:pB}(l:List pB):dE (iC (·.s) p l)<=dE l+p.s.size/\cB (iC (·.s) p l)<=cB l+1:=by induction l<;>grind [dE,iC]
theorem nX(f:pB->Bool)(l:List pB):dE (l.filter f)<=dE l/\cB (l.filter f)<=cB l:=by induction l<;>grind [dE]
theorem tX(f:kB->Bool)(l:List kB):fC (l.filter f)<=fC l/\cB (l.filter f)<=cB l:=by induction l<;>grind [fC]
def FV{a:List kB}(f:zC (·.N) a){t:kB}{k:Nat}(h:lF t<=lF (eC a t.N)+k):cB (iC (·.N) t a)+fC (iC (·.N) t a)<=cB a+fC a+1+t.N.size+k:=by
 have g:lF ⟨t.N,-1,[],[]⟩=t.N.size:=by simp[lF,dE]
 have key:(∃q∈a,q.N=t.N/\lF t<=lF q+k)\/(lF t<=t.N.size+k):=by
  rcases zL (ts:=a) (name:=t.N) with⟨m,_⟩|⟨e,_⟩;exact Ca ⟨_,m,nG,h⟩;rw[e,g]at h;exact La h
 clear h g;obtain⟨q,c,d,j⟩|j:=key
 .have:cB (iC (·.N) t a)+fC (iC (·.N) t a)<=cB a+fC a+k:=by
   induction a with
   |nil=>cases c
   |cons p r i=>
    rw[iC];rcases Lb.1 c with rfl|c;rw[Ja (by rw[d,mN];simp),Ma ((mE _ _).2 d)];simp only[Zb,fC];omega;have b:=f.head q c;simp only[d]at b;rw[Ma b];have:=i f.tail c;simp only[Zb,fC];omega
  omega
 .have:∀l:List kB,cB (iC (·.N) t l)+fC (iC (·.N) t l)<=cB l+fC l+1+lF t:=λl=>by
   induction l with
   |nil=>simp[iC,fC]
   |cons p r i=>
    rw[iC];split;simp only[Zb,fC];omega;split<;>(simp only[Zb,fC];omega)
  have:=this a;omega
def rg{c:List kB}{a key:vB}{b:Int}:lF (zI (eC c a) key b)<=lF (eC c (zI (eC c a) key b).N)+(1+key.size):=by grind [lF,zI,eC,nG,EY]
def vj{d:List kB}{b a:vB}{c:Int}:lF (xH (eC d b) a c)<=lF (eC d (xH (eC d b) a c).N)+(1+a.size):=by grind [lF,xH,eC,dE,yE,nP,nG,EY,nX]
def vb{win now:Int}(a:List kB):cB (xD win now a)+fC (xD win now a)<=cB a+fC a:=by induction a<;>grind [xD,fC,eF,aF,lF,tX,nX]
def eX{c:kC}{b:Int}{a:List kB}(h:pC c b a=iA)(r:tE):cB (pE c b a r).2.1+fC (pE c b a r).2.1<=cB a+fC a+2+r.T.size+r.X.size:=by
 have g:=yR (dH h).2.2.2.2;have d:cB a+fC a<=cB a+fC a+2+r.T.size+r.X.size:=by omega
 have f:cB (iC (·.N) (zI (eC a r.T) r.X b) a)+fC (iC (·.N) (zI (eC a r.T) r.X b) a)<=cB a+fC a+2+r.T.size+r.X.size:=by
  have:=FV g (t:=zI (eC a r.T) r.X b) rg;have e:(zI (eC a r.T) r.X b).N=r.T:=nG;rw[e]at this;omega
 have i:cB (iC (·.N) (xH (eC a r.T) r.X r.U) a)+fC (iC (·.N) (xH (eC a r.T) r.X r.U) a)<=cB a+fC a+2+r.T.size+r.X.size:=by
  have:=FV g (t:=xH (eC a r.T) r.X r.U) vj;have e:(xH (eC a r.T) r.X r.U).N=r.T:=by rw[nP,nG]
  rw[e]at this;omega
 unfold pE;split
 .unfold zK;split
  .exact d
  split;exact f;generalize (if (eC a r.T).L = -1 then c.tl else(eC a r.T).L)=j;split;exact d;split;exact d;exact f
 split
 .unfold uJ;split
  .exact d
  have:=vb (win:=c.w) (now:=b+r.U) a;show(xD c.w (b+r.U) a).length+fC (xD c.w (b+r.U) a)<=_;omega
 split
 .unfold wR;split
  .exact d
  split;have:=tX (λp=>!((λq:kB=>q.N) p).toList==r.T.toList) a;show(yE (·.N) r.T a).length+fC (yE (·.N) r.T a)<=_;unfold yE;omega;split;exact d;exact i
 exact d
def UV{c:kC}:∀{rs:List tE}{now:Int}{ts:List kB},pC c now ts=iA->cB (aG c now ts rs).2.1+fC (aG c now ts rs).2.1<=cB ts+fC ts+2*cB rs+iD rs
 |[],now,ts,_=>by simp[aG,iD]
 |r::rs,now,ts,h=>by
  have b:=eX h r;rw[aG];simp only[Zb,iD];split
  .rename_i a;have d:=UV (rs:=rs) (FP h a);omega
  show cB (pE c now ts r).2.1+fC (pE c now ts r).2.1<=_;omega
def UW{c:kC}{a:Int}{d:List kB}{b:List tE}{k:Nat}(e:k<cB b)(f:(pE c a d b[k]).2.2=iA):aG c a d (b.drop k)=aG c (pE c a d b[k]).1 (pE c a d b[k]).2.1 (b.drop (k+1)):=by
 rw[Cb e,aG,Ma f]
def UX{c:kC}{a:Int}{d:List kB}{b:List tE}{k:Nat}(e:k<cB b)(f:(pE c a d b[k]).2.2=gA):aG c a d (b.drop k)=((pE c a d b[k]).1,(pE c a d b[k]).2.1,gA):=by
 rw[Cb e,aG,Ja (by rw[f];decide)]
def FC(a:List tE){k:Nat}(b:k<cB a):iD (a.drop k)=a[k].T.size+a[k].X.size+iD (a.drop (k+1)):=by
 rw[Cb b,iD]
def uL(t:pB)(s:List pB×Bool)(p:pB):List pB×Bool:=
 (s.1++(if s.2=iA then [] else if vJ p.s t.s=iA then [] else [t])++(if (p.s.toList==t.s.toList)=iA then [] else [p]),if s.2=iA then iA else !vJ p.s t.s)
def lX(t:pB)(b:Bool)(a:List pB):List pB×Bool:=a.foldl (uL t) ([],b)
def fc(t:pB)(b:Bool)(a:List pB):List pB:=(lX t b a).1++if (lX t b a).2=iA then [] else [t]
def mq(t:pB)(b:Bool)(a:List pB)(k:Nat)(h:k<cB a):lX t b (a.take (k+1))=uL t (lX t b (a.take k)) a[k]:=by
 rw[Pa h,lX,Dg];rfl
theorem vz(t:pB)(c:List pB):∀(a:List pB)(b:Bool),c.foldl (uL t) (a,b)=(a++(c.foldl (uL t) ([],b)).1,(c.foldl (uL t) ([],b)).2):=by induction c<;>grind [uL]
def UK(t p:pB)(r:List pB)(b:Bool):fc t b (p::r)=(uL t ([],b) p).1++fc t (uL t ([],b) p).2 r:=by grind [fc,uL,lX,vz]
def wT(t:pB)(c:List pB):fc t iA c=yE (·.s) t.s c:=by
 induction c with
 |nil=>rfl
 |cons p r d=>
  rw[UK];by_cases b:(p.s.toList==t.s.toList)=iA
  .simp only[uL,b,Td,Mb,d];unfold yE;rw[Id (by rw[b];simp)]
  have a:(p.s.toList==t.s.toList)=gA:=by simpa using b
  simp only[uL,a,Td,Mb,d];unfold yE;rw[Wc (by rw[a];rfl)];rfl
def fd{t:pB}{g:List pB}(l:zC (·.s) g):fc t gA g=iC (·.s) t g:=by
 induction g with
 |nil=>rfl
 |cons p r m=>
  have j:=m l.tail;rw[UK,iC];by_cases d:vJ p.s t.s=iA
  .have f:(p.s.toList==t.s.toList)=gA:=aE (iJ d);simp only[uL,d,f,Td];simp[j]
  have c:vJ p.s t.s=gA:=by simpa using d
  have b:∀q∈r,q.s≠t.s:=λq i e=>by
   have k:=l.head q i;rw[e]at k;exact d k
  have a:yE (·.s) t.s r=r:=Jc.2 λq i=>by rw[aE (b q i)];rfl
  by_cases f:p.s=t.s
  .have h:(p.s.toList==t.s.toList)=iA:=(mE _ _).2 f;simp only[uL,c,h,Td];simp[wT,a]
  have h:(p.s.toList==t.s.toList)=gA:=aE f;simp only[uL,c,h];simp[wT,a]
def aBo{t:kB}{a:vB}{limit:Int}(c:zC (·.s) t.M)(b:a.toList.isEmpty=gA):xH t a limit=⟨t.N,t.L,fc ⟨a,limit⟩ (decide (limit<0)) t.M,t.Z⟩:=by
 unfold xH;rw[Ja (by rw[b];simp)];by_cases h:limit<0
 .rw[Ma h,Ac h,wT]
 rw[Ja h,Ub h,fd c]
def cW(w:jA)(cs:Array mA)(t:oA):rB (w.alloc (aB cs t)) w.1.size cs t:=heap_alloc_new _ _
def DH(a:nC)(c:List nB)(P:Nat):Prop:=c=[]\/∃b o,a=some (iB b o)/\b≠P
def cM{w a:jA}{cs:Array mA}{t:oA}(h:Below (w.alloc (aB cs t)).1.size (w.alloc (aB cs t)) a):rB a w.1.size cs t:=(cW w cs t).z h
def MN{w:jA}{P:Nat}{i j k l m n a b c d e f:mA}{t:oA}(h:rB w P #[i,j,k,l,m,n] t):
 rB ((((((w.setCell (iB P 0) a).setCell (iB P 1) b).setCell (iB P 2) c).setCell (iB P 3) d).setCell (iB P 4) e).setCell (iB P 5) f) P #[a,b,c,d,e,f] t:=by
 have g:=(((((h.set 0 a).set 1 b).set 2 c).set 3 d).set 4 e).set 5 f;simpa using g
def aJ{w a:jA}{cs:Array mA}{t:oA}(h:Below (w.alloc (aB cs t)).drew.1.size (w.alloc (aB cs t)).drew a):rB a w.1.size cs t:=(cW w cs t).z ⟨h.os,h.tape,h.output,h.size,h.block⟩
def iz{w:jA}{a:nC}{d:List nB}{P:Nat}{t:oA}(h:wB w a d)(j:rB w P #[uA none 0 0,dB 0,dB 0,dB 0,dB 0,vA gA] t):DH a d P:=by
 obtain h|⟨b,o,e,_,h⟩:=h;exact Ca h
 by_cases f:d=[]
 .exact Ca f
 refine La ⟨b,o,e,λg=>?_⟩;subst g;have i:0<cB d:=by
  cases d with
  |nil=>exact absurd rfl f
  |cons _ _=>simp
 have c:=(h 0 i).1;rw[j.cell]at c;simp only[Nat.zero_mul,Bg]at c;match o,c with
 |0,c=>simp at c
 |1,c=>simp at c
 |2,c=>simp at c
 |3,c=>simp at c
 |4,c=>simp at c
 |5,c=>simp at c
 |n+6,c=>simp at c
def kQ{w:jA}{P:Nat}(a b c d e f:mA):
 uD P w ((((((w.setCell (iB P 0) a).setCell (iB P 1) b).setCell (iB P 2) c).setCell (iB P 3) d).setCell (iB P 4) e).setCell (iB P 5) f):=
 ((((((uD.refl P w).setCell 0 a).setCell 1 b).setCell 2 c).setCell 3 d).setCell 4 e).setCell 5 f
def wB.apart{w e:jA}{P:Nat}{a:nC}{c:List nB}(h:wB w a c)(f:DH a c P)(g:uD P w e):wB e a c:=by
 obtain i|⟨b,o,rfl,d⟩:=f;exact Ca i;exact h.but g d
def tQ(n:Int)(w:jA):
 gF 135 #[dB n] w (tA (tF n)):=by
 by_cases h:1<=n/\n<=999999
 .have k:dC n 1 999999=iA:=by unfold dC;simp;omega
  have E:fB (tF n=PN n.toNat):=Ma h;obtain⟨N,rfl⟩:=Yf (show 0<=n by omega);have o:N<=999999:=by omega
  have p:=zq;clear h;go_enter func135,ntmps135;go_wp2_with(go_at_call 103;apply dR (zD _ _ _ _));go_loopw [0,3,4] (λm s i wr=>∃(j M:Nat)(c:vB),j<=6/\i=dB j/\m=dB M/\s=tA c/\fB (M=N / 10 ^ j)/\M<=999999/\c.size=j/\fB (c.data.toList=xX N j)/\zB w wr) (λ_ _ i _=>6-(intOf i).toNat)
  case atStart=>exact⟨0,N,pA,by omega,rfl,rfl,rfl,by show _=_;simp,o,rfl,rfl,jD⟩
  case round=>
   obtain⟨j,M,c,r,rfl,rfl,rfl,g,l,d,b,a⟩:=hrel;by_cases q:j<6
   .go_wp2;refine⟨⟨j+1,M / 10,_,by omega,by go_num,by go_num,rfl,?_,by omega,?_,?_,xB a aC⟩,by simp[intOf];omega⟩
    .show _=_;rw[g.o,Fg,Od]
    .rw[ZI,d]
    show _=_;rw[aGw,b.o,xX,g.o]
   go_wp2;go_ret;have e:j=6:=by omega
   subst e;refine⟨Kd (λx=>Ending.returned (tA x)) ?_,a⟩;rw[E.o,PN];refine vs _ _ ?_;rw[Hd,<-b.o];simp
 have k:dC n 1 999999=gA:=by unfold dC;simp;omega
 have E:fB (tF n=pA):=Ja h;go_enter func135,ntmps135;go_wp2_with(go_at_call 103;apply dR (zD _ _ _ _));go_ret;exact⟨Kd (λx=>Ending.returned (tA x)) E.o.symm,jD⟩
section
open Go.Lib
def wq{w:jA}{B:Nat}{e:oA}{c:Nat}{v:mA}{n:Nat}{f:List mA}(h:w.ownsRow B e c v n f):∃a b,v=uA a n b:=by
 obtain⟨rfl,rfl⟩|⟨g,b,d,rfl,_⟩:=h.2;exact ⟨_,_,rfl⟩;exact ⟨_,_,rfl⟩
def BK(a:List Int):(strOfNums a).size=cB a:=by
 rw[fR];simp[strOfNums]
def RN(s:vB):∃a:List Int,strCells s=a.map (mA.int .u8)/\cB a=s.size:=by
 refine⟨s.data.toList.map λb=>(b.toNat:Int),?_,by rw[Xa,fR]⟩;simp[strCells]
def tV(s:vB)(m n:Nat)(w:jA)(T:s.size<=m)(L:m<=4)(S:n<=70000):
 Calls prog 126 #[tA s,dB (n:Nat)] w λe P=>∃t:vB,t.size<=n*m/\e=zA (tA t)/\zB w P:=by
 obtain⟨D,j,x,y,z⟩:=LR;have E:fB (prog.info? 5=some D):=j;clear j;obtain⟨u,o,l⟩:=RN s;have B:fB (strCells s=u.map (mA.int .u8)/\cB u=s.size):=⟨o,l⟩
 clear o l;go_enter func126,ntmps126;go_wp2;go_loopw [5,6] (λA i wr=>∃(k:Nat)(b:List Int)(p:nC)(r:Nat),k<=n/\i=dB (k:Nat)/\A=uA p (cB b) r/\cB b<=k*m/\fB (wr.ownsRow w.1.size 5 1 (uA p (cB b) r) (cB b) (b.map (mA.int .u8)))/\zB w wr) (λ_ i _=>n-(intOf i).toNat)
 case atStart=>
  exact⟨0,[],_,_,by omega,rfl,rfl,by simp,jA.ownsRow_made w #[] 0 (Ia _) (by simp[maxLen]) (by simp),aC⟩
 case round=>
  obtain⟨k,b,p,r,R,rfl,rfl,O,c,d⟩:=hrel;have N:=d.size;have J:k*m<=70000*4:=Hf (by omega) L;have I:(k+1)*m=k*m+m:=Nat.succ_mul _ _;by_cases K:k<n
  .have g:(k:Int)<(n:Int):=by omega
   go_wp2_with(at_builtin;refine wpList_append_own_string _ rfl _ _ _ _ rfl w.1.size 5 D underlying22 underlying9 E.o x y z (uA p (cB b) r) (cB b) (b.map (mA.int .u8)) rfl (by exact c.o) s rfl (by simp[maxLen];omega) (by omega) (by omega) ?_;intro U Q a f C);obtain⟨F,G,rfl⟩:=wq a;have v:zB w Q:=d.grown f (by omega) (λq M=>qI c.o q M);rw[B.o.1,<-Ld]at a;have h:cB (b++u)=cB b+s.size:=by rw[Kb,B.o.2]
   rw[<-h]at a;refine⟨⟨k+1,b++u,F,G,by omega,by go_num,by rw[h],by omega,a,v⟩,by simp[intOf];omega⟩
  have g:¬((k:Int)<(n:Int)):=by omega
  have H:=MX c.o;go_wp2;go_ret;obtain rfl:k=n:=by omega
  exact⟨strOfNums b,by rw[BK];exact O,rfl,d⟩
end
def WC(B P N:Nat)(w:jA)(h:bF w B P N)(K:N<=100000):
 Calls prog 127 #[.pointer (cC B)] w λe u=>∃s:vB,s.size<=258/\e=zA (tA s)/\bF u B P (N+1)/\uD B w u:=by
 have t:fB (bF w B P N):=h;have C:=h.lt;clear h;go_enter func127,ntmps127;go_wp2_with fail;refine(tV ⟨#[195,169]⟩ 2 128 w (by decide) (by omega) (by omega)).mono ?_;rintro e x ⟨a,E,rfl,j⟩;have q:fB (zB w x):=j;clear j;go_wp2_with fail;refine(tV ⟨#[195,169]⟩ 2 129 x (by decide) (by omega) (by omega)).mono ?_;rintro e y ⟨b,F,rfl,k⟩;have r:fB (zB w y):=xB q.o k;clear k q;go_wp2_with fail;refine(tV ⟨#[122]⟩ 1 129 y (by decide) (by omega) (by omega)).mono ?_;rintro e f ⟨c,G,rfl,l⟩;have n:fB (zB w f):=xB r.o l;clear l r;go_wp2_with fail;have o:fB (eP (f.alloc (aB ([⟨#[128]⟩,⟨#[192,128]⟩,⟨#[237,160,128]⟩,⟨#[244,144,128,128]⟩,⟨#[226,130]⟩,⟨#[31]⟩,⟨#[127]⟩,⟨#[194,133]⟩,⟨#[240,128,128,128]⟩,⟨#[255]⟩,⟨#[97,195]⟩,a,b,c,⟨#[194,160]⟩,⟨#[239,191,189]⟩,⟨#[244,143,191,191]⟩,⟨#[238,128,128]⟩].map mA.string).toArray 9)) f.1.size 18 258):=gT f _ 258 _ 18 rfl (by
  simp only[List.all_cons,List.all_nil,Bool.and_true,Sa,Ab];refine⟨by decide,by decide,by decide,by decide,by decide,by decide,by decide,by decide,by decide,by decide,by decide,by omega,by omega,by omega,by decide,by decide,by decide,by decide⟩)
 simp only[Fc,Ag]at o;have i:=(t.o.z n.o).z (uF f (aB #[tA ⟨#[128]⟩,tA ⟨#[192,128]⟩,tA ⟨#[237,160,128]⟩,tA ⟨#[244,144,128,128]⟩,tA ⟨#[226,130]⟩,tA ⟨#[31]⟩,tA ⟨#[127]⟩,tA ⟨#[194,133]⟩,tA ⟨#[240,128,128,128]⟩,tA ⟨#[255]⟩,tA ⟨#[97,195]⟩,tA a,tA b,tA c,tA ⟨#[194,160]⟩,tA ⟨#[239,191,189]⟩,tA ⟨#[244,143,191,191]⟩,tA ⟨#[238,128,128]⟩] 9));have J:w.1.size<=f.1.size:=n.o.size;refine(nD B P N 18 _ i (by omega) (by omega) (by omega)).mono ?_;rintro e z ⟨v,H,rfl,m,d⟩;have g:=o.o.but d (by omega);obtain⟨s,p,D⟩:=g.at H;have A:fB (bF z B P (N+1)/\uD B w z):=⟨m,((uD.of n.o).z aC).trans d⟩
 clear m d g o i n t;have I:(v:Int)<18:=by omega
 go_wp2;go_ret;exact⟨s,D,rfl,A.o⟩
def QW(p:vB)(w:jA)(i:p.size<=maxLen):
 gF 120 #[tA p] w (tA (pF p)):=by
 have m:fB _:=i;unfold maxLen at i;have f:fB (∀W,bM 196 #[dB (p.size:Int)] W (vA (dC p.size 1 60000))):=λW=>bq _ W;by_cases h:1<=p.size/\p.size<=60000
 .have g:dC p.size 1 60000=iA:=by simp[dC];omega
  rw[g]at f;have E:fB (pF p=uB 4 p.size++uB 4 (qK p:Nat)++p):=Ma h;have o:=oB 4 (p.size:Int);have n:=oB 4 ((qK p:Nat):Int);have j:fB (∀W,gF 91 #[dB (p.size:Int),dB 4] W (tA (uB 4 p.size))):=λW=>oH 4 _ W (by omega);have k:fB (∀W,gF 91 #[dB (qK p:Nat),dB 4] W (tA (uB 4 (qK p:Nat)))):=λW=>oH 4 _ W (by omega);generalize uB 4 (p.size:Int)=A at *;generalize uB 4 ((qK p:Nat):Int)=B at *;go_enter func120,ntmps120;go_wp2_with(go_at_call 196;apply dR (f.o _));apply oC (j.o _);intro q b;go_wp2_with fail;apply oC (JN p _ m.o);intro r c;go_wp2_with fail;apply oC (k.o _);intro s d;have l:fB _:=xB (xB b c) d;clear b c d;go_wp2;go_ret;exact⟨LT E.o.symm,l.o⟩
 have g:dC p.size 1 60000=gA:=by simp[dC];omega
 rw[g]at f;have E:fB (pF p=pA):=Ja h;go_enter func120,ntmps120;go_wp2_with(go_at_call 196;apply dR (f.o _));go_ret;exact⟨LT E.o.symm,jD⟩
section
open Go.Maps Go.Sort
def ea{x y:vB}(h:vJ x y=iA):x.data.toList<=y.data.toList:=by
 unfold vJ at h;rw[bytesLess_eq,Af,ByteArray.toList_eq,ByteArray.toList_eq]at h;exact List.le_of_lt h
def IL{α:Type}{key:α->vB}{L:List α}(j:zC key L){k:List (List UInt8)}(i:k.Perm (L.map λp=>(key p).data.toList)):
 (k.mergeSort (λx y=>decide (x<=y)))=L.map λp=>(key p).data.toList:=by
 have e:=(List.mergeSort_perm k (λx y=>decide (x<=y))).trans i;have f:(k.mergeSort (λx y=>decide (x<=y))).Pairwise (λa b=>a<=b):=by
  have:=List.pairwise_mergeSort (le:=fun(x y:List UInt8)=>decide (x<=y)) (λa b c h d=>by simp only[Af]at *;exact List.le_trans h d) (λa b=>by simp only[Fe,Af];exact List.le_total a b) k;simpa using this
 have g:(L.map λp=>(key p).data.toList).Pairwise (λa b=>a<=b):=Te.2 (j.imp λh=>ea h);exact Qf (le:=λa b=>a<=b) (λa b _ _ h d=>List.le_antisymm h d) f g e
def NQ{α:Type}(key:α->vB)(L:List α):(L.map λp=>(key p).data.toList).map encStr=L.map λp=>mA.string (key p):=by
 rw[Vd];exact Ge λp _=>by simp[encStr]
def FG{w:jA}{B d:Nat}{e:oA}{a:Nat}{v:mA}{n:Nat}{f:List mA}(h:w.ownsRow B e a v n f)(l:d<=B):w.ownsRow d e a v n f:=by
 refine⟨h.1,?_⟩;obtain i|⟨g,b,c,j,k,r⟩:=h.2;exact Ca i;exact La ⟨g,b,c,j,Ua l k,r⟩
def aBd(x:Nat)(t:kB)(S:Nat->Prop)(M:Nat)(w:jA)(h:yD w S x t M)(z:cB t.Z<=1000000000):
 Calls prog 159 #[.pointer (cC x)] w λe c=>∃v,e=zA v/\c.ownsRow w.1.size 9 1 v (cB t.Z) (t.Z.map λp=>tA p.s)/\zB w c:=by
 obtain⟨C,d,y,B,Q,A,D,h⟩:=h;have u:gD w x 2 (.map (some d)):=h.blk.cell 2;have j:cB Q=cB t.Z:=by rw[<-h.q1,Xa]
 have b:Maps.size (fE (Q.map λq=>(q.1.s,nF q.2)))=cB t.Z:=by rw[pM,j]
 have l:fB (Calls prog 226 #[.map (some d)] w λe c=>e=zA (.func (.func 270) #[] #[.pointer (cC w.1.size)])/\c=w.alloc (aB #[.map (some d)] 228)):=callsIn_wide.1 (maps_Keys_226 (some d) w);have n:fB (Calls prog 86 #[.func (.func 270) #[] #[.pointer (cC w.1.size)]] (w.alloc (aB #[.map (some d)] 228)) λe c=>∃v,e=zA v/\c.ownsRow w.1.size 9 1 v (cB t.Z) (t.Z.map λp=>tA p.s)/\zB w c):=by
  refine Calls.mono (callsIn_wide.1 (slices_Sorted_keys_86_226 d _ _ wE w h.Z (by rw[b];unfold maxLen;omega) (by rw[b];omega))) ?_;rintro e r ⟨v,m,rfl,i,a,_,g⟩;have o:(strKeys (fE (Q.map λq=>(q.1.s,nF q.2))))=t.Z.map λp=>p.s.data.toList:=by
   rw[sU,Vd,<-h.q1,Vd];rfl
  rw[o]at i;have f:cB m=cB t.Z:=by rw[i.length_eq,Xa]
  rw[IL (key:=λp:pB=>p.s) h.rs i,NQ (λp:pB=>p.s),f]at a;exact⟨v,rfl,FG a (by simp),xB aC g⟩
 clear h j b;go_enter func159,ntmps159;go_wp2_with fail;apply oC l.o;rintro r rfl;go_wp2_with fail;refine n.o.mono ?_;rintro e E ⟨v,rfl,a,g⟩;have m:=gB a;have k:=gB g;clear a g;go_wp2;go_ret;exact⟨v,rfl,m.o,k.o⟩
end
