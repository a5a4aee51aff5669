import Derived.Test.YtbfnhppoecdnoaaGreatDoorJ18
import Derived.Test.YtbfnhppoecdnoaaGreatDoorJ19
import Derived.Test.YtbfnhppoecdnoaaGreatDoorJ20
import Derived.Lib.AppendIntMem
import Derived.ProofKit
import Derived.OpenShut
import Derived.Deep.Strs
set_option maxRecDepth 100000
set_option maxHeartbeats 1000000
set_option linter.defProp false
open Option renaming some->bA,none->aA
open Bool renaming true->dA,false->cA
open ByteArray renaming empty->kA
open List renaming length->vA
namespace Go.Proofs.YtbfnhppoecdnoaaGreatDoor
open Go renaming World->eA
open Obj renaming cells->tA
open Value renaming int->lA,bool->pA,string->nA,pointer->qA
open IntKind renaming i64->mA
open Go.RowKit Tryz
def nO(w:eA)(A:Nat->Prop)(a:iC)(b:List aB):Prop:=
 b=[]\/∃g o c t T,a=bA ⟨g,o,aA⟩/\w.heap[g]?=bA (tA c t (0,0))/\T g=0/\(∀x,T x<=2*vA b->A x)/\∀i(h:i<vA b),eQ w 0 T i g (o+i*4) b[i]
def nO.tens{w:eA}{A:Nat->Prop}{a:iC}{b:List aB}(h:nO w A a b):nC w a b:=by
 rcases h with h|⟨g,o,c,t,T,rfl,d,_,_,h⟩;exact Ca h;exact La ⟨g,o,rfl,zA d,fun i e=>(h i e).at⟩
def nO.turned{S A:Nat->Prop}{w p:eA}{a:iC}{n:List aB}(h:nO w A a n)(m:bB S w p)(k:∀g,A g->g<w.1.size->¬S g):nO p A a n:=by
 rcases h with h|⟨g,o,c,t,T,rfl,f,q,e,h⟩;exact Ca h;have l:=m.block g (zA f) (k g (e g (by omega)) (zA f));exact La ⟨g,o,c,t,T,rfl,l.trans f,q,e,fun i s=>(h i s).keep (fun j _=>eA.cell?_of_block l) fun d b _ r=>⟨m.block d b (k d (e d (by omega)) b),rfl⟩⟩
def nO.z{w c:eA}{A:Nat->Prop}{a:iC}{b:List aB}(h:nO w A a b)(d:kB w c):nO c A a b:=h.turned (bB.of (S:=fun _=>False) d) fun _ _ _ e=>e
def nO.mono{w:eA}{A A':Nat->Prop}{a:iC}{c:List aB}(h:nO w A a c)(f:∀x,A x->A' x):nO w A' a c:=by
 rcases h with h|⟨g,o,b,t,T,e,j,i,d,h⟩;exact Ca h;exact La ⟨g,o,b,t,T,e,j,i,fun x k=>f x (d x k),h⟩
def vC.toA{w:eA}{B H:Nat}{a:iC}{f:List aB}(h:vC w B a f)(P:w.1.size<=H):nO w (fun x=>B<=x/\x<H) a f:=by
 rcases h with h|⟨g,o,j,t,T,rfl,I,p,J,h⟩;exact Ca h;have L:=zA p;refine La ⟨g,o,j,t,fun x=>if B<=x/\x<H then T x else 2*vA f+1,rfl,p,?_,fun x M=>?_,fun i K=>?_⟩;show (if _ then _ else _)=0;rw[Ma ⟨I,by omega⟩];exact J
 .by_cases m:B<=x/\x<H
  .exact m
  simp only[Ja m]at M;omega
 obtain ⟨s,v,u,y,A,C,D,E,F,G⟩:=h i K;have b:∀{n:Nat}{q:iC}{r:List dB},gD w B T n q r->gD w 0 (fun x=>if B<=x/\x<H then T x else 2*vA f+1) n q r:=fun b=>by
  rcases b with b|⟨z,N,c,O,e,k,l,d,b⟩;exact Ca b;have:=zA d;exact La ⟨z,N,c,O,e,Oa _,by show(if _ then _ else _)=_;rw[Ma ⟨k,by omega⟩];exact l,d,b⟩
 exact⟨s,v,u,y,A,C,D,E,b F,b G⟩
def wG(w:eA)(A:Nat->Prop)(a:iC)(c:List cB):Prop:=
 c=[]\/∃g o b t,a=bA ⟨g,o,aA⟩/\A g/\w.heap[g]?=bA (tA b t (0,0))/\bX w g o c
def wG.files{w:eA}{A:Nat->Prop}{a:iC}{b:List cB}(h:wG w A a b):eB w a b:=by grind [wG,eB]
def wG.turned{S A:Nat->Prop}{w d:eA}{a:iC}{e:List cB}(h:wG w A a e)(p:bB S w d)(l:∀g,A g->g<w.1.size->¬S g):wG d A a e:=by
 rcases h with h|⟨g,o,b,t,rfl,f,c,h⟩;exact Ca h;have k:=p.block g (zA c) (l g f (zA c));have m:∀j,d.cell? ⟨g,j,aA⟩=w.cell? ⟨g,j,aA⟩:=fun j=>eA.cell?_of_block k;exact La ⟨g,o,b,t,rfl,f,k.trans c,fun i n=>by simp only[m];exact h i n⟩
def wG.z{w c:eA}{A:Nat->Prop}{a:iC}{b:List cB}(h:wG w A a b)(d:kB w c):wG c A a b:=h.turned (bB.of (S:=fun _=>False) d) fun _ _ _ e=>e
def wG.mono{w:eA}{A A':Nat->Prop}{a:iC}{b:List cB}(h:wG w A a b)(c:∀x,A x->A' x):wG w A' a b:=by grind [wG]
def pG.toA{w:eA}{B H:Nat}{a:iC}{b:List cB}(h:pG w B a b)(c:w.1.size<=H):wG w (fun x=>B<=x/\x<H) a b:=by grind [pG,wG]
def wG.own{w:eA}{A:Nat->Prop}{a:iC}{b:List cB}(h:wG w A a b):b=[]\/∃g o,a=bA ⟨g,o,aA⟩/\A g/\pG w g a b:=by grind [wG,pG]
def aGb(a:iC)(b:Nat)(d:List aB)(k:Nat)(A:Nat->Prop)(w:eA)(u:0<k)(l:k+dD d<=100000000)(m:nO w A a d):
 Calls prog 94 #[.slice a (vA d) b,lA mA (k:Int)] w fun e f=>e=.returned (lA mA ((k+dD d:Nat):Int))/\bB A w f/\nC f a (jH k d):=by
 rcases m with rfl|⟨g,o,j,t,T,rfl,r,p,n,h⟩;refine (OP a b k w).mono ?_;rintro e f ⟨rfl,rfl⟩;exact⟨fD (by simp[dD]),bB.refl _ _,Ca (by simp[jH])⟩;refine (OO g o b d k 0 T j t w u l (Oa _) r p h).mono ?_;rintro e f ⟨rfl,y,c,q,v⟩;exact⟨rfl,y.mono fun x _ z=>n x z.2,La ⟨g,o,rfl,zA q,fun i s=>(v i s).at⟩⟩
def yt(f:Int)(a:iC)(c:Nat)(b:List aB)(k:Nat)(A:Nat->Prop)(w:eA)(o:0<k)(d:k+dD b<=100000000)(h:nO w A a b):
 Calls prog 42 #[.agg #[lA mA f,.slice a (vA b) c],lA mA (k:Int)] w fun e l=>e=.returned (lA mA ((k+dD b:Nat):Int))/\bB A w l/\nC l a (jH k b):=by
 have m:=yA (fun W(n:kB w W)=>aGb a c b k A W o d (h.z n));clear h;go_enter func42,ntmps42;go_wp2_with fail;apply aC (m.o _ vB);rintro p ⟨j,i⟩;have g:=yA (Vc ((bB.of vB).trans' j) i);clear j i;go_wp2;go_ret;exact⟨rfl,g.o.1,g.o.2⟩
def aGa(a:iC)(d:Nat)(f:List cB)(c s m r:Int)(p:Bool)(k:Nat)(A:Nat->Prop)(w:eA)(u:0<k)(i:k+3*vA f<=100000000)(z:wG w A a f):
 Calls prog 41 #[.agg #[.slice a (vA f) d,lA mA c,lA mA s,lA mA m,lA mA r,pA p],lA mA (k:Int)] w fun e l=>
  e=.returned (lA mA ((k+3*vA f:Nat):Int))/\bB A w l/\wG l A a (zR k (vA f)):=by
 rcases z.own with rfl|⟨g,o,rfl,q,h⟩
 .refine (IT a d [] c s m r p k 0 w u i (Ca rfl)).mono ?_;rintro e l ⟨rfl,b,_⟩;rcases b with⟨_,b⟩|⟨b,_⟩
  .exact ⟨rfl,bB.of b,Ca rfl⟩
  exact absurd b (by simp)
 refine (IT _ d f c s m r p k g w u i h).mono ?_;rintro e l ⟨rfl,b,j⟩;refine⟨rfl,?_,?_⟩
 .rcases b with⟨_,b⟩|⟨_,v,C,e,_,b⟩
  .exact bB.of b
  simp only[Qa,Addr.mk.injEq]at e;obtain⟨rfl,_⟩:=e;exact(bB.but b).mono fun x _ B=>B ▸ q
 rcases j with j|⟨v,C,n,t,e,_,y,j⟩;exact Ca j;simp only[Qa,Addr.mk.injEq]at e;obtain⟨rfl,rfl,_⟩:=e;exact La ⟨g,o,n,t,rfl,q,y,j⟩
theorem VC(e:List cB)(c k a d:Int)(b:Bool)(f:vK):(mJ e c k a d b f).1<=6:=by grind [mJ,uP,GL]
def pG.set_below{w:eA}{B:Nat}{a:iC}{c:List cB}(h:pG w B a c){p:Addr}(m:p.block<B)(v:Value):pG (w.setCell p v) B a c:=by
 rcases h with h|⟨g,o,b,t,rfl,e,f,h⟩;exact Ca h;have d:=Below.heap_setCell w p v g (by omega);have l:∀j,(w.setCell p v).cell? ⟨g,j,aA⟩=w.cell? ⟨g,j,aA⟩:=fun j=>eA.cell?_of_block d;exact La ⟨g,o,b,t,rfl,e,d.trans f,fun i k=>by simp only[l];exact h i k⟩
def OG{w c:eA}{x y z:Array Value}{a b e:TypeId}(d:Below (((w.alloc (tA x a)).alloc (tA y b)).alloc (tA z e)).1.size (((w.alloc (tA x a)).alloc (tA y b)).alloc (tA z e)) c):
 iB c w.1.size x a/\iB c (w.1.size+1) y b/\iB c (w.1.size+1+1) z e/\kB w c:=by
 refine⟨?_,?_,?_,oB (oB (oB vB vB) vB) d⟩;exact (iB.z (iB.z (iB.z (g:=w.1.size) (heap_alloc_new w (tA x a)) eD) vB) vB).z d;have h:=iB.z (g:=(w.alloc (tA x a)).1.size) (heap_alloc_new (w.alloc (tA x a)) (tA y b)) (oB vB d);simpa using h;have h:=iB.z (g:=((w.alloc (tA x a)).alloc (tA y b)).1.size) (heap_alloc_new ((w.alloc (tA x a)).alloc (tA y b)) (tA z e)) d;simpa using h
def kR(d:List cB)(c k a b:Int)(f:Bool)(e:vK):Nat×List cB×Int×Int×Int×Int×Bool:=
 if (fF d c k a b&&LD e)=dA then((mJ d c k a b f e).1,(mJ d c k a b f e).2.1,c,(mJ d c k a b f e).2.2.1,a,b,(mJ d c k a b f e).2.2.2) else(6,[],0,0,0,0,cA)
def aUy(R:Nat×List cB×Int×Int×Int×Int×Bool)(a:iC)(b:Nat):Value:=
 .tuple #[.agg #[.slice a (vA R.2.1) b,lA mA R.2.2.1,lA mA R.2.2.2.1,lA mA R.2.2.2.2.1,lA mA R.2.2.2.2.2.1,pA R.2.2.2.2.2.2],lA mA R.1]
def lE(D:mE)(a:vK):mE×Nat:=
 (⟨(kR D.fs D.c D.k D.cr D.fl D.dn a).2.1,(kR D.fs D.c D.k D.cr D.fl D.dn a).2.2.1,(kR D.fs D.c D.k D.cr D.fl D.dn a).2.2.2.1,(kR D.fs D.c D.k D.cr D.fl D.dn a).2.2.2.2.1,(kR D.fs D.c D.k D.cr D.fl D.dn a).2.2.2.2.2.1,(kR D.fs D.c D.k D.cr D.fl D.dn a).2.2.2.2.2.2⟩,(kR D.fs D.c D.k D.cr D.fl D.dn a).1)
structure CO(fs:List cB):Prop where
 H:pL fs
 len:vA fs≤1048576
 sum:rC fs≤1000000000
def dw:CO []:=⟨fun i h=>absurd h (by simp),by simp,by simp[rC]⟩
def lO(a:List cB)(i:Nat)(f:cB)(h:i<vA a):rC (a.set i f)+a[i].data.size=rC a+f.data.size:=by
 induction a generalizing i with
 |nil=>exact absurd h (by simp)
 |cons g r b=>
  cases i with
  |zero=>simp[rC];omega
  |succ i=>
   have:=b i (by simpa using h);simp only[Jd,Ec,rC];omega
def aAf{a:List cB}(i:Nat)(b:i<vA a):a[i].data.size<=rC a:=by
 have c:=gI a i b;have d:=oH a (i+1);omega
def uW{a:List cB}(h:pL a){f:cB}(b:f∈a):f.N.size<=maxLen/\f.data.size<=maxLen:=by
 obtain⟨i,c,rfl⟩:=Ib b;exact h i c
def UZ{a:List cB}(h:∀f∈a,f.N.size<=maxLen/\f.data.size<=maxLen):pL a:=fun _ b=>h _ (Gb b)
def LQ{a:List cB}(h:pL a){i:Nat}{f:cB}(b:f.N.size<=maxLen/\f.data.size<=maxLen):pL (a.set i f):=by grind [pL]
def iw(a:List cB)(i:Nat):rC (a.eraseIdx i)<=rC a:=by
 induction a generalizing i with
 |nil=>simp
 |cons g r b=>
  cases i with
  |zero=>simp[rC]
  |succ i=>have:=b i;simp only[List.eraseIdx_cons_succ,rC];omega
def fZ(a:List cB)(i:Nat)(h:i<vA a):rC (a.eraseIdx i)+a[i].data.size=rC a:=by
 induction a generalizing i with
 |nil=>exact absurd h (by simp)
 |cons g r b=>
  cases i with
  |zero=>simp[rC];omega
  |succ i=>
   have:=b i (by simpa using h);simp only[List.eraseIdx_cons_succ,Ec,rC];omega
def XC(p:cB->Bool)(a:List cB):rC (a.filter p)<=rC a:=by induction a<;>grind [rC]
def iy(a:List cB)(f:cB):rC (kH a f)=rC a+f.data.size:=by induction a<;>grind [rC,kH]
def aGd{fs:List cB}{f g:cB}(h:g∈kH fs f):g=f\/g∈fs:=by induction fs<;>grind [kH]
def FT(a:List cB)(i:Nat)(f:cB):rC (bN a i f)=rC a+f.data.size:=by
 have h:=cR (a.take i) (a.drop i);rw[Za]at h;rw[bN,cR];simp only[rC];omega
def aRk{a:List cB}{c:Int}{b:vK}(h:CO a)(u:vA a<=1000)(v:c<=1000000000)(q:b.N.size<=maxLen)(s:b.tq.size<=maxLen):CO (uP a c b).2:=by
 have w:(1000000000:Nat)<=maxLen:=by unfold maxLen;omega
 unfold uP;simp only;split
 .split
  .exact h
  split;exact h;refine ⟨UZ fun f i=>?_,?_,?_⟩
  .simp only[bN,Ee,Lb]at i;rcases i with i|rfl|i
   .exact uW h.H (Ce i)
   .exact ⟨q,by simp[maxLen]⟩
   exact uW h.H (Ng i)
  .show (vA (bN a _ _))<=_;rw[bN];simp only[Kb,Hb,Zb,Rc];omega
  show rC (bN a _ _)<=_;rw[FT];have:=h.sum;simpa using this
 split;exact h
 rename_i f i;obtain⟨j,rfl⟩:=Pb.1 i;have e:=uW h.H (Gb j);have p:=aAf _ j;have y:=h.sum;split
 .exact h
 split
 .split
  .exact h
  rename_i x;have d:=lO a (fC b.N a) ⟨a[fC b.N a].N,a[fC b.N a].data++b.data,a[fC b.N a].Y⟩ j;simp only[Ka]at d;refine⟨LQ h.H ⟨e.1,?_⟩,?_,?_⟩
  .show (a[fC b.N a].data++b.data).size<=maxLen;rw[Ka];omega
  .show (vA (a.set _ _))<=_;rw[Pd];omega
  show rC (a.set _ _)<=_;omega
 split
 .have d:=lO a (fC b.N a) ⟨a[fC b.N a].N,a[fC b.N a].data,a[fC b.N a].data.size⟩ j;refine⟨LQ h.H e,?_,?_⟩
  .show (vA (a.set _ _))<=_;rw[Pd];omega
  show rC (a.set _ _)<=_;simp only at d;omega
 split
 .split
  .have d:=lO a (fC b.N a) ⟨a[fC b.N a].N,a[fC b.N a].data.extract 0 b.size.toNat,b.size⟩ j;have z:(a[fC b.N a].data.extract 0 b.size.toNat).size<=a[fC b.N a].data.size:=by rw[Je];omega
   refine⟨LQ h.H ⟨e.1,?_⟩,?_,?_⟩;show (a[fC b.N a].data.extract 0 b.size.toNat).size<=maxLen;omega;show vA (a.set _ _)<=_;rw[Pd];omega;show rC (a.set _ _)<=_;simp only at d;omega
  exact h
 split
 .have n:vA (a.eraseIdx (fC b.N a))<=vA a:=by rw[Ad];split<;>omega
  have o:=fZ a (fC b.N a) j;refine⟨UZ fun g k=>?_,?_,?_⟩
  .rcases aGd (fs:=pD (a.eraseIdx (fC b.N a)) b.tq) (f:=⟨b.tq,a[fC b.N a].data,a[fC b.N a].Y⟩) k with rfl|k
   .exact ⟨s,e.2⟩
   exact uW h.H (Sf (De.1 k).1)
  .show (vA (uH _ _))<=_;have m:∀(l:List cB)(f:cB),vA (kH l f)=vA l+1:=fun l f=>by
    induction l with
    |nil=>rfl
    |cons g r t=>unfold kH;split<;>simp[t]
   have:vA (pD (a.eraseIdx (fC b.N a)) b.tq)<=vA (a.eraseIdx (fC b.N a)):=Pc _ _;rw[uH,m];simp only;omega
  .show rC (uH _ _)<=_;have:=XC (fun f=>!(f.N.toList==b.tq.toList)) (a.eraseIdx (fC b.N a));rw[uH,iy];simp only[pD];omega
 refine ⟨UZ fun g k=>uW h.H (Sf k),?_,?_⟩
 .show (vA (a.eraseIdx _))<=_;rw[Ad];split<;>omega
 show rC (a.eraseIdx _)<=_;have:=iw a (fC b.N a);omega
theorem AA{D:mE}{op:vK}(h:CO D.fs)(e:op.N.size<=maxLen)(f:op.tq.size<=maxLen):CO (lE D op).1.fs:=by
 show CO (kR D.fs D.c D.k D.cr D.fl D.dn op).2.1;unfold kR;split
 .rename_i a;simp only[Sa]at a;obtain⟨_,b,_,d,_⟩:=xK a.1;unfold mJ;split
  .exact aRk h b d e f
  exact h
 exact dw
def iJ(L:kG):Bool:=wB L.last 1 999999&&wB L.first 1 L.last&&wB L.size 0 1000000000
def tJ(n:Int):vK:=⟨1,jN n,⟨#[]⟩,⟨#[]⟩,0⟩
def oI(n:Int)(f:gB):vK:=⟨2,jN n,⟨#[]⟩,f,0⟩
def yT(n:Int):vK:=⟨3,jN n,⟨#[]⟩,⟨#[]⟩,0⟩
def xH(D:mE)(L:kG)(f:gB):mE×kG×Nat:=
 if (lE D (oI L.last f)).2≠0 then((lE D (oI L.last f)).1,L,(lE D (oI L.last f)).2)
 else if (lE (lE D (oI L.last f)).1 (yT L.last)).2≠0 then((lE (lE D (oI L.last f)).1 (yT L.last)).1,L,(lE (lE D (oI L.last f)).1 (yT L.last)).2)
 else((lE (lE D (oI L.last f)).1 (yT L.last)).1,⟨L.first,L.last,L.size+f.size⟩,0)
def rE(D:mE)(L:kG)(p:gB)(a:Int):mE×kG×Nat:=
 if (iJ L&&wB a 1 1000000000)=cA then(D,L,21)
 else if jF p=kA then(D,L,22)
 else if L.size≠0/\a<L.size+(jF p).size then
  if L.last=999999 then(D,L,23)
  else if (lE D (tJ (L.last+1))).2≠0 then((lE D (tJ (L.last+1))).1,L,(lE D (tJ (L.last+1))).2)
  else xH (lE D (tJ (L.last+1))).1 ⟨L.first,L.last+1,0⟩ (jF p)
 else xH D L (jF p)
def uy{D b:mE}{L:kG}{p F:gB}{a:Int}{x:Nat}(g:jF p=F)(c:¬(iJ L&&wB a 1 1000000000)=cA)(d:¬jF p=kA)(e:L.size≠0/\a<L.size+F.size)(f:¬L.last=999999)(h:lE D (tJ (L.last+1))=(b,x)):
 rE D L p a=if x≠0 then(b,L,x) else xH b ⟨L.first,L.last+1,0⟩ F:=by
 subst g;unfold rE;rw[Ja c,Ja d,Ma e,Ja f,h]
def iX{D a:mE}{L:kG}{f:gB}{x:Nat}(b:lE D (oI L.last f)=(a,x))(c:¬x=0):xH D L f=(a,L,x):=by
 unfold xH;rw[b,Ma c]
def jX{D c a:mE}{L:kG}{f:gB}{x y:Nat}(d:lE D (oI L.last f)=(c,x))(e:x=0)(b:lE c (yT L.last)=(a,y)):xH D L f=if y≠0 then(a,L,y) else(a,⟨L.first,L.last,L.size+f.size⟩,0):=by
 unfold xH;rw[d,Ja (by simp[e])];simp only;rw[b]
def rh{α:Type}(f:Rd->α×Rd)(r:Rd):Nat->List α×Rd
 |0=>([],r)
 |k+1=>((rh f r k).1++[(f (rh f r k).2).1],(f (rh f r k).2).2)
section
variable {α:Type} {f:Rd→α×Rd} {r:Rd}
theorem zj(k:Nat):vA (rh f r k).1=k:=by
 induction k with
 |zero=>rfl
 |succ k a=>rw[rh];simp[a]
theorem LH(a:∀r:Rd,r.H=dA->(f r).2.H=dA){k:Nat}(h:(rh f r k).2.H=dA){m:Nat}(b:k<=m):(rh f r m).2.H=dA:=by
 induction b with
 |refl=>exact h
 |step _ c=>exact a _ c
theorem aLs{e:α->gB}{c:List α->gB}(d:∀a l,c (a::l)=e a++c l){b:List α}{q:gB}(h:r.rest=c b++q)(j:∀k(g:k<vA b)(r:Rd) q,r.rest=e b[k]++q->f r=(b[k],⟨q,r.H⟩))(k:Nat)(g:k<=vA b):rh f r k=(b.take k,⟨c (b.drop k)++q,r.H⟩):=by
 induction k with
 |zero=>
  cases r
  simp only at h;simp[rh,h]
 |succ k m=>
  have i:=j k (by omega) ⟨c (b.drop k)++q,r.H⟩ (c (b.drop (k+1))++q) (by show c (b.drop k)++q=_;rw[Cb (by omega),d,Wa]);rw[rh,m (by omega),i,Pa (by omega)]
end
def JK(r:Rd):Nat×Rd:=kD 1 r
def vW(r:Rd):List eC×Rd:=tM (JK r).2 (JK r).1
def NW(r:Rd):Nat×Rd:=kD 8 (vW r).2
def sY(r:Rd):cF×Rd:=(⟨(vW r).1,nF (NW r).1⟩,(NW r).2)
def VA(r:Rd):(sY r).1=⟨(vW r).1,nF (NW r).1⟩:=by rw[sY]
def jU(r:Rd):(sY r).2=(NW r).2:=by rw[sY]
def dG(r:Rd)(k:Nat):List cF×Rd:=rh sY r k
theorem iN(r:Rd):dG r 0=([],r):=rfl
theorem sW(r:Rd)(k:Nat):dG r (k+1)=((dG r k).1++[(sY (dG r k).2).1],(sY (dG r k).2).2):=rfl
def dV(r:Rd)(k:Nat):vA (dG r k).1=k:=zj k
def aLr(r:Rd)(k:Nat):tM r k=rh uR r k:=by
 induction k with
 |zero=>rfl
 |succ k a=>rw[cU,a,rh]
def ZD{r:Rd}(h:r.H=dA):(uR r).2.H=dA:=by
 rw[CA];exact vY (k:=2) (vY (k:=1) h)
def ZZ{r:Rd}(h:r.H=dA)(k:Nat):(tM r k).2.H=dA:=by rw[aLr];exact LH (fun _=>ZD) (k:=0) h (Oa _)
def aHk{r:Rd}(h:r.H=dA):(vW r).2.H=dA:=by rw[vW];exact ZZ (by rw[JK];exact aT h) _
def ao{r:Rd}(h:r.H=dA):(sY r).2.H=dA:=by rw[jU,NW];exact aT (aHk h)
def dU{r:Rd}{k:Nat}(h:(dG r k).2.H=dA)(m:Nat)(a:k<=m):(dG r m).2.H=dA:=LH (fun _=>ao) h a
def aMf{r:Rd}{x:cF}{q:gB}(h:r.rest=nT x++q)(a:NY x)(g:GA x.bits):sY r=(x,⟨q,r.H⟩):=by
 have d:r.rest=pB 1 (vA x.B:Nat)++(jD x.B++(pB 8 x.bits++q)):=by rw[h,nT,bI];apply iZ;simp
 have e:JK r=(vA x.B,⟨jD x.B++(pB 8 x.bits++q),r.H⟩):=by
  rw[JK,AS d,kX 1 _ (by have:=a.1;omega)]
 have b:vW r=(x.B,⟨pB 8 x.bits++q,r.H⟩):=by
  rw[vW,e];have:=gm (r:=⟨jD x.B++(pB 8 x.bits++q),r.H⟩) rfl (fun i c=>⟨by have:=(a.2 i c).1;omega,by have:=(a.2 i c).2;omega⟩) (vA x.B) (Ia _);rw[this,Rb,Kg];simp[jD]
 have f:NW r=(rS (pB 8 x.bits).data.toList,⟨q,r.H⟩):=by
  rw[NW,b];exact AS (r:=⟨pB 8 x.bits++q,r.H⟩) rfl
 rw[sY,f,b];simp only[kr _ g]
def aHa{r:Rd}{a:List cF}{q:gB}(h:r.rest=sE a++q)(d:aIg a)(c:∀i(h:i<vA a),GA a[i].bits)(k:Nat)(b:k<=vA a):dG r k=(a.take k,⟨sE (a.drop k)++q,r.H⟩):=
 aLs (fun _ _=>rfl) h (fun k b _ _ e=>aMf e (d k b) (c k b)) k b
def uM(s:gB):Nat×Rd:=kD 1 ⟨s,cA⟩
def mU(s:gB):gB×Rd:=if qU ((uM s).1:Nat)=dA then sC 1 (uM s).2 else(kA,(uM s).2)
def uu(s:gB):Nat×Rd:=kD 2 (mU s).2
def qR(s:gB):List cF×Rd:=if (uM s).1=1 then dG (uu s).2 (uu s).1 else([],(mU s).2)
def gU(s:gB):gB×Rd:=if oU ((uM s).1:Nat)=dA then sC 2 (qR s).2 else(kA,(qR s).2)
def bS(s:gB):Int×Rd:=if zU ((uM s).1:Nat)=dA then(nF (kD 8 (gU s).2).1,(kD 8 (gU s).2).2) else(0,(gU s).2)
def af(s:gB):xG:=⟨((uM s).1:Nat),(mU s).1,(gU s).1,(bS s).1,(qR s).1⟩
def aG(s:gB):xG×Bool:=if (1<=(uM s).1/\(uM s).1<=6)/\(bS s).2.H=cA/\vN (af s)=s then(af s,dA) else(⟨0,kA,kA,0,[]⟩,cA)
def aMa{s q:gB}{k:Nat}(h:s=pB 1 (k:Nat)++q)(a:k<256):uM s=(k,⟨q,cA⟩):=by
 rw[uM,AS (r:=⟨s,cA⟩) h,kX 1 _ (by omega)]
def aAk{t q:gB}{b:Bool}(a:t.size<=255):sC 1 ⟨kO t++q,b⟩=(t,⟨q,b⟩):=
 CJ (r:=⟨kO t++q,b⟩) (by show kO t++q=_;apply iZ;simp[kO]) (by omega)
def aAl{t q:gB}{b:Bool}(a:t.size<=65535):sC 2 ⟨qF t++q,b⟩=(t,⟨q,b⟩):=
 CJ (r:=⟨qF t++q,b⟩) (by show qF t++q=_;apply iZ;simp[qF]) (by omega)
def aGm{v:Int}{q:gB}{b:Bool}(a:GA v):nF (kD 8 ⟨pB 8 v++q,b⟩).1=v/\(kD 8 ⟨pB 8 v++q,b⟩).2=⟨q,b⟩:=by
 have:=AS (k:=8) (r:=⟨pB 8 v++q,b⟩) (v:=v) rfl;rw[this];exact⟨kr _ a,rfl⟩
def mm{b:gB}(h:b.size=0):b=kA:=by simp_all
def aPt{r:xG}(h:nS r)(J:GA r.U)(H:∀i(L:i<vA r.P),GA r.P[i].bits):(1<=(uM (dW r)).1/\(uM (dW r)).1<=6)/\(bS (dW r)).2.H=cA/\af (dW r)=r:=by
 obtain⟨I,u,w,x,y,z,A,K,B⟩:=h;obtain⟨k,p,o,g,a⟩:=r;obtain⟨k,rfl⟩:=Yf (show 0<=k by simp only at I;omega);simp only at *;rw[dW];simp only;generalize D:(if zU (k:Int)=dA then pB 8 g else kA)=j;generalize C:(if oU (k:Int)=dA then qF o else kA)++j=d;generalize G:(if (k:Int)=1 then pB 2 (vA a:Nat)++sE a else kA)++d=e;generalize F:(if qU (k:Int)=dA then kO p else kA)++e=l;generalize E:pB 1 (k:Int)++l=S;have c:uM S=(k,⟨l,cA⟩):=aMa E.symm (by omega);have f:mU S=(p,⟨e,cA⟩):=by
  rw[mU,c,<-F];split;rw[aAk z];rw[mm (u (by simp_all)),aOa]
 have m:qR S=(a,⟨d,cA⟩):=by
  have s:uu S=kD 2 ⟨e,cA⟩:=by rw[uu,f]
  rw[qR,c,f,s,<-G];simp only[show((k:Int)=1)=(k=1) from propext (by omega)];split;have:=AS (k:=2) (r:=⟨pB 2 (vA a:Nat)++sE a++d,cA⟩) (v:=(vA a:Nat)) (q:=sE a++d) (Wa ..);rw[this,kX 2 _ (by omega),aHa rfl B H (vA a) (Ia _),Rb,Kg];simp[sE];rw[y (by omega),aOa]
 have n:gU S=(o,⟨j,cA⟩):=by
  rw[gU,c,m,<-C];split;rw[aAl A];rw[mm (w (by simp_all)),aOa]
 have t:bS S=(g,⟨kA,cA⟩):=by
  rw[bS,c,n,<-D];split;have:=aGm (v:=g) (q:=kA) (b:=cA) J;rw[aUt]at this;simp only[this.1,this.2];rw[x (by simp_all)]
 rw[af,t,n,m,f,c];exact⟨⟨by simp only;omega,by simp only;omega⟩,rfl,rfl⟩
def aNz{s:gB}{r:xG}(k:s.size≠0)(h:vN r=s)(j:GA r.U)(g:∀i(l:i<vA r.P),GA r.P[i].bits):aG s=(r,dA):=by
 have d:nS r/\(dW r).size<=60000:=by
  by_cases f:nS r/\(dW r).size<=60000
  .exact f
  exfalso;apply k;rw[<-h];unfold vN;rw[Ja f];rfl
 have e:dW r=s:=by rw[<-h,gq d.1 d.2]
 obtain⟨a,b,c⟩:=aPt d.1 j g;rw[e]at a b c;unfold aG;rw[Ma ⟨a,b,by rw[c];exact h⟩,c]
def df{s:gB}(h:¬((1<=(uM s).1/\(uM s).1<=6)/\(bS s).2.H=cA/\vN (af s)=s)):aG s=(⟨0,kA,kA,0,[]⟩,cA):=by unfold aG;rw[Ja h]
def aJb{s:gB}(h:(1<=(uM s).1/\(uM s).1<=6)/\(bS s).2.H=cA/\vN (af s)=s):aG s=(af s,dA):=by unfold aG;rw[Ma h]
def oL(w : World) : Prop := Lib.TabIs prog w "internal/strconv.uint64pow10" .u64 Lib.pow10Tab
def oL.z{w c:eA}(h:oL w)(d:kB w c):oL c:=by
 unfold oL Lib.TabIs eA.var? at h |-
 cases hg : prog.globalNamed "internal/strconv.uint64pow10" with
 |none=>rw[hg]at h;cases h
 |some g=>
  rw[hg]at h;simp only[Option.bind_some]at h |-
  have b:g<w.1.size:=by
   rcases Gc g w.1.size with a|a;exact a;rw[Mc a]at h;cases h
  rw[d.block g b];exact h
def aPv(n:Nat)(h:n<1000000):(⟨#[119,97,108,45]⟩:gB)++(⟨(Lib.itoa ((1000000+n:Nat):Int)).toArray⟩:gB).extract 1 7=gy n:=by
 rw[oz n h];apply ByteArray.ext;simp[gy,FM]
def eR(n:Int)(w:eA)(a:oL w):
 qD 224 #[lA mA n] w (nA (jN n)):=by
 by_cases h:1<=n/\n<=999999
 .obtain ⟨N,rfl⟩:=Yf (show 0<=n by omega);have E:xA (jN N=gy N):=Ma h;have i:1<=N:=by omega
  have j:N<=999999:=by omega
  have f:xA (qD 257 #[lA mA (1000000+(N:Int))] w (nA ⟨(Lib.itoa ((1000000+N:Nat):Int)).toArray⟩)):=
   (strconv_Itoa ((1000000+N:Nat):Int) (by omega) (by omega) w a).mono (by
    rintro e c ⟨rfl,k,p,rfl⟩;exact⟨rfl,Lib.below_grow _ _ (Ia _) _ _⟩)
  have g:xA _:=aPv N (by omega);have o:(⟨(Lib.itoa ((1000000+N:Nat):Int)).toArray⟩:gB).size=7:=by
   rw[oz N (by omega)];simp[FM,ByteArray.size]
  generalize (⟨(Lib.itoa ((1000000+N:Nat):Int)).toArray⟩:gB)=X at *;clear h a;go_enter func224,ntmps224;go_wp2_with fail;apply aC f.o;intro q b;have d:xA _:=b;clear b;go_wp2;go_ret;refine⟨?_,d.o⟩;rw[E.o,<-g.o];rfl
 have E:xA (jN n=kA):=Ja h;by_cases l:n<1
 .go_enter func224,ntmps224;go_wp2;go_ret;exact⟨by rw[E.o];rfl,eD⟩
 have m:999999<n:=by omega
 clear h;go_enter func224,ntmps224;go_wp2;go_ret;exact⟨by rw[E.o];rfl,eD⟩
def KH(w:eA)(P D:Nat)(L:kG):Prop:=iB w P #[qA (bA ⟨D,0,aA⟩),lA mA L.first,lA mA L.last,lA mA L.size] 247
def KH.z{w a:eA}{P D:Nat}{L:kG}(h:KH w P D L)(b:kB w a):KH a P D L:=iB.z h b
def KH.cells{w:eA}{P D:Nat}{L:kG}(h:KH w P D L):w.cell? ⟨P,0,aA⟩=bA (qA (bA ⟨D,0,aA⟩))/\w.cell? ⟨P,1,aA⟩=bA (lA mA L.first)/\w.cell? ⟨P,2,aA⟩=bA (lA mA L.last)/\w.cell? ⟨P,3,aA⟩=bA (lA mA L.size):=by
 refine⟨?_,?_,?_,?_⟩<;>rw[iB.cell h]<;>rfl
def YX(L:kG)(w:eA):qD 181 #[.agg #[lA mA L.first,lA mA L.last,lA mA L.size]] w (pA (iJ L)):=by
 obtain⟨a,b,c⟩:=L;have f:xA (kB w (w.alloc (tA #[lA mA a,lA mA b,lA mA c] 38))):=vB;by_cases i:1<=a
 .by_cases j:a<=b
  .by_cases k:b<=999999
   .have e:xA (iJ ⟨a,b,c⟩=wB c 0 1000000000):=by
     show _=_;have d:wB b 1 999999=dA:=by simp[wB];omega
     have h:wB a 1 b=dA:=by simp[wB];omega
     simp only[iJ,d,h,Oc]
    go_enter func181,ntmps181;go_wp2_with fail;apply lK (mF _ _ _);go_wp2;go_ret;exact⟨fB e.o.symm,f.o⟩
   .have e:xA (iJ ⟨a,b,c⟩=cA):=by
     show _=_;have d:wB b 1 999999=cA:=by simp[wB];omega
     simp[iJ,d]
    go_enter func181,ntmps181;go_wp2;go_ret;exact⟨fB e.o.symm,f.o⟩
  have e:xA (iJ ⟨a,b,c⟩=cA):=by
   show _=_;have d:wB a 1 b=cA:=by simp[wB];omega
   simp[iJ,d]
  go_enter func181,ntmps181;go_wp2;go_ret;exact⟨fB e.o.symm,f.o⟩
 have e:xA (iJ ⟨a,b,c⟩=cA):=by
  show _=_;have d:wB a 1 b=cA:=by simp[wB];omega
  simp[iJ,d]
 go_enter func181,ntmps181;go_wp2;go_ret;exact⟨fB e.o.symm,f.o⟩
def bQ(L:kG)(z a:Int):Bool:=decide (L.size≠0) &&decide (a<L.size+z)
def BP(P D:Nat)(L:kG)(z d:Int)(w:eA)(h:KH w P D L)(l:0<=L.size/\L.size<=1000000000)(n:0<=z/\z<=1000000000):
 dI 288 #[qA (bA ⟨P,0,aA⟩),lA mA z,lA mA d] w (pA (bQ L z d)):=by
 obtain⟨g,i,j,k⟩:=h.cells;clear h g i j;obtain⟨a,b,c⟩:=L;simp only at l k;have hw:IntKind.i64.wrap (c+z)=c+z:=by rw[IntKind.wrap_i64];omega
 by_cases f:c=0
 .subst f;have e:xA (bQ ⟨a,b,0⟩ z d=cA):=by show _=_;simp[bQ]
  go_enter func288,ntmps288;go_wp2;go_ret;exact⟨fB e.o.symm,rfl⟩
 have e:xA (bQ ⟨a,b,c⟩ z d=decide (d<c+z)):=by show _=_;simp[bQ,f]
 go_enter func288,ntmps288;go_wp2;go_ret;exact⟨fB (by rw[e.o];simp[f]),rfl⟩
def aTi(a b:Nat)(c:a<256)(d:b<256):bits .xor .u8 (a:Int) (b:Int)=((a ^^^ b:Nat):Int):=by
 have e:a ^^^ b<2 ^ 8:=Qd (by omega) (by omega);show IntKind.u8.wrap ((BitVec.ofInt 8 (a:Int) ^^^ BitVec.ofInt 8 (b:Int)).toNat:Int)=_;rw[Jg,Nc,Nc,Hc,Hc,Ic (by omega),Ic (by omega)];simp only[IntKind.wrap,IntKind.bits,IntKind.signed];simp;omega
def aOz(a:Nat)(d:a<4294967296):bits .xor .u32 IntKind.u32.max (a:Int)=((4294967295-a:Nat):Int):=by
 have b:bits .xor .u32 IntKind.u32.max (a:Int)=((4294967295 ^^^ a:Nat):Int):=ju 4294967295 a (by omega) d;have c:(4294967295 ^^^ a:Nat)=4294967295-a:=by
  have e:(BitVec.allOnes 32 ^^^ BitVec.ofNat 32 a).toNat=(~~~ BitVec.ofNat 32 a).toNat:=by rw[BitVec.allOnes_xor]
  rw[Jg,BitVec.toNat_allOnes,BitVec.toNat_not,Hc,Ic (by omega)]at e;exact e
 rw[b,c]
def aAi(b:Nat)(d:Array Value)(s:gB)(w:eA)(A:s.size<=maxLen)(r:iB w b d 351)(f:∀i,i<256->d[i]?=bA (.int .u32 (vt i:Nat))):
 qD 254 #[qA (bA ⟨b,0,aA⟩),nA s] w (lA mA (wL s:Nat)):=by
 have q:xA (iB w b d 351/\∀i,i<256->d[i]?=bA (.int .u32 (vt i:Nat))):=⟨r,f⟩
 clear r f;unfold maxLen at A;go_enter func254,ntmps254;go_wp2;go_loopw [5,6,9] (fun x _ c wr=>∃(k X:Nat),k<=s.size/\c=lA mA k/\x=.int .u32 X/\X<4294967296/\xA (X=ma (s.data.toList.take k))/\xA (kB w wr)) (fun _ _ c _=>s.size-(intOf c).toNat)
 case atStart=>exact⟨0,4294967295,by omega,rfl,rfl,by omega,by show _=_;simp[ma],eD⟩
 case round=>
  obtain⟨k,X,F,rfl,rfl,y,t,a⟩:=hrel;by_cases p:k<s.size
  .have E:=(s[k]).toNat_lt;obtain⟨N,T,Y,D,h,z,g,B,l,m⟩:∃N T Y:Nat,N<256/\T<4294967296/\Y<4294967296/\bits .xor .u8 ((X:Int) % 256) ((s[k]).toNat:Int)=(N:Int)/\bits .xor .u32 ((X:Int) / 256) (T:Int)=(Y:Int)/\wr.cell? ⟨b,N,aA⟩=bA (.int .u32 (T:Nat))/\xA (GQ X s[k]=Y):=by
    have g:=aTi (X % 256) (s[k]).toNat (by omega) (by omega);have o:(X % 256) ^^^ (s[k]).toNat<256:=Qd (n:=8) (by omega) (by omega);have j:=q.o.1.z a.o;have h:=aNw o;refine⟨_,_,_,o,h,Qd (n:=32) (by omega) h,g,ju (X / 256) _ (by omega) h,by rw[j.cell];exact q.o.2 _ o,aDx X _ (by omega)⟩
   go_wp2;go_region
   go_wp2;refine⟨⟨k+1,Y,by omega,by go_num,rfl,z,?_,a.o.drew⟩,by simp[intOf];omega⟩;show _=_;rw[eT s k p,YA,<-t.o,m.o]
  .have e:k=s.size:=by omega
   subst e;have G:=aOz X y;go_wp2;refine bodyPost_ret (v:=lA mA (wL s:Nat)) ?_ rfl ⟨rfl,a.o⟩;have u:wrap64 ((4294967295-X:Nat):Int)=((4294967295-X:Nat):Int):=by simp only[wrap64];omega
   rw[u,show wL s=4294967295-X by rw[wL,t.o,Ra (by simp)]];simp[results,results254,go_sem]
def QN{x c a:Int}{b:Bool}(h:wB x c a=b)(w:eA):dI 48 #[lA mA x,lA mA c,lA mA a] w (pA b):=h ▸ vD x c a w
def DS(L:kG)(w:eA):
 qD 66 #[.agg #[lA mA L.first,lA mA L.last,lA mA L.size]] w (pA (iJ L)):=by
 have d:xA (kB w (w.alloc (tA #[lA mA L.first,lA mA L.last,lA mA L.size] 38))):=vB;cases h1:wB L.last 1 999999 with
 |false=>
  have E:xA (iJ L=cA):=by show _=_;simp[iJ,h1]
  have b:xA _:=h1;clear h1;go_enter func66,ntmps66;go_wp2_with fail;apply aC (QN b.o _);rintro a rfl;go_wp2;go_ret;exact⟨fB E.o.symm,d.o⟩
 |true=>
  have b:xA _:=h1;cases h2:wB L.first 1 L.last with
  |false=>
   have E:xA (iJ L=cA):=by show _=_;simp[iJ,h2]
   have c:xA _:=h2;clear h1 h2;go_enter func66,ntmps66;go_wp2_with fail;apply aC (QN b.o _);rintro a rfl;go_wp2_with fail;apply aC (QN c.o _);rintro a rfl;go_wp2;go_ret;exact⟨fB E.o.symm,d.o⟩
  |true=>
   have c:xA _:=h2;have E:xA (iJ L=wB L.size 0 1000000000):=by show _=_;simp[iJ,h1,h2]
   clear h1 h2;go_enter func66,ntmps66;go_wp2_with fail;apply aC (QN b.o _);rintro a rfl;go_wp2_with fail;apply aC (QN c.o _);rintro a rfl;go_wp2_with fail;apply aC (vD L.size 0 1000000000 _);rintro a rfl;go_wp2;go_ret;exact⟨fB E.o.symm,d.o⟩
def lR:Option Nat->Int
 |none=>-1
 |some p=>(p:Int)
def gY(s:gB)(n:Nat):Option Nat->Nat×Option Nat
 |none=>(0,aA)
 |some p=>if p+n<=s.size then(rS (eL s p n),bA (p+n)) else(0,aA)
def lJ(s:gB)(n:Nat):Option Nat->gB×Option Nat
 |none=>(kA,aA)
 |some p=>match pI s p n with
  |none=>(kA,aA)
  |some (t,q)=>(t,bA q)
def vS(s:gB)(n p:Nat):gY s n (bA p)=if p+n<=s.size then(rS (eL s p n),bA (p+n)) else(0,aA):=rfl
def AO{s:gB}{n p:Nat}{t:gB}{q:Nat}(h:pI s p n=bA (t,q)):lJ s n (bA p)=(t,bA q):=by grind [pI,lJ]
def BV{s:gB}{n p:Nat}(h:pI s p n=aA):lJ s n (bA p)=(kA,aA):=by grind [pI,lJ]
def LY(s:gB)(r:Rd)(p:Nat):Prop:=r.H=cA/\p<=s.size/\r.rest.data.toList=s.data.toList.drop p
theorem CE{s:gB}{r:Rd}{p n:Nat}(h:LY s r p)(g:(kD n r).2.H=cA):gY s n (bA p)=((kD n r).1,bA (p+n))/\LY s (kD n r).2 (p+n):=by
 obtain⟨m,o,e⟩:=h;obtain⟨l,c,d⟩:=jJ (n:=n) (r:=r) g;have q:r.rest.size=s.size-p:=by rw[aQ,e,Rc,<-aQ]
 have k:r.rest.size=n+(iD n r).2.rest.size:=by rw[d,Ka,c]
 have a:p+n<=s.size:=by omega
 have b:(iD n r).1.data.toList++(iD n r).2.rest.data.toList=s.data.toList.drop p:=by rw[<-e,<-fS,<-d]
 have f:vA (iD n r).1.data.toList=n:=by rw[<-aQ];exact c
 have i:(iD n r).1.data.toList=eL s p n:=by
  unfold eL;rw[<-b];exact(Pg f).symm
 have j:(iD n r).2.rest.data.toList=s.data.toList.drop (p+n):=by
  have:(s.data.toList.drop p).drop n=s.data.toList.drop (p+n):=by rw[List.drop_drop]
  rw[<-this,<-b];exact(List.drop_left' f).symm
 refine⟨?_,g,a,j⟩;rw[vS,Ma a,kD,i]
def UP{s:gB}{r:Rd}{p n:Nat}(h:LY s r p)(a:(sC n r).2.H=cA):∃q,lJ s n (bA p)=((sC n r).1,bA q)/\LY s (sC n r).2 q:=by
 have c:(kD n r).2.H=cA:=by
  rw[sC]at a;exact(jJ a).1
 obtain⟨d,t,e,f⟩:=CE h c;rw[sC]at a |-
 obtain⟨u,i,j⟩:=jJ a;have v:(kD n r).2.rest.size=s.size-(p+n):=by rw[aQ,f,Rc,<-aQ]
 have o:(kD n r).2.rest.size=(kD n r).1+(iD (kD n r).1 (kD n r).2).2.rest.size:=by rw[j,Ka,i]
 have g:(iD (kD n r).1 (kD n r).2).1.data.toList++(iD (kD n r).1 (kD n r).2).2.rest.data.toList=s.data.toList.drop (p+n):=by rw[<-f,<-fS,<-j]
 have k:vA (iD (kD n r).1 (kD n r).2).1.data.toList=(kD n r).1:=by rw[<-aQ];exact i
 have b:cZ s p n=(kD n r).1:=by
  rw[vS,Ma e]at d;exact(Prod.mk.inj d).1
 have l:s.extract (p+n) (p+n+(kD n r).1)=(iD (kD n r).1 (kD n r).2).1:=by
  apply iZ;rw[sN,List.drop_take,<-g,show p+n+(kD n r).1-(p+n)=(kD n r).1 by omega];exact Pg k
 have m:(iD (kD n r).1 (kD n r).2).2.rest.data.toList=s.data.toList.drop (p+n+(kD n r).1):=by
  have:(s.data.toList.drop (p+n)).drop (kD n r).1=s.data.toList.drop (p+n+(kD n r).1):=by rw[List.drop_drop]
  rw[<-this,<-g];exact(List.drop_left' k).symm
 refine⟨p+n+(kD n r).1,?_,a,by omega,m⟩;apply AO;unfold pI;rw[b,Ma ⟨e,by omega⟩,l]
def aPa(k:Nat)(r:Rd):(kD k r).2=(iD k r).2:=by rw[kD]
def aMo(k:Nat)(r:Rd):(sC k r).2=(iD (kD k r).1 (kD k r).2).2:=by rw[sC]
def yz{k:Nat}{r:Rd}(h:(kD k r).2.H=cA):r.H=cA:=by
 rw[aPa]at h;exact(jJ h).1
def jk{k:Nat}{r:Rd}(h:(sC k r).2.H=cA):r.H=cA:=by
 rw[aMo]at h;exact yz (jJ h).1
section
open Go.ChangeShapes Go.WideShapes Go.ChangeAt Go.Deep
def QX:prog.cellsOf 170=3:=by kernel_rfl
def aDk:prog.cellsOf 9=1:=by kernel_rfl
def aDg:prog.cellsOf 3=1:=by kernel_rfl
def lh:prog.cellsOf 24=1:=by kernel_rfl
section
variable {H:Type} {enc:TypeId×Value→H} {W:eA}
theorem ZS{a:Nat}{cs:List Value}{x:DataW H×List MemPlace}(h:DataW.trod enc prog W 0 (fun _=>dA) dA a 170 cs=bA x):
 ∃f:cB,cs=[nA f.N,nA f.data,lA mA f.Y]/\f.N.size<=maxLen/\f.data.size<=maxLen:=by
 obtain⟨t,u,v,n,_,j,e,g,i⟩:=trod_struct3 underlying170 h;rw[QX]at j;match cs,j with
 |[q,r,s],_=>
  simp[aDk,aDg]at e g i;obtain⟨l,b,_,o⟩:=DataW.trod_string underlying9 e;obtain⟨m,c,_,p⟩:=DataW.trod_string underlying9 g;obtain⟨k,d,_,_⟩:=DataW.trod_int underlying3 i;simp at b c d;exact⟨⟨l,m,k⟩,by simp[b,c,d],o,p⟩
theorem zb{q:Nat}{v:Value}{x:DataW H×List MemPlace}(h:DataW.trod enc prog W 0 (fun _=>true) true q 24 [v]=some x):
 ∃(a:Option Addr)(g:Nat)(t:List cB),v=.slice a t.length g/\eB W a t/\pL t/\t.length<=maxLen:=by
 rcases open_slice underlying24 h with⟨r,_⟩|⟨a,len,g,m,n,D,O,r,_,P,Q,B,_,C⟩
 .simp at r;exact⟨none,0,[],by simpa using r,Ca rfl,fun i h=>absurd h (by simp),by simp⟩
 .simp at r;simp only[Td]at B;have J:Inhabited cB:=⟨⟨ByteArray.empty,ByteArray.empty,0⟩⟩
  obtain⟨b,o,e⟩:=a;rw[QX]at C;have s:0<len->e=none:=fun I=>by
   obtain⟨u,w,y⟩:=C 0 (by omega);obtain⟨f,rfl,_,_⟩:=ZS y;obtain⟨_,_,c⟩:=World.cells?_some w;have d:=c 0 (by omega);simp only[Ob]at d;have:=World.cell?_spot d;simpa[Addr.add]using this
  obtain⟨F,z⟩:=choose_lt (α:=cB) (n:=len) (p:=fun i f=>W.cell? ⟨b,o+i*3,none⟩=some (.string f.N)/\
   W.cell? ⟨b,o+i*3+1,none⟩=some (.string f.data)/\W.cell? ⟨b,o+i*3+2,none⟩=some (.int .i64 f.Y)/\f.N.size<=maxLen/\f.data.size<=maxLen) (fun i l=>by
   obtain⟨u,w,y⟩:=C i (by omega);obtain⟨f,rfl,E,G⟩:=ZS y;obtain⟨_,_,c⟩:=World.cells?_some w;have k:=s (by omega);subst k;refine⟨f,?_,?_,?_,E,G⟩
   .simpa[add_plain]using c 0 (by omega)
   .simpa[add_plain]using c 1 (by omega)
   .simpa[add_plain]using c 2 (by omega))
  refine⟨some ⟨b,o,e⟩,g,(List.range len).map F,by simp[r],?_,?_,by simp;omega⟩
  .by_cases I:len=0
   .subst I;exact Ca rfl
   .have K:=s (by omega);subst K;have j:b<W.1.size:=by
     have d:=(z 0 (by omega)).1;rcases Gc b W.1.size with j|A
     .exact j
     .simp[World.cell?,Mc A]at d
    refine La ⟨b,o,rfl,j,fun i l=>?_⟩;simp only[Xa,Zc]at l;obtain⟨L,M,N,_⟩:=z i l;simpa using ⟨L,M,N⟩
  .intro i l;simp only[Xa,Zc]at l;obtain⟨_,_,_,E,G⟩:=z i l;simpa using ⟨E,G⟩
end
end
