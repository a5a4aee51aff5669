import Derived.Test.YtcmdjimlmnaojaaGreatDoorJ05
set_option maxRecDepth 100000
set_option maxHeartbeats 2000000
set_option linter.defProp false
open Option renaming some->cA,none->aA
open Bool renaming false->dA,true->eA
open ByteArray renaming empty->lA
open List renaming length->zA
namespace Go.Proofs.YtcmdjimlmnaojaaGreatDoor
open Go renaming World->fA,TypeId->kA,Value->jA
open Value renaming string->pA,slice->qA
open Obj renaming cells->xA
open RowKit renaming Below->gA
open Go.RowKit Tryz
structure kB where
 s:pB
 n:Int
def LY(w:fA)(b o:Nat)(a:List kB):Prop:=
 ∀i(h:i<zA a),w.cell? (eB b (o+i*2))=cA (pA a[i].s)/\w.cell? (eB b (o+i*2+1))=cA (aB a[i].n)
def mC(w:fA)(a:nC)(c:List kB):Prop:=c=[]\/∃b o,a=cA (eB b o)/\b<w.1.size/\LY w b o c
def mC.z{w f:fA}{a:nC}{e:List kB}(h:mC w a e)(d:xB w f):mC f a e:=by
 obtain h|⟨b,o,rfl,c,h⟩:=h;exact Ca h;refine La ⟨b,o,rfl,Bb c d.size,λi k=>?_⟩;obtain⟨g,j⟩:=h i k;exact⟨by rw[<-g];exact d.cell c,by rw[<-j];exact d.cell c⟩
def mC.at{w:fA}{a:nC}{c:List kB}(h:mC w a c){i:Nat}(e:i<zA c):
 ∃b o,a=cA (eB b o)/\b<w.1.size/\w.cell? (eB b (o+i*2))=cA (pA c[i].s)/\w.cell? (eB b (o+i*2+1))=cA (aB c[i].n):=by
 obtain rfl|⟨b,o,rfl,d,h⟩:=h;exact absurd e (by simp);exact ⟨b,o,rfl,d,h i e⟩
def lD(w:fA)(B:Nat)(a:nC)(c:List kB):Prop:=
 c=[]\/∃g o b t,a=cA (eB g o)/\B<=g/\w.heap[g]?=cA (xA b t (0,0))/\LY w g o c
def lD.pairs{w:fA}{B:Nat}{a:nC}{b:List kB}(h:lD w B a b):mC w a b:=by grind [lD,mC]
def lD.z{w d:fA}{B:Nat}{a:nC}{k:List kB}(h:lD w B a k)(e:xB w d):lD d B a k:=by
 obtain h|⟨g,o,c,t,rfl,l,f,h⟩:=h;exact Ca h;have b:=bB f;have n:∀j,d.cell? (eB g j)=w.cell? (eB g j):=λj=>fA.cell?_of_block (e.block g b);exact La ⟨g,o,c,t,rfl,l,(e.block g b).trans f,λi m=>by simp only[n];exact h i m⟩
def lD.mono{w:fA}{B B':Nat}{a:nC}{b:List kB}(h:lD w B a b)(c:B'<=B):lD w B' a b:=by grind [lD]
def bE{w:fA}{B:Nat}{e:kA}{a:nC}{d:Nat}{l:List kB}
(h:w.ownsRow B e 2 (qA a (zA l) d) (zA l) (l.flatMap λx=>[pA x.s,aB x.n])):lD w B a l:=by
 obtain⟨_,v⟩|⟨g,m,b,p,q,f,_,_,y,k⟩:=h.2;exact Ca (Nb.1 v);simp only[jA.slice.injEq]at p;have t:∀(l:List kB) i(c:i<zA l),(l.flatMap λx=>[jA.string x.s,aB x.n])[i*2]?=cA (pA l[i].s)/\(l.flatMap λx=>[jA.string x.s,aB x.n])[i*2+1]?=cA (aB l[i].n):=by
  intro l;induction l with
  |nil=>intro i c;exact absurd c (by simp)
  |cons x r z=>
   intro i c;cases i with
   |zero=>simp
   |succ i=>
    have:=z i (by simpa using c);simp only[Xc,Sd,Mb,Ec];rw[show(i+1)*2=i*2+1+1 by omega,Ga,Ga,Ga,Ga];exact this
 refine La ⟨g,0,b,e,p.1,q,f,λi c=>?_⟩;have o:∀j,j<zA l*2->b[j]?=(l.flatMap λx=>[jA.string x.s,aB x.n])[j]?:=λj u=>by
  rw[<-k,Jb u,Yd]
 rw[cell_of_row w g _ b _ _ f,cell_of_row w g _ b _ _ f,Ya,o _ (by omega),o _ (by omega)];exact t l i c
def fE:List kB->Nat
 |[]=>0
 |f::r=>f.s.size+fE r
def nX(a b:List kB):fE (a++b)=fE a+fE b:=by induction a<;>grind [fE]
def wN(a:List kB)(k:Nat)(h:k<zA a):fE (a.take (k+1))=fE (a.take k)+a[k].s.size:=by
 rw[Pa h,nX];simp[fE]
def tM(a:List kB)(k:Nat):fE (a.take k)<=fE a:=by
 have:=nX (a.take k) (a.drop k);rw[Za]at this;omega
def jB.new(w:fA)(cs:Array jA)(t:kA):jB (w.alloc (xA cs t)) w.1.size cs t:=heap_alloc_new _ _
def jB.alloc{w:fA}{g:Nat}{a:Array jA}{t:kA}(h:jB w g a t)(o:Obj):jB (w.alloc o) g a t:=h.z bC
def jB.but{w d:fA}{g c:Nat}{a:Array jA}{t:kA}(h:jB w g a t)(e:sD c w d)(b:g≠c):jB d g a t:=(e.block g (bB h) b).trans h
def jB.six{w:fA}{b:Nat}{a c d e f g:jA}{t:kA}(h:jB w b #[a,c,d,e,f,g] t):
 w.cell? (eB b 0)=cA a/\w.cell? (eB b 1)=cA c/\w.cell? (eB b 2)=cA d/\w.cell? (eB b 3)=cA e/\w.cell? (eB b 4)=cA f/\w.cell? (eB b 5)=cA g:=by
 simp[h.cell]
structure gB where
 N:pB
 L:Int
 M:List kB
 Z:List kB
def TL(w:fA)(b o:Nat)(t:gB):Prop:=
 ∃a d c e,w.cell? (eB b o)=cA (pA t.N)/\w.cell? (eB b (o+1))=cA (aB t.L)/\w.cell? (eB b (o+2))=cA (qA a (zA t.M) d)/\w.cell? (eB b (o+3))=cA (qA c (zA t.Z) e)/\
  mC w a t.M/\mC w c t.Z
def aKb(w:fA)(b o:Nat)(a:List gB):Prop:=∀i(h:i<zA a),TL w b (o+i*4) a[i]
def aD(w:fA)(a:nC)(c:List gB):Prop:=c=[]\/∃b o,a=cA (eB b o)/\b<w.1.size/\aKb w b o c
def TL.z{w d:fA}{b o:Nat}{t:gB}(h:TL w b o t)(a:b<w.1.size)(c:xB w d):TL d b o t:=by
 obtain⟨e,g,f,i,j,k,l,m,n,p⟩:=h;exact⟨e,g,f,i,(c.cell a).trans j,(c.cell a).trans k,(c.cell a).trans l,(c.cell a).trans m,n.z c,p.z c⟩
def aD.z{w f:fA}{a:nC}{e:List gB}(h:aD w a e)(d:xB w f):aD f a e:=by
 obtain h|⟨b,o,rfl,c,h⟩:=h;exact Ca h;exact La ⟨b,o,rfl,Bb c d.size,λi g=>(h i g).z c d⟩
def aD.at{w:fA}{a:nC}{c:List gB}(h:aD w a c){i:Nat}(k:i<zA c):
 ∃b o d f e g,a=cA (eB b o)/\b<w.1.size/\w.cell? (eB b (o+i*4))=cA (pA c[i].N)/\w.cell? (eB b (o+i*4+1))=cA (aB c[i].L)/\
  w.cell? (eB b (o+i*4+2))=cA (.slice d (zA c[i].M) f)/\w.cell? (eB b (o+i*4+3))=cA (.slice e (zA c[i].Z) g)/\mC w d c[i].M/\mC w e c[i].Z:=by
 obtain rfl|⟨b,o,rfl,j,h⟩:=h;exact absurd k (by simp);obtain ⟨d,f,e,g,h⟩:=h i k;exact⟨b,o,d,f,e,g,rfl,j,h⟩
def zE(w:fA)(B:Nat)(T:Nat->Nat)(n:Nat)(a:nC)(c:List kB):Prop:=
 c=[]\/∃g o b t,a=cA (eB g o)/\B<=g/\T g=n/\w.heap[g]?=cA (xA b t (0,0))/\LY w g o c
def zE.pairs{w:fA}{B n:Nat}{T:Nat->Nat}{a:nC}{b:List kB}(h:zE w B T n a b):mC w a b:=by grind [zE,mC]
def zE.own{w:fA}{B n:Nat}{T:Nat->Nat}{a:nC}{b:List kB}(h:zE w B T n a b):lD w B a b:=by grind [zE,lD]
def zE.keep{w w':fA}{B n:Nat}{T c:Nat->Nat}{a:nC}{l:List kB}(h:zE w B T n a l)
(s:∀g,g<w.1.size->B<=g->T g=n->w'.heap[g]?=w.heap[g]?/\c g=n):zE w' B c n a l:=by
 obtain h|⟨g,o,b,t,e,f,p,k,h⟩:=h;exact Ca h;obtain ⟨d,m⟩:=s g (bB k) f p;have q:∀j,w'.cell? (eB g j)=w.cell? (eB g j):=λj=>fA.cell?_of_block d;exact La ⟨g,o,b,t,e,f,m,d.trans k,λi r=>by simp only[q];exact h i r⟩
def BM(w:fA)(B:Nat)(T:Nat->Nat)(i b o:Nat)(t:gB):Prop:=
 ∃a d c e,w.cell? (eB b o)=cA (pA t.N)/\w.cell? (eB b (o+1))=cA (aB t.L)/\w.cell? (eB b (o+2))=cA (qA a (zA t.M) d)/\w.cell? (eB b (o+3))=cA (qA c (zA t.Z) e)/\
  zE w B T (2*i+1) a t.M/\zE w B T (2*i+2) c t.Z
def dD(w:fA)(B:Nat)(a:nC)(c:List gB):Prop:=
 c=[]\/∃g o b t T,a=cA (eB g o)/\B<=g/\w.heap[g]?=cA (xA b t (0,0))/\T g=0/\∀i(h:i<zA c),BM w B T i g (o+i*4) c[i]
def BM.at{w:fA}{B i b o:Nat}{T:Nat->Nat}{t:gB}(h:BM w B T i b o t):TL w b o t:=by
 obtain⟨a,d,c,e,f,g,j,k,l,m⟩:=h;exact⟨a,d,c,e,f,g,j,k,l.pairs,m.pairs⟩
def dD.tens{w:fA}{B:Nat}{a:nC}{b:List gB}(h:dD w B a b):aD w a b:=by
 obtain h|⟨g,o,c,t,T,rfl,_,d,_,h⟩:=h;exact Ca h;exact La ⟨g,o,rfl,bB d,λi e=>(h i e).at⟩
def BM.keep{w w':fA}{B i b o:Nat}{T l:Nat->Nat}{t:gB}(h:BM w B T i b o t)(c:∀j,j<4->w'.cell? (eB b (o+j))=w.cell? (eB b (o+j)))
(m:∀g,g<w.1.size->B<=g->(T g=2*i+1\/T g=2*i+2)->w'.heap[g]?=w.heap[g]?/\l g=T g):BM w' B l i b o t:=by
 obtain⟨n,q,p,r,s,u,v,x,y,z⟩:=h;refine⟨n,q,p,r,(c 0 (by omega)).trans s,(c 1 (by omega)).trans u,(c 2 (by omega)).trans v,(c 3 (by omega)).trans x,y.keep λg e d a=>?_,z.keep λg e d a=>?_⟩;obtain ⟨f,k⟩:=m g e d (Ca a);exact⟨f,k.trans a⟩;obtain ⟨f,k⟩:=m g e d (La a);exact⟨f,k.trans a⟩
def dD.z{w l:fA}{B:Nat}{a:nC}{k:List gB}(h:dD w B a k)(d:xB w l):dD l B a k:=by
 obtain h|⟨g,o,c,t,T,rfl,n,f,p,h⟩:=h;exact Ca h;have b:=bB f;exact La ⟨g,o,c,t,T,rfl,n,(d.block g b).trans f,p,λi q=>(h i q).keep (λj _=>fA.cell?_of_block (d.block g b)) λm e _ _=>⟨d.block m e,rfl⟩⟩
def fF(t:gB):Nat:=t.N.size+(zA t.M+fE t.M)+(zA t.Z+fE t.Z)
def eC:List gB->Nat
 |[]=>0
 |f::r=>fF f+eC r
def sX(a b:List gB):eC (a++b)=eC a+eC b:=by induction a<;>grind [eC]
def mK(a:List gB)(k:Nat)(h:k<zA a):eC (a.take (k+1))=eC (a.take k)+fF a[k]:=by
 rw[Pa h,sX];simp[eC]
def yM(a:List gB)(k:Nat):eC (a.take k)<=eC a:=by
 have:=sX (a.take k) (a.drop k);rw[Za]at this;omega
def fX(a:List gB)(k:Nat)(h:k<zA a):fF a[k]<=eC a:=by
 have b:=mK a k h;have c:=yM a (k+1);omega
theorem gG:∀x:List UInt8,Op.bytesLess x x=dA
 |[]=>rfl
 |a::x=>by simp[Op.bytesLess,gG x]
theorem sJ:∀x y z:List UInt8,Op.bytesLess x y=eA->Op.bytesLess y z=eA->Op.bytesLess x z=eA
 |_,_,[],_,h=>by simp[Op.bytesLess]at h
 |_,[],_::_,h,_=>by simp[Op.bytesLess]at h
 |[],_::_,_::_,_,_=>by simp[Op.bytesLess]
 |a::x,b::y,c::z,e,d=>by
  simp only[Op.bytesLess,Fe,Sa,Ab,Lg]at e d |-
  obtain e|⟨rfl,e⟩:=e
  .rcases d with d|⟨rfl,_⟩
   .exact Ca (UInt8.lt_trans e d)
   exact Ca e
  obtain d|⟨rfl,d⟩:=d;exact Ca d;exact La ⟨rfl,sJ x y z e d⟩
theorem wL:∀x y:List UInt8,Op.bytesLess x y=dA->x≠y->Op.bytesLess y x=eA
 |[],[],_,h=>absurd rfl h
 |[],_::_,h,_=>by simp[Op.bytesLess]at h
 |_::_,[],_,_=>by simp[Op.bytesLess]
 |a::x,b::y,h,d=>by
  simp only[Op.bytesLess,Bool.or_eq_false_iff,Gg,Xe,Fe,Sa,Ab,Lg]at h |-
  obtain⟨f,c⟩:=h;by_cases e:a=b
  .subst e;obtain c|c:=c
   .simp at c
   exact La ⟨rfl,wL x y c (λe=>d (by rw[e]))⟩
  left;rcases UInt8.lt_or_lt_of_ne e with h|h;exact absurd h f;exact h
def uP{x y:List UInt8}(h:Op.bytesLess x y=eA):Op.bytesLess y x=dA:=by grind [sJ,gG]
theorem toList_inj{x y:pB}(h:x.toList=y.toList):x=y:=by
 have a:x.data.toList=y.data.toList:=by rw[<-ByteArray.toList_eq x,<-ByteArray.toList_eq y];exact h
 cases x;cases y
 simp only[ByteArray.mk.injEq];exact Array.toList_inj.1 a
structure cC where
 N:pB
 V:pB
def mP(w:fA)(b o:Nat)(a:List cC):Prop:=
 ∀i(h:i<zA a),w.cell? (eB b (o+i*2))=cA (pA a[i].N)/\w.cell? (eB b (o+i*2+1))=cA (pA a[i].V)
def qD(w:fA)(a:nC)(c:List cC):Prop:=c=[]\/∃b o,a=cA (eB b o)/\b<w.1.size/\mP w b o c
def qD.z{w f:fA}{a:nC}{e:List cC}(h:qD w a e)(d:xB w f):qD f a e:=by
 obtain h|⟨b,o,rfl,c,h⟩:=h;exact Ca h;refine La ⟨b,o,rfl,Bb c d.size,λi k=>?_⟩;obtain⟨g,j⟩:=h i k;exact⟨by rw[<-g];exact d.cell c,by rw[<-j];exact d.cell c⟩
def qD.at{w:fA}{a:nC}{c:List cC}(h:qD w a c){i:Nat}(e:i<zA c):
 ∃b o,a=cA (eB b o)/\b<w.1.size/\w.cell? (eB b (o+i*2))=cA (pA c[i].N)/\w.cell? (eB b (o+i*2+1))=cA (pA c[i].V):=by
 obtain rfl|⟨b,o,rfl,d,h⟩:=h;exact absurd e (by simp);exact ⟨b,o,rfl,d,h i e⟩
def zD(w:fA)(B:Nat)(a:nC)(c:List cC):Prop:=
 c=[]\/∃g o b t,a=cA (eB g o)/\B<=g/\w.heap[g]?=cA (xA b t (0,0))/\mP w g o c
def zD.B{w:fA}{B:Nat}{a:nC}{b:List cC}(h:zD w B a b):qD w a b:=by grind [zD,qD]
def zD.z{w d:fA}{B:Nat}{a:nC}{k:List cC}(h:zD w B a k)(e:xB w d):zD d B a k:=by
 obtain h|⟨g,o,c,t,rfl,l,f,h⟩:=h;exact Ca h;have b:=bB f;have n:∀j,d.cell? (eB g j)=w.cell? (eB g j):=λj=>fA.cell?_of_block (e.block g b);exact La ⟨g,o,c,t,rfl,l,(e.block g b).trans f,λi m=>by simp only[n];exact h i m⟩
def zD.mono{w:fA}{B B':Nat}{a:nC}{b:List cC}(h:zD w B a b)(c:B'<=B):zD w B' a b:=by grind [zD]
def eK{w:fA}{B:Nat}{e:kA}{a:nC}{d:Nat}{l:List cC}
(h:w.ownsRow B e 2 (qA a (zA l) d) (zA l) (l.flatMap λx=>[pA x.N,pA x.V])):zD w B a l:=by
 obtain⟨_,t⟩|⟨g,m,b,o,p,f,_,_,u,k⟩:=h.2;exact Ca (Nb.1 t);simp only[jA.slice.injEq]at o;have q:∀(l:List cC) i(c:i<zA l),(l.flatMap λx=>[jA.string x.N,pA x.V])[i*2]?=cA (pA l[i].N)/\(l.flatMap λx=>[jA.string x.N,pA x.V])[i*2+1]?=cA (pA l[i].V):=by
  intro l;induction l with
  |nil=>intro i c;exact absurd c (by simp)
  |cons x r v=>
   intro i c;cases i with
   |zero=>simp
   |succ i=>
    have:=v i (by simpa using c);simp only[Xc,Sd,Mb,Ec];rw[show(i+1)*2=i*2+1+1 by omega,Ga,Ga,Ga,Ga];exact this
 refine La ⟨g,0,b,e,o.1,p,f,λi c=>?_⟩;have n:∀j,j<zA l*2->b[j]?=(l.flatMap λx=>[jA.string x.N,pA x.V])[j]?:=λj s=>by
  rw[<-k,Jb s,Yd]
 rw[cell_of_row w g _ b _ _ f,cell_of_row w g _ b _ _ f,Ya,n _ (by omega),n _ (by omega)];exact q l i c
def aE:List cC->Nat
 |[]=>0
 |f::r=>f.N.size+f.V.size+aE r
def yY(a b:List cC):aE (a++b)=aE a+aE b:=by induction a<;>grind [aE]
def vT(a:List cC)(k:Nat)(h:k<zA a):aE (a.take (k+1))=aE (a.take k)+(a[k].N.size+a[k].V.size):=by
 rw[Pa h,yY];simp[aE]
def iR(a:List cC)(k:Nat):aE (a.take k)<=aE a:=by
 have:=yY (a.take k) (a.drop k);rw[Za]at this;omega
abbrev dY(c:Nat):Prop:=(65<=c/\c<=90)\/(97<=c/\c<=122)\/c=95
abbrev NX(c:Nat):Prop:=48<=c/\c<=57
abbrev BA(s:pB)(i:Nat):Prop:=dY (zC s i)\/(NX (zC s i)/\0<i)
abbrev YU(s:pB):Prop:=1<=s.size/\s.size<=64/\∀i,i<s.size->BA s i
def PN(s:pB):Bool:=decide (YU s)
def xQ(l:cC):Nat:=if PN l.N=eA then fP l.V else 41
def fD:List cC->Nat->Option (Nat×Nat)
 |[],_=>aA
 |l::r,i=>if xQ l=0 then fD r (i+1) else cA (xQ l,i)
def rR(x l:cC):Bool:=x.N.toList==l.N.toList
def pF:List cC->List cC->Nat->Option Nat
 |_,[],_=>aA
 |a,l::r,i=>if a.any (λx=>rR x l)=eA then cA i else pF (a++[l]) r (i+1)
def QA:pB:=⟨#[95,95,110,97,109,101,95,95]⟩
def kP(l:cC):Bool:=l.N.toList==QA.toList
def sS(l:cC):Bool:=l.V.toList==ByteArray.empty.toList
def lP(x y:cC):Bool:=Op.bytesLess x.N.toList y.N.toList
def jL:List cC->pB
 |[]=>lA
 |l::r=>if kP l=eA then l.V else jL r
def uL(a:List cC):List cC:=a.filter (λl=>!sS l)
def vR(a:List cC):Bool:=a.any (λl=>!sS l&&kP l)
def xX(l:cC):List cC->Nat
 |[]=>0
 |x::r=>if lP x l=eA then xX l r+1 else 0
def yQ(l:cC)(a:List cC):List cC:=a.take (xX l a)++l::a.drop (xX l a)
def mG(a:List cC):List cC->List cC
 |[]=>a
 |l::r=>mG (if sS l=eA then a else yQ l a) r
def wB(a:List cC):List cC×Nat×Nat:=
 if 16<zA a then([],40,0) else match fD a 0 with
 |some (c,i)=>([],c,i)
 |none=>match pF [] a 0 with
  |some i=>([],45,i)
  |none=>if vR a=eA then(mG [] a,0,0) else([],46,0)
def sw(l:cC):∀a,xX l a<=zA a
 |[]=>Ia _
 |x::r=>by
  have:=sw l r;rw[xX];split;simp;omega;simp
def zf(l:cC)(a:List cC)(k:Nat)(b:k<zA a):xX l (a.drop k)=if lP a[k] l=eA then xX l (a.drop (k+1))+1 else 0:=by
 rw[Cb b,xX]
def YS(l:cC)(a:List cC):zA (yQ l a)=zA a+1:=by
 have:=sw l a;simp[yQ];omega
def xn(l:cC)(a:List cC):(yQ l a).Perm (l::a):=by
 unfold yQ;refine List.perm_middle.trans ?_;rw[Za]
theorem tL:∀(c b:List cC),(mG b c).Perm (b++uL c)
 |[],b=>by simp[mG,uL]
 |l::r,b=>by
  rw[mG,uL,List.filter_cons];by_cases h:sS l=eA
  .rw[Ma h,Ja (by simp[h])];exact tL r b
  rw[Ja h,Ma (by simpa using h)];refine(tL r _).trans ?_;refine((xn l b).append_right _).trans ?_;exact(List.perm_middle (l₁:=b) (a:=l) (l₂:=uL r)).symm
theorem zZ(a:List cC):zA (uL a)<=zA a:=Pc _ _
theorem CH(a:List cC):zA (mG [] a)=zA (uL a):=by
 have:=(tL a []).length_eq;simpa using this
def Le(x y:cC):Prop:=lP y x=dA
def VS (l:cC):∀(a:List cC),∀x∈a.take (xX l a),lP x l=eA
 |[],x,h=>by simp at h
 |y::r,x,h=>by
  rw[xX]at h;split at h
  ·rename_i b
   rw[List.take_succ_cons,List.mem_cons]at h;obtain rfl|h:=h
   ·exact b
   ·exact VS l r x h
  ·simp at h
def VT (l:cC):∀(a:List cC),a.Pairwise Le->∀x∈a.drop (xX l a),lP x l=dA
 |[],_,x,h=>by simp at h
 |y::r,d,x,h=>by
  rw[xX]at h;rw[List.pairwise_cons]at d;split at h
  ·rw[List.drop_succ_cons]at h
   exact VT l r d.2 x h
  ·rename_i i
   rw[List.drop_zero,List.mem_cons]at h;have c:lP y l=dA:=by simpa using i
   obtain rfl|h:=h
   ·exact c
   ·have b:=d.1 x h
    unfold Le at b
    cases hx:lP x l
    ·rfl
    ·exfalso
     by_cases e:y.N.toList=l.N.toList
     ·unfold lP at b hx;rw[e]at b;rw[b]at hx;exact absurd hx (by simp)
     ·have f:lP l y=eA:=wL _ _ c e
      have g:lP x y=eA:=sJ _ _ _ hx f;rw[g]at b;exact absurd b (by simp)
def PM{x y z:cC}(a:Le x y)(b:Le y z):Le x z:=by grind [Le,lP,wL,sJ]
def fg (l:cC) (c:List cC) (h:c.Pairwise Le):(yQ l c).Pairwise Le:=by
 unfold yQ;have i:=VS l c;have f:=VT l c h;rw[List.pairwise_append];refine⟨h.sublist (List.take_sublist _ _),?_,?_⟩
 ·rw[List.pairwise_cons]
  exact⟨λx j=>f x j,h.sublist (List.drop_sublist _ _)⟩
 ·intro a g b d
  have e:Le a l:=uP (i a g);rw[List.mem_cons]at d;obtain rfl|d:=d
  ·exact e
  ·exact PM e (f b d)
def qU:∀(b a:List cC),a.Pairwise Le->(mG a b).Pairwise Le
 |[],a,h=>h
 |l::r,a,h=>by
  rw[mG];refine qU r _ ?_;split;exact h;exact fg l a h
def iU(a:List cC):Prop:=a.Pairwise (λx y=>x.N≠y.N)
def WD(x l:cC):rR x l=eA ↔ x.N=l.N:=by grind [rR,toList_inj]
def EK:∀(r c:List cC)(i:Nat),iU c->pF c r i=aA->iU (c++r)
 |[],c,_,h,_=>by simpa using h
 |l::r,c,i,h,d=>by
  rw[pF]at d;split at d;exact absurd d (by simp)
  rename_i j;have:iU (c++[l]):=by
   unfold iU;rw[Ae];refine⟨h,We _ _,λa g b f=>?_⟩;rw[Uf]at f;subst f;intro e;apply j;rw[Zd];exact⟨a,g,(WD _ _).2 e⟩
  have:=EK r _ _ this d;simpa using this
theorem sk(a:List cC)(h:pF [] a 0=aA):iU a:=by
 have:=EK a [] 0 (by exact Gd) h;simpa using this
def aHy{c:List cC}(h:iU c){x y:cC}(b:x∈c)(a:y∈c)(e:x.N=y.N):x=y:=by
 induction c with
 |nil=>exact absurd b (by simp)
 |cons l r d=>
  unfold iU at h;rw[Bc]at h;rw[Lb]at b a;obtain rfl|b:=b
  .rcases a with rfl|a
   .rfl
   exact absurd e (h.1 y a)
  obtain rfl|a:=a;exact absurd e.symm (h.1 x b);exact d h.2 b a
def WG{c d:List cC}(h:iU c)(k:d.Perm (uL c))(q:d.Pairwise Le):d=mG [] c:=by
 have f:=(tL c []).trans (by rw[Mb]);refine Qf (le:=Le) ?_ q (qU c [] Gd) (k.trans f.symm);intro a b o p g m;have i:a∈c:=(De.1 (k.mem_iff.1 o)).1;have j:b∈c:=(De.1 (f.mem_iff.1 p)).1;refine aHy h i j ?_;by_cases e:a.N=b.N
 .exact e
 have n:lP b a=eA:=wL _ _ m (λl=>e (toList_inj l));unfold Le at g;rw[n]at g;exact absurd g (by simp)
def gm:∀(c:List cC),iU c->((jL c).toList==ByteArray.empty.toList)=!vR c
 |[],_=>by simp[jL,vR]
 |l::r,h=>by
  unfold iU at h;rw[Bc]at h;rw[jL,vR,List.any_cons];by_cases a:kP l=eA
  .rw[Ma a,a,Bool.and_true];have g:(r.any λl=>!sS l&&kP l)=dA:=by
    rw[List.any_eq_false];intro x i d;rw[Sa]at d;have e:l.N=QA:=toList_inj (by simpa[kP]using a);have f:x.N=QA:=toList_inj (by simpa[kP]using d.2);exact h.1 x i (by rw[e,f])
   rw[g,Bool.or_false,Bool.not_not];rfl
  .rw[Ja a];have b:kP l=dA:=by simpa using a
   rw[b,Wg,Rf];exact gm r h.2
theorem BQ{a:List cC}(h:16<zA a):wB a=([],40,0):=by unfold wB;rw[Ma h]
theorem qZ{a:List cC}(h:¬16<zA a){c i:Nat}(b:fD a 0=cA (c,i)):wB a=([],c,i):=by unfold wB;rw[Ja h,b]
theorem iY{a:List cC}(h:¬16<zA a)(b:fD a 0=aA){i:Nat}(c:pF [] a 0=cA i):wB a=([],45,i):=by unfold wB;rw[Ja h,b,c]
theorem IA{a:List cC}(h:¬16<zA a)(b:fD a 0=aA)(d:pF [] a 0=aA)(c:vR a=dA):wB a=([],46,0):=by
 unfold wB;rw[Ja h,b,d];simp[c]
theorem NK{a:List cC}(h:¬16<zA a)(b:fD a 0=aA)(d:pF [] a 0=aA)(c:vR a=eA):wB a=(mG [] a,0,0):=by
 unfold wB;rw[Ja h,b,d];simp[c]
def AV(a:List cC)(k:Nat)(b:k<zA a):fD (a.drop k) k=if xQ a[k]=0 then fD (a.drop (k+1)) (k+1) else cA (xQ a[k],k):=by
 rw[Cb b,fD]
def EM(a:List cC)(k:Nat)(b:k<zA a):pF (a.take k) (a.drop k) k=if (a.take k).any (λx=>rR x a[k])=eA then cA k else pF (a.take (k+1)) (a.drop (k+1)) (k+1):=by
 rw[Cb b,pF,Pa b]
def VI(a:List cC)(k:Nat)(b:k<zA a):jL (a.drop k)=if kP a[k]=eA then a[k].V else jL (a.drop (k+1)):=by
 rw[Cb b,jL]
def fd(a b:List cC)(k:Nat)(c:k<zA b):mG a (b.drop k)=mG (if sS b[k]=eA then a else yQ b[k] a) (b.drop (k+1)):=by
 rw[Cb c,mG]
def ym(a:List cC)(k:Nat)(b:k<zA a):vR (a.take (k+1))=(vR (a.take k) ||(!sS a[k] &&kP a[k])):=by
 rw[Pa b,vR,Tf];simp[vR]
def oa(a:List cC)(k:Nat)(b:k<zA a):uL (a.take (k+1))=uL (a.take k)++if sS a[k]=eA then [] else [a[k]]:=by
 rw[Pa b,uL,Vf,uL];congr 1;by_cases h:sS a[k]=eA<;>simp[h]
def vX(l:List UInt8):Nat:=l.foldl (λv c=>v*256+c.toNat) 0
def DU(l:List UInt8)(c:UInt8):vX (l++[c])=vX l*256+c.toNat:=by simp[vX]
def GX(l:List UInt8):vX l<256 ^ zA l:=by
 have b:∀(n:Nat)(l:List UInt8),zA l=n->vX l<256 ^ n:=λn=>by
  induction n with
  |zero=>intro l h;rw[Nb.1 h];decide
  |succ n c=>
   intro l h;have a:l≠[]:=by intro e;rw[e]at h;simp at h
   rw[<-List.dropLast_concat_getLast a,DU];have d:=c l.dropLast (by simp[h]);have f:=(l.getLast a).toNat_lt;rw[Od];omega
 exact b _ l rfl
def cR(s:pB)(p n:Nat):List UInt8:=(s.data.toList.drop p).take n
def yR{s:pB}{p n:Nat}(h:p+n<=s.size):zA (cR s p n)=n:=by
 have:zA s.data.toList=s.size:=by simp
 simp only[cR,Hb,Rc];omega
def QS{s:pB}{p k:Nat}(h:p+k<s.size):cR s p (k+1)=cR s p k++[s[p+k]]:=by
 have a:zA s.data.toList=s.size:=by simp
 unfold cR;rw[Pa (by rw[Rc,a];omega),Cg];rfl
def CY(v:Int):Nat->Int
 |0=>v
 |k+1=>CY v k / 256
def wX(v:Int):Nat->List Int
 |0=>[]
 |n+1=>CY v n % 256::wX v n
def tB(n:Nat)(v:Int):pB:=strOfNums (wX v n)
def bZ(v:Int):∀n,zA (wX v n)=n
 |0=>rfl
 |n+1=>by simp[wX,bZ v n]
theorem nB(n:Nat)(v:Int):(tB n v).size=n:=by
 rw[tB,strOfNums_size,bZ]
def MI:∃i,prog.info? 5=cA i/\i.zero=cA (.int .u8 0)/\i.size=1/\i.bytes=1:=by
 have h:(prog.info? 5).map (λi=>(i.zero,i.size,i.bytes))=cA (cA (.int .u8 0),1,1):=by kernel_rfl
 obtain⟨i,b,a⟩:=Wb.1 h;simp only[Dc]at a;exact⟨i,b,a.1,a.2.1,a.2.2⟩
def NR{w:fA}{B:Nat}{d:nC}{f:Nat}{ys:List Int}(h:w.ownsRow B 5 1 (qA d (zA ys) f) (zA ys) (ys.map (jA.int .u8))):
 (convert 22 9 (qA d (zA ys) f)).run prog w=.ok (pA (strOfNums ys)) w:=by
 obtain⟨b,q⟩|⟨g,k,a,b,_,m,o,_,p,c⟩:=h.2;simp only[jA.slice.injEq]at b;obtain⟨rfl,l,rfl⟩:=b;have e:ys=[]:=Nb.1 l;subst e;exact run_convert_bytes_nil w 22 5 underlying22 underlying5 _ _ 9 underlying9;simp only[jA.slice.injEq]at b;obtain⟨rfl,_,rfl⟩:=b;refine run_convert_bytes_arg w 22 5 underlying22 underlying5 g 0 _ _ ys rfl (λi n=>?_) 9 underlying9;rw[Ya,cell_of_row w g i a _ _ m];have j:(a.toList.take (zA ys*1))[i]?=(ys.map (jA.int .u8))[i]?:=by rw[c]
 rw[Jb (by omega)]at j;rw[<-Yd,j];simp[List.getD,Va n]
def mD(n:Nat)(v:Int)(w:fA)(Z:n<=8)(_o : -9223372036854775808<=v)(_p:v<=9223372036854775807):
 cF 49 #[aB n,aB v] w (pA (tB n v)):=by
 obtain⟨J,p,B,C,D⟩:=MI;have K:cB (prog.info? 5=cA J):=p;clear p;clear _o _p;go_enter func49,ntmps49;go_wp2;go_loopw [5,6,7,8] (λE i _ _ wr=>∃(m:Nat)(a:List Int)(s:nC)(t:Nat),zA a+m=n/\cB (a++wX v m=wX v n)/\i=aB ((m:Int)-1)/\E=qA s (zA a) t/\cB (wr.ownsRow w.1.size 5 1 (qA s (zA a) t) (zA a) (a.map (jA.int .u8)))/\xB w wr) (λ_ i _ _ _=>((intOf i)+1).toNat)
 case atStart=>
  exact⟨n,[],_,_,by simp,by show _=_;simp,by simp,rfl,fA.ownsRow_made w #[] 0 (Ia _) (by simp[maxLen]) (by simp),bC⟩
 case round=>
  obtain⟨m,a,s,t,Y,h,rfl,rfl,d,b⟩:=hrel;by_cases o:0<m
  .obtain ⟨r,rfl⟩:∃r,m=r+1:=⟨m-1,by omega⟩
   have F:((r+1:Nat):Int)-1=(r:Int):=by omega
   rw[F];clear F;go_wp2;go_loop [7,8] (λx k=>∃(j:Nat)(X:Int),j<=r/\k=aB j/\x=aB X/\cB (X=CY v j)) (λ_ k=>r-(intOf k).toNat)
   case atStart=>exact⟨0,v,Oa _,rfl,rfl,rfl⟩
   case round=>
    obtain⟨j,X,W,rfl,rfl,G⟩:=hrel;by_cases R:j<r
    .go_wp2;exact⟨⟨j+1,X / 256,by omega,by go_num,rfl,by show _=_;rw[CY,G.o]⟩,by simp[intOf];omega⟩
    have e:j=r:=by omega
    subst e;have S:=b.size;go_wp2_with(at_builtin;refine wpList_append_lies _ rfl _ _ _ rfl w.1.size 5 J _ 1 1 underlying22 K.o B C D rfl (by omega) (qA s (zA a) t) (zA a) (a.map (jA.int .u8)) rfl (by exact hC d.o bC) (eB wr.1.size 0) 1 1 [.int .u8 (X % 256)] rfl rfl (by exact fA.news_of_block (heap_alloc_new _ _)) (by simp[jA.oneCell']) (by omega) (by simp[maxLen];omega) (by omega) (by simp;omega) (wr.1.size+1) (by simp) ?_;intro N o U c f H I);have y:xB w U:=(aC b bC).grown f (by simp;omega) (λq u=>by
     obtain⟨z,_⟩|⟨g,L,M,z,V,_⟩:=d.o.2;rw[z]at u;simp[jA.ownBlock]at u;rw[z]at u;simp[jA.ownBlock]at u;omega)
    have A:a.map (jA.int .u8)++[jA.int .u8 (X % 256)]=(a++[X % 256]).map (jA.int .u8):=by simp
    have l:zA (a++[X % 256])=zA a+1:=by simp
    rw[A,<-l]at c;refine⟨⟨j,a++[X % 256],vB N,o,by rw[l];omega,?_,rfl,by rw[l],c,y⟩,by simp[intOf]⟩;show _=_;rw[<-h.o,wX,G.o];simp
  have e:m=0:=by omega
  subst e;have Q:=NR d.o;go_wp2;go_ret;refine⟨Kd (λx=>Ending.returned (pA x)) ?_,b⟩;rw[tB,<-h.o,wX,Cd]
def CP(v:Nat):Nat->List Nat
 |0=>[]
 |n+1=>v / 256 ^ n % 256::CP v n
def KM(v:Nat):∀n,zA (CP v n)=n
 |0=>rfl
 |n+1=>by simp[CP,KM v n]
def jk(v:Nat):∀k,CY (v:Int) k=((v / 256 ^ k:Nat):Int)
 |0=>by simp[CY]
 |k+1=>by rw[CY,jk v k,Od,<-Fg];omega
def QI(v:Nat):∀n,wX (v:Int) n=(CP v n).map (λx:Nat=>(x:Int))
 |0=>rfl
 |n+1=>by rw[wX,CP,Fc,QI v n,jk];simp
def gy(a b n:Nat):∀m,m<=n->CP (a*256 ^ n+b) m=CP b m
 |0,_=>rfl
 |m+1,h=>by
  rw[CP,CP,gy a b n m (by omega)];congr 1;obtain⟨d,rfl⟩:∃d,n=m+1+d:=⟨n-(m+1),by omega⟩
  have e:a*256 ^ (m+1+d)+b=b+256 ^ m*(a*256 ^ d*256):=by rw[Nat.pow_add,Od,Nat.add_comm];congr 1;ac_rfl
  rw[e,Nat.add_mul_div_left _ _ (Zf (by omega))];omega
def bz(c:UInt8)(l:List UInt8):vX (c::l)=c.toNat*256 ^ zA l+vX l:=by
 have f:∀(l:List UInt8)(v:Nat),l.foldl (λv c=>v*256+c.toNat) v=v*256 ^ zA l+vX l:=λl=>by
  induction l with
  |nil=>intro v;simp[vX]
  |cons d l e=>
   intro v;have a:=e (v*256+d.toNat);have b:=e (0*256+d.toNat);simp only[vX,Og,Zb,Od]at a b |-
   rw[a,b];simp only[Nat.add_mul,Nat.zero_mul,Ya];rw[Nat.add_assoc];congr 1;ac_rfl
 have:=f l (0*256+c.toNat);simpa[vX]using this
def sn:∀(l:List UInt8),CP (vX l) (zA l)=l.map (λc=>c.toNat)
 |[]=>rfl
 |c::l=>by
  have a:=GX l;have b:=c.toNat_lt;rw[Zb,CP,bz,gy _ _ _ _ (Ia _),sn l,Fc];congr 1;rw[Nat.add_comm,Nat.mul_comm,Nat.add_mul_div_left _ _ (Zf (by omega)),Nat.div_eq_of_lt a];omega
def so(l:List UInt8)(n:Nat)(h:zA l=n):tB n (vX l:Nat)=⟨l.toArray⟩:=by
 subst h;rw[tB,QI,sn,strOfNums];congr 2;rw[Vd,Vd];conv=>rhs;rw[<-List.map_id l]
 congr 1;funext c;simp
def rj(v:Nat):∀n,vX ((CP v n).map UInt8.ofNat)=v % 256 ^ n
 |0=>by simp[CP,vX,Nat.mod_one]
 |n+1=>by
  rw[CP,Fc,bz,rj v n,Xa,KM,UInt8.toNat_ofNat_of_lt' (by show _<256;omega),Od,Nat.mod_mul];rw[Nat.mul_comm,Nat.add_comm]
def yy(n v:Nat):(tB n v).data.toList=(CP v n).map UInt8.ofNat:=by
 rw[tB,QI,strOfNums_data,Vd];congr 1
theorem pT(n v:Nat)(h:v<256 ^ n):vX (tB n v).data.toList=v:=by
 rw[yy,rj,Ic h]
def gN(s:pB):pB:=tB 1 (s.size:Nat)++s
def dG(s:pB):pB:=tB 2 (s.size:Nat)++s
theorem sF(s:pB):(gN s).size=1+s.size:=by rw[gN,Ka,nB]
theorem eF(s:pB):(dG s).size=2+s.size:=by rw[dG,Ka,nB]
def okM(a:List UInt8)(c:UInt8):Bool:=(97<=c&&c<=122) ||(48<=c&&c<=57) ||decide (0<=Lib.indexByte a c)
def yS(s:pB)(b:Int)(a:pB):Bool:=decide (1<=s.size) &&decide ((s.size:Int)<=b) &&s.data.toList.all (okM a.data.toList)
def xh(mk:pB)(c:UInt8)(w:fA):rI 215 #[pA mk,.int .u8 (c.toNat:Int)] w (aB (Lib.indexByte mk.data.toList c)):=by
 have:=strings_IndexByte mk (c.toNat:Int) w;simpa using this
def AP{s:pB}{f:UInt8->Bool}{k:Nat}(h:k<s.size):(s.data.toList.take (k+1)).all f=((s.data.toList.take k).all f&&f s[k]):=by
 rw[sV s k h];simp
def rb{l:List UInt8}{f:UInt8->Bool}{k:Nat}(h:(l.take k).all f=dA):l.all f=dA:=by grind
def yc(c:UInt8):(97<=c&&c<=122)=decide (97<=(c.toNat:Int)/\(c.toNat:Int)<=122):=by rw[Qb];simp[Df];omega
def aCb(c:UInt8):(48<=c&&c<=57)=decide (48<=(c.toNat:Int)/\(c.toNat:Int)<=57):=by rw[Qb];simp[Df];omega
def KH(s:pB)(a:Int)(mk:pB)(w:fA)(q:s.size<=maxLen):
 rI 149 #[pA s,aB a,pA mk] w (.bool (yS s a mk)):=by
 unfold maxLen at q;by_cases r:(s.size:Int)<1
 .have c:cB (yS s a mk=dA):=by show _=_;simp[yS];omega
  go_enter func149,ntmps149;go_wp2;go_ret;exact⟨oB c.o.symm,rfl⟩
 by_cases t:a<(s.size:Int)
 .have c:cB (yS s a mk=dA):=by
   show _=_;have:decide ((s.size:Int)<=a)=dA:=by simp;omega
   simp[yS,this]
  go_enter func149,ntmps149;go_wp2;go_ret;exact⟨oB c.o.symm,rfl⟩
 have c:cB (yS s a mk=s.data.toList.all (okM mk.data.toList)):=by
  show _=_;have o:1<=s.size:=by omega
  have p:(s.size:Int)<=a:=by omega
  simp[yS,o,p]
 go_enter func149,ntmps149;go_wp2;go_loop [7,8,20] (λ_ _ i=>∃k:Nat,k<=s.size/\i=aB k/\(s.data.toList.take k).all (okM mk.data.toList)=eA) (λ_ _ i=>s.size-(intOf i).toNat)
 case atStart=>exact⟨0,Oa _,rfl,by simp⟩
 case round=>
  obtain⟨k,u,rfl,g⟩:=hrel;have d:cB _:=g;clear g;by_cases j:k<s.size
  .have b:=AP (f:=okM mk.data.toList) j;rw[d.o,Oc,okM,yc,aCb]at b;have l:cB _:=b;clear b;have m:=λW=>xh mk s[k] W;generalize Lib.indexByte mk.data.toList s[k]=v at *;have h:cB _:=m;clear m;go_wp2_with(go_at_call 215;apply jC (h.o _);rintro n rfl);all_goals first
    |(go_ret
      refine⟨oB ?_,rfl⟩;rw[c.o];refine(rb (k:=k+1) ?_).symm;rw[l.o];simp at *;omega)
    |(refine⟨⟨k+1,by omega,by go_num,?_⟩,by simp[intOf];omega⟩
      rw[l.o];simp at *;omega)
  go_wp2;go_ret;exact⟨oB (by rw[c.o,<-d.o,Ra (by simp;omega)]),rfl⟩
def cQ(s:pB)(w:fA)(f:s.size<=1000000000):
 cF 87 #[pA s] w (pA (gN s)):=by
 have d:cB (∀W,cF 49 #[aB 1,aB (s.size:Nat)] W (pA (tB 1 (s.size:Nat)))):=λW=>mD 1 (s.size:Nat) W (by omega) (by omega) (by omega);have g:=nB 1 (s.size:Nat);unfold gN;generalize tB 1 (s.size:Nat)=N at *;go_enter func87,ntmps87;go_wp2_with fail;apply jC (d.o _);intro h a;have c:cB _:=a;clear a;go_wp2;go_ret;exact⟨rfl,c.o⟩
def gO(s:pB)(w:fA)(f:s.size<=1000000000):
 cF 57 #[pA s] w (pA (dG s)):=by
 have d:cB (∀W,cF 49 #[aB 2,aB (s.size:Nat)] W (pA (tB 2 (s.size:Nat)))):=λW=>mD 2 (s.size:Nat) W (by omega) (by omega) (by omega);have g:=nB 2 (s.size:Nat);unfold dG;generalize tB 2 (s.size:Nat)=N at *;go_enter func57,ntmps57;go_wp2_with fail;apply jC (d.o _);intro h a;have c:cB _:=a;clear a;go_wp2;go_ret;exact⟨rfl,c.o⟩
def GN(v:Int):Prop:=-9223372036854775808<=v/\v<=9223372036854775807
def aAw(a:List kB):Prop:=∀i(h:i<zA a),GN a[i].n
def um(a:List gB):Prop:=∀i(h:i<zA a),GN a[i].L/\aAw a[i].M/\aAw a[i].Z
def OA(p:kB):pB:=dG p.s++tB 8 p.n
def xG:List kB->pB
 |[]=>lA
 |p::q=>OA p++xG q
def WY(a:List kB):Prop:=∀i(h:i<zA a),a[i].s.size<=65535
def xK(t:gB):Prop:=t.N.size<=255/\WY t.M/\WY t.Z
def MR(t:gB):pB:=gN t.N++tB 8 t.L++tB 4 (zA t.M:Nat)
def mU(t:gB):pB:=MR t++xG t.M++tB 4 (zA t.Z:Nat)++xG t.Z
def wF:List gB->pB
 |[]=>lA
 |t::q=>mU t++wF q
def ckB:pB:=⟨#[67,75,80,84]⟩
def GB(a b:Int)(n:Nat):pB:=ckB++tB 8 a++tB 8 b++tB 4 (n:Nat)
def LI(a:Int)(b:List gB):Prop:=0<=a/\a<=1000000000000000/\∀i(h:i<zA b),xK b[i]
def iN(a b:Int)(c:List gB):pB:=GB a b (zA c)++wF c
def aNt(a:Int)(b:List gB):Decidable (LI a b):=by unfold LI xK WY;exact inferInstance
def yN(a b:Int)(c:List gB):pB:=haveI:=aNt a c;if LI a c then iN a b c++tB 4 (pL (iN a b c):Nat) else lA
def MP{a b:Int}{c:List gB}(h:LI a c):yN a b c=iN a b c++tB 4 (pL (iN a b c):Nat):=by unfold yN;rw[Ma h]
def MO{a b:Int}{c:List gB}(h:¬LI a c):yN a b c=lA:=by unfold yN;rw[Ja h]
def EF:∀(a b:List kB),xG (a++b)=xG a++xG b
 |[],b=>by simp[xG]
 |r::q,b=>by
  show OA r++xG (q++b)=OA r++xG q++xG b;rw[EF q b,Wa]
def OB(a:List kB)(k:Nat)(h:k<zA a):xG (a.take (k+1))=xG (a.take k)++OA a[k]:=by
 rw[Pa h,EF];simp[xG]
def uR:∀(a b:List gB),wF (a++b)=wF a++wF b
 |[],b=>by simp[wF]
 |r::q,b=>by
  show mU r++wF (q++b)=mU r++wF q++wF b;rw[uR q b,Wa]
def OC(a:List gB)(k:Nat)(h:k<zA a):wF (a.take (k+1))=wF (a.take k)++mU a[k]:=by
 rw[Pa h,uR];simp[wF]
def wg(p:kB):(OA p).size=10+p.s.size:=by
 unfold OA;rw[Ka,eF,nB];omega
theorem BV:∀(a:List kB),(xG a).size=10*zA a+fE a
 |[]=>rfl
 |p::q=>by
  show(OA p++xG q).size=_;rw[Ka,wg,BV q];show _=10*(zA q+1)+(p.s.size+fE q)
  omega
theorem ak(t:gB):(MR t).size=13+t.N.size:=by grind [MR,sF,nB]
def UM(t:gB):(mU t).size=17+t.N.size+10*zA t.M+fE t.M+10*zA t.Z+fE t.Z:=by grind [mU,fE,ak,BV,nB]
def GC(a b:Int)(n:Nat):(GB a b n).size=24:=by
 unfold GB;rw[Ka,Ka,Ka,nB,nB,nB];rfl
def tk{c:List gB}{k:Nat}(e:k<zA c)(h:¬xK c[k])(a b:Int):yN a b c=lA:=MO λd=>h (d.2.2 k e)
def dN(w:fA)(B:Nat)(v:jA)(s:pB):Prop:=
 ∃g a b c,v=qA (vB g) s.size a/\B<=g/\w.heap[g]?=cA (xA b 5 c)/\(c.2=0\/a<=c.1)/\s.size<=a/\a<=maxLen/\b.size=a/\b.toList.take s.size=Lib.strCells s
def dN.z{w d:fA}{B:Nat}{v:jA}{s:pB}(h:dN w B v s)(k:xB w d):dN d B v s:=by
 obtain⟨g,a,b,e,f,i,c,j⟩:=h;exact⟨g,a,b,e,f,i,(k.block g (bB c)).trans c,j⟩
def dN.mono{w:fA}{B B':Nat}{v:jA}{s:pB}(h:dN w B v s)(i:B'<=B):dN w B' v s:=by
 obtain⟨g,a,b,c,d,e,f⟩:=h;exact⟨g,a,b,c,d,Ua i e,f⟩
def dN.lt{w:fA}{B:Nat}{v:jA}{s:pB}(h:dN w B v s):∃g,v.ownBlock=cA g/\B<=g/\g<w.1.size:=by
 obtain⟨g,a,b,e,rfl,c,d,f⟩:=h;exact⟨g,rfl,c,bB d⟩
def rX(a b:pB):Lib.strCells (a++b)=Lib.strCells a++Lib.strCells b:=by simp[Lib.strCells]
theorem qj(P:Program)(g o:Nat)(t:TypeId)(b:Nat×Nat)(d:List Value):∀(i:Nat)(a:Array Value)(w:World),w.heap[g]?=some (.cells a t b)->(b.2=0\/a.size<=b.1)->o+i+d.length<=a.size->(∀v∈d,v.oneCell'=true)->
 (storeCells (eB g o) d i).run P w=.ok () (w.setRow g (a.toList.take (o+i)++d++a.toList.drop (o+i+d.length)).toArray):=by
 induction d with
 |nil=>
  intro i a w c _ _ _;rw[storeCells,Cd,List.length_nil,Bg,Za,Array.toArray_toList,setRow_self w g a t b c];rfl
 |cons v q s=>
  intro i a w c f n k;rw[Zb]at n;have l:((eB g o):Addr).add i=(eB g (o+i)):=by unfold Addr.add;split<;>simp_all
  have m:w.cell? (eB g (o+i))=some (a[o+i]'(by omega)):=by rw[cell_of_row w g _ a t b c];exact Qc (by omega)
  have j:w.frozen? (eB g (o+i))=false:=by
   unfold World.frozen?;rw[c];obtain f|f:=f
   .rw[Gg];exact La (Ub (by show ¬o+i<b.2;omega))
   .rw[Gg];exact Ca (Ub (by show ¬b.1<=o+i;omega))
  have p:(store (((eB g o):Addr).add i) v).run P w=.ok () (w.setRow g (a.setIfInBounds (o+i) v)):=by
   rw[l,run_store P w _ v _ (k v (Kc ..)),m];simp[j,setCell_eq_setRow w g (o+i) a t b v c]
  have h:=s (i+1) (a.setIfInBounds (o+i) v) (w.setRow g (a.setIfInBounds (o+i) v)) (setRow_heap w g a _ t _ c) (by simpa using f) (by simp;omega) (λx r=>k x (Sb _ r));rw[storeCells,Sem.run_bind,p,Result.andThen_ok,h,setRow_setRow];congr 3;have e:=list_seg_step a.toList (o+i) v q (by simp;omega);simpa[Jf,Nat.add_assoc]using e
def tU(w:fA)(B:Nat)(v:jA)(s x:pB)(I:kA)(m:dN w B v s)(J:B<=w.1.size)(S:s.size+x.size<=140737488355328):
 ∃r G,(Builtin.append_ #[22,9] I #[v,pA x]).run prog w=.ok r G/\dN G B r (s++x)/\w.grownBy G v.ownBlock/\(r.ownBlock=v.ownBlock\/r.ownBlock=cA w.1.size):=by
 obtain⟨R,o,E,p,F⟩:=MI;obtain⟨g,a,b,H,rfl,y,d,i,M,z,A,l⟩:=m;have c:(s++x).size=s.size+x.size:=Ka;by_cases h:s.size+x.size<=a
 .have L:=Lib.run_firstCells_string (P:=prog) w 1 x;have n:=qj prog g s.size 5 H (Lib.strCells x) 0 b w d (by rw[A];exact i) (by rw[Lib.strCells_length];omega) (Lib.strCells_oneCell x);simp only[Bg,Lib.strCells_length]at n;refine⟨qA (vB g) (s.size+x.size) a,w.setRow g (b.toList.take s.size++Lib.strCells x++b.toList.drop (s.size+x.size)).toArray,?_,?_,⟨rfl,rfl,rfl,by simp,λk _ C=>setRow_other w g k _ (λe=>C (by simp[jA.ownBlock,e]))⟩,Ca rfl⟩
  .simp[Builtin.append_,run_underlying underlying22,run_underlying underlying9,sizeOf,typeInfo,o,p,Builtin.lenOf,h,L,Addr.add_lit,n]
  refine ⟨g,a,_,H,by rw[c],y,setRow_heap w g b _ _ _ d,i,by omega,z,?_,?_⟩;simp only[List.size_toArray,Kb,Hb,Rc,Qg,Lib.strCells_length];omega;rw[l,c,rX];have D:zA (Lib.strCells s++Lib.strCells x)=s.size+x.size:=by rw[Kb,Lib.strCells_length,Lib.strCells_length]
  rw[<-D];exact List.take_left
 have f:∀j u,(Lib.strCells s)[j]?=cA u->w.cell? (((eB g 0):Addr).add j)=cA u:=λj u q=>by
  have K:((eB g 0):Addr).add j=(eB g j):=by unfold Addr.add;split<;>simp_all
  rw[K,cell_of_row w g j b _ _ d];rw[<-l,Ye]at q;split at q;simpa using q
  cases q
 have Q:=Lib.run_append_grow_string (P:=prog) w 22 9 I 5 R (.int .u8 0) underlying22 underlying9 o E (eB g 0) s.size a (Lib.strCells s) (by rw[p,Lib.strCells_length,Nat.mul_one]) f x (by omega) (by omega) (by rw[F];exact growslice_fits (by omega) (by omega));have N:=grownCap_ge w (s.size+x.size) a 5;have t:=grownCap_le_maxLen w (s.size+x.size) a 5 (by unfold maxLen;omega);refine⟨_,_,Q,⟨w.1.size,_,_,(0,0),by rw[c],J,heap_alloc_new w.drew _,Ca rfl,by omega,t,?_,?_⟩,⟨rfl,rfl,rfl,by simp,λk C _=>heap_alloc_old w.drew _ C⟩,La rfl⟩;have O:(jA.int IntKind.u8 0).cells.size=1:=rfl;simp only[Array.size_append,List.size_toArray,size_zeroCells,O,Lib.strCells_length];omega;rw[c,rX];have D:zA (Lib.strCells s++Lib.strCells x)=s.size+x.size:=by rw[Kb,Lib.strCells_length,Lib.strCells_length]
 simp only[Array.toList_append,Nd];rw[<-Nd,<-D];exact List.take_left
def ZJ(w:fA)(B:Nat)(v:jA)(s x:pB)(d:kA)(a:dN w B v s)(h:B<=w.1.size)(i:s.size+x.size<=140737488355328):
 ∃c b,(Builtin.append_ #[22,9] d #[v,pA x]).run prog w=.ok c b/\dN b B c (s++x)/\w.grownBy b v.ownBlock:=by
 obtain⟨c,b,e,f,g,_⟩:=tU w B v s x d a h i;exact⟨c,b,e,f,g⟩
def SW(w:fA){d:Array Oper}{o:Oper}{a:Act}{K:Act->fA->Prop}{Q:Exit->Act->fA->Prop}{E:Prop}(i:o.guard=aA)(h x:Operand)
(A:o.op=.call { callee:=.builtin .append,args:=#[h,x],argTypes:=#[22,9] })
(B:Nat)(v:jA)(s t:pB)(D:a.eval h=v)(b:dN w B v s)(F:a.eval x=pA t)(n:B<=w.1.size)(G:s.size+t.size<=140737488355328)
(h:∀f c,dN c B f (s++t)->gA B w c->(∀k,k<w.1.size->v.ownBlock≠cA k->c.heap[k]?=w.heap[k]?)->K (a.put o.dst f) c):
 if Region.wanted o (yielded d a.tmps)=eA then Oper.wp prog o a w K Q else E:=by
 have m:Region.wanted o (yielded d a.tmps)=eA:=by simp[Region.wanted,i]
 rw[Ma m];obtain⟨f,c,C,r,m⟩:=ZJ w B v s t o.type b n G;have j:=b.lt;have u:=h f c r ((gA.refl B w).grown m n (λq p=>by obtain⟨g,e,y,_⟩:=j;rw[e]at p;cases p;exact y)) (λk z l=>m.block k z (λe=>l e.symm));unfold Oper.wp execOp;simp only[A,resolve,invoke,builtin,Sem.run_bind,Sem.run_pure,Result.andThen_ok,Hg,Fc,Ag,D,F,C];exact u
def bP(w:fA){f:Array Oper}{o:Oper}{a:Act}{K:Act->fA->Prop}{Q:Exit->Act->fA->Prop}{E:Prop}(j:o.guard=aA)(h x:Operand)
(C:o.op=.call { callee:=.builtin .append,args:=#[h,x],argTypes:=#[22,9] })
(B:Nat)(v:jA)(s t:pB)(F:a.eval h=v)(b:dN w B v s)(G:a.eval x=pA t)(n:B<=w.1.size)(H:s.size+t.size<=140737488355328)
(h:∀d c,dN c B d (s++t)->gA B w c->(∀k,k<w.1.size->v.ownBlock≠cA k->c.heap[k]?=w.heap[k]?)->(d.ownBlock=v.ownBlock\/d.ownBlock=cA w.1.size)->w.1.size<=c.1.size->K (a.put o.dst d) c):
 if Region.wanted o (yielded f a.tmps)=eA then Oper.wp prog o a w K Q else E:=by
 have m:Region.wanted o (yielded f a.tmps)=eA:=by simp[Region.wanted,j]
 rw[Ma m];obtain⟨d,c,D,r,i,u⟩:=tU w B v s t o.type b n H;have l:=b.lt;have y:=h d c r ((gA.refl B w).grown i n (λq p=>by obtain⟨g,e,z,_⟩:=l;rw[e]at p;cases p;exact z)) (λk A m=>i.block k A (λe=>m e.symm)) u i.size;unfold Oper.wp execOp;simp only[C,resolve,invoke,builtin,Sem.run_bind,Sem.run_pure,Result.andThen_ok,Hg,Fc,Ag,F,G,D];exact y
def rK(w:fA){i:Array Oper}{c:List Oper}{o:Oper}{a:Act}{Q:Exit->Act->fA->Prop}(l:o.guard=aA)(h x:Operand)
(E:o.op=.call { callee:=.builtin .append,args:=#[h,x],argTypes:=#[22,9] })
(B:Nat)(v:jA)(s t:pB)(G:a.eval h=v)(b:dN w B v s)(H:a.eval x=pA t)(p:B<=w.1.size)(I:s.size+t.size<=140737488355328)
(h:∀f d,dN d B f (s++t)->gA B w d->(∀k,k<w.1.size->v.ownBlock≠cA k->d.heap[k]?=w.heap[k]?)->(f.ownBlock=v.ownBlock\/f.ownBlock=cA w.1.size)->w.1.size<=d.1.size->wpList prog i Q c (a.put o.dst f) d):
 wpList prog i Q (o::c) a w:=by
 refine wpList_plain l λK z=>?_;obtain⟨f,d,F,u,j,y⟩:=tU w B v s t o.type b p I;have m:=b.lt;have C:=h f d u ((gA.refl B w).grown j p (λq r=>by obtain⟨g,e,A,_⟩:=m;rw[e]at r;cases r;exact A)) (λk D n=>j.block k D (λe=>n e.symm)) y j.size;unfold Oper.wp execOp;simp only[E,resolve,invoke,builtin,Sem.run_bind,Sem.run_pure,Result.andThen_ok,Hg,Fc,Ag,G,H,F];exact z _ _ C
def XM(w:fA)(s:pB)(f:s.size<=140737488355328):∃v d,(convert 9 22 (pA s)).run prog w=.ok v d/\dN d w.1.size v s/\xB w d:=by
 refine⟨_,_,run_bytes_of_string w _ _ 5 s underlying9 underlying22 underlying5,?_,(gA.refl _ w).drew.alloc (by simp) _⟩;have c:=grownCap_ge w s.size 0 5;have b:=grownCap_le_maxLen w s.size 0 5 (by unfold maxLen;omega);have a:(bytesRow s (grownCap w s.size 0 5)).size=grownCap w s.size 0 5:=by
  unfold bytesRow;rw[Array.size_append,Array.size_map,Array.size_replicate];show s.size+_=_;omega
 refine⟨w.1.size,_,_,_,rfl,Ia _,heap_alloc_new w.drew _,La (by rw[a];exact Ia _),c,b,a,?_⟩;have e:=Lib.strCells_length s;unfold bytesRow;rw[Array.toList_append,Array.toList_map];conv=>lhs;arg 1;rw[<-e]
 exact List.take_left
def DZ(s:pB)(a:s.size<=140737488355328):∃(V:fA->jA)(N:fA->fA),(∀w,(convert 9 22 (pA s)).run prog w=.ok (V w) (N w))/\∀w,dN (N w) w.1.size (V w) s/\xB w (N w):=
 ⟨λw=>Classical.choose (XM w s a),λw=>Classical.choose (Me (XM w s a)),λw=>(Me (Me (XM w s a))).1,λw=>(Me (Me (XM w s a))).2⟩
def BN{w:fA}{B:Nat}{v:jA}{s:pB}(h:dN w B v s):(convert 22 9 v).run prog w=.ok (pA s) w:=by
 obtain⟨g,b,a,k,rfl,l,e,m,n,o,p,f⟩:=h;have:=run_convert_bytes_back w 22 9 5 (eB g 0) b s.data.toList underlying22 underlying5 underlying9 (λj d=>by
  have i:((eB g 0):Addr).add j=(eB g j):=by unfold Addr.add;split<;>simp_all
  rw[i,cell_of_row w g j a _ _ e,<-Yd];have c:j<s.size:=by simpa using d
  have:(a.toList.take s.size)[j]?=(Lib.strCells s)[j]?:=by rw[f]
  rw[Jb c]at this;rw[this,Lib.strCells,Se,Va d];rfl)
 simpa using this
def cV(x:Nat):Nat:=if x % 2=1 then(x / 2) ^^^ 2197175160 else x / 2
def rO(x:Nat):Nat->Nat
 |0=>x
 |k+1=>cV (rO x k)
def mi(i:Nat):Nat:=rO i 8
def aBu{x:Nat}(h:x<4294967296):cV x<4294967296:=by
 unfold cV;split;exact Qd (n:=32) (by omega) (by omega);omega
def UF{x:Nat}(h:x<4294967296):∀k,rO x k<4294967296
 |0=>h
 |k+1=>aBu (UF h k)
def aGq{i:Nat}(h:i<256):mi i<4294967296:=UF (by omega) 8
def uf(a b:Nat):(a ^^^ b) % 2=(a+b) % 2:=by
 have:=Nat.xor_mod_two_eq_one (a:=a) (b:=b);omega
def vq(r x:Nat):cV (r ^^^ x)=mY r x ^^^ (x / 2):=by
 unfold cV mY;rw[uf,Nat.xor_div_two];split;rw[Nat.xor_assoc,Nat.xor_comm (x / 2),<-Nat.xor_assoc];rfl
def JR(r b:Nat):∀k,rO (r ^^^ b) k=lQ r b k ^^^ (b / 2 ^ k)
 |0=>by simp[rO,lQ]
 |k+1=>by
  show cV (rO (r ^^^ b) k)=mY (lQ r b k) (b / 2 ^ k) ^^^ (b / 2 ^ (k+1));rw[JR r b k,vq,Fg,Od]
def mh(x z:Nat):cV (x ^^^ (2*z))=cV x ^^^ z:=by
 unfold cV;rw[uf,Nat.xor_div_two,show(x+2*z) % 2=x % 2 by omega,show 2*z / 2=z by omega];split;rw[Nat.xor_assoc,Nat.xor_comm z,<-Nat.xor_assoc];rfl
def JS(x z:Nat):∀k,rO (x ^^^ (2 ^ k*z)) k=rO x k ^^^ z
 |0=>by simp[rO]
 |k+1=>by
  show cV (rO (x ^^^ (2 ^ (k+1)*z)) k)=cV (rO x k) ^^^ z;rw[Od,Nat.mul_assoc,JS x (2*z) k,mh]
def vr(r:Nat):r=(r % 256) ^^^ (256*(r / 256)):=by
 have h:256*(r / 256)+r % 256=(2 ^ 8*(r / 256)) ||| (r % 256):=Ef (i:=8) (b:=r % 256) (by omega) (r / 256)
 have c:(r % 256) ^^^ (256*(r / 256))=(2 ^ 8*(r / 256)) ||| (r % 256):=by
  apply Nat.eq_of_testBit_eq;intro i;rw[Nat.testBit_xor,Nat.testBit_or,show 256*(r / 256)=2 ^ 8*(r / 256) from rfl,Nat.testBit_two_pow_mul,show r % 256=r % 2 ^ 8 from rfl,Nat.testBit_mod_two_pow];by_cases a:i<8
  .simp[a,Nat.not_le.2 a]
  simp[a,Nat.not_lt.1 a]
 omega
def vs(r b:Nat)(d:b<256):lQ r b 8=(r / 256) ^^^ mi ((r % 256) ^^^ b):=by
 have a:=JR r b 8;rw[show b / 2 ^ 8=0 by omega,Nat.xor_zero]at a;rw[<-a];have c:=JS ((r % 256) ^^^ b) (r / 256) 8;rw[show((r % 256) ^^^ b) ^^^ (2 ^ 8*(r / 256))=r ^^^ b by
  rw[Nat.xor_assoc,Nat.xor_comm b,<-Nat.xor_assoc,show(2 ^ 8*(r / 256))=256*(r / 256) from rfl,<-vr r]]at c
 rw[c,Nat.xor_comm];rfl
