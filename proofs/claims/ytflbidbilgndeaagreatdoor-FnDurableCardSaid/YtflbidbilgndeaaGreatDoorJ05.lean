import Derived.Test.YtflbidbilgndeaaGreatDoorJ04
set_option maxRecDepth 100000
set_option maxHeartbeats 2000000
set_option linter.defProp false
open Option renaming some->bA,none->aA
open Bool renaming false->cA,true->dA
open ByteArray renaming empty->kA
open List renaming length->yA
namespace Go.Proofs.YtflbidbilgndeaaGreatDoor
open Go renaming World->eA,TypeId->jA,Value->iA
open Value renaming string->oA,slice->pA
open Obj renaming cells->vA
open RowKit renaming Below->fA
open Go.RowKit Tryz
structure kB where
 s:jB
 n:Int
def NT(w:eA)(b o:Nat)(a:List kB):Prop:=
 ∀i(h:i<yA a),w.cell? (dB b (o+i*2))=bA (oA a[i].s)/\w.cell? (dB b (o+i*2+1))=bA (zA a[i].n)
def jC(w:eA)(a:mC)(c:List kB):Prop:=c=[]\/∃b o,a=bA (dB b o)/\b<w.1.size/\NT w b o c
def jC.z{w f:eA}{a:mC}{e:List kB}(h:jC w a e)(d:uB w f):jC f a e:=by
 obtain h|⟨b,o,rfl,c,h⟩:=h;exact Ca h;refine La ⟨b,o,rfl,Bb c d.size,λi k=>?_⟩;obtain⟨g,j⟩:=h i k;exact⟨by rw[<-g];exact d.cell c,by rw[<-j];exact d.cell c⟩
def jC.at{w:eA}{a:mC}{c:List kB}(h:jC w a c){i:Nat}(e:i<yA c):
 ∃b o,a=bA (dB b o)/\b<w.1.size/\w.cell? (dB b (o+i*2))=bA (oA c[i].s)/\w.cell? (dB b (o+i*2+1))=bA (zA c[i].n):=by
 obtain rfl|⟨b,o,rfl,d,h⟩:=h;exact absurd e (by simp);exact ⟨b,o,rfl,d,h i e⟩
def fD(w:eA)(B:Nat)(a:mC)(c:List kB):Prop:=
 c=[]\/∃g o b t,a=bA (dB g o)/\B<=g/\w.heap[g]?=bA (vA b t (0,0))/\NT w g o c
def fD.pairs{w:eA}{B:Nat}{a:mC}{b:List kB}(h:fD w B a b):jC w a b:=by grind [fD,jC]
def fD.z{w d:eA}{B:Nat}{a:mC}{k:List kB}(h:fD w B a k)(e:uB w d):fD d B a k:=by
 obtain h|⟨g,o,c,t,rfl,l,f,h⟩:=h;exact Ca h;have b:=aB f;have n:∀j,d.cell? (dB g j)=w.cell? (dB g j):=λj=>eA.cell?_of_block (e.block g b);exact La ⟨g,o,c,t,rfl,l,(e.block g b).trans f,λi m=>by simp only[n];exact h i m⟩
def fD.mono{w:eA}{B B':Nat}{a:mC}{b:List kB}(h:fD w B a b)(c:B'<=B):fD w B' a b:=by grind [fD]
def oD{w:eA}{B:Nat}{e:jA}{a:mC}{d:Nat}{l:List kB}
(h:w.ownsRow B e 2 (pA a (yA l) d) (yA l) (l.flatMap λx=>[oA x.s,zA x.n])):fD w B a l:=by
 obtain⟨_,v⟩|⟨g,m,b,p,q,f,_,_,y,k⟩:=h.2;exact Ca (Nb.1 v);simp only[iA.slice.injEq]at p;have t:∀(l:List kB) i(c:i<yA l),(l.flatMap λx=>[iA.string x.s,zA x.n])[i*2]?=bA (oA l[i].s)/\(l.flatMap λx=>[iA.string x.s,zA x.n])[i*2+1]?=bA (zA l[i].n):=by
  intro l;induction l with
  |nil=>intro i c;exact absurd c (by simp)
  |cons x r z=>
   intro i c;cases i with
   |zero=>simp
   |succ i=>
    have:=z i (by simpa using c);simp only[Xc,Sd,Mb,Ec];rw[show(i+1)*2=i*2+1+1 by omega,Ga,Ga,Ga,Ga];exact this
 refine La ⟨g,0,b,e,p.1,q,f,λi c=>?_⟩;have o:∀j,j<yA l*2->b[j]?=(l.flatMap λx=>[iA.string x.s,zA x.n])[j]?:=λj u=>by
  rw[<-k,Jb u,Yd]
 rw[cell_of_row w g _ b _ _ f,cell_of_row w g _ b _ _ f,Ya,o _ (by omega),o _ (by omega)];exact t l i c
def gE:List kB->Nat
 |[]=>0
 |f::r=>f.s.size+gE r
def tY(a b:List kB):gE (a++b)=gE a+gE b:=by induction a<;>grind [gE]
def eU(a:List kB)(k:Nat)(h:k<yA a):gE (a.take (k+1))=gE (a.take k)+a[k].s.size:=by
 rw[Pa h,tY];simp[gE]
def fQ(a:List kB)(k:Nat):gE (a.take k)<=gE a:=by
 have:=tY (a.take k) (a.drop k);rw[Za]at this;omega
def nK(a:List kB)(k:Nat)(h:k<yA a):a[k].s.size<=gE a:=by
 have b:=eU a k h;have c:=fQ a (k+1);omega
def nB.new(w:eA)(cs:Array iA)(t:jA):nB (w.alloc (vA cs t)) w.1.size cs t:=heap_alloc_new _ _
def nB.alloc{w:eA}{g:Nat}{a:Array iA}{t:jA}(h:nB w g a t)(o:Obj):nB (w.alloc o) g a t:=h.z zB
def nB.but{w d:eA}{g c:Nat}{a:Array iA}{t:jA}(h:nB w g a t)(e:qD c w d)(b:g≠c):nB d g a t:=(e.block g (aB h) b).trans h
def BH{C:eA->Prop}{w:eA}{cs:Array iA}{t:jA}(k:∀W,uB w W->nB W w.1.size cs t->C W):C (w.alloc (vA cs t)):=
 k _ zB (nB.new w _ _)
def eI{C:eA->Prop}{w:eA}{cs:Array iA}{t:jA}(k:∀W,uB w W->nB W w.1.size cs t->W.1.size=w.1.size+1->C W):C (w.alloc (vA cs t)):=
 k _ zB (nB.new w _ _) (by simp)
def uK{w a:eA}{cs:Array iA}{t:jA}(h:fA (w.alloc (vA cs t)).drew.1.size (w.alloc (vA cs t)).drew a):nB a w.1.size cs t:=(nB.new w cs t).z ⟨h.os,h.tape,h.output,h.size,h.block⟩
structure fB where
 N:jB
 L:Int
 M:List kB
 Z:List kB
def VH(w:eA)(b o:Nat)(t:fB):Prop:=
 ∃a d c e,w.cell? (dB b o)=bA (oA t.N)/\w.cell? (dB b (o+1))=bA (zA t.L)/\w.cell? (dB b (o+2))=bA (pA a (yA t.M) d)/\w.cell? (dB b (o+3))=bA (pA c (yA t.Z) e)/\
  jC w a t.M/\jC w c t.Z
def aMd(w:eA)(b o:Nat)(a:List fB):Prop:=∀i(h:i<yA a),VH w b (o+i*4) a[i]
def xC(w:eA)(a:mC)(c:List fB):Prop:=c=[]\/∃b o,a=bA (dB b o)/\b<w.1.size/\aMd w b o c
def VH.z{w d:eA}{b o:Nat}{t:fB}(h:VH w b o t)(a:b<w.1.size)(c:uB w d):VH d b o t:=by
 obtain⟨e,g,f,i,j,k,l,m,n,p⟩:=h;exact⟨e,g,f,i,(c.cell a).trans j,(c.cell a).trans k,(c.cell a).trans l,(c.cell a).trans m,n.z c,p.z c⟩
def xC.z{w f:eA}{a:mC}{e:List fB}(h:xC w a e)(d:uB w f):xC f a e:=by
 obtain h|⟨b,o,rfl,c,h⟩:=h;exact Ca h;exact La ⟨b,o,rfl,Bb c d.size,λi g=>(h i g).z c d⟩
def xC.at{w:eA}{a:mC}{c:List fB}(h:xC w a c){i:Nat}(k:i<yA c):
 ∃b o d f e g,a=bA (dB b o)/\b<w.1.size/\w.cell? (dB b (o+i*4))=bA (oA c[i].N)/\w.cell? (dB b (o+i*4+1))=bA (zA c[i].L)/\
  w.cell? (dB b (o+i*4+2))=bA (.slice d (yA c[i].M) f)/\w.cell? (dB b (o+i*4+3))=bA (.slice e (yA c[i].Z) g)/\jC w d c[i].M/\jC w e c[i].Z:=by
 obtain rfl|⟨b,o,rfl,j,h⟩:=h;exact absurd k (by simp);obtain ⟨d,f,e,g,h⟩:=h i k;exact⟨b,o,d,f,e,g,rfl,j,h⟩
def aF(w:eA)(B:Nat)(T:Nat->Nat)(n:Nat)(a:mC)(c:List kB):Prop:=
 c=[]\/∃g o b t,a=bA (dB g o)/\B<=g/\T g=n/\w.heap[g]?=bA (vA b t (0,0))/\NT w g o c
def aF.pairs{w:eA}{B n:Nat}{T:Nat->Nat}{a:mC}{b:List kB}(h:aF w B T n a b):jC w a b:=by grind [aF,jC]
def aF.own{w:eA}{B n:Nat}{T:Nat->Nat}{a:mC}{b:List kB}(h:aF w B T n a b):fD w B a b:=by grind [aF,fD]
def aF.keep{w w':eA}{B n:Nat}{T c:Nat->Nat}{a:mC}{l:List kB}(h:aF w B T n a l)
(s:∀g,g<w.1.size->B<=g->T g=n->w'.heap[g]?=w.heap[g]?/\c g=n):aF w' B c n a l:=by
 obtain h|⟨g,o,b,t,e,f,p,k,h⟩:=h;exact Ca h;obtain ⟨d,m⟩:=s g (aB k) f p;have q:∀j,w'.cell? (dB g j)=w.cell? (dB g j):=λj=>eA.cell?_of_block d;exact La ⟨g,o,b,t,e,f,m,d.trans k,λi r=>by simp only[q];exact h i r⟩
def DO(w:eA)(B:Nat)(T:Nat->Nat)(i b o:Nat)(t:fB):Prop:=
 ∃a d c e,w.cell? (dB b o)=bA (oA t.N)/\w.cell? (dB b (o+1))=bA (zA t.L)/\w.cell? (dB b (o+2))=bA (pA a (yA t.M) d)/\w.cell? (dB b (o+3))=bA (pA c (yA t.Z) e)/\
  aF w B T (2*i+1) a t.M/\aF w B T (2*i+2) c t.Z
def cD(w:eA)(B:Nat)(a:mC)(c:List fB):Prop:=
 c=[]\/∃g o b t T,a=bA (dB g o)/\B<=g/\w.heap[g]?=bA (vA b t (0,0))/\T g=0/\∀i(h:i<yA c),DO w B T i g (o+i*4) c[i]
def DO.at{w:eA}{B i b o:Nat}{T:Nat->Nat}{t:fB}(h:DO w B T i b o t):VH w b o t:=by
 obtain⟨a,d,c,e,f,g,j,k,l,m⟩:=h;exact⟨a,d,c,e,f,g,j,k,l.pairs,m.pairs⟩
def cD.tens{w:eA}{B:Nat}{a:mC}{b:List fB}(h:cD w B a b):xC w a b:=by
 obtain h|⟨g,o,c,t,T,rfl,_,d,_,h⟩:=h;exact Ca h;exact La ⟨g,o,rfl,aB d,λi e=>(h i e).at⟩
def DO.keep{w w':eA}{B i b o:Nat}{T l:Nat->Nat}{t:fB}(h:DO w B T i b o t)(c:∀j,j<4->w'.cell? (dB b (o+j))=w.cell? (dB b (o+j)))
(m:∀g,g<w.1.size->B<=g->(T g=2*i+1\/T g=2*i+2)->w'.heap[g]?=w.heap[g]?/\l g=T g):DO w' B l i b o t:=by
 obtain⟨n,q,p,r,s,u,v,x,y,z⟩:=h;refine⟨n,q,p,r,(c 0 (by omega)).trans s,(c 1 (by omega)).trans u,(c 2 (by omega)).trans v,(c 3 (by omega)).trans x,y.keep λg e d a=>?_,z.keep λg e d a=>?_⟩;obtain ⟨f,k⟩:=m g e d (Ca a);exact⟨f,k.trans a⟩;obtain ⟨f,k⟩:=m g e d (La a);exact⟨f,k.trans a⟩
def cD.z{w l:eA}{B:Nat}{a:mC}{k:List fB}(h:cD w B a k)(d:uB w l):cD l B a k:=by
 obtain h|⟨g,o,c,t,T,rfl,n,f,p,h⟩:=h;exact Ca h;have b:=aB f;exact La ⟨g,o,c,t,T,rfl,n,(d.block g b).trans f,p,λi q=>(h i q).keep (λj _=>eA.cell?_of_block (d.block g b)) λm e _ _=>⟨d.block m e,rfl⟩⟩
def jF(t:fB):Nat:=t.N.size+(yA t.M+gE t.M)+(yA t.Z+gE t.Z)
def cC:List fB->Nat
 |[]=>0
 |f::r=>jF f+cC r
def yY(a b:List fB):cC (a++b)=cC a+cC b:=by induction a<;>grind [cC]
def oK(a:List fB)(k:Nat)(h:k<yA a):cC (a.take (k+1))=cC (a.take k)+jF a[k]:=by
 rw[Pa h,yY];simp[cC]
def dN(a:List fB)(k:Nat):cC (a.take k)<=cC a:=by
 have:=yY (a.take k) (a.drop k);rw[Za]at this;omega
def mY(a:List fB)(k:Nat)(h:k<yA a):jF a[k]<=cC a:=by
 have b:=oK a k h;have c:=dN a (k+1);omega
def aCx(a:List fB):Prop:=∀i(h:i<yA a),a[i].N.size<=1000000000/\yA a[i].M<=2000000/\yA a[i].Z<=2000000/\(∀j(b:j<yA a[i].M),a[i].M[j].s.size<=1000000000)/\(∀j(b:j<yA a[i].Z),a[i].Z[j].s.size<=1000000000)
theorem yE:∀x:List UInt8,Op.bytesLess x x=cA
 |[]=>rfl
 |a::x=>by simp[Op.bytesLess,yE x]
theorem rJ:∀x y z:List UInt8,Op.bytesLess x y=dA->Op.bytesLess y z=dA->Op.bytesLess x z=dA
 |_,_,[],_,h=>by simp[Op.bytesLess]at h
 |_,[],_::_,h,_=>by simp[Op.bytesLess]at h
 |[],_::_,_::_,_,_=>by simp[Op.bytesLess]
 |a::x,b::y,c::z,e,d=>by
  simp only[Op.bytesLess,Fe,Sa,Ab,Lg]at e d |-
  obtain e|⟨rfl,e⟩:=e
  .rcases d with d|⟨rfl,_⟩
   .exact Ca (UInt8.lt_trans e d)
   exact Ca e
  obtain d|⟨rfl,d⟩:=d;exact Ca d;exact La ⟨rfl,rJ x y z e d⟩
theorem lK:∀x y:List UInt8,Op.bytesLess x y=cA->x≠y->Op.bytesLess y x=dA
 |[],[],_,h=>absurd rfl h
 |[],_::_,h,_=>by simp[Op.bytesLess]at h
 |_::_,[],_,_=>by simp[Op.bytesLess]
 |a::x,b::y,h,d=>by
  simp only[Op.bytesLess,Bool.or_eq_false_iff,Gg,Xe,Fe,Sa,Ab,Lg]at h |-
  obtain⟨f,c⟩:=h;by_cases e:a=b
  .subst e;obtain c|c:=c
   .simp at c
   exact La ⟨rfl,lK x y c (λe=>d (by rw[e]))⟩
  left;rcases UInt8.lt_or_lt_of_ne e with h|h;exact absurd h f;exact h
def eO{x y:List UInt8}(h:Op.bytesLess x y=dA):Op.bytesLess y x=cA:=by grind [rJ,yE]
theorem toList_inj{x y:jB}(h:x.toList=y.toList):x=y:=by
 have a:x.data.toList=y.data.toList:=by rw[<-ByteArray.toList_eq x,<-ByteArray.toList_eq y];exact h
 cases x;cases y
 simp only[ByteArray.mk.injEq];exact Array.toList_inj.1 a
structure dC where
 N:jB
 V:jB
def vP(w:eA)(b o:Nat)(a:List dC):Prop:=
 ∀i(h:i<yA a),w.cell? (dB b (o+i*2))=bA (oA a[i].N)/\w.cell? (dB b (o+i*2+1))=bA (oA a[i].V)
def sD(w:eA)(a:mC)(c:List dC):Prop:=c=[]\/∃b o,a=bA (dB b o)/\b<w.1.size/\vP w b o c
def sD.z{w f:eA}{a:mC}{e:List dC}(h:sD w a e)(d:uB w f):sD f a e:=by
 obtain h|⟨b,o,rfl,c,h⟩:=h;exact Ca h;refine La ⟨b,o,rfl,Bb c d.size,λi k=>?_⟩;obtain⟨g,j⟩:=h i k;exact⟨by rw[<-g];exact d.cell c,by rw[<-j];exact d.cell c⟩
def sD.at{w:eA}{a:mC}{c:List dC}(h:sD w a c){i:Nat}(e:i<yA c):
 ∃b o,a=bA (dB b o)/\b<w.1.size/\w.cell? (dB b (o+i*2))=bA (oA c[i].N)/\w.cell? (dB b (o+i*2+1))=bA (oA c[i].V):=by
 obtain rfl|⟨b,o,rfl,d,h⟩:=h;exact absurd e (by simp);exact ⟨b,o,rfl,d,h i e⟩
def oE(w:eA)(B:Nat)(a:mC)(c:List dC):Prop:=
 c=[]\/∃g o b t,a=bA (dB g o)/\B<=g/\w.heap[g]?=bA (vA b t (0,0))/\vP w g o c
def oE.B{w:eA}{B:Nat}{a:mC}{b:List dC}(h:oE w B a b):sD w a b:=by grind [oE,sD]
def oE.z{w d:eA}{B:Nat}{a:mC}{k:List dC}(h:oE w B a k)(e:uB w d):oE d B a k:=by
 obtain h|⟨g,o,c,t,rfl,l,f,h⟩:=h;exact Ca h;have b:=aB f;have n:∀j,d.cell? (dB g j)=w.cell? (dB g j):=λj=>eA.cell?_of_block (e.block g b);exact La ⟨g,o,c,t,rfl,l,(e.block g b).trans f,λi m=>by simp only[n];exact h i m⟩
def oE.mono{w:eA}{B B':Nat}{a:mC}{b:List dC}(h:oE w B a b)(c:B'<=B):oE w B' a b:=by grind [oE]
def gK{w:eA}{B:Nat}{e:jA}{a:mC}{d:Nat}{l:List dC}
(h:w.ownsRow B e 2 (pA a (yA l) d) (yA l) (l.flatMap λx=>[oA x.N,oA x.V])):oE w B a l:=by
 obtain⟨_,t⟩|⟨g,m,b,o,p,f,_,_,u,k⟩:=h.2;exact Ca (Nb.1 t);simp only[iA.slice.injEq]at o;have q:∀(l:List dC) i(c:i<yA l),(l.flatMap λx=>[iA.string x.N,oA x.V])[i*2]?=bA (oA l[i].N)/\(l.flatMap λx=>[iA.string x.N,oA x.V])[i*2+1]?=bA (oA l[i].V):=by
  intro l;induction l with
  |nil=>intro i c;exact absurd c (by simp)
  |cons x r v=>
   intro i c;cases i with
   |zero=>simp
   |succ i=>
    have:=v i (by simpa using c);simp only[Xc,Sd,Mb,Ec];rw[show(i+1)*2=i*2+1+1 by omega,Ga,Ga,Ga,Ga];exact this
 refine La ⟨g,0,b,e,o.1,p,f,λi c=>?_⟩;have n:∀j,j<yA l*2->b[j]?=(l.flatMap λx=>[iA.string x.N,oA x.V])[j]?:=λj s=>by
  rw[<-k,Jb s,Yd]
 rw[cell_of_row w g _ b _ _ f,cell_of_row w g _ b _ _ f,Ya,n _ (by omega),n _ (by omega)];exact q l i c
def bE:List dC->Nat
 |[]=>0
 |f::r=>f.N.size+f.V.size+bE r
def AF(a b:List dC):bE (a++b)=bE a+bE b:=by induction a<;>grind [bE]
def cV(a:List dC)(k:Nat)(h:k<yA a):bE (a.take (k+1))=bE (a.take k)+(a[k].N.size+a[k].V.size):=by
 rw[Pa h,AF];simp[bE]
def xR(a:List dC)(k:Nat):bE (a.take k)<=bE a:=by
 have:=AF (a.take k) (a.drop k);rw[Za]at this;omega
def sU(a:List dC):Prop:=∀i(h:i<yA a),a[i].N.size<=1000000000/\a[i].V.size<=1000000000
def jR(x:dC):List iA:=[oA x.N,oA x.V]
abbrev jZ(c:Nat):Prop:=(65<=c/\c<=90)\/(97<=c/\c<=122)\/c=95
abbrev PQ(c:Nat):Prop:=48<=c/\c<=57
abbrev CZ(s:jB)(i:Nat):Prop:=jZ (aD s i)\/(PQ (aD s i)/\0<i)
abbrev bj(s:jB):Prop:=1<=s.size/\s.size<=64/\∀i,i<s.size->CZ s i
def RO(s:jB):Bool:=decide (bj s)
def yR(l:dC):Nat:=if RO l.N=dA then qP l.V else 41
def jD:List dC->Nat->Option (Nat×Nat)
 |[],_=>aA
 |l::r,i=>if yR l=0 then jD r (i+1) else bA (yR l,i)
def iS(x l:dC):Bool:=x.N.toList==l.N.toList
def pF:List dC->List dC->Nat->Option Nat
 |_,[],_=>aA
 |a,l::r,i=>if a.any (λx=>iS x l)=dA then bA i else pF (a++[l]) r (i+1)
def RT:jB:=⟨#[95,95,110,97,109,101,95,95]⟩
def sP(l:dC):Bool:=l.N.toList==RT.toList
def wT(l:dC):Bool:=l.V.toList==ByteArray.empty.toList
def tP(x y:dC):Bool:=Op.bytesLess x.N.toList y.N.toList
def oL:List dC->jB
 |[]=>kA
 |l::r=>if sP l=dA then l.V else oL r
def zL(a:List dC):List dC:=a.filter (λl=>!wT l)
def pS(a:List dC):Bool:=a.any (λl=>!wT l&&sP l)
def dZ(l:dC):List dC->Nat
 |[]=>0
 |x::r=>if tP x l=dA then dZ l r+1 else 0
def nR(l:dC)(a:List dC):List dC:=a.take (dZ l a)++l::a.drop (dZ l a)
def iG(a:List dC):List dC->List dC
 |[]=>a
 |l::r=>iG (if wT l=dA then a else nR l a) r
def xB(a:List dC):List dC×Nat×Nat:=
 if 16<yA a then([],40,0) else match jD a 0 with
 |some (c,i)=>([],c,i)
 |none=>match pF [] a 0 with
  |some i=>([],45,i)
  |none=>if pS a=dA then(iG [] a,0,0) else([],46,0)
def vx(l:dC):∀a,dZ l a<=yA a
 |[]=>Ia _
 |x::r=>by
  have:=vx l r;rw[dZ];split;simp;omega;simp
def aBu(l:dC)(a:List dC)(k:Nat)(b:k<yA a):dZ l (a.drop k)=if tP a[k] l=dA then dZ l (a.drop (k+1))+1 else 0:=by
 rw[Cb b,dZ]
def bf(l:dC)(a:List dC):yA (nR l a)=yA a+1:=by
 have:=vx l a;simp[nR];omega
def aAo(l:dC)(a:List dC):(nR l a).Perm (l::a):=by
 unfold nR;refine List.perm_middle.trans ?_;rw[Za]
theorem yL:∀(c b:List dC),(iG b c).Perm (b++zL c)
 |[],b=>by simp[iG,zL]
 |l::r,b=>by
  rw[iG,zL,List.filter_cons];by_cases h:wT l=dA
  .rw[Ma h,Ja (by simp[h])];exact yL r b
  rw[Ja h,Ma (by simpa using h)];refine(yL r _).trans ?_;refine((aAo l b).append_right _).trans ?_;exact(List.perm_middle (l₁:=b) (a:=l) (l₂:=zL r)).symm
theorem BT(a:List dC):yA (zL a)<=yA a:=Pc _ _
theorem EF(a:List dC):yA (iG [] a)=yA (zL a):=by
 have:=(yL a []).length_eq;simpa using this
def Le(x y:dC):Prop:=tP y x=cA
def XW (l:dC):∀(a:List dC),∀x∈a.take (dZ l a),tP x l=dA
 |[],x,h=>by simp at h
 |y::r,x,h=>by
  rw[dZ]at h;split at h
  ·rename_i b
   rw[List.take_succ_cons,List.mem_cons]at h;obtain rfl|h:=h
   ·exact b
   ·exact XW l r x h
  ·simp at h
def XX (l:dC):∀(a:List dC),a.Pairwise Le->∀x∈a.drop (dZ l a),tP x l=cA
 |[],_,x,h=>by simp at h
 |y::r,d,x,h=>by
  rw[dZ]at h;rw[List.pairwise_cons]at d;split at h
  ·rw[List.drop_succ_cons]at h
   exact XX l r d.2 x h
  ·rename_i i
   rw[List.drop_zero,List.mem_cons]at h;have c:tP y l=cA:=by simpa using i
   obtain rfl|h:=h
   ·exact c
   ·have b:=d.1 x h
    unfold Le at b
    cases hx:tP x l
    ·rfl
    ·exfalso
     by_cases e:y.N.toList=l.N.toList
     ·unfold tP at b hx;rw[e]at b;rw[b]at hx;exact absurd hx (by simp)
     ·have f:tP l y=dA:=lK _ _ c e
      have g:tP x y=dA:=rJ _ _ _ hx f;rw[g]at b;exact absurd b (by simp)
def RN{x y z:dC}(a:Le x y)(b:Le y z):Le x z:=by grind [Le,tP,lK,rJ]
def jb (l:dC) (c:List dC) (h:c.Pairwise Le):(nR l c).Pairwise Le:=by
 unfold nR;have i:=XW l c;have f:=XX l c h;rw[List.pairwise_append];refine⟨h.sublist (List.take_sublist _ _),?_,?_⟩
 ·rw[List.pairwise_cons]
  exact⟨λx j=>f x j,h.sublist (List.drop_sublist _ _)⟩
 ·intro a g b d
  have e:Le a l:=eO (i a g);rw[List.mem_cons]at d;obtain rfl|d:=d
  ·exact e
  ·exact RN e (f b d)
def vV:∀(b a:List dC),a.Pairwise Le->(iG a b).Pairwise Le
 |[],a,h=>h
 |l::r,a,h=>by
  rw[iG];refine vV r _ ?_;split;exact h;exact jb l a h
def rV(a:List dC):Prop:=a.Pairwise (λx y=>x.N≠y.N)
def YG(x l:dC):iS x l=dA ↔ x.N=l.N:=by grind [iS,toList_inj]
def GI:∀(r c:List dC)(i:Nat),rV c->pF c r i=aA->rV (c++r)
 |[],c,_,h,_=>by simpa using h
 |l::r,c,i,h,d=>by
  rw[pF]at d;split at d;exact absurd d (by simp)
  rename_i j;have:rV (c++[l]):=by
   unfold rV;rw[Ae];refine⟨h,We _ _,λa g b f=>?_⟩;rw[Uf]at f;subst f;intro e;apply j;rw[Zd];exact⟨a,g,(YG _ _).2 e⟩
  have:=GI r _ _ this d;simpa using this
theorem vp(a:List dC)(h:pF [] a 0=aA):rV a:=by
 have:=GI a [] 0 (by exact Gd) h;simpa using this
def aKc{c:List dC}(h:rV c){x y:dC}(b:x∈c)(a:y∈c)(e:x.N=y.N):x=y:=by
 induction c with
 |nil=>exact absurd b (by simp)
 |cons l r d=>
  unfold rV at h;rw[Bc]at h;rw[Lb]at b a;obtain rfl|b:=b
  .rcases a with rfl|a
   .rfl
   exact absurd e (h.1 y a)
  obtain rfl|a:=a;exact absurd e.symm (h.1 x b);exact d h.2 b a
def YM{c d:List dC}(h:rV c)(k:d.Perm (zL c))(q:d.Pairwise Le):d=iG [] c:=by
 have f:=(yL c []).trans (by rw[Mb]);refine Qf (le:=Le) ?_ q (vV c [] Gd) (k.trans f.symm);intro a b o p g m;have i:a∈c:=(De.1 (k.mem_iff.1 o)).1;have j:b∈c:=(De.1 (f.mem_iff.1 p)).1;refine aKc h i j ?_;by_cases e:a.N=b.N
 .exact e
 have n:tP b a=dA:=lK _ _ m (λl=>e (toList_inj l));unfold Le at g;rw[n]at g;exact absurd g (by simp)
def jw:∀(c:List dC),rV c->((oL c).toList==ByteArray.empty.toList)=!pS c
 |[],_=>by simp[oL,pS]
 |l::r,h=>by
  unfold rV at h;rw[Bc]at h;rw[oL,pS,List.any_cons];by_cases a:sP l=dA
  .rw[Ma a,a,Bool.and_true];have g:(r.any λl=>!wT l&&sP l)=cA:=by
    rw[List.any_eq_false];intro x i d;rw[Sa]at d;have e:l.N=RT:=toList_inj (by simpa[sP]using a);have f:x.N=RT:=toList_inj (by simpa[sP]using d.2);exact h.1 x i (by rw[e,f])
   rw[g,Bool.or_false,Bool.not_not];rfl
  .rw[Ja a];have b:sP l=cA:=by simpa using a
   rw[b,Wg,Rf];exact jw r h.2
theorem DW{a:List dC}(h:16<yA a):xB a=([],40,0):=by unfold xB;rw[Ma h]
theorem BM{a:List dC}(h:¬16<yA a){c i:Nat}(b:jD a 0=bA (c,i)):xB a=([],c,i):=by unfold xB;rw[Ja h,b]
theorem nZ{a:List dC}(h:¬16<yA a)(b:jD a 0=aA){i:Nat}(c:pF [] a 0=bA i):xB a=([],45,i):=by unfold xB;rw[Ja h,b,c]
theorem JS{a:List dC}(h:¬16<yA a)(b:jD a 0=aA)(d:pF [] a 0=aA)(c:pS a=cA):xB a=([],46,0):=by
 unfold xB;rw[Ja h,b,d];simp[c]
theorem OZ{a:List dC}(h:¬16<yA a)(b:jD a 0=aA)(d:pF [] a 0=aA)(c:pS a=dA):xB a=(iG [] a,0,0):=by
 unfold xB;rw[Ja h,b,d];simp[c]
def CS(a:List dC)(k:Nat)(b:k<yA a):jD (a.drop k) k=if yR a[k]=0 then jD (a.drop (k+1)) (k+1) else bA (yR a[k],k):=by
 rw[Cb b,jD]
def GJ(a:List dC)(k:Nat)(b:k<yA a):pF (a.take k) (a.drop k) k=if (a.take k).any (λx=>iS x a[k])=dA then bA k else pF (a.take (k+1)) (a.drop (k+1)) (k+1):=by
 rw[Cb b,pF,Pa b]
def XJ(a:List dC)(k:Nat)(b:k<yA a):oL (a.drop k)=if sP a[k]=dA then a[k].V else oL (a.drop (k+1)):=by
 rw[Cb b,oL]
def iz(a b:List dC)(k:Nat)(c:k<yA b):iG a (b.drop k)=iG (if wT b[k]=dA then a else nR b[k] a) (b.drop (k+1)):=by
 rw[Cb c,iG]
def aBh(a:List dC)(k:Nat)(b:k<yA a):pS (a.take (k+1))=(pS (a.take k) ||(!wT a[k] &&sP a[k])):=by
 rw[Pa b,pS,Tf];simp[pS]
def qp(a:List dC)(k:Nat)(b:k<yA a):zL (a.take (k+1))=zL (a.take k)++if wT a[k]=dA then [] else [a[k]]:=by
 rw[Pa b,zL,Vf,zL];congr 1;by_cases h:wT a[k]=dA<;>simp[h]
def jT(l:List UInt8):Nat:=l.foldl (λv c=>v*256+c.toNat) 0
def FY(l:List UInt8)(c:UInt8):jT (l++[c])=jT l*256+c.toNat:=by simp[jT]
def DR(l:List UInt8):jT l<256 ^ yA l:=by
 have b:∀(n:Nat)(l:List UInt8),yA l=n->jT l<256 ^ n:=λn=>by
  induction n with
  |zero=>intro l h;rw[Nb.1 h];decide
  |succ n c=>
   intro l h;have a:l≠[]:=by intro e;rw[e]at h;simp at h
   rw[<-List.dropLast_concat_getLast a,FY];have d:=c l.dropLast (by simp[h]);have f:=(l.getLast a).toNat_lt;rw[Od];omega
 exact b _ l rfl
def aI(s:jB)(p n:Nat):List UInt8:=(s.data.toList.drop p).take n
def tS{s:jB}{p n:Nat}(h:p+n<=s.size):yA (aI s p n)=n:=by
 have:yA s.data.toList=s.size:=by simp
 simp only[aI,Hb,Rc];omega
def SP{s:jB}{p k:Nat}(h:p+k<s.size):aI s p (k+1)=aI s p k++[s[p+k]]:=by
 have a:yA s.data.toList=s.size:=by simp
 unfold aI;rw[Pa (by rw[Rc,a];omega),Cg];rfl
def EY(v:Int):Nat->Int
 |0=>v
 |k+1=>EY v k / 256
def bZ(v:Int):Nat->List Int
 |0=>[]
 |n+1=>EY v n % 256::bZ v n
def pB(n:Nat)(v:Int):jB:=strOfNums (bZ v n)
def AN(v:Int):∀n,yA (bZ v n)=n
 |0=>rfl
 |n+1=>by simp[bZ,AN v n]
theorem gB(n:Nat)(v:Int):(pB n v).size=n:=by
 rw[pB,strOfNums_size,AN]
def OA:∃i,prog.info? 5=bA i/\i.zero=bA (.int .u8 0)/\i.size=1/\i.bytes=1:=by
 have h:(prog.info? 5).map (λi=>(i.zero,i.size,i.bytes))=bA (bA (.int .u8 0),1,1):=by kernel_rfl
 obtain⟨i,b,a⟩:=Wb.1 h;simp only[Dc]at a;exact⟨i,b,a.1,a.2.1,a.2.2⟩
def PH{w:eA}{B:Nat}{d:mC}{f:Nat}{ys:List Int}(h:w.ownsRow B 5 1 (pA d (yA ys) f) (yA ys) (ys.map (iA.int .u8))):
 (convert 22 9 (pA d (yA ys) f)).run prog w=.ok (oA (strOfNums ys)) w:=by
 obtain⟨b,q⟩|⟨g,k,a,b,_,m,o,_,p,c⟩:=h.2;simp only[iA.slice.injEq]at b;obtain⟨rfl,l,rfl⟩:=b;have e:ys=[]:=Nb.1 l;subst e;exact run_convert_bytes_nil w 22 5 underlying22 underlying5 _ _ 9 underlying9;simp only[iA.slice.injEq]at b;obtain⟨rfl,_,rfl⟩:=b;refine run_convert_bytes_arg w 22 5 underlying22 underlying5 g 0 _ _ ys rfl (λi n=>?_) 9 underlying9;rw[Ya,cell_of_row w g i a _ _ m];have j:(a.toList.take (yA ys*1))[i]?=(ys.map (iA.int .u8))[i]?:=by rw[c]
 rw[Jb (by omega)]at j;rw[<-Yd,j];simp[List.getD,Va n]
def lD(n:Nat)(v:Int)(w:eA)(Z:n<=8)(_o : -9223372036854775808<=v)(_p:v<=9223372036854775807):
 dF 54 #[.int .i64 n,.int .i64 v] w (oA (pB n v)):=by
 obtain⟨J,p,B,C,D⟩:=OA;have K:cB (prog.info? 5=bA J):=p;clear p;clear _o _p;go_enter func54,ntmps54;go_wp2;go_loopw [5,6,7,8] (λE i _ _ wr=>∃(m:Nat)(a:List Int)(s:mC)(t:Nat),yA a+m=n/\cB (a++bZ v m=bZ v n)/\i=.int .i64 ((m:Int)-1)/\E=pA s (yA a) t/\cB (wr.ownsRow w.1.size 5 1 (pA s (yA a) t) (yA a) (a.map (iA.int .u8)))/\uB w wr) (λ_ i _ _ _=>((intOf i)+1).toNat)
 case atStart=>
  exact⟨n,[],_,_,by simp,by show _=_;simp,by simp,rfl,eA.ownsRow_made w #[] 0 (Ia _) (by simp[maxLen]) (by simp),zB⟩
 case round=>
  obtain⟨m,a,s,t,Y,h,rfl,rfl,d,b⟩:=hrel;by_cases hp:0<m
  .obtain ⟨r,rfl⟩:∃r,m=r+1:=⟨m-1,by omega⟩
   have F:((r+1:Nat):Int)-1=(r:Int):=by omega
   rw[F];clear F;go_wp2;go_loop [7,8] (λx k=>∃(j:Nat)(X:Int),j<=r/\k=.int .i64 j/\x=.int .i64 X/\cB (X=EY v j)) (λ_ k=>r-(intOf k).toNat)
   case atStart=>exact⟨0,v,Oa _,rfl,rfl,rfl⟩
   case round=>
    obtain⟨j,X,W,rfl,rfl,G⟩:=hrel;by_cases R:j<r
    .go_wp2;exact⟨⟨j+1,X / 256,by omega,by go_num,rfl,by show _=_;rw[EY,G.o]⟩,by simp[intOf];omega⟩
    have e:j=r:=by omega
    subst e;have S:=b.size;go_wp2_with(at_builtin;refine wpList_append_lies _ rfl _ _ _ rfl w.1.size 5 J _ 1 1 underlying22 K.o B C D rfl (by omega) (pA s (yA a) t) (yA a) (a.map (iA.int .u8)) rfl (by exact hC d.o zB) ⟨wr.1.size,0,aA⟩ 1 1 [.int .u8 (X % 256)] rfl rfl (by exact eA.news_of_block (heap_alloc_new _ _)) (by simp[iA.oneCell']) (by omega) (by simp[maxLen];omega) (by omega) (by simp;omega) (wr.1.size+1) (by simp) ?_;intro N o U c f H I);have y:uB w U:=(vB b zB).grown f (by simp;omega) (λq u=>by
     obtain⟨z,_⟩|⟨g,L,M,z,V,_⟩:=d.o.2;rw[z]at u;simp[iA.ownBlock]at u;rw[z]at u;simp[iA.ownBlock]at u;omega)
    have A:a.map (iA.int .u8)++[iA.int .u8 (X % 256)]=(a++[X % 256]).map (iA.int .u8):=by simp
    have l:yA (a++[X % 256])=yA a+1:=by simp
    rw[A,<-l]at c;refine⟨⟨j,a++[X % 256],bA ⟨N,0,aA⟩,o,by rw[l];omega,?_,rfl,by rw[l],c,y⟩,by simp[intOf]⟩;show _=_;rw[<-h.o,bZ,G.o];simp
  have e:m=0:=by omega
  subst e;have Q:=PH d.o;go_wp2;go_ret;refine⟨Kd (λx=>Ending.returned (oA x)) ?_,b⟩;rw[pB,<-h.o,bZ,Cd]
def EN(v:Nat):Nat->List Nat
 |0=>[]
 |n+1=>v / 256 ^ n % 256::EN v n
def MC(v:Nat):∀n,yA (EN v n)=n
 |0=>rfl
 |n+1=>by simp[EN,MC v n]
def mh(v:Nat):∀k,EY (v:Int) k=((v / 256 ^ k:Nat):Int)
 |0=>by simp[EY]
 |k+1=>by rw[EY,mh v k,Od,<-Fg];omega
def SA(v:Nat):∀n,bZ (v:Int) n=(EN v n).map (λx:Nat=>(x:Int))
 |0=>rfl
 |n+1=>by rw[bZ,EN,Fc,SA v n,mh];simp
def kj(a b n:Nat):∀m,m<=n->EN (a*256 ^ n+b) m=EN b m
 |0,_=>rfl
 |m+1,h=>by
  rw[EN,EN,kj a b n m (by omega)];congr 1;obtain⟨d,rfl⟩:∃d,n=m+1+d:=⟨n-(m+1),by omega⟩
  have e:a*256 ^ (m+1+d)+b=b+256 ^ m*(a*256 ^ d*256):=by rw[Nat.pow_add,Od,Nat.add_comm];congr 1;ac_rfl
  rw[e,Nat.add_mul_div_left _ _ (Zf (by omega))];omega
def fh(c:UInt8)(l:List UInt8):jT (c::l)=c.toNat*256 ^ yA l+jT l:=by
 have f:∀(l:List UInt8)(v:Nat),l.foldl (λv c=>v*256+c.toNat) v=v*256 ^ yA l+jT l:=λl=>by
  induction l with
  |nil=>intro v;simp[jT]
  |cons d l e=>
   intro v;have a:=e (v*256+d.toNat);have b:=e (0*256+d.toNat);simp only[jT,Og,Zb,Od]at a b |-
   rw[a,b];simp only[Nat.add_mul,Nat.zero_mul,Ya];rw[Nat.add_assoc];congr 1;ac_rfl
 have:=f l (0*256+c.toNat);simpa[jT]using this
def vq:∀(l:List UInt8),EN (jT l) (yA l)=l.map (λc=>c.toNat)
 |[]=>rfl
 |c::l=>by
  have a:=DR l;have b:=c.toNat_lt;rw[Zb,EN,fh,kj _ _ _ _ (Ia _),vq l,Fc];congr 1;rw[Nat.add_comm,Nat.mul_comm,Nat.add_mul_div_left _ _ (Zf (by omega)),Nat.div_eq_of_lt a];omega
def vr(l:List UInt8)(n:Nat)(h:yA l=n):pB n (jT l:Nat)=⟨l.toArray⟩:=by
 subst h;rw[pB,SA,vq,strOfNums];congr 2;rw[Vd,Vd];conv=>rhs;rw[<-List.map_id l]
 congr 1;funext c;simp
def uz(v:Nat):∀n,jT ((EN v n).map UInt8.ofNat)=v % 256 ^ n
 |0=>by simp[EN,jT,Nat.mod_one]
 |n+1=>by
  rw[EN,Fc,fh,uz v n,Xa,MC,UInt8.toNat_ofNat_of_lt' (by show _<256;omega),Od,Nat.mod_mul];rw[Nat.mul_comm,Nat.add_comm]
def aBo(n v:Nat):(pB n v).data.toList=(EN v n).map UInt8.ofNat:=by
 rw[pB,SA,strOfNums_data,Vd];congr 1
theorem qQ(n v:Nat)(h:v<256 ^ n):jT (pB n v).data.toList=v:=by
 rw[aBo,uz,Ic h]
def aN(s:jB):jB:=pB 1 (s.size:Nat)++s
def aG(s:jB):jB:=pB 2 (s.size:Nat)++s
theorem rF(s:jB):(aN s).size=1+s.size:=by rw[aN,Ka,gB]
theorem iF(s:jB):(aG s).size=2+s.size:=by rw[aG,Ka,gB]
def okM(a:List UInt8)(c:UInt8):Bool:=(97<=c&&c<=122) ||(48<=c&&c<=57) ||decide (0<=Lib.indexByte a c)
def iU(s:jB)(b:Int)(a:jB):Bool:=decide (1<=s.size) &&decide ((s.size:Int)<=b) &&s.data.toList.all (okM a.data.toList)
def aAj(mk:jB)(c:UInt8)(w:eA):rL 220 #[oA mk,.int .u8 (c.toNat:Int)] w (zA (Lib.indexByte mk.data.toList c)):=by
 have:=strings_IndexByte mk (c.toNat:Int) w;simpa using this
def CM{s:jB}{f:UInt8->Bool}{k:Nat}(h:k<s.size):(s.data.toList.take (k+1)).all f=((s.data.toList.take k).all f&&f s[k]):=by
 rw[zW s k h];simp
def uw{l:List UInt8}{f:UInt8->Bool}{k:Nat}(h:(l.take k).all f=cA):l.all f=cA:=by grind
def aBa(c:UInt8):(97<=c&&c<=122)=decide (97<=(c.toNat:Int)/\(c.toNat:Int)<=122):=by rw[Qb];simp[Df];omega
def aEh(c:UInt8):(48<=c&&c<=57)=decide (48<=(c.toNat:Int)/\(c.toNat:Int)<=57):=by rw[Qb];simp[Df];omega
def LV(s:jB)(a:Int)(mk:jB)(w:eA)(q:s.size<=maxLen):
 rL 155 #[oA s,zA a,oA mk] w (.bool (iU s a mk)):=by
 unfold maxLen at q;by_cases r:(s.size:Int)<1
 .have c:cB (iU s a mk=cA):=by show _=_;simp[iU];omega
  go_enter func155,ntmps155;go_wp2;go_ret;exact⟨oB c.o.symm,rfl⟩
 by_cases t:a<(s.size:Int)
 .have c:cB (iU s a mk=cA):=by
   show _=_;have:decide ((s.size:Int)<=a)=cA:=by simp;omega
   simp[iU,this]
  go_enter func155,ntmps155;go_wp2;go_ret;exact⟨oB c.o.symm,rfl⟩
 have c:cB (iU s a mk=s.data.toList.all (okM mk.data.toList)):=by
  show _=_;have o:1<=s.size:=by omega
  have p:(s.size:Int)<=a:=by omega
  simp[iU,o,p]
 go_enter func155,ntmps155;go_wp2;go_loop [7,8,20] (λ_ _ i=>∃k:Nat,k<=s.size/\i=zA k/\(s.data.toList.take k).all (okM mk.data.toList)=dA) (λ_ _ i=>s.size-(intOf i).toNat)
 case atStart=>exact⟨0,Oa _,rfl,by simp⟩
 case round=>
  obtain⟨k,u,rfl,g⟩:=hrel;have d:cB _:=g;clear g;by_cases j:k<s.size
  .have b:=CM (f:=okM mk.data.toList) j;rw[d.o,Oc,okM,aBa,aEh]at b;have l:cB _:=b;clear b;have m:=λW=>aAj mk s[k] W;generalize Lib.indexByte mk.data.toList s[k]=v at *;have h:cB _:=m;clear m;go_wp2_with(go_at_call 220;apply lC (h.o _);rintro n rfl);all_goals first
    |(go_ret
      refine⟨oB ?_,rfl⟩;rw[c.o];refine(uw (k:=k+1) ?_).symm;rw[l.o];simp at *;omega)
    |(refine⟨⟨k+1,by omega,by go_num,?_⟩,by simp[intOf];omega⟩
      rw[l.o];simp at *;omega)
  go_wp2;go_ret;exact⟨oB (by rw[c.o,<-d.o,Ra (by simp;omega)]),rfl⟩
def jQ(s:jB)(w:eA)(f:s.size<=1000000000):
 dF 92 #[oA s] w (oA (aN s)):=by
 have d:cB (∀W,dF 54 #[zA 1,zA (s.size:Nat)] W (oA (pB 1 (s.size:Nat)))):=λW=>lD 1 (s.size:Nat) W (by omega) (by omega) (by omega);have g:=gB 1 (s.size:Nat);unfold aN;generalize pB 1 (s.size:Nat)=N at *;go_enter func92,ntmps92;go_wp2_with fail;apply lC (d.o _);intro h a;have c:cB _:=a;clear a;go_wp2;go_ret;exact⟨rfl,c.o⟩
def rO(s:jB)(w:eA)(f:s.size<=1000000000):
 dF 62 #[oA s] w (oA (aG s)):=by
 have d:cB (∀W,dF 54 #[zA 2,zA (s.size:Nat)] W (oA (pB 2 (s.size:Nat)))):=λW=>lD 2 (s.size:Nat) W (by omega) (by omega) (by omega);have g:=gB 2 (s.size:Nat);unfold aG;generalize pB 2 (s.size:Nat)=N at *;go_enter func62,ntmps62;go_wp2_with fail;apply lC (d.o _);intro h a;have c:cB _:=a;clear a;go_wp2;go_ret;exact⟨rfl,c.o⟩
def ew(a:List kB):Prop:=∀i(h:i<yA a),wU a[i].n
def TW(a:List fB):Prop:=∀i(h:i<yA a),wU a[i].L/\ew a[i].M/\ew a[i].Z
def NK(p:kB):jB:=aG p.s++pB 8 p.n
def mE:List kB->jB
 |[]=>kA
 |p::q=>NK p++mE q
def UD(a:List kB):Prop:=∀i(h:i<yA a),a[i].s.size<=65535
def cK(t:fB):Prop:=t.N.size<=255/\UD t.M/\UD t.Z
def JC(t:fB):jB:=aN t.N++pB 8 t.L++pB 4 (yA t.M:Nat)
def kR(t:fB):jB:=JC t++mE t.M++pB 4 (yA t.Z:Nat)++mE t.Z
def sE:List fB->jB
 |[]=>kA
 |t::q=>kR t++sE q
def yk:jB:=⟨#[67,75,80,84]⟩
def CF(a b:Int)(n:Nat):jB:=yk++pB 8 a++pB 8 b++pB 4 (n:Nat)
def BD(a:Int)(b:List fB):Prop:=0<=a/\a<=1000000000000000/\∀i(h:i<yA b),cK b[i]
def qL(a b:Int)(c:List fB):jB:=CF a b (yA c)++sE c
def aQa(a:Int)(b:List fB):Decidable (BD a b):=by unfold BD cK UD;exact inferInstance
def rI(a b:Int)(c:List fB):jB:=haveI:=aQa a c;if BD a c then qL a b c++pB 4 (cJ (qL a b c):Nat) else kA
def IW{a b:Int}{c:List fB}(h:BD a c):rI a b c=qL a b c++pB 4 (cJ (qL a b c):Nat):=by unfold rI;rw[Ma h]
def OH{a b:Int}{c:List fB}(h:¬BD a c):rI a b c=kA:=by unfold rI;rw[Ja h]
def oX:∀(a b:List kB),mE (a++b)=mE a++mE b
 |[],b=>by simp[mE]
 |r::q,b=>by
  show NK r++mE (q++b)=NK r++mE q++mE b;rw[oX q b,Wa]
def PV(a:List kB)(k:Nat)(h:k<yA a):mE (a.take (k+1))=mE (a.take k)++NK a[k]:=by
 rw[Pa h,oX];simp[mE]
def mS:∀(a b:List fB),sE (a++b)=sE a++sE b
 |[],b=>by simp[sE]
 |r::q,b=>by
  show kR r++sE (q++b)=kR r++sE q++sE b;rw[mS q b,Wa]
def PY(a:List fB)(k:Nat)(h:k<yA a):sE (a.take (k+1))=sE (a.take k)++kR a[k]:=by
 rw[Pa h,mS];simp[sE]
def zo(p:kB):(NK p).size=10+p.s.size:=by
 unfold NK;rw[Ka,iF,gB];omega
theorem nT:∀(a:List kB),(mE a).size=10*yA a+gE a
 |[]=>rfl
 |p::q=>by
  show(NK p++mE q).size=_;rw[Ka,zo,nT q];show _=10*(yA q+1)+(p.s.size+gE q)
  omega
theorem ea(t:fB):(JC t).size=13+t.N.size:=by grind [JC,rF,gB]
def BP(t:fB):(kR t).size=17+t.N.size+10*yA t.M+gE t.M+10*yA t.Z+gE t.Z:=by grind [kR,gE,ea,nT,gB]
def IX(a b:Int)(n:Nat):(CF a b n).size=24:=by
 unfold CF;rw[Ka,Ka,Ka,gB,gB,gB];rfl
def wt{c:List fB}{k:Nat}(e:k<yA c)(h:¬cK c[k])(a b:Int):rI a b c=kA:=OH λd=>h (d.2.2 k e)
def sV(a:List fB)(k:Nat):(sE (a.take k)).size<=(sE a).size:=by
 have:=mS (a.take k) (a.drop k);rw[Za]at this;rw[this,Ka];omega
def jN(w:eA)(B:Nat)(v:iA)(s:jB):Prop:=
 ∃g a b c,v=pA (yB g) s.size a/\B<=g/\w.heap[g]?=bA (vA b 5 c)/\(c.2=0\/a<=c.1)/\s.size<=a/\a<=maxLen/\b.size=a/\b.toList.take s.size=Lib.strCells s
def jN.z{w d:eA}{B:Nat}{v:iA}{s:jB}(h:jN w B v s)(k:uB w d):jN d B v s:=by
 obtain⟨g,a,b,e,f,i,c,j⟩:=h;exact⟨g,a,b,e,f,i,(k.block g (aB c)).trans c,j⟩
def jN.mono{w:eA}{B B':Nat}{v:iA}{s:jB}(h:jN w B v s)(i:B'<=B):jN w B' v s:=by
 obtain⟨g,a,b,c,d,e,f⟩:=h;exact⟨g,a,b,c,d,Ua i e,f⟩
def jN.lt{w:eA}{B:Nat}{v:iA}{s:jB}(h:jN w B v s):∃g,v.ownBlock=bA g/\B<=g/\g<w.1.size:=by
 obtain⟨g,a,b,e,rfl,c,d,f⟩:=h;exact⟨g,rfl,c,aB d⟩
def xY(a b:jB):Lib.strCells (a++b)=Lib.strCells a++Lib.strCells b:=by simp[Lib.strCells]
theorem tw(P:Program)(g o:Nat)(t:TypeId)(b:Nat×Nat)(d:List Value):∀(i:Nat)(a:Array Value)(w:World),w.heap[g]?=some (.cells a t b)->(b.2=0\/a.size<=b.1)->o+i+d.length<=a.size->(∀v∈d,v.oneCell'=true)->
 (storeCells (dB g o) d i).run P w=.ok () (w.setRow g (a.toList.take (o+i)++d++a.toList.drop (o+i+d.length)).toArray):=by
 induction d with
 |nil=>
  intro i a w c _ _ _;rw[storeCells,Cd,List.length_nil,Bg,Za,Array.toArray_toList,setRow_self w g a t b c];rfl
 |cons v q s=>
  intro i a w c f n k;rw[Zb]at n;have l:((dB g o):Addr).add i=(dB g (o+i)):=by unfold Addr.add;split<;>simp_all
  have m:w.cell? (dB g (o+i))=some (a[o+i]'(by omega)):=by rw[cell_of_row w g _ a t b c];exact Qc (by omega)
  have j:w.frozen? (dB g (o+i))=false:=by
   unfold World.frozen?;rw[c];obtain f|f:=f
   .rw[Gg];exact La (Ub (by show ¬o+i<b.2;omega))
   .rw[Gg];exact Ca (Ub (by show ¬b.1<=o+i;omega))
  have p:(store (((dB g o):Addr).add i) v).run P w=.ok () (w.setRow g (a.setIfInBounds (o+i) v)):=by
   rw[l,run_store P w _ v _ (k v (Kc ..)),m];simp[j,setCell_eq_setRow w g (o+i) a t b v c]
  have h:=s (i+1) (a.setIfInBounds (o+i) v) (w.setRow g (a.setIfInBounds (o+i) v)) (setRow_heap w g a _ t _ c) (by simpa using f) (by simp;omega) (λx r=>k x (Sb _ r));rw[storeCells,Sem.run_bind,p,Result.andThen_ok,h,setRow_setRow];congr 3;have e:=list_seg_step a.toList (o+i) v q (by simp;omega);simpa[Jf,Nat.add_assoc]using e
def xV(w:eA)(B:Nat)(v:iA)(s x:jB)(I:jA)(m:jN w B v s)(J:B<=w.1.size)(S:s.size+x.size<=140737488355328):
 ∃r G,(Builtin.append_ #[22,9] I #[v,oA x]).run prog w=.ok r G/\jN G B r (s++x)/\w.grownBy G v.ownBlock/\(r.ownBlock=v.ownBlock\/r.ownBlock=bA w.1.size):=by
 obtain⟨R,o,E,p,F⟩:=OA;obtain⟨g,a,b,H,rfl,y,d,i,M,z,A,l⟩:=m;have c:(s++x).size=s.size+x.size:=Ka;by_cases h:s.size+x.size<=a
 .have L:=Lib.run_firstCells_string (P:=prog) w 1 x;have n:=tw prog g s.size 5 H (Lib.strCells x) 0 b w d (by rw[A];exact i) (by rw[Lib.strCells_length];omega) (Lib.strCells_oneCell x);simp only[Bg,Lib.strCells_length]at n;refine⟨pA (yB g) (s.size+x.size) a,w.setRow g (b.toList.take s.size++Lib.strCells x++b.toList.drop (s.size+x.size)).toArray,?_,?_,⟨rfl,rfl,rfl,by simp,λk _ C=>setRow_other w g k _ (λe=>C (by simp[iA.ownBlock,e]))⟩,Ca rfl⟩
  .simp[Builtin.append_,run_underlying underlying22,run_underlying underlying9,sizeOf,typeInfo,o,p,Builtin.lenOf,h,L,Addr.add_lit,n]
  refine ⟨g,a,_,H,by rw[c],y,setRow_heap w g b _ _ _ d,i,by omega,z,?_,?_⟩;simp only[List.size_toArray,Kb,Hb,Rc,Qg,Lib.strCells_length];omega;rw[l,c,xY];have D:yA (Lib.strCells s++Lib.strCells x)=s.size+x.size:=by rw[Kb,Lib.strCells_length,Lib.strCells_length]
  rw[<-D];exact List.take_left
 have f:∀j u,(Lib.strCells s)[j]?=bA u->w.cell? (((dB g 0):Addr).add j)=bA u:=λj u q=>by
  have K:((dB g 0):Addr).add j=(dB g j):=by unfold Addr.add;split<;>simp_all
  rw[K,cell_of_row w g j b _ _ d];rw[<-l,Ye]at q;split at q;simpa using q
  cases q
 have Q:=Lib.run_append_grow_string (P:=prog) w 22 9 I 5 R (.int .u8 0) underlying22 underlying9 o E (dB g 0) s.size a (Lib.strCells s) (by rw[p,Lib.strCells_length,Nat.mul_one]) f x (by omega) (by omega) (by rw[F];exact growslice_fits (by omega) (by omega));have N:=grownCap_ge w (s.size+x.size) a 5;have t:=grownCap_le_maxLen w (s.size+x.size) a 5 (by unfold maxLen;omega);refine⟨_,_,Q,⟨w.1.size,_,_,(0,0),by rw[c],J,heap_alloc_new w.drew _,Ca rfl,by omega,t,?_,?_⟩,⟨rfl,rfl,rfl,by simp,λk C _=>heap_alloc_old w.drew _ C⟩,La rfl⟩;have O:(iA.int IntKind.u8 0).cells.size=1:=rfl;simp only[Array.size_append,List.size_toArray,size_zeroCells,O,Lib.strCells_length];omega;rw[c,xY];have D:yA (Lib.strCells s++Lib.strCells x)=s.size+x.size:=by rw[Kb,Lib.strCells_length,Lib.strCells_length]
 simp only[Array.toList_append,Nd];rw[<-Nd,<-D];exact List.take_left
def cw(w:eA)(B:Nat)(v:iA)(s x:jB)(d:jA)(a:jN w B v s)(h:B<=w.1.size)(i:s.size+x.size<=140737488355328):
 ∃c b,(Builtin.append_ #[22,9] d #[v,oA x]).run prog w=.ok c b/\jN b B c (s++x)/\w.grownBy b v.ownBlock:=by
 obtain⟨c,b,e,f,g,_⟩:=xV w B v s x d a h i;exact⟨c,b,e,f,g⟩
def VC(w:eA){d:Array Oper}{o:Oper}{a:Act}{K:Act->eA->Prop}{Q:Exit->Act->eA->Prop}{E:Prop}(i:o.guard=aA)(h x:Operand)
(A:o.op=.call { callee:=.builtin .append,args:=#[h,x],argTypes:=#[22,9] })
(B:Nat)(v:iA)(s t:jB)(D:a.eval h=v)(b:jN w B v s)(F:a.eval x=oA t)(n:B<=w.1.size)(G:s.size+t.size<=140737488355328)
(h:∀f c,jN c B f (s++t)->fA B w c->(∀k,k<w.1.size->v.ownBlock≠bA k->c.heap[k]?=w.heap[k]?)->K (a.put o.dst f) c):
 if Region.wanted o (yielded d a.tmps)=dA then Oper.wp prog o a w K Q else E:=by
 have H:Region.wanted o (yielded d a.tmps)=dA:=by simp[Region.wanted,i]
 rw[Ma H];obtain⟨f,c,C,r,m⟩:=cw w B v s t o.type b n G;have j:=b.lt;have u:=h f c r ((fA.refl B w).grown m n (λq p=>by obtain⟨g,e,y,_⟩:=j;rw[e]at p;cases p;exact y)) (λk z l=>m.block k z (λe=>l e.symm));unfold Oper.wp execOp;simp only[A,resolve,invoke,builtin,Sem.run_bind,Sem.run_pure,Result.andThen_ok,Hg,Fc,Ag,D,F,C];exact u
def mP(w:eA){f:Array Oper}{o:Oper}{a:Act}{K:Act->eA->Prop}{Q:Exit->Act->eA->Prop}{E:Prop}(j:o.guard=aA)(h x:Operand)
(C:o.op=.call { callee:=.builtin .append,args:=#[h,x],argTypes:=#[22,9] })
(B:Nat)(v:iA)(s t:jB)(F:a.eval h=v)(b:jN w B v s)(G:a.eval x=oA t)(n:B<=w.1.size)(H:s.size+t.size<=140737488355328)
(h:∀d c,jN c B d (s++t)->fA B w c->(∀k,k<w.1.size->v.ownBlock≠bA k->c.heap[k]?=w.heap[k]?)->(d.ownBlock=v.ownBlock\/d.ownBlock=bA w.1.size)->w.1.size<=c.1.size->K (a.put o.dst d) c):
 if Region.wanted o (yielded f a.tmps)=dA then Oper.wp prog o a w K Q else E:=by
 have I:Region.wanted o (yielded f a.tmps)=dA:=by simp[Region.wanted,j]
 rw[Ma I];obtain⟨d,c,D,r,i,u⟩:=xV w B v s t o.type b n H;have l:=b.lt;have y:=h d c r ((fA.refl B w).grown i n (λq p=>by obtain⟨g,e,z,_⟩:=l;rw[e]at p;cases p;exact z)) (λk A m=>i.block k A (λe=>m e.symm)) u i.size;unfold Oper.wp execOp;simp only[C,resolve,invoke,builtin,Sem.run_bind,Sem.run_pure,Result.andThen_ok,Hg,Fc,Ag,F,G,D];exact y
def tK(w:eA){i:Array Oper}{c:List Oper}{o:Oper}{a:Act}{Q:Exit->Act->eA->Prop}(l:o.guard=aA)(h x:Operand)
(E:o.op=.call { callee:=.builtin .append,args:=#[h,x],argTypes:=#[22,9] })
(B:Nat)(v:iA)(s t:jB)(G:a.eval h=v)(b:jN w B v s)(H:a.eval x=oA t)(p:B<=w.1.size)(I:s.size+t.size<=140737488355328)
(h:∀f d,jN d B f (s++t)->fA B w d->(∀k,k<w.1.size->v.ownBlock≠bA k->d.heap[k]?=w.heap[k]?)->(f.ownBlock=v.ownBlock\/f.ownBlock=bA w.1.size)->w.1.size<=d.1.size->wpList prog i Q c (a.put o.dst f) d):
 wpList prog i Q (o::c) a w:=by
 refine wpList_plain l λK z=>?_;obtain⟨f,d,F,u,j,y⟩:=xV w B v s t o.type b p I;have m:=b.lt;have C:=h f d u ((fA.refl B w).grown j p (λq r=>by obtain⟨g,e,A,_⟩:=m;rw[e]at r;cases r;exact A)) (λk D n=>j.block k D (λe=>n e.symm)) y j.size;unfold Oper.wp execOp;simp only[E,resolve,invoke,builtin,Sem.run_bind,Sem.run_pure,Result.andThen_ok,Hg,Fc,Ag,G,H,F];exact z _ _ C
def ZN(w:eA)(s:jB)(f:s.size<=140737488355328):∃v d,(convert 9 22 (oA s)).run prog w=.ok v d/\jN d w.1.size v s/\uB w d:=by
 refine⟨_,_,run_bytes_of_string w _ _ 5 s underlying9 underlying22 underlying5,?_,(fA.refl _ w).drew.alloc (by simp) _⟩;have c:=grownCap_ge w s.size 0 5;have b:=grownCap_le_maxLen w s.size 0 5 (by unfold maxLen;omega);have a:(bytesRow s (grownCap w s.size 0 5)).size=grownCap w s.size 0 5:=by
  unfold bytesRow;rw[Array.size_append,Array.size_map,Array.size_replicate];show s.size+_=_;omega
 refine⟨w.1.size,_,_,_,rfl,Ia _,heap_alloc_new w.drew _,La (by rw[a];exact Ia _),c,b,a,?_⟩;have e:=Lib.strCells_length s;unfold bytesRow;rw[Array.toList_append,Array.toList_map];conv=>lhs;arg 1;rw[<-e]
 exact List.take_left
def GA(s:jB)(a:s.size<=140737488355328):∃(V:eA->iA)(N:eA->eA),(∀w,(convert 9 22 (oA s)).run prog w=.ok (V w) (N w))/\∀w,jN (N w) w.1.size (V w) s/\uB w (N w):=
 ⟨λw=>Classical.choose (ZN w s a),λw=>Classical.choose (Me (ZN w s a)),λw=>(Me (Me (ZN w s a))).1,λw=>(Me (Me (ZN w s a))).2⟩
def DQ{w:eA}{B:Nat}{v:iA}{s:jB}(h:jN w B v s):(convert 22 9 v).run prog w=.ok (oA s) w:=by
 obtain⟨g,b,a,k,rfl,l,e,m,n,o,p,f⟩:=h;have:=run_convert_bytes_back w 22 9 5 (dB g 0) b s.data.toList underlying22 underlying5 underlying9 (λj d=>by
  have i:((dB g 0):Addr).add j=(dB g j):=by unfold Addr.add;split<;>simp_all
  rw[i,cell_of_row w g j a _ _ e,<-Yd];have c:j<s.size:=by simpa using d
  have:(a.toList.take s.size)[j]?=(Lib.strCells s)[j]?:=by rw[f]
  rw[Jb c]at this;rw[this,Lib.strCells,Se,Va d];rfl)
 simpa using this
def gW(x:Nat):Nat:=if x % 2=1 then(x / 2) ^^^ 2197175160 else x / 2
def bP(x:Nat):Nat->Nat
 |0=>x
 |k+1=>gW (bP x k)
def ZP(i:Nat):Nat:=bP i 8
def aEd{x:Nat}(h:x<4294967296):gW x<4294967296:=by
 unfold gW;split;exact Qd (n:=32) (by omega) (by omega);omega
def VU{x:Nat}(h:x<4294967296):∀k,bP x k<4294967296
 |0=>h
 |k+1=>aEd (VU h k)
def aIu{i:Nat}(h:i<256):ZP i<4294967296:=VU (by omega) 8
def xj(a b:Nat):(a ^^^ b) % 2=(a+b) % 2:=by
 have:=Nat.xor_mod_two_eq_one (a:=a) (b:=b);omega
def yx(r x:Nat):gW (r ^^^ x)=rZ r x ^^^ (x / 2):=by
 unfold gW rZ;rw[xj,Nat.xor_div_two];split;rw[Nat.xor_assoc,Nat.xor_comm (x / 2),<-Nat.xor_assoc];rfl
def KY(r b:Nat):∀k,bP (r ^^^ b) k=sQ r b k ^^^ (b / 2 ^ k)
 |0=>by simp[bP,sQ]
 |k+1=>by
  show gW (bP (r ^^^ b) k)=rZ (sQ r b k) (b / 2 ^ k) ^^^ (b / 2 ^ (k+1));rw[KY r b k,yx,Fg,Od]
def oz(x z:Nat):gW (x ^^^ (2*z))=gW x ^^^ z:=by
 unfold gW;rw[xj,Nat.xor_div_two,show(x+2*z) % 2=x % 2 by omega,show 2*z / 2=z by omega];split;rw[Nat.xor_assoc,Nat.xor_comm z,<-Nat.xor_assoc];rfl
def LB(x z:Nat):∀k,bP (x ^^^ (2 ^ k*z)) k=bP x k ^^^ z
 |0=>by simp[bP]
 |k+1=>by
  show gW (bP (x ^^^ (2 ^ (k+1)*z)) k)=gW (bP x k) ^^^ z;rw[Od,Nat.mul_assoc,LB x (2*z) k,oz]
def yy(r:Nat):r=(r % 256) ^^^ (256*(r / 256)):=by
 have h:256*(r / 256)+r % 256=(2 ^ 8*(r / 256)) ||| (r % 256):=Ef (i:=8) (b:=r % 256) (by omega) (r / 256)
 have c:(r % 256) ^^^ (256*(r / 256))=(2 ^ 8*(r / 256)) ||| (r % 256):=by
  apply Nat.eq_of_testBit_eq;intro i;rw[Nat.testBit_xor,Nat.testBit_or,show 256*(r / 256)=2 ^ 8*(r / 256) from rfl,Nat.testBit_two_pow_mul,show r % 256=r % 2 ^ 8 from rfl,Nat.testBit_mod_two_pow];by_cases a:i<8
  .simp[a,Nat.not_le.2 a]
  simp[a,Nat.not_lt.1 a]
 omega
def yz(r b:Nat)(d:b<256):sQ r b 8=(r / 256) ^^^ ZP ((r % 256) ^^^ b):=by
 have a:=KY r b 8;rw[show b / 2 ^ 8=0 by omega,Nat.xor_zero]at a;rw[<-a];have c:=LB ((r % 256) ^^^ b) (r / 256) 8;rw[show((r % 256) ^^^ b) ^^^ (2 ^ 8*(r / 256))=r ^^^ b by
  rw[Nat.xor_assoc,Nat.xor_comm b,<-Nat.xor_assoc,show(2 ^ 8*(r / 256))=256*(r / 256) from rfl,<-yy r]]at c
 rw[c,Nat.xor_comm];rfl
