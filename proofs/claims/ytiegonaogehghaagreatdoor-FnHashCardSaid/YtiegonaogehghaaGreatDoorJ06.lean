import Derived.Test.YtiegonaogehghaaGreatDoorJ05
set_option maxRecDepth 100000
set_option maxHeartbeats 2000000
set_option linter.defProp false
open Option renaming some->bA,none->aA
open Bool renaming false->cA,true->dA
open ByteArray renaming empty->kA
open List renaming length->yA
namespace Go.Proofs.YtiegonaogehghaaGreatDoor
open Go renaming World->eA,TypeId->jA,Value->iA
open Value renaming string->oA,slice->pA
open Obj renaming cells->vA
open RowKit renaming Below->fA
open Go.RowKit Tryz
structure iB where
 s:nB
 n:Int
def LN(w:eA)(b o:Nat)(a:List iB):Prop:=
 ∀i(h:i<yA a),w.cell? (dB b (o+i*2))=bA (oA a[i].s)/\w.cell? (dB b (o+i*2+1))=bA (zA a[i].n)
def lC(w:eA)(a:jC)(c:List iB):Prop:=c=[]\/∃b o,a=bA (dB b o)/\b<w.1.size/\LN w b o c
def lC.z{w f:eA}{a:jC}{e:List iB}(h:lC w a e)(d:tB w f):lC f a e:=by
 obtain h|⟨b,o,rfl,c,h⟩:=h;exact Ca h;refine La ⟨b,o,rfl,Bb c d.size,λi k=>?_⟩;obtain⟨g,j⟩:=h i k;exact⟨by rw[<-g];exact d.cell c,by rw[<-j];exact d.cell c⟩
def lC.at{w:eA}{a:jC}{c:List iB}(h:lC w a c){i:Nat}(e:i<yA c):
 ∃b o,a=bA (dB b o)/\b<w.1.size/\w.cell? (dB b (o+i*2))=bA (oA c[i].s)/\w.cell? (dB b (o+i*2+1))=bA (zA c[i].n):=by
 obtain rfl|⟨b,o,rfl,d,h⟩:=h;exact absurd e (by simp);exact ⟨b,o,rfl,d,h i e⟩
def eD(w:eA)(B:Nat)(a:jC)(c:List iB):Prop:=
 c=[]\/∃g o b t,a=bA (dB g o)/\B<=g/\w.heap[g]?=bA (vA b t (0,0))/\LN w g o c
def eD.pairs{w:eA}{B:Nat}{a:jC}{b:List iB}(h:eD w B a b):lC w a b:=by grind [eD,lC]
def eD.z{w d:eA}{B:Nat}{a:jC}{k:List iB}(h:eD w B a k)(e:tB w d):eD d B a k:=by
 obtain h|⟨g,o,c,t,rfl,l,f,h⟩:=h;exact Ca h;have b:=aB f;have n:∀j,d.cell? (dB g j)=w.cell? (dB g j):=λj=>eA.cell?_of_block (e.block g b);exact La ⟨g,o,c,t,rfl,l,(e.block g b).trans f,λi m=>by simp only[n];exact h i m⟩
def eD.mono{w:eA}{B B':Nat}{a:jC}{b:List iB}(h:eD w B a b)(c:B'<=B):eD w B' a b:=by grind [eD]
def vD{w:eA}{B:Nat}{e:jA}{a:jC}{d:Nat}{l:List iB}
(h:w.ownsRow B e 2 (pA a (yA l) d) (yA l) (l.flatMap λx=>[oA x.s,zA x.n])):eD w B a l:=by
 obtain⟨_,v⟩|⟨g,m,b,p,q,f,_,_,y,k⟩:=h.2;exact Ca (Nb.1 v);simp only[iA.slice.injEq]at p;have t:∀(l:List iB) i(c:i<yA l),(l.flatMap λx=>[iA.string x.s,zA x.n])[i*2]?=bA (oA l[i].s)/\(l.flatMap λx=>[iA.string x.s,zA x.n])[i*2+1]?=bA (zA l[i].n):=by
  intro l;induction l with
  |nil=>intro i c;exact absurd c (by simp)
  |cons x r z=>
   intro i c;cases i with
   |zero=>simp
   |succ i=>
    have:=z i (by simpa using c);simp only[Xc,Sd,Mb,Ec];rw[show(i+1)*2=i*2+1+1 by omega,Ga,Ga,Ga,Ga];exact this
 refine La ⟨g,0,b,e,p.1,q,f,λi c=>?_⟩;have o:∀j,j<yA l*2->b[j]?=(l.flatMap λx=>[iA.string x.s,zA x.n])[j]?:=λj u=>by
  rw[<-k,Jb u,Yd]
 rw[cell_of_row w g _ b _ _ f,cell_of_row w g _ b _ _ f,Ya,o _ (by omega),o _ (by omega)];exact t l i c
def yD:List iB->Nat
 |[]=>0
 |f::r=>f.s.size+yD r
def lX(a b:List iB):yD (a++b)=yD a+yD b:=by induction a<;>grind [yD]
def qN(a:List iB)(k:Nat)(h:k<yA a):yD (a.take (k+1))=yD (a.take k)+a[k].s.size:=by
 rw[Pa h,lX];simp[yD]
def gM(a:List iB)(k:Nat):yD (a.take k)<=yD a:=by
 have:=lX (a.take k) (a.drop k);rw[Za]at this;omega
def gB.new(w:eA)(cs:Array iA)(t:jA):gB (w.alloc (vA cs t)) w.1.size cs t:=heap_alloc_new _ _
def gB.alloc{w:eA}{g:Nat}{a:Array iA}{t:jA}(h:gB w g a t)(o:Obj):gB (w.alloc o) g a t:=h.z yB
def gB.but{w d:eA}{g c:Nat}{a:Array iA}{t:jA}(h:gB w g a t)(e:pD c w d)(b:g≠c):gB d g a t:=(e.block g (aB h) b).trans h
def gB.six{w:eA}{b:Nat}{a c d e f g:iA}{t:jA}(h:gB w b #[a,c,d,e,f,g] t):
 w.cell? (dB b 0)=bA a/\w.cell? (dB b 1)=bA c/\w.cell? (dB b 2)=bA d/\w.cell? (dB b 3)=bA e/\w.cell? (dB b 4)=bA f/\w.cell? (dB b 5)=bA g:=by
 simp[h.cell]
structure fB where
 N:nB
 L:Int
 M:List iB
 Z:List iB
def TD(w:eA)(b o:Nat)(t:fB):Prop:=
 ∃a d c e,w.cell? (dB b o)=bA (oA t.N)/\w.cell? (dB b (o+1))=bA (zA t.L)/\w.cell? (dB b (o+2))=bA (pA a (yA t.M) d)/\w.cell? (dB b (o+3))=bA (pA c (yA t.Z) e)/\
  lC w a t.M/\lC w c t.Z
def aKe(w:eA)(b o:Nat)(a:List fB):Prop:=∀i(h:i<yA a),TD w b (o+i*4) a[i]
def uC(w:eA)(a:jC)(c:List fB):Prop:=c=[]\/∃b o,a=bA (dB b o)/\b<w.1.size/\aKe w b o c
def TD.z{w d:eA}{b o:Nat}{t:fB}(h:TD w b o t)(a:b<w.1.size)(c:tB w d):TD d b o t:=by
 obtain⟨e,g,f,i,j,k,l,m,n,p⟩:=h;exact⟨e,g,f,i,(c.cell a).trans j,(c.cell a).trans k,(c.cell a).trans l,(c.cell a).trans m,n.z c,p.z c⟩
def uC.z{w f:eA}{a:jC}{e:List fB}(h:uC w a e)(d:tB w f):uC f a e:=by
 obtain h|⟨b,o,rfl,c,h⟩:=h;exact Ca h;exact La ⟨b,o,rfl,Bb c d.size,λi g=>(h i g).z c d⟩
def uC.at{w:eA}{a:jC}{c:List fB}(h:uC w a c){i:Nat}(k:i<yA c):
 ∃b o d f e g,a=bA (dB b o)/\b<w.1.size/\w.cell? (dB b (o+i*4))=bA (oA c[i].N)/\w.cell? (dB b (o+i*4+1))=bA (zA c[i].L)/\
  w.cell? (dB b (o+i*4+2))=bA (.slice d (yA c[i].M) f)/\w.cell? (dB b (o+i*4+3))=bA (.slice e (yA c[i].Z) g)/\lC w d c[i].M/\lC w e c[i].Z:=by
 obtain rfl|⟨b,o,rfl,j,h⟩:=h;exact absurd k (by simp);obtain ⟨d,f,e,g,h⟩:=h i k;exact⟨b,o,d,f,e,g,rfl,j,h⟩
def wE(w:eA)(B:Nat)(T:Nat->Nat)(n:Nat)(a:jC)(c:List iB):Prop:=
 c=[]\/∃g o b t,a=bA (dB g o)/\B<=g/\T g=n/\w.heap[g]?=bA (vA b t (0,0))/\LN w g o c
def wE.pairs{w:eA}{B n:Nat}{T:Nat->Nat}{a:jC}{b:List iB}(h:wE w B T n a b):lC w a b:=by grind [wE,lC]
def wE.own{w:eA}{B n:Nat}{T:Nat->Nat}{a:jC}{b:List iB}(h:wE w B T n a b):eD w B a b:=by grind [wE,eD]
def wE.keep{w w':eA}{B n:Nat}{T c:Nat->Nat}{a:jC}{l:List iB}(h:wE w B T n a l)
(s:∀g,g<w.1.size->B<=g->T g=n->w'.heap[g]?=w.heap[g]?/\c g=n):wE w' B c n a l:=by
 obtain h|⟨g,o,b,t,e,f,p,k,h⟩:=h;exact Ca h;obtain ⟨d,m⟩:=s g (aB k) f p;have q:∀j,w'.cell? (dB g j)=w.cell? (dB g j):=λj=>eA.cell?_of_block d;exact La ⟨g,o,b,t,e,f,m,d.trans k,λi r=>by simp only[q];exact h i r⟩
def BK(w:eA)(B:Nat)(T:Nat->Nat)(i b o:Nat)(t:fB):Prop:=
 ∃a d c e,w.cell? (dB b o)=bA (oA t.N)/\w.cell? (dB b (o+1))=bA (zA t.L)/\w.cell? (dB b (o+2))=bA (pA a (yA t.M) d)/\w.cell? (dB b (o+3))=bA (pA c (yA t.Z) e)/\
  wE w B T (2*i+1) a t.M/\wE w B T (2*i+2) c t.Z
def zC(w:eA)(B:Nat)(a:jC)(c:List fB):Prop:=
 c=[]\/∃g o b t T,a=bA (dB g o)/\B<=g/\w.heap[g]?=bA (vA b t (0,0))/\T g=0/\∀i(h:i<yA c),BK w B T i g (o+i*4) c[i]
def BK.at{w:eA}{B i b o:Nat}{T:Nat->Nat}{t:fB}(h:BK w B T i b o t):TD w b o t:=by
 obtain⟨a,d,c,e,f,g,j,k,l,m⟩:=h;exact⟨a,d,c,e,f,g,j,k,l.pairs,m.pairs⟩
def zC.tens{w:eA}{B:Nat}{a:jC}{b:List fB}(h:zC w B a b):uC w a b:=by
 obtain h|⟨g,o,c,t,T,rfl,_,d,_,h⟩:=h;exact Ca h;exact La ⟨g,o,rfl,aB d,λi e=>(h i e).at⟩
def BK.keep{w w':eA}{B i b o:Nat}{T l:Nat->Nat}{t:fB}(h:BK w B T i b o t)(c:∀j,j<4->w'.cell? (dB b (o+j))=w.cell? (dB b (o+j)))
(m:∀g,g<w.1.size->B<=g->(T g=2*i+1\/T g=2*i+2)->w'.heap[g]?=w.heap[g]?/\l g=T g):BK w' B l i b o t:=by
 obtain⟨n,q,p,r,s,u,v,x,y,z⟩:=h;refine⟨n,q,p,r,(c 0 (by omega)).trans s,(c 1 (by omega)).trans u,(c 2 (by omega)).trans v,(c 3 (by omega)).trans x,y.keep λg e d a=>?_,z.keep λg e d a=>?_⟩;obtain ⟨f,k⟩:=m g e d (Ca a);exact⟨f,k.trans a⟩;obtain ⟨f,k⟩:=m g e d (La a);exact⟨f,k.trans a⟩
def zC.z{w l:eA}{B:Nat}{a:jC}{k:List fB}(h:zC w B a k)(d:tB w l):zC l B a k:=by
 obtain h|⟨g,o,c,t,T,rfl,n,f,p,h⟩:=h;exact Ca h;have b:=aB f;exact La ⟨g,o,c,t,T,rfl,n,(d.block g b).trans f,p,λi q=>(h i q).keep (λj _=>eA.cell?_of_block (d.block g b)) λm e _ _=>⟨d.block m e,rfl⟩⟩
def aF(t:fB):Nat:=t.N.size+(yA t.M+yD t.M)+(yA t.Z+yD t.Z)
def aC:List fB->Nat
 |[]=>0
 |f::r=>aF f+aC r
def rX(a b:List fB):aC (a++b)=aC a+aC b:=by induction a<;>grind [aC]
def hK(a:List fB)(k:Nat)(h:k<yA a):aC (a.take (k+1))=aC (a.take k)+aF a[k]:=by
 rw[Pa h,rX];simp[aC]
def pM(a:List fB)(k:Nat):aC (a.take k)<=aC a:=by
 have:=rX (a.take k) (a.drop k);rw[Za]at this;omega
def gT(a:List fB)(k:Nat)(h:k<yA a):aF a[k]<=aC a:=by
 have b:=hK a k h;have c:=pM a (k+1);omega
theorem kH:∀x:List UInt8,Op.bytesLess x x=cA
 |[]=>rfl
 |a::x=>by simp[Op.bytesLess,kH x]
theorem gJ:∀x y z:List UInt8,Op.bytesLess x y=dA->Op.bytesLess y z=dA->Op.bytesLess x z=dA
 |_,_,[],_,h=>by simp[Op.bytesLess]at h
 |_,[],_::_,h,_=>by simp[Op.bytesLess]at h
 |[],_::_,_::_,_,_=>by simp[Op.bytesLess]
 |a::x,b::y,c::z,e,d=>by
  simp only[Op.bytesLess,Fe,Sa,Ab,Lg]at e d |-
  obtain e|⟨rfl,e⟩:=e
  .rcases d with d|⟨rfl,_⟩
   .exact Ca (UInt8.lt_trans e d)
   exact Ca e
  obtain d|⟨rfl,d⟩:=d;exact Ca d;exact La ⟨rfl,gJ x y z e d⟩
theorem rL:∀x y:List UInt8,Op.bytesLess x y=cA->x≠y->Op.bytesLess y x=dA
 |[],[],_,h=>absurd rfl h
 |[],_::_,h,_=>by simp[Op.bytesLess]at h
 |_::_,[],_,_=>by simp[Op.bytesLess]
 |a::x,b::y,h,d=>by
  simp only[Op.bytesLess,Bool.or_eq_false_iff,Gg,Xe,Fe,Sa,Ab,Lg]at h |-
  obtain⟨f,c⟩:=h;by_cases e:a=b
  .subst e;obtain c|c:=c
   .simp at c
   exact La ⟨rfl,rL x y c (λe=>d (by rw[e]))⟩
  left;rcases UInt8.lt_or_lt_of_ne e with h|h;exact absurd h f;exact h
def tP{x y:List UInt8}(h:Op.bytesLess x y=dA):Op.bytesLess y x=cA:=by grind [gJ,kH]
theorem toList_inj{x y:nB}(h:x.toList=y.toList):x=y:=by
 have a:x.data.toList=y.data.toList:=by rw[<-ByteArray.toList_eq x,<-ByteArray.toList_eq y];exact h
 cases x;cases y
 simp only[ByteArray.mk.injEq];exact Array.toList_inj.1 a
structure bC where
 N:nB
 V:nB
def kP(w:eA)(b o:Nat)(a:List bC):Prop:=
 ∀i(h:i<yA a),w.cell? (dB b (o+i*2))=bA (oA a[i].N)/\w.cell? (dB b (o+i*2+1))=bA (oA a[i].V)
def nD(w:eA)(a:jC)(c:List bC):Prop:=c=[]\/∃b o,a=bA (dB b o)/\b<w.1.size/\kP w b o c
def nD.z{w f:eA}{a:jC}{e:List bC}(h:nD w a e)(d:tB w f):nD f a e:=by
 obtain h|⟨b,o,rfl,c,h⟩:=h;exact Ca h;refine La ⟨b,o,rfl,Bb c d.size,λi k=>?_⟩;obtain⟨g,j⟩:=h i k;exact⟨by rw[<-g];exact d.cell c,by rw[<-j];exact d.cell c⟩
def nD.at{w:eA}{a:jC}{c:List bC}(h:nD w a c){i:Nat}(e:i<yA c):
 ∃b o,a=bA (dB b o)/\b<w.1.size/\w.cell? (dB b (o+i*2))=bA (oA c[i].N)/\w.cell? (dB b (o+i*2+1))=bA (oA c[i].V):=by
 obtain rfl|⟨b,o,rfl,d,h⟩:=h;exact absurd e (by simp);exact ⟨b,o,rfl,d,h i e⟩
def tD(w:eA)(B:Nat)(a:jC)(c:List bC):Prop:=
 c=[]\/∃g o b t,a=bA (dB g o)/\B<=g/\w.heap[g]?=bA (vA b t (0,0))/\kP w g o c
def tD.B{w:eA}{B:Nat}{a:jC}{b:List bC}(h:tD w B a b):nD w a b:=by grind [tD,nD]
def tD.z{w d:eA}{B:Nat}{a:jC}{k:List bC}(h:tD w B a k)(e:tB w d):tD d B a k:=by
 obtain h|⟨g,o,c,t,rfl,l,f,h⟩:=h;exact Ca h;have b:=aB f;have n:∀j,d.cell? (dB g j)=w.cell? (dB g j):=λj=>eA.cell?_of_block (e.block g b);exact La ⟨g,o,c,t,rfl,l,(e.block g b).trans f,λi m=>by simp only[n];exact h i m⟩
def tD.mono{w:eA}{B B':Nat}{a:jC}{b:List bC}(h:tD w B a b)(c:B'<=B):tD w B' a b:=by grind [tD]
def xJ{w:eA}{B:Nat}{e:jA}{a:jC}{d:Nat}{l:List bC}
(h:w.ownsRow B e 2 (pA a (yA l) d) (yA l) (l.flatMap λx=>[oA x.N,oA x.V])):tD w B a l:=by
 obtain⟨_,t⟩|⟨g,m,b,o,p,f,_,_,u,k⟩:=h.2;exact Ca (Nb.1 t);simp only[iA.slice.injEq]at o;have q:∀(l:List bC) i(c:i<yA l),(l.flatMap λx=>[iA.string x.N,oA x.V])[i*2]?=bA (oA l[i].N)/\(l.flatMap λx=>[iA.string x.N,oA x.V])[i*2+1]?=bA (oA l[i].V):=by
  intro l;induction l with
  |nil=>intro i c;exact absurd c (by simp)
  |cons x r v=>
   intro i c;cases i with
   |zero=>simp
   |succ i=>
    have:=v i (by simpa using c);simp only[Xc,Sd,Mb,Ec];rw[show(i+1)*2=i*2+1+1 by omega,Ga,Ga,Ga,Ga];exact this
 refine La ⟨g,0,b,e,o.1,p,f,λi c=>?_⟩;have n:∀j,j<yA l*2->b[j]?=(l.flatMap λx=>[iA.string x.N,oA x.V])[j]?:=λj s=>by
  rw[<-k,Jb s,Yd]
 rw[cell_of_row w g _ b _ _ f,cell_of_row w g _ b _ _ f,Ya,n _ (by omega),n _ (by omega)];exact q l i c
def rD:List bC->Nat
 |[]=>0
 |f::r=>f.N.size+f.V.size+rD r
def wY(a b:List bC):rD (a++b)=rD a+rD b:=by induction a<;>grind [rD]
def uT(a:List bC)(k:Nat)(h:k<yA a):rD (a.take (k+1))=rD (a.take k)+(a[k].N.size+a[k].V.size):=by
 rw[Pa h,wY];simp[rD]
def dR(a:List bC)(k:Nat):rD (a.take k)<=rD a:=by
 have:=wY (a.take k) (a.drop k);rw[Za]at this;omega
abbrev bY(c:Nat):Prop:=(65<=c/\c<=90)\/(97<=c/\c<=122)\/c=95
abbrev NL(c:Nat):Prop:=48<=c/\c<=57
abbrev BA(s:nB)(i:Nat):Prop:=bY (vC s i)\/(NL (vC s i)/\0<i)
abbrev YX(s:nB):Prop:=1<=s.size/\s.size<=64/\∀i,i<s.size->BA s i
def PH(s:nB):Bool:=decide (YX s)
def tQ(l:bC):Nat:=if PH l.N=dA then cP l.V else 41
def aD:List bC->Nat->Option (Nat×Nat)
 |[],_=>aA
 |l::r,i=>if tQ l=0 then aD r (i+1) else bA (tQ l,i)
def mR(x l:bC):Bool:=x.N.toList==l.N.toList
def iF:List bC->List bC->Nat->Option Nat
 |_,[],_=>aA
 |a,l::r,i=>if a.any (λx=>mR x l)=dA then bA i else iF (a++[l]) r (i+1)
def PR:nB:=⟨#[95,95,110,97,109,101,95,95]⟩
def iP(l:bC):Bool:=l.N.toList==PR.toList
def pS(l:bC):Bool:=l.V.toList==ByteArray.empty.toList
def jP(x y:bC):Bool:=Op.bytesLess x.N.toList y.N.toList
def eL:List bC->nB
 |[]=>kA
 |l::r=>if iP l=dA then l.V else eL r
def pL(a:List bC):List bC:=a.filter (λl=>!pS l)
def rR(a:List bC):Bool:=a.any (λl=>!pS l&&iP l)
def wX(l:bC):List bC->Nat
 |[]=>0
 |x::r=>if jP x l=dA then wX l r+1 else 0
def uQ(l:bC)(a:List bC):List bC:=a.take (wX l a)++l::a.drop (wX l a)
def aG(a:List bC):List bC->List bC
 |[]=>a
 |l::r=>aG (if pS l=dA then a else uQ l a) r
def uB(a:List bC):List bC×Nat×Nat:=
 if 16<yA a then([],40,0) else match aD a 0 with
 |some (c,i)=>([],c,i)
 |none=>match iF [] a 0 with
  |some i=>([],45,i)
  |none=>if rR a=dA then(aG [] a,0,0) else([],46,0)
def so(l:bC):∀a,wX l a<=yA a
 |[]=>Ia _
 |x::r=>by
  have:=so l r;rw[wX];split;simp;omega;simp
def zk(l:bC)(a:List bC)(k:Nat)(b:k<yA a):wX l (a.drop k)=if jP a[k] l=dA then wX l (a.drop (k+1))+1 else 0:=by
 rw[Cb b,wX]
def YU(l:bC)(a:List bC):yA (uQ l a)=yA a+1:=by
 have:=so l a;simp[uQ];omega
def xq(l:bC)(a:List bC):(uQ l a).Perm (l::a):=by
 unfold uQ;refine List.perm_middle.trans ?_;rw[Za]
theorem oL:∀(c b:List bC),(aG b c).Perm (b++pL c)
 |[],b=>by simp[aG,pL]
 |l::r,b=>by
  rw[aG,pL,List.filter_cons];by_cases h:pS l=dA
  .rw[Ma h,Ja (by simp[h])];exact oL r b
  rw[Ja h,Ma (by simpa using h)];refine(oL r _).trans ?_;refine((xq l b).append_right _).trans ?_;exact(List.perm_middle (l₁:=b) (a:=l) (l₂:=pL r)).symm
theorem yZ(a:List bC):yA (pL a)<=yA a:=Pc _ _
theorem CA(a:List bC):yA (aG [] a)=yA (pL a):=by
 have:=(oL a []).length_eq;simpa using this
def Le(x y:bC):Prop:=jP y x=cA
def VN (l:bC):∀(a:List bC),∀x∈a.take (wX l a),jP x l=dA
 |[],x,h=>by simp at h
 |y::r,x,h=>by
  rw[wX]at h;split at h
  ·rename_i b
   rw[List.take_succ_cons,List.mem_cons]at h;obtain rfl|h:=h
   ·exact b
   ·exact VN l r x h
  ·simp at h
def VO (l:bC):∀(a:List bC),a.Pairwise Le->∀x∈a.drop (wX l a),jP x l=cA
 |[],_,x,h=>by simp at h
 |y::r,d,x,h=>by
  rw[wX]at h;rw[List.pairwise_cons]at d;split at h
  ·rw[List.drop_succ_cons]at h
   exact VO l r d.2 x h
  ·rename_i i
   rw[List.drop_zero,List.mem_cons]at h;have c:jP y l=cA:=by simpa using i
   obtain rfl|h:=h
   ·exact c
   ·have b:=d.1 x h
    unfold Le at b
    cases hx:jP x l
    ·rfl
    ·exfalso
     by_cases e:y.N.toList=l.N.toList
     ·unfold jP at b hx;rw[e]at b;rw[b]at hx;exact absurd hx (by simp)
     ·have f:jP l y=dA:=rL _ _ c e
      have g:jP x y=dA:=gJ _ _ _ hx f;rw[g]at b;exact absurd b (by simp)
def PG{x y z:bC}(a:Le x y)(b:Le y z):Le x z:=by grind [Le,jP,rL,gJ]
def ez (l:bC) (c:List bC) (h:c.Pairwise Le):(uQ l c).Pairwise Le:=by
 unfold uQ;have i:=VN l c;have f:=VO l c h;rw[List.pairwise_append];refine⟨h.sublist (List.take_sublist _ _),?_,?_⟩
 ·rw[List.pairwise_cons]
  exact⟨λx j=>f x j,h.sublist (List.drop_sublist _ _)⟩
 ·intro a g b d
  have e:Le a l:=tP (i a g);rw[List.mem_cons]at d;obtain rfl|d:=d
  ·exact e
  ·exact PG e (f b d)
def pU:∀(b a:List bC),a.Pairwise Le->(aG a b).Pairwise Le
 |[],a,h=>h
 |l::r,a,h=>by
  rw[aG];refine pU r _ ?_;split;exact h;exact ez l a h
def gU(a:List bC):Prop:=a.Pairwise (λx y=>x.N≠y.N)
def VY(x l:bC):mR x l=dA ↔ x.N=l.N:=by grind [mR,toList_inj]
def EE:∀(r c:List bC)(i:Nat),gU c->iF c r i=aA->gU (c++r)
 |[],c,_,h,_=>by simpa using h
 |l::r,c,i,h,d=>by
  rw[iF]at d;split at d;exact absurd d (by simp)
  rename_i j;have:gU (c++[l]):=by
   unfold gU;rw[Ae];refine⟨h,We _ _,λa g b f=>?_⟩;rw[Uf]at f;subst f;intro e;apply j;rw[Zd];exact⟨a,g,(VY _ _).2 e⟩
  have:=EE r _ _ this d;simpa using this
theorem se(a:List bC)(h:iF [] a 0=aA):gU a:=by
 have:=EE a [] 0 (by exact Gd) h;simpa using this
def aIa{c:List bC}(h:gU c){x y:bC}(b:x∈c)(a:y∈c)(e:x.N=y.N):x=y:=by
 induction c with
 |nil=>exact absurd b (by simp)
 |cons l r d=>
  unfold gU at h;rw[Bc]at h;rw[Lb]at b a;obtain rfl|b:=b
  .rcases a with rfl|a
   .rfl
   exact absurd e (h.1 y a)
  obtain rfl|a:=a;exact absurd e.symm (h.1 x b);exact d h.2 b a
def WC{c d:List bC}(h:gU c)(k:d.Perm (pL c))(q:d.Pairwise Le):d=aG [] c:=by
 have f:=(oL c []).trans (by rw[Mb]);refine Qf (le:=Le) ?_ q (pU c [] Gd) (k.trans f.symm);intro a b o p g m;have i:a∈c:=(De.1 (k.mem_iff.1 o)).1;have j:b∈c:=(De.1 (f.mem_iff.1 p)).1;refine aIa h i j ?_;by_cases e:a.N=b.N
 .exact e
 have n:jP b a=dA:=rL _ _ m (λl=>e (toList_inj l));unfold Le at g;rw[n]at g;exact absurd g (by simp)
def gj:∀(c:List bC),gU c->((eL c).toList==ByteArray.empty.toList)=!rR c
 |[],_=>by simp[eL,rR]
 |l::r,h=>by
  unfold gU at h;rw[Bc]at h;rw[eL,rR,List.any_cons];by_cases a:iP l=dA
  .rw[Ma a,a,Bool.and_true];have g:(r.any λl=>!pS l&&iP l)=cA:=by
    rw[List.any_eq_false];intro x i d;rw[Sa]at d;have e:l.N=PR:=toList_inj (by simpa[iP]using a);have f:x.N=PR:=toList_inj (by simpa[iP]using d.2);exact h.1 x i (by rw[e,f])
   rw[g,Bool.or_false,Bool.not_not];rfl
  .rw[Ja a];have b:iP l=cA:=by simpa using a
   rw[b,Wg,Rf];exact gj r h.2
theorem BP{a:List bC}(h:16<yA a):uB a=([],40,0):=by unfold uB;rw[Ma h]
theorem qZ{a:List bC}(h:¬16<yA a){c i:Nat}(b:aD a 0=bA (c,i)):uB a=([],c,i):=by unfold uB;rw[Ja h,b]
theorem eY{a:List bC}(h:¬16<yA a)(b:aD a 0=aA){i:Nat}(c:iF [] a 0=bA i):uB a=([],45,i):=by unfold uB;rw[Ja h,b,c]
theorem GU{a:List bC}(h:¬16<yA a)(b:aD a 0=aA)(d:iF [] a 0=aA)(c:rR a=cA):uB a=([],46,0):=by
 unfold uB;rw[Ja h,b,d];simp[c]
theorem MX{a:List bC}(h:¬16<yA a)(b:aD a 0=aA)(d:iF [] a 0=aA)(c:rR a=dA):uB a=(aG [] a,0,0):=by
 unfold uB;rw[Ja h,b,d];simp[c]
def AV(a:List bC)(k:Nat)(b:k<yA a):aD (a.drop k) k=if tQ a[k]=0 then aD (a.drop (k+1)) (k+1) else bA (tQ a[k],k):=by
 rw[Cb b,aD]
def EF(a:List bC)(k:Nat)(b:k<yA a):iF (a.take k) (a.drop k) k=if (a.take k).any (λx=>mR x a[k])=dA then bA k else iF (a.take (k+1)) (a.drop (k+1)) (k+1):=by
 rw[Cb b,iF,Pa b]
def VE(a:List bC)(k:Nat)(b:k<yA a):eL (a.drop k)=if iP a[k]=dA then a[k].V else eL (a.drop (k+1)):=by
 rw[Cb b,eL]
def ew(a b:List bC)(k:Nat)(c:k<yA b):aG a (b.drop k)=aG (if pS b[k]=dA then a else uQ b[k] a) (b.drop (k+1)):=by
 rw[Cb c,aG]
def yt(a:List bC)(k:Nat)(b:k<yA a):rR (a.take (k+1))=(rR (a.take k) ||(!pS a[k] &&iP a[k])):=by
 rw[Pa b,rR,Tf];simp[rR]
def oa(a:List bC)(k:Nat)(b:k<yA a):pL (a.take (k+1))=pL (a.take k)++if pS a[k]=dA then [] else [a[k]]:=by
 rw[Pa b,pL,Vf,pL];congr 1;by_cases h:pS a[k]=dA<;>simp[h]
def uX(l:List UInt8):Nat:=l.foldl (λv c=>v*256+c.toNat) 0
def DP(l:List UInt8)(c:UInt8):uX (l++[c])=uX l*256+c.toNat:=by simp[uX]
def GO(l:List UInt8):uX l<256 ^ yA l:=by
 have b:∀(n:Nat)(l:List UInt8),yA l=n->uX l<256 ^ n:=λn=>by
  induction n with
  |zero=>intro l h;rw[Nb.1 h];decide
  |succ n c=>
   intro l h;have a:l≠[]:=by intro e;rw[e]at h;simp at h
   rw[<-List.dropLast_concat_getLast a,DP];have d:=c l.dropLast (by simp[h]);have f:=(l.getLast a).toNat_lt;rw[Od];omega
 exact b _ l rfl
def yQ(s:nB)(p n:Nat):List UInt8:=(s.data.toList.drop p).take n
def tR{s:nB}{p n:Nat}(h:p+n<=s.size):yA (yQ s p n)=n:=by
 have:yA s.data.toList=s.size:=by simp
 simp only[yQ,Hb,Rc];omega
def QL{s:nB}{p k:Nat}(h:p+k<s.size):yQ s p (k+1)=yQ s p k++[s[p+k]]:=by
 have a:yA s.data.toList=s.size:=by simp
 unfold yQ;rw[Pa (by rw[Rc,a];omega),Cg];rfl
def CS(v:Int):Nat->Int
 |0=>v
 |k+1=>CS v k / 256
def vX(v:Int):Nat->List Int
 |0=>[]
 |n+1=>CS v n % 256::vX v n
def qB(n:Nat)(v:Int):nB:=strOfNums (vX v n)
def zY(v:Int):∀n,yA (vX v n)=n
 |0=>rfl
 |n+1=>by simp[vX,zY v n]
theorem kB(n:Nat)(v:Int):(qB n v).size=n:=by
 rw[qB,strOfNums_size,zY]
def LY:∃i,prog.info? 5=bA i/\i.zero=bA (.int .u8 0)/\i.size=1/\i.bytes=1:=by
 have h:(prog.info? 5).map (λi=>(i.zero,i.size,i.bytes))=bA (bA (.int .u8 0),1,1):=by kernel_rfl
 obtain⟨i,b,a⟩:=Wb.1 h;simp only[Dc]at a;exact⟨i,b,a.1,a.2.1,a.2.2⟩
def NC{w:eA}{B:Nat}{d:jC}{f:Nat}{ys:List Int}(h:w.ownsRow B 5 1 (pA d (yA ys) f) (yA ys) (ys.map (iA.int .u8))):
 (convert 22 9 (pA d (yA ys) f)).run prog w=.ok (oA (strOfNums ys)) w:=by
 obtain⟨b,q⟩|⟨g,k,a,b,_,m,o,_,p,c⟩:=h.2;simp only[iA.slice.injEq]at b;obtain⟨rfl,l,rfl⟩:=b;have e:ys=[]:=Nb.1 l;subst e;exact run_convert_bytes_nil w 22 5 underlying22 underlying5 _ _ 9 underlying9;simp only[iA.slice.injEq]at b;obtain⟨rfl,_,rfl⟩:=b;refine run_convert_bytes_arg w 22 5 underlying22 underlying5 g 0 _ _ ys rfl (λi n=>?_) 9 underlying9;rw[Ya,cell_of_row w g i a _ _ m];have j:(a.toList.take (yA ys*1))[i]?=(ys.map (iA.int .u8))[i]?:=by rw[c]
 rw[Jb (by omega)]at j;rw[<-Yd,j];simp[List.getD,Va n]
def fD(n:Nat)(v:Int)(w:eA)(Z:n<=8)(_o : -9223372036854775808<=v)(_p:v<=9223372036854775807):
 vE 54 #[zA n,zA v] w (oA (qB n v)):=by
 obtain⟨J,p,B,C,D⟩:=LY;have K:bB (prog.info? 5=bA J):=p;clear p;clear _o _p;go_enter func54,ntmps54;go_wp2;go_loopw [5,6,7,8] (λE i _ _ wr=>∃(m:Nat)(a:List Int)(s:jC)(t:Nat),yA a+m=n/\bB (a++vX v m=vX v n)/\i=zA ((m:Int)-1)/\E=pA s (yA a) t/\bB (wr.ownsRow w.1.size 5 1 (pA s (yA a) t) (yA a) (a.map (iA.int .u8)))/\tB w wr) (λ_ i _ _ _=>((intOf i)+1).toNat)
 case atStart=>
  exact⟨n,[],_,_,by simp,by show _=_;simp,by simp,rfl,eA.ownsRow_made w #[] 0 (Ia _) (by simp[maxLen]) (by simp),yB⟩
 case round=>
  obtain⟨m,a,s,t,Y,h,rfl,rfl,d,b⟩:=hrel;by_cases o:0<m
  .obtain ⟨r,rfl⟩:∃r,m=r+1:=⟨m-1,by omega⟩
   have F:((r+1:Nat):Int)-1=(r:Int):=by omega
   rw[F];clear F;go_wp2;go_loop [7,8] (λx k=>∃(j:Nat)(X:Int),j<=r/\k=zA j/\x=zA X/\bB (X=CS v j)) (λ_ k=>r-(intOf k).toNat)
   case atStart=>exact⟨0,v,Oa _,rfl,rfl,rfl⟩
   case round=>
    obtain⟨j,X,W,rfl,rfl,G⟩:=hrel;by_cases R:j<r
    .go_wp2;exact⟨⟨j+1,X / 256,by omega,by go_num,rfl,by show _=_;rw[CS,G.o]⟩,by simp[intOf];omega⟩
    have e:j=r:=by omega
    subst e;have S:=b.size;go_wp2_with(at_builtin;refine wpList_append_lies _ rfl _ _ _ rfl w.1.size 5 J _ 1 1 underlying22 K.o B C D rfl (by omega) (pA s (yA a) t) (yA a) (a.map (iA.int .u8)) rfl (by exact eC d.o yB) (dB wr.1.size 0) 1 1 [.int .u8 (X % 256)] rfl rfl (by exact eA.news_of_block (heap_alloc_new _ _)) (by simp[iA.oneCell']) (by omega) (by simp[maxLen];omega) (by omega) (by simp;omega) (wr.1.size+1) (by simp) ?_;intro N o U c f H I);have y:tB w U:=(vB b yB).grown f (by simp;omega) (λq u=>by
     obtain⟨z,_⟩|⟨g,L,M,z,V,_⟩:=d.o.2;rw[z]at u;simp[iA.ownBlock]at u;rw[z]at u;simp[iA.ownBlock]at u;omega)
    have A:a.map (iA.int .u8)++[iA.int .u8 (X % 256)]=(a++[X % 256]).map (iA.int .u8):=by simp
    have l:yA (a++[X % 256])=yA a+1:=by simp
    rw[A,<-l]at c;refine⟨⟨j,a++[X % 256],pB N,o,by rw[l];omega,?_,rfl,by rw[l],c,y⟩,by simp[intOf]⟩;show _=_;rw[<-h.o,vX,G.o];simp
  have e:m=0:=by omega
  subst e;have Q:=NC d.o;go_wp2;go_ret;refine⟨Kd (λx=>Ending.returned (oA x)) ?_,b⟩;rw[qB,<-h.o,vX,Cd]
def CJ(v:Nat):Nat->List Nat
 |0=>[]
 |n+1=>v / 256 ^ n % 256::CJ v n
def KG(v:Nat):∀n,yA (CJ v n)=n
 |0=>rfl
 |n+1=>by simp[CJ,KG v n]
def jh(v:Nat):∀k,CS (v:Int) k=((v / 256 ^ k:Nat):Int)
 |0=>by simp[CS]
 |k+1=>by rw[CS,jh v k,Od,<-Fg];omega
def QA(v:Nat):∀n,vX (v:Int) n=(CJ v n).map (λx:Nat=>(x:Int))
 |0=>rfl
 |n+1=>by rw[vX,CJ,Fc,QA v n,jh];simp
def gu(a b n:Nat):∀m,m<=n->CJ (a*256 ^ n+b) m=CJ b m
 |0,_=>rfl
 |m+1,h=>by
  rw[CJ,CJ,gu a b n m (by omega)];congr 1;obtain⟨d,rfl⟩:∃d,n=m+1+d:=⟨n-(m+1),by omega⟩
  have e:a*256 ^ (m+1+d)+b=b+256 ^ m*(a*256 ^ d*256):=by rw[Nat.pow_add,Od,Nat.add_comm];congr 1;ac_rfl
  rw[e,Nat.add_mul_div_left _ _ (Zf (by omega))];omega
def bu(c:UInt8)(l:List UInt8):uX (c::l)=c.toNat*256 ^ yA l+uX l:=by
 have f:∀(l:List UInt8)(v:Nat),l.foldl (λv c=>v*256+c.toNat) v=v*256 ^ yA l+uX l:=λl=>by
  induction l with
  |nil=>intro v;simp[uX]
  |cons d l e=>
   intro v;have a:=e (v*256+d.toNat);have b:=e (0*256+d.toNat);simp only[uX,Og,Zb,Od]at a b |-
   rw[a,b];simp only[Nat.add_mul,Nat.zero_mul,Ya];rw[Nat.add_assoc];congr 1;ac_rfl
 have:=f l (0*256+c.toNat);simpa[uX]using this
def sf:∀(l:List UInt8),CJ (uX l) (yA l)=l.map (λc=>c.toNat)
 |[]=>rfl
 |c::l=>by
  have a:=GO l;have b:=c.toNat_lt;rw[Zb,CJ,bu,gu _ _ _ _ (Ia _),sf l,Fc];congr 1;rw[Nat.add_comm,Nat.mul_comm,Nat.add_mul_div_left _ _ (Zf (by omega)),Nat.div_eq_of_lt a];omega
def sj(l:List UInt8)(n:Nat)(h:yA l=n):qB n (uX l:Nat)=⟨l.toArray⟩:=by
 subst h;rw[qB,QA,sf,strOfNums];congr 2;rw[Vd,Vd];conv=>rhs;rw[<-List.map_id l]
 congr 1;funext c;simp
def ri(v:Nat):∀n,uX ((CJ v n).map UInt8.ofNat)=v % 256 ^ n
 |0=>by simp[CJ,uX,Nat.mod_one]
 |n+1=>by
  rw[CJ,Fc,bu,ri v n,Xa,KG,UInt8.toNat_ofNat_of_lt' (by show _<256;omega),Od,Nat.mod_mul];rw[Nat.mul_comm,Nat.add_comm]
def zc(n v:Nat):(qB n v).data.toList=(CJ v n).map UInt8.ofNat:=by
 rw[qB,QA,strOfNums_data,Vd];congr 1
theorem pT(n v:Nat)(h:v<256 ^ n):uX (qB n v).data.toList=v:=by
 rw[zc,ri,Ic h]
def xM(s:nB):nB:=qB 1 (s.size:Nat)++s
def vF(s:nB):nB:=qB 2 (s.size:Nat)++s
theorem lF(s:nB):(xM s).size=1+s.size:=by rw[xM,Ka,kB]
theorem bF(s:nB):(vF s).size=2+s.size:=by rw[vF,Ka,kB]
def okM(a:List UInt8)(c:UInt8):Bool:=(97<=c&&c<=122) ||(48<=c&&c<=57) ||decide (0<=Lib.indexByte a c)
def wS(s:nB)(b:Int)(a:nB):Bool:=decide (1<=s.size) &&decide ((s.size:Int)<=b) &&s.data.toList.all (okM a.data.toList)
def xk(mk:nB)(c:UInt8)(w:eA):hI 167 #[oA mk,.int .u8 (c.toNat:Int)] w (zA (Lib.indexByte mk.data.toList c)):=by
 have:=strings_IndexByte mk (c.toNat:Int) w;simpa using this
def AO{s:nB}{f:UInt8->Bool}{k:Nat}(h:k<s.size):(s.data.toList.take (k+1)).all f=((s.data.toList.take k).all f&&f s[k]):=by
 rw[tV s k h];simp
def rb{l:List UInt8}{f:UInt8->Bool}{k:Nat}(h:(l.take k).all f=cA):l.all f=cA:=by grind
def yi(c:UInt8):(97<=c&&c<=122)=decide (97<=(c.toNat:Int)/\(c.toNat:Int)<=122):=by rw[Qb];simp[Df];omega
def aCi(c:UInt8):(48<=c&&c<=57)=decide (48<=(c.toNat:Int)/\(c.toNat:Int)<=57):=by rw[Qb];simp[Df];omega
def KB(s:nB)(a:Int)(mk:nB)(w:eA)(q:s.size<=maxLen):
 hI 92 #[oA s,zA a,oA mk] w (.bool (wS s a mk)):=by
 unfold maxLen at q;by_cases r:(s.size:Int)<1
 .have c:bB (wS s a mk=cA):=by show _=_;simp[wS];omega
  go_enter func92,ntmps92;go_wp2;go_ret;exact⟨oB c.o.symm,rfl⟩
 by_cases t:a<(s.size:Int)
 .have c:bB (wS s a mk=cA):=by
   show _=_;have:decide ((s.size:Int)<=a)=cA:=by simp;omega
   simp[wS,this]
  go_enter func92,ntmps92;go_wp2;go_ret;exact⟨oB c.o.symm,rfl⟩
 have c:bB (wS s a mk=s.data.toList.all (okM mk.data.toList)):=by
  show _=_;have o:1<=s.size:=by omega
  have p:(s.size:Int)<=a:=by omega
  simp[wS,o,p]
 go_enter func92,ntmps92;go_wp2;go_loop [7,8,20] (λ_ _ i=>∃k:Nat,k<=s.size/\i=zA k/\(s.data.toList.take k).all (okM mk.data.toList)=dA) (λ_ _ i=>s.size-(intOf i).toNat)
 case atStart=>exact⟨0,Oa _,rfl,by simp⟩
 case round=>
  obtain⟨k,u,rfl,g⟩:=hrel;have d:bB _:=g;clear g;by_cases j:k<s.size
  .have b:=AO (f:=okM mk.data.toList) j;rw[d.o,Oc,okM,yi,aCi]at b;have l:bB _:=b;clear b;have m:=λW=>xk mk s[k] W;generalize Lib.indexByte mk.data.toList s[k]=v at *;have h:bB _:=m;clear m;go_wp2_with(go_at_call 167;apply hC (h.o _);rintro n rfl);all_goals first
    |(go_ret
      refine⟨oB ?_,rfl⟩;rw[c.o];refine(rb (k:=k+1) ?_).symm;rw[l.o];simp at *;omega)
    |(refine⟨⟨k+1,by omega,by go_num,?_⟩,by simp[intOf];omega⟩
      rw[l.o];simp at *;omega)
  go_wp2;go_ret;exact⟨oB (by rw[c.o,<-d.o,Ra (by simp;omega)]),rfl⟩
def zP(s:nB)(w:eA)(f:s.size<=1000000000):
 vE 91 #[oA s] w (oA (xM s)):=by
 have d:bB (∀W,vE 54 #[zA 1,zA (s.size:Nat)] W (oA (qB 1 (s.size:Nat)))):=λW=>fD 1 (s.size:Nat) W (by omega) (by omega) (by omega);have g:=kB 1 (s.size:Nat);unfold xM;generalize qB 1 (s.size:Nat)=N at *;go_enter func91,ntmps91;go_wp2_with fail;apply hC (d.o _);intro h a;have c:bB _:=a;clear a;go_wp2;go_ret;exact⟨rfl,c.o⟩
def aO(s:nB)(w:eA)(f:s.size<=1000000000):
 vE 62 #[oA s] w (oA (vF s)):=by
 have d:bB (∀W,vE 54 #[zA 2,zA (s.size:Nat)] W (oA (qB 2 (s.size:Nat)))):=λW=>fD 2 (s.size:Nat) W (by omega) (by omega) (by omega);have g:=kB 2 (s.size:Nat);unfold vF;generalize qB 2 (s.size:Nat)=N at *;go_enter func62,ntmps62;go_wp2_with fail;apply hC (d.o _);intro h a;have c:bB _:=a;clear a;go_wp2;go_ret;exact⟨rfl,c.o⟩
def GG(v:Int):Prop:=-9223372036854775808<=v/\v<=9223372036854775807
def aBc(a:List iB):Prop:=∀i(h:i<yA a),GG a[i].n
def uj(a:List fB):Prop:=∀i(h:i<yA a),GG a[i].L/\aBc a[i].M/\aBc a[i].Z
def NR(p:iB):nB:=vF p.s++qB 8 p.n
def oG:List iB->nB
 |[]=>kA
 |p::q=>NR p++oG q
def WW(a:List iB):Prop:=∀i(h:i<yA a),a[i].s.size<=65535
def vK(t:fB):Prop:=t.N.size<=255/\WW t.M/\WW t.Z
def MG(t:fB):nB:=xM t.N++qB 8 t.L++qB 4 (yA t.M:Nat)
def lU(t:fB):nB:=MG t++oG t.M++qB 4 (yA t.Z:Nat)++oG t.Z
def rF:List fB->nB
 |[]=>kA
 |t::q=>lU t++rF q
def ckB:nB:=⟨#[67,75,80,84]⟩
def FY(a b:Int)(n:Nat):nB:=ckB++qB 8 a++qB 8 b++qB 4 (n:Nat)
def KZ(a:Int)(b:List fB):Prop:=0<=a/\a<=1000000000000000/\∀i(h:i<yA b),vK b[i]
def yM(a b:Int)(c:List fB):nB:=FY a b (yA c)++rF c
def aNs(a:Int)(b:List fB):Decidable (KZ a b):=by unfold KZ vK WW;exact inferInstance
def eO(a b:Int)(c:List fB):nB:=haveI:=aNs a c;if KZ a c then yM a b c++qB 4 (lL (yM a b c):Nat) else kA
def ME{a b:Int}{c:List fB}(h:KZ a c):eO a b c=yM a b c++qB 4 (lL (yM a b c):Nat):=by unfold eO;rw[Ma h]
def MD{a b:Int}{c:List fB}(h:¬KZ a c):eO a b c=kA:=by unfold eO;rw[Ja h]
def DY:∀(a b:List iB),oG (a++b)=oG a++oG b
 |[],b=>by simp[oG]
 |r::q,b=>by
  show NR r++oG (q++b)=NR r++oG q++oG b;rw[DY q b,Wa]
def NS(a:List iB)(k:Nat)(h:k<yA a):oG (a.take (k+1))=oG (a.take k)++NR a[k]:=by
 rw[Pa h,DY];simp[oG]
def pR:∀(a b:List fB),rF (a++b)=rF a++rF b
 |[],b=>by simp[rF]
 |r::q,b=>by
  show lU r++rF (q++b)=lU r++rF q++rF b;rw[pR q b,Wa]
def NU(a:List fB)(k:Nat)(h:k<yA a):rF (a.take (k+1))=rF (a.take k)++lU a[k]:=by
 rw[Pa h,pR];simp[rF]
def wg(p:iB):(NR p).size=10+p.s.size:=by
 unfold NR;rw[Ka,bF,kB];omega
theorem BS:∀(a:List iB),(oG a).size=10*yA a+yD a
 |[]=>rfl
 |p::q=>by
  show(NR p++oG q).size=_;rw[Ka,wg,BS q];show _=10*(yA q+1)+(p.s.size+yD q)
  omega
theorem ao(t:fB):(MG t).size=13+t.N.size:=by grind [MG,lF,kB]
def UI(t:fB):(lU t).size=17+t.N.size+10*yA t.M+yD t.M+10*yA t.Z+yD t.Z:=by grind [lU,yD,ao,BS,kB]
def FZ(a b:Int)(n:Nat):(FY a b n).size=24:=by
 unfold FY;rw[Ka,Ka,Ka,kB,kB,kB];rfl
def tf{c:List fB}{k:Nat}(e:k<yA c)(h:¬vK c[k])(a b:Int):eO a b c=kA:=MD λd=>h (d.2.2 k e)
def vM(w:eA)(B:Nat)(v:iA)(s:nB):Prop:=
 ∃g a b c,v=pA (pB g) s.size a/\B<=g/\w.heap[g]?=bA (vA b 5 c)/\(c.2=0\/a<=c.1)/\s.size<=a/\a<=maxLen/\b.size=a/\b.toList.take s.size=Lib.strCells s
def vM.z{w d:eA}{B:Nat}{v:iA}{s:nB}(h:vM w B v s)(k:tB w d):vM d B v s:=by
 obtain⟨g,a,b,e,f,i,c,j⟩:=h;exact⟨g,a,b,e,f,i,(k.block g (aB c)).trans c,j⟩
def vM.mono{w:eA}{B B':Nat}{v:iA}{s:nB}(h:vM w B v s)(i:B'<=B):vM w B' v s:=by
 obtain⟨g,a,b,c,d,e,f⟩:=h;exact⟨g,a,b,c,d,Ua i e,f⟩
def vM.lt{w:eA}{B:Nat}{v:iA}{s:nB}(h:vM w B v s):∃g,v.ownBlock=bA g/\B<=g/\g<w.1.size:=by
 obtain⟨g,a,b,e,rfl,c,d,f⟩:=h;exact⟨g,rfl,c,aB d⟩
def pX(a b:nB):Lib.strCells (a++b)=Lib.strCells a++Lib.strCells b:=by simp[Lib.strCells]
theorem qk(P:Program)(g o:Nat)(t:TypeId)(b:Nat×Nat)(d:List Value):∀(i:Nat)(a:Array Value)(w:World),w.heap[g]?=some (.cells a t b)->(b.2=0\/a.size<=b.1)->o+i+d.length<=a.size->(∀v∈d,v.oneCell'=true)->
 (storeCells (dB g o) d i).run P w=.ok () (w.setRow g (a.toList.take (o+i)++d++a.toList.drop (o+i+d.length)).toArray):=by
 induction d with
 |nil=>
  intro i a w c _ _ _;rw[storeCells,Cd,List.length_nil,Bg,Za,Array.toArray_toList,setRow_self w g a t b c];rfl
 |cons v q s=>
  intro i a w c f n k;rw[Zb]at n;have l:((dB g o):Addr).add i=(dB g (o+i)):=by unfold Addr.add;split<;>simp_all
  have m:w.cell? (dB g (o+i))=some (a[o+i]'(by omega)):=by rw[cell_of_row w g _ a t b c];exact Qc (by omega)
  have j:w.frozen? (dB g (o+i))=false:=by
   unfold World.frozen?;rw[c];obtain f|f:=f
   .rw[Gg];exact La (Ub (by show ¬o+i<b.2;omega))
   .rw[Gg];exact Ca (Ub (by show ¬b.1<=o+i;omega))
  have p:(store (((dB g o):Addr).add i) v).run P w=.ok () (w.setRow g (a.setIfInBounds (o+i) v)):=by
   rw[l,run_store P w _ v _ (k v (Kc ..)),m];simp[j,setCell_eq_setRow w g (o+i) a t b v c]
  have h:=s (i+1) (a.setIfInBounds (o+i) v) (w.setRow g (a.setIfInBounds (o+i) v)) (setRow_heap w g a _ t _ c) (by simpa using f) (by simp;omega) (λx r=>k x (Sb _ r));rw[storeCells,Sem.run_bind,p,Result.andThen_ok,h,setRow_setRow];congr 3;have e:=list_seg_step a.toList (o+i) v q (by simp;omega);simpa[Jf,Nat.add_assoc]using e
def sU(w:eA)(B:Nat)(v:iA)(s x:nB)(I:jA)(m:vM w B v s)(J:B<=w.1.size)(S:s.size+x.size<=140737488355328):
 ∃r G,(Builtin.append_ #[22,9] I #[v,oA x]).run prog w=.ok r G/\vM G B r (s++x)/\w.grownBy G v.ownBlock/\(r.ownBlock=v.ownBlock\/r.ownBlock=bA w.1.size):=by
 obtain⟨R,o,E,p,F⟩:=LY;obtain⟨g,a,b,H,rfl,y,d,i,M,z,A,l⟩:=m;have c:(s++x).size=s.size+x.size:=Ka;by_cases h:s.size+x.size<=a
 .have L:=Lib.run_firstCells_string (P:=prog) w 1 x;have n:=qk prog g s.size 5 H (Lib.strCells x) 0 b w d (by rw[A];exact i) (by rw[Lib.strCells_length];omega) (Lib.strCells_oneCell x);simp only[Bg,Lib.strCells_length]at n;refine⟨pA (pB g) (s.size+x.size) a,w.setRow g (b.toList.take s.size++Lib.strCells x++b.toList.drop (s.size+x.size)).toArray,?_,?_,⟨rfl,rfl,rfl,by simp,λk _ C=>setRow_other w g k _ (λe=>C (by simp[iA.ownBlock,e]))⟩,Ca rfl⟩
  .simp[Builtin.append_,run_underlying underlying22,run_underlying underlying9,sizeOf,typeInfo,o,p,Builtin.lenOf,h,L,Addr.add_lit,n]
  refine ⟨g,a,_,H,by rw[c],y,setRow_heap w g b _ _ _ d,i,by omega,z,?_,?_⟩;simp only[List.size_toArray,Kb,Hb,Rc,Qg,Lib.strCells_length];omega;rw[l,c,pX];have D:yA (Lib.strCells s++Lib.strCells x)=s.size+x.size:=by rw[Kb,Lib.strCells_length,Lib.strCells_length]
  rw[<-D];exact List.take_left
 have f:∀j u,(Lib.strCells s)[j]?=bA u->w.cell? (((dB g 0):Addr).add j)=bA u:=λj u q=>by
  have K:((dB g 0):Addr).add j=(dB g j):=by unfold Addr.add;split<;>simp_all
  rw[K,cell_of_row w g j b _ _ d];rw[<-l,Ye]at q;split at q;simpa using q
  cases q
 have Q:=Lib.run_append_grow_string (P:=prog) w 22 9 I 5 R (.int .u8 0) underlying22 underlying9 o E (dB g 0) s.size a (Lib.strCells s) (by rw[p,Lib.strCells_length,Nat.mul_one]) f x (by omega) (by omega) (by rw[F];exact growslice_fits (by omega) (by omega));have N:=grownCap_ge w (s.size+x.size) a 5;have t:=grownCap_le_maxLen w (s.size+x.size) a 5 (by unfold maxLen;omega);refine⟨_,_,Q,⟨w.1.size,_,_,(0,0),by rw[c],J,heap_alloc_new w.drew _,Ca rfl,by omega,t,?_,?_⟩,⟨rfl,rfl,rfl,by simp,λk C _=>heap_alloc_old w.drew _ C⟩,La rfl⟩;have O:(iA.int IntKind.u8 0).cells.size=1:=rfl;simp only[Array.size_append,List.size_toArray,size_zeroCells,O,Lib.strCells_length];omega;rw[c,pX];have D:yA (Lib.strCells s++Lib.strCells x)=s.size+x.size:=by rw[Kb,Lib.strCells_length,Lib.strCells_length]
 simp only[Array.toList_append,Nd];rw[<-Nd,<-D];exact List.take_left
def ZL(w:eA)(B:Nat)(v:iA)(s x:nB)(d:jA)(a:vM w B v s)(h:B<=w.1.size)(i:s.size+x.size<=140737488355328):
 ∃c b,(Builtin.append_ #[22,9] d #[v,oA x]).run prog w=.ok c b/\vM b B c (s++x)/\w.grownBy b v.ownBlock:=by
 obtain⟨c,b,e,f,g,_⟩:=sU w B v s x d a h i;exact⟨c,b,e,f,g⟩
def SN(w:eA){d:Array Oper}{o:Oper}{a:Act}{K:Act->eA->Prop}{Q:Exit->Act->eA->Prop}{E:Prop}(i:o.guard=aA)(h x:Operand)
(A:o.op=.call { callee:=.builtin .append,args:=#[h,x],argTypes:=#[22,9] })
(B:Nat)(v:iA)(s t:nB)(D:a.eval h=v)(b:vM w B v s)(F:a.eval x=oA t)(n:B<=w.1.size)(G:s.size+t.size<=140737488355328)
(h:∀f c,vM c B f (s++t)->fA B w c->(∀k,k<w.1.size->v.ownBlock≠bA k->c.heap[k]?=w.heap[k]?)->K (a.put o.dst f) c):
 if Region.wanted o (yielded d a.tmps)=dA then Oper.wp prog o a w K Q else E:=by
 have m:Region.wanted o (yielded d a.tmps)=dA:=by simp[Region.wanted,i]
 rw[Ma m];obtain⟨f,c,C,r,m⟩:=ZL w B v s t o.type b n G;have j:=b.lt;have u:=h f c r ((fA.refl B w).grown m n (λq p=>by obtain⟨g,e,y,_⟩:=j;rw[e]at p;cases p;exact y)) (λk z l=>m.block k z (λe=>l e.symm));unfold Oper.wp execOp;simp only[A,resolve,invoke,builtin,Sem.run_bind,Sem.run_pure,Result.andThen_ok,Hg,Fc,Ag,D,F,C];exact u
def xO(w:eA){f:Array Oper}{o:Oper}{a:Act}{K:Act->eA->Prop}{Q:Exit->Act->eA->Prop}{E:Prop}(j:o.guard=aA)(h x:Operand)
(C:o.op=.call { callee:=.builtin .append,args:=#[h,x],argTypes:=#[22,9] })
(B:Nat)(v:iA)(s t:nB)(F:a.eval h=v)(b:vM w B v s)(G:a.eval x=oA t)(n:B<=w.1.size)(H:s.size+t.size<=140737488355328)
(h:∀d c,vM c B d (s++t)->fA B w c->(∀k,k<w.1.size->v.ownBlock≠bA k->c.heap[k]?=w.heap[k]?)->(d.ownBlock=v.ownBlock\/d.ownBlock=bA w.1.size)->w.1.size<=c.1.size->K (a.put o.dst d) c):
 if Region.wanted o (yielded f a.tmps)=dA then Oper.wp prog o a w K Q else E:=by
 have m:Region.wanted o (yielded f a.tmps)=dA:=by simp[Region.wanted,j]
 rw[Ma m];obtain⟨d,c,D,r,i,u⟩:=sU w B v s t o.type b n H;have l:=b.lt;have y:=h d c r ((fA.refl B w).grown i n (λq p=>by obtain⟨g,e,z,_⟩:=l;rw[e]at p;cases p;exact z)) (λk A m=>i.block k A (λe=>m e.symm)) u i.size;unfold Oper.wp execOp;simp only[C,resolve,invoke,builtin,Sem.run_bind,Sem.run_pure,Result.andThen_ok,Hg,Fc,Ag,F,G,D];exact y
def nK(w:eA){i:Array Oper}{c:List Oper}{o:Oper}{a:Act}{Q:Exit->Act->eA->Prop}(l:o.guard=aA)(h x:Operand)
(E:o.op=.call { callee:=.builtin .append,args:=#[h,x],argTypes:=#[22,9] })
(B:Nat)(v:iA)(s t:nB)(G:a.eval h=v)(b:vM w B v s)(H:a.eval x=oA t)(p:B<=w.1.size)(I:s.size+t.size<=140737488355328)
(h:∀f d,vM d B f (s++t)->fA B w d->(∀k,k<w.1.size->v.ownBlock≠bA k->d.heap[k]?=w.heap[k]?)->(f.ownBlock=v.ownBlock\/f.ownBlock=bA w.1.size)->w.1.size<=d.1.size->wpList prog i Q c (a.put o.dst f) d):
 wpList prog i Q (o::c) a w:=by
 refine wpList_plain l λK z=>?_;obtain⟨f,d,F,u,j,y⟩:=sU w B v s t o.type b p I;have m:=b.lt;have C:=h f d u ((fA.refl B w).grown j p (λq r=>by obtain⟨g,e,A,_⟩:=m;rw[e]at r;cases r;exact A)) (λk D n=>j.block k D (λe=>n e.symm)) y j.size;unfold Oper.wp execOp;simp only[E,resolve,invoke,builtin,Sem.run_bind,Sem.run_pure,Result.andThen_ok,Hg,Fc,Ag,G,H,F];exact z _ _ C
def XN(w:eA)(s:nB)(f:s.size<=140737488355328):∃v d,(convert 9 22 (oA s)).run prog w=.ok v d/\vM d w.1.size v s/\tB w d:=by
 refine⟨_,_,run_bytes_of_string w _ _ 5 s underlying9 underlying22 underlying5,?_,(fA.refl _ w).drew.alloc (by simp) _⟩;have c:=grownCap_ge w s.size 0 5;have b:=grownCap_le_maxLen w s.size 0 5 (by unfold maxLen;omega);have a:(bytesRow s (grownCap w s.size 0 5)).size=grownCap w s.size 0 5:=by
  unfold bytesRow;rw[Array.size_append,Array.size_map,Array.size_replicate];show s.size+_=_;omega
 refine⟨w.1.size,_,_,_,rfl,Ia _,heap_alloc_new w.drew _,La (by rw[a];exact Ia _),c,b,a,?_⟩;have e:=Lib.strCells_length s;unfold bytesRow;rw[Array.toList_append,Array.toList_map];conv=>lhs;arg 1;rw[<-e]
 exact List.take_left
def DU(s:nB)(a:s.size<=140737488355328):∃(V:eA->iA)(N:eA->eA),(∀w,(convert 9 22 (oA s)).run prog w=.ok (V w) (N w))/\∀w,vM (N w) w.1.size (V w) s/\tB w (N w):=
 ⟨λw=>Classical.choose (XN w s a),λw=>Classical.choose (Me (XN w s a)),λw=>(Me (Me (XN w s a))).1,λw=>(Me (Me (XN w s a))).2⟩
def BM{w:eA}{B:Nat}{v:iA}{s:nB}(h:vM w B v s):(convert 22 9 v).run prog w=.ok (oA s) w:=by
 obtain⟨g,b,a,k,rfl,l,e,m,n,o,p,f⟩:=h;have:=run_convert_bytes_back w 22 9 5 (dB g 0) b s.data.toList underlying22 underlying5 underlying9 (λj d=>by
  have i:((dB g 0):Addr).add j=(dB g j):=by unfold Addr.add;split<;>simp_all
  rw[i,cell_of_row w g j a _ _ e,<-Yd];have c:j<s.size:=by simpa using d
  have:(a.toList.take s.size)[j]?=(Lib.strCells s)[j]?:=by rw[f]
  rw[Jb c]at this;rw[this,Lib.strCells,Se,Va d];rfl)
 simpa using this
def dV(x:Nat):Nat:=if x % 2=1 then(x / 2) ^^^ 2197175160 else x / 2
def lO(x:Nat):Nat->Nat
 |0=>x
 |k+1=>dV (lO x k)
def mf(i:Nat):Nat:=lO i 8
def aBy{x:Nat}(h:x<4294967296):dV x<4294967296:=by
 unfold dV;split;exact Qd (n:=32) (by omega) (by omega);omega
def UA{x:Nat}(h:x<4294967296):∀k,lO x k<4294967296
 |0=>h
 |k+1=>aBy (UA h k)
def aGu{i:Nat}(h:i<256):mf i<4294967296:=UA (by omega) 8
def ue(a b:Nat):(a ^^^ b) % 2=(a+b) % 2:=by
 have:=Nat.xor_mod_two_eq_one (a:=a) (b:=b);omega
def vo(r x:Nat):dV (r ^^^ x)=iY r x ^^^ (x / 2):=by
 unfold dV iY;rw[ue,Nat.xor_div_two];split;rw[Nat.xor_assoc,Nat.xor_comm (x / 2),<-Nat.xor_assoc];rfl
def JK(r b:Nat):∀k,lO (r ^^^ b) k=gQ r b k ^^^ (b / 2 ^ k)
 |0=>by simp[lO,gQ]
 |k+1=>by
  show dV (lO (r ^^^ b) k)=iY (gQ r b k) (b / 2 ^ k) ^^^ (b / 2 ^ (k+1));rw[JK r b k,vo,Fg,Od]
def md(x z:Nat):dV (x ^^^ (2*z))=dV x ^^^ z:=by
 unfold dV;rw[ue,Nat.xor_div_two,show(x+2*z) % 2=x % 2 by omega,show 2*z / 2=z by omega];split;rw[Nat.xor_assoc,Nat.xor_comm z,<-Nat.xor_assoc];rfl
def JL(x z:Nat):∀k,lO (x ^^^ (2 ^ k*z)) k=lO x k ^^^ z
 |0=>by simp[lO]
 |k+1=>by
  show dV (lO (x ^^^ (2 ^ (k+1)*z)) k)=dV (lO x k) ^^^ z;rw[Od,Nat.mul_assoc,JL x (2*z) k,md]
def vp(r:Nat):r=(r % 256) ^^^ (256*(r / 256)):=by
 have h:256*(r / 256)+r % 256=(2 ^ 8*(r / 256)) ||| (r % 256):=Ef (i:=8) (b:=r % 256) (by omega) (r / 256)
 have c:(r % 256) ^^^ (256*(r / 256))=(2 ^ 8*(r / 256)) ||| (r % 256):=by
  apply Nat.eq_of_testBit_eq;intro i;rw[Nat.testBit_xor,Nat.testBit_or,show 256*(r / 256)=2 ^ 8*(r / 256) from rfl,Nat.testBit_two_pow_mul,show r % 256=r % 2 ^ 8 from rfl,Nat.testBit_mod_two_pow];by_cases a:i<8
  .simp[a,Nat.not_le.2 a]
  simp[a,Nat.not_lt.1 a]
 omega
def vq(r b:Nat)(d:b<256):gQ r b 8=(r / 256) ^^^ mf ((r % 256) ^^^ b):=by
 have a:=JK r b 8;rw[show b / 2 ^ 8=0 by omega,Nat.xor_zero]at a;rw[<-a];have c:=JL ((r % 256) ^^^ b) (r / 256) 8;rw[show((r % 256) ^^^ b) ^^^ (2 ^ 8*(r / 256))=r ^^^ b by
  rw[Nat.xor_assoc,Nat.xor_comm b,<-Nat.xor_assoc,show(2 ^ 8*(r / 256))=256*(r / 256) from rfl,<-vp r]]at c
 rw[c,Nat.xor_comm];rfl
def qO(r:Nat)(c:UInt8):Nat:=((r ^^^ c.toNat)*1099511628211) % 18446744073709551616
def EJ(r:Nat)(l:List UInt8):Nat:=l.foldl qO r
def gV(l:List UInt8):Nat:=EJ 14695981039346656037 l
def w64(r:Nat):Int:=if r<9223372036854775808 then(r:Int) else(r:Int)-18446744073709551616
def RT(r:Nat)(l:List UInt8)(c:UInt8):EJ r (l++[c])=qO (EJ r l) c:=by
 unfold EJ;rw[Dg,Og,List.foldl_nil]
def ON(l:List UInt8)(c:UInt8):gV (l++[c])=qO (gV l) c:=RT _ l c
def dw(r:Nat)(c:UInt8):qO r c<18446744073709551616:=by unfold qO;omega
def dv(l:List UInt8):gV l<18446744073709551616:=by
 rcases List.eq_nil_or_concat l with rfl|⟨a,c,rfl⟩;decide;rw[List.concat_eq_append,ON];exact dw _ _
def xj(s:nB)(k:Nat)(h:k<s.size):gV (s.data.toList.take (k+1))=qO (gV (s.data.toList.take k)) s[k]:=by
 have a:k<yA s.data.toList:=by simpa using h
 rw[Pa a,ON];rfl
def wrap_i64(n:Nat):IntKind.i64.wrap (n:Int)=w64 (n % 18446744073709551616):=by
 simp only[IntKind.wrap,IntKind.bits,IntKind.signed,w64];simp;split<;>split<;>omega
def RM(n:Nat):IntKind.u64.wrap (n:Int)=((n % 18446744073709551616:Nat):Int):=by
 simp only[IntKind.wrap,IntKind.bits,IntKind.signed];simp
def aJd(r:Nat):w64 r % 18446744073709551616=(r:Int) % 18446744073709551616:=by
 unfold w64;split<;>omega
def ze(r:Nat):BitVec.ofInt 64 (w64 r)=BitVec.ofNat 64 r:=by
 apply BitVec.eq_of_toNat_eq;rw[BitVec.toNat_ofInt,Hc];have:=aJd r;simp;omega
def kx(r:Nat)(c:UInt8)(h:r<18446744073709551616):r ^^^ c.toNat<18446744073709551616:=
 Qd (n:=64) (by omega) (by have:=c.toNat_lt;omega)
def aNy(r:Nat)(c:UInt8)(h:r<18446744073709551616):bits .xor .i64 (w64 r) (c.toNat:Int)=w64 (r ^^^ c.toNat):=by
 have b:=c.toNat_lt;have a:=kx r c h;show IntKind.i64.wrap ((BitVec.ofInt 64 (w64 r) ^^^ BitVec.ofInt 64 (c.toNat:Int)).toNat:Int)=_;rw[ze r,Nc,Jg,Hc,Hc,Ic h,Ic (by omega),wrap_i64,Ic a]
def aJj(r:Nat)(c:UInt8)(h:r<18446744073709551616):bits .xor .u64 (r:Int) (c.toNat:Int)=((r ^^^ c.toNat:Nat):Int):=by
 have b:=c.toNat_lt;have a:=kx r c h;show IntKind.u64.wrap ((BitVec.ofInt 64 (r:Int) ^^^ BitVec.ofInt 64 (c.toNat:Int)).toNat:Int)=_;rw[Nc,Nc,Jg,Hc,Hc,Ic h,Ic (by omega),RM,Ic a]
def aNt(r:Nat)(c:UInt8)(h:r<18446744073709551616):IntKind.u64.wrap (bits .xor .u64 (r:Int) (c.toNat:Int)*1099511628211)=((qO r c:Nat):Int):=by
 rw[aJj r c h,qO,<-RM];rfl
