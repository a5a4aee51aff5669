import Derived.Test.YtejebmgbenmimaaGreatDoorJ04
set_option maxRecDepth 100000
set_option maxHeartbeats 2000000
set_option linter.defProp false
open Option renaming some->fA,none->eA
open Bool renaming false->gA,true->iA
open ByteArray renaming empty->pA
open List renaming length->cB
namespace Go.Proofs.YtejebmgbenmimaaGreatDoor
open Go renaming World->jA,TypeId->oA,Value->mA
open Value renaming string->tA,slice->uA
open Obj renaming cells->aB
open RowKit renaming Below->kA
open Go.RowKit Tryz
structure pB where
 s:vB
 n:Int
def LI(w:jA)(b o:Nat)(a:List pB):Prop:=
 ∀i(h:i<cB a),w.cell? (iB b (o+i*2))=fA (tA a[i].s)/\w.cell? (iB b (o+i*2+1))=fA (dB a[i].n)
def jC(w:jA)(a:nC)(c:List pB):Prop:=c=[]\/∃b o,a=fA (iB b o)/\b<w.1.size/\LI w b o c
def jC.z{w f:jA}{a:nC}{e:List pB}(h:jC w a e)(d:zB w f):jC f a e:=by
 obtain h|⟨b,o,rfl,c,h⟩:=h;exact Ca h;refine La ⟨b,o,rfl,Bb c d.size,λi k=>?_⟩;obtain⟨g,j⟩:=h i k;exact⟨by rw[<-g];exact d.cell c,by rw[<-j];exact d.cell c⟩
def jC.at{w:jA}{a:nC}{c:List pB}(h:jC w a c){i:Nat}(e:i<cB c):
 ∃b o,a=fA (iB b o)/\b<w.1.size/\w.cell? (iB b (o+i*2))=fA (tA c[i].s)/\w.cell? (iB b (o+i*2+1))=fA (dB c[i].n):=by
 obtain rfl|⟨b,o,rfl,d,h⟩:=h;exact absurd e (by simp);exact ⟨b,o,rfl,d,h i e⟩
def kD(w:jA)(B:Nat)(a:nC)(c:List pB):Prop:=
 c=[]\/∃g o b t,a=fA (iB g o)/\B<=g/\w.heap[g]?=fA (aB b t (0,0))/\LI w g o c
def kD.pairs{w:jA}{B:Nat}{a:nC}{b:List pB}(h:kD w B a b):jC w a b:=by grind [kD,jC]
def kD.z{w d:jA}{B:Nat}{a:nC}{k:List pB}(h:kD w B a k)(e:zB w d):kD d B a k:=by
 obtain h|⟨g,o,c,t,rfl,l,f,h⟩:=h;exact Ca h;have b:=eB f;have n:∀j,d.cell? (iB g j)=w.cell? (iB g j):=λj=>jA.cell?_of_block (e.block g b);exact La ⟨g,o,c,t,rfl,l,(e.block g b).trans f,λi m=>by simp only[n];exact h i m⟩
def kD.mono{w:jA}{B B':Nat}{a:nC}{b:List pB}(h:kD w B a b)(c:B'<=B):kD w B' a b:=by grind [kD]
def rD{w:jA}{B:Nat}{e:oA}{a:nC}{d:Nat}{l:List pB}
(h:w.ownsRow B e 2 (uA a (cB l) d) (cB l) (l.flatMap λx=>[tA x.s,dB x.n])):kD w B a l:=by
 obtain⟨_,v⟩|⟨g,m,b,p,q,f,_,_,y,k⟩:=h.2;exact Ca (Nb.1 v);simp only[mA.slice.injEq]at p;have t:∀(l:List pB) i(c:i<cB l),(l.flatMap λx=>[mA.string x.s,dB x.n])[i*2]?=fA (tA l[i].s)/\(l.flatMap λx=>[mA.string x.s,dB x.n])[i*2+1]?=fA (dB l[i].n):=by
  intro l;induction l with
  |nil=>intro i c;exact absurd c (by simp)
  |cons x r z=>
   intro i c;cases i with
   |zero=>simp
   |succ i=>
    have:=z i (by simpa using c);simp only[Xc,Sd,Mb,Ec];rw[show(i+1)*2=i*2+1+1 by omega,Ga,Ga,Ga,Ga];exact this
 refine La ⟨g,0,b,e,p.1,q,f,λi c=>?_⟩;have o:∀j,j<cB l*2->b[j]?=(l.flatMap λx=>[mA.string x.s,dB x.n])[j]?:=λj u=>by
  rw[<-k,Jb u,Yd]
 rw[cell_of_row w g _ b _ _ f,cell_of_row w g _ b _ _ f,Ya,o _ (by omega),o _ (by omega)];exact t l i c
def dE:List pB->Nat
 |[]=>0
 |f::r=>f.s.size+dE r
def mX(a b:List pB):dE (a++b)=dE a+dE b:=by induction a<;>grind [dE]
def pN(a:List pB)(k:Nat)(h:k<cB a):dE (a.take (k+1))=dE (a.take k)+a[k].s.size:=by
 rw[Pa h,mX];simp[dE]
def lM(a:List pB)(k:Nat):dE (a.take k)<=dE a:=by
 have:=mX (a.take k) (a.drop k);rw[Za]at this;omega
def rB.new(w:jA)(cs:Array mA)(t:oA):rB (w.alloc (aB cs t)) w.1.size cs t:=heap_alloc_new _ _
def rB.alloc{w:jA}{g:Nat}{a:Array mA}{t:oA}(h:rB w g a t)(o:Obj):rB (w.alloc o) g a t:=h.z aC
def rB.but{w d:jA}{g c:Nat}{a:Array mA}{t:oA}(h:rB w g a t)(e:uD c w d)(b:g≠c):rB d g a t:=(e.block g (eB h) b).trans h
def rB.six{w:jA}{b:Nat}{a c d e f g:mA}{t:oA}(h:rB w b #[a,c,d,e,f,g] t):
 w.cell? (iB b 0)=fA a/\w.cell? (iB b 1)=fA c/\w.cell? (iB b 2)=fA d/\w.cell? (iB b 3)=fA e/\w.cell? (iB b 4)=fA f/\w.cell? (iB b 5)=fA g:=by
 simp[h.cell]
structure kB where
 N:vB
 L:Int
 M:List pB
 Z:List pB
def RU(w:jA)(b o:Nat)(t:kB):Prop:=
 ∃a d c e,w.cell? (iB b o)=fA (tA t.N)/\w.cell? (iB b (o+1))=fA (dB t.L)/\w.cell? (iB b (o+2))=fA (uA a (cB t.M) d)/\w.cell? (iB b (o+3))=fA (uA c (cB t.Z) e)/\
  jC w a t.M/\jC w c t.Z
def aIa(w:jA)(b o:Nat)(a:List kB):Prop:=∀i(h:i<cB a),RU w b (o+i*4) a[i]
def uC(w:jA)(a:nC)(c:List kB):Prop:=c=[]\/∃b o,a=fA (iB b o)/\b<w.1.size/\aIa w b o c
def RU.z{w d:jA}{b o:Nat}{t:kB}(h:RU w b o t)(a:b<w.1.size)(c:zB w d):RU d b o t:=by
 obtain⟨e,g,f,i,j,k,l,m,n,p⟩:=h;exact⟨e,g,f,i,(c.cell a).trans j,(c.cell a).trans k,(c.cell a).trans l,(c.cell a).trans m,n.z c,p.z c⟩
def uC.z{w f:jA}{a:nC}{e:List kB}(h:uC w a e)(d:zB w f):uC f a e:=by
 obtain h|⟨b,o,rfl,c,h⟩:=h;exact Ca h;exact La ⟨b,o,rfl,Bb c d.size,λi g=>(h i g).z c d⟩
def uC.at{w:jA}{a:nC}{c:List kB}(h:uC w a c){i:Nat}(k:i<cB c):
 ∃b o d f e g,a=fA (iB b o)/\b<w.1.size/\w.cell? (iB b (o+i*4))=fA (tA c[i].N)/\w.cell? (iB b (o+i*4+1))=fA (dB c[i].L)/\
  w.cell? (iB b (o+i*4+2))=fA (.slice d (cB c[i].M) f)/\w.cell? (iB b (o+i*4+3))=fA (.slice e (cB c[i].Z) g)/\jC w d c[i].M/\jC w e c[i].Z:=by
 obtain rfl|⟨b,o,rfl,j,h⟩:=h;exact absurd k (by simp);obtain ⟨d,f,e,g,h⟩:=h i k;exact⟨b,o,d,f,e,g,rfl,j,h⟩
def cF(w:jA)(B:Nat)(T:Nat->Nat)(n:Nat)(a:nC)(c:List pB):Prop:=
 c=[]\/∃g o b t,a=fA (iB g o)/\B<=g/\T g=n/\w.heap[g]?=fA (aB b t (0,0))/\LI w g o c
def cF.pairs{w:jA}{B n:Nat}{T:Nat->Nat}{a:nC}{b:List pB}(h:cF w B T n a b):jC w a b:=by grind [cF,jC]
def cF.own{w:jA}{B n:Nat}{T:Nat->Nat}{a:nC}{b:List pB}(h:cF w B T n a b):kD w B a b:=by grind [cF,kD]
def cF.keep{w w':jA}{B n:Nat}{T c:Nat->Nat}{a:nC}{l:List pB}(h:cF w B T n a l)
(s:∀g,g<w.1.size->B<=g->T g=n->w'.heap[g]?=w.heap[g]?/\c g=n):cF w' B c n a l:=by
 obtain h|⟨g,o,b,t,e,f,p,k,h⟩:=h;exact Ca h;obtain ⟨d,m⟩:=s g (eB k) f p;have q:∀j,w'.cell? (iB g j)=w.cell? (iB g j):=λj=>jA.cell?_of_block d;exact La ⟨g,o,b,t,e,f,m,d.trans k,λi r=>by simp only[q];exact h i r⟩
def BM(w:jA)(B:Nat)(T:Nat->Nat)(i b o:Nat)(t:kB):Prop:=
 ∃a d c e,w.cell? (iB b o)=fA (tA t.N)/\w.cell? (iB b (o+1))=fA (dB t.L)/\w.cell? (iB b (o+2))=fA (uA a (cB t.M) d)/\w.cell? (iB b (o+3))=fA (uA c (cB t.Z) e)/\
  cF w B T (2*i+1) a t.M/\cF w B T (2*i+2) c t.Z
def cD(w:jA)(B:Nat)(a:nC)(c:List kB):Prop:=
 c=[]\/∃g o b t T,a=fA (iB g o)/\B<=g/\w.heap[g]?=fA (aB b t (0,0))/\T g=0/\∀i(h:i<cB c),BM w B T i g (o+i*4) c[i]
def BM.at{w:jA}{B i b o:Nat}{T:Nat->Nat}{t:kB}(h:BM w B T i b o t):RU w b o t:=by
 obtain⟨a,d,c,e,f,g,j,k,l,m⟩:=h;exact⟨a,d,c,e,f,g,j,k,l.pairs,m.pairs⟩
def cD.tens{w:jA}{B:Nat}{a:nC}{b:List kB}(h:cD w B a b):uC w a b:=by
 obtain h|⟨g,o,c,t,T,rfl,_,d,_,h⟩:=h;exact Ca h;exact La ⟨g,o,rfl,eB d,λi e=>(h i e).at⟩
def BM.keep{w w':jA}{B i b o:Nat}{T l:Nat->Nat}{t:kB}(h:BM w B T i b o t)(c:∀j,j<4->w'.cell? (iB b (o+j))=w.cell? (iB b (o+j)))
(m:∀g,g<w.1.size->B<=g->(T g=2*i+1\/T g=2*i+2)->w'.heap[g]?=w.heap[g]?/\l g=T g):BM w' B l i b o t:=by
 obtain⟨n,q,p,r,s,u,v,x,y,z⟩:=h;refine⟨n,q,p,r,(c 0 (by omega)).trans s,(c 1 (by omega)).trans u,(c 2 (by omega)).trans v,(c 3 (by omega)).trans x,y.keep λg e d a=>?_,z.keep λg e d a=>?_⟩;obtain ⟨f,k⟩:=m g e d (Ca a);exact⟨f,k.trans a⟩;obtain ⟨f,k⟩:=m g e d (La a);exact⟨f,k.trans a⟩
def cD.z{w l:jA}{B:Nat}{a:nC}{k:List kB}(h:cD w B a k)(d:zB w l):cD l B a k:=by
 obtain h|⟨g,o,c,t,T,rfl,n,f,p,h⟩:=h;exact Ca h;have b:=eB f;exact La ⟨g,o,c,t,T,rfl,n,(d.block g b).trans f,p,λi q=>(h i q).keep (λj _=>jA.cell?_of_block (d.block g b)) λm e _ _=>⟨d.block m e,rfl⟩⟩
def lF(t:kB):Nat:=t.N.size+(cB t.M+dE t.M)+(cB t.Z+dE t.Z)
def fC:List kB->Nat
 |[]=>0
 |f::r=>lF f+fC r
def sX(a b:List kB):fC (a++b)=fC a+fC b:=by induction a<;>grind [fC]
def eK(a:List kB)(k:Nat)(h:k<cB a):fC (a.take (k+1))=fC (a.take k)+lF a[k]:=by
 rw[Pa h,sX];simp[fC]
def tM(a:List kB)(k:Nat):fC (a.take k)<=fC a:=by
 have:=sX (a.take k) (a.drop k);rw[Za]at this;omega
def gX(a:List kB)(k:Nat)(h:k<cB a):lF a[k]<=fC a:=by
 have b:=eK a k h;have c:=tM a (k+1);omega
theorem iF:∀x:List UInt8,Op.bytesLess x x=gA
 |[]=>rfl
 |a::x=>by simp[Op.bytesLess,iF x]
theorem kJ:∀x y z:List UInt8,Op.bytesLess x y=iA->Op.bytesLess y z=iA->Op.bytesLess x z=iA
 |_,_,[],_,h=>by simp[Op.bytesLess]at h
 |_,[],_::_,h,_=>by simp[Op.bytesLess]at h
 |[],_::_,_::_,_,_=>by simp[Op.bytesLess]
 |a::x,b::y,c::z,e,d=>by
  simp only[Op.bytesLess,Fe,Sa,Ab,Lg]at e d |-
  obtain e|⟨rfl,e⟩:=e
  .rcases d with d|⟨rfl,_⟩
   .exact Ca (UInt8.lt_trans e d)
   exact Ca e
  obtain d|⟨rfl,d⟩:=d;exact Ca d;exact La ⟨rfl,kJ x y z e d⟩
theorem qL:∀x y:List UInt8,Op.bytesLess x y=gA->x≠y->Op.bytesLess y x=iA
 |[],[],_,h=>absurd rfl h
 |[],_::_,h,_=>by simp[Op.bytesLess]at h
 |_::_,[],_,_=>by simp[Op.bytesLess]
 |a::x,b::y,h,d=>by
  simp only[Op.bytesLess,Bool.or_eq_false_iff,Gg,Xe,Fe,Sa,Ab,Lg]at h |-
  obtain⟨f,c⟩:=h;by_cases e:a=b
  .subst e;obtain c|c:=c
   .simp at c
   exact La ⟨rfl,qL x y c (λe=>d (by rw[e]))⟩
  left;rcases UInt8.lt_or_lt_of_ne e with h|h;exact absurd h f;exact h
def mP{x y:List UInt8}(h:Op.bytesLess x y=iA):Op.bytesLess y x=gA:=by grind [kJ,iF]
theorem toList_inj{x y:vB}(h:x.toList=y.toList):x=y:=by
 have a:x.data.toList=y.data.toList:=by rw[<-ByteArray.toList_eq x,<-ByteArray.toList_eq y];exact h
 cases x;cases y
 simp only[ByteArray.mk.injEq];exact Array.toList_inj.1 a
structure hC where
 N:vB
 V:vB
def dP(w:jA)(b o:Nat)(a:List hC):Prop:=
 ∀i(h:i<cB a),w.cell? (iB b (o+i*2))=fA (tA a[i].N)/\w.cell? (iB b (o+i*2+1))=fA (tA a[i].V)
def vD(w:jA)(a:nC)(c:List hC):Prop:=c=[]\/∃b o,a=fA (iB b o)/\b<w.1.size/\dP w b o c
def vD.z{w f:jA}{a:nC}{e:List hC}(h:vD w a e)(d:zB w f):vD f a e:=by
 obtain h|⟨b,o,rfl,c,h⟩:=h;exact Ca h;refine La ⟨b,o,rfl,Bb c d.size,λi k=>?_⟩;obtain⟨g,j⟩:=h i k;exact⟨by rw[<-g];exact d.cell c,by rw[<-j];exact d.cell c⟩
def vD.at{w:jA}{a:nC}{c:List hC}(h:vD w a c){i:Nat}(e:i<cB c):
 ∃b o,a=fA (iB b o)/\b<w.1.size/\w.cell? (iB b (o+i*2))=fA (tA c[i].N)/\w.cell? (iB b (o+i*2+1))=fA (tA c[i].V):=by
 obtain rfl|⟨b,o,rfl,d,h⟩:=h;exact absurd e (by simp);exact ⟨b,o,rfl,d,h i e⟩
def qE(w:jA)(B:Nat)(a:nC)(c:List hC):Prop:=
 c=[]\/∃g o b t,a=fA (iB g o)/\B<=g/\w.heap[g]?=fA (aB b t (0,0))/\dP w g o c
def qE.B{w:jA}{B:Nat}{a:nC}{b:List hC}(h:qE w B a b):vD w a b:=by grind [qE,vD]
def qE.z{w d:jA}{B:Nat}{a:nC}{k:List hC}(h:qE w B a k)(e:zB w d):qE d B a k:=by
 obtain h|⟨g,o,c,t,rfl,l,f,h⟩:=h;exact Ca h;have b:=eB f;have n:∀j,d.cell? (iB g j)=w.cell? (iB g j):=λj=>jA.cell?_of_block (e.block g b);exact La ⟨g,o,c,t,rfl,l,(e.block g b).trans f,λi m=>by simp only[n];exact h i m⟩
def qE.mono{w:jA}{B B':Nat}{a:nC}{b:List hC}(h:qE w B a b)(c:B'<=B):qE w B' a b:=by grind [qE]
def zJ{w:jA}{B:Nat}{e:oA}{a:nC}{d:Nat}{l:List hC}
(h:w.ownsRow B e 2 (uA a (cB l) d) (cB l) (l.flatMap λx=>[tA x.N,tA x.V])):qE w B a l:=by
 obtain⟨_,t⟩|⟨g,m,b,o,p,f,_,_,u,k⟩:=h.2;exact Ca (Nb.1 t);simp only[mA.slice.injEq]at o;have q:∀(l:List hC) i(c:i<cB l),(l.flatMap λx=>[mA.string x.N,tA x.V])[i*2]?=fA (tA l[i].N)/\(l.flatMap λx=>[mA.string x.N,tA x.V])[i*2+1]?=fA (tA l[i].V):=by
  intro l;induction l with
  |nil=>intro i c;exact absurd c (by simp)
  |cons x r v=>
   intro i c;cases i with
   |zero=>simp
   |succ i=>
    have:=v i (by simpa using c);simp only[Xc,Sd,Mb,Ec];rw[show(i+1)*2=i*2+1+1 by omega,Ga,Ga,Ga,Ga];exact this
 refine La ⟨g,0,b,e,o.1,p,f,λi c=>?_⟩;have n:∀j,j<cB l*2->b[j]?=(l.flatMap λx=>[mA.string x.N,tA x.V])[j]?:=λj s=>by
  rw[<-k,Jb s,Yd]
 rw[cell_of_row w g _ b _ _ f,cell_of_row w g _ b _ _ f,Ya,n _ (by omega),n _ (by omega)];exact q l i c
def bE:List hC->Nat
 |[]=>0
 |f::r=>f.N.size+f.V.size+bE r
def zY(a b:List hC):bE (a++b)=bE a+bE b:=by induction a<;>grind [bE]
def uT(a:List hC)(k:Nat)(h:k<cB a):bE (a.take (k+1))=bE (a.take k)+(a[k].N.size+a[k].V.size):=by
 rw[Pa h,zY];simp[bE]
def xQ(a:List hC)(k:Nat):bE (a.take k)<=bE a:=by
 have:=zY (a.take k) (a.drop k);rw[Za]at this;omega
abbrev cY(c:Nat):Prop:=(65<=c/\c<=90)\/(97<=c/\c<=122)\/c=95
abbrev NF(c:Nat):Prop:=48<=c/\c<=57
abbrev BB(s:vB)(i:Nat):Prop:=cY (aD s i)\/(NF (aD s i)/\0<i)
abbrev XZ(s:vB):Prop:=1<=s.size/\s.size<=64/\∀i,i<s.size->BB s i
def OT(s:vB):Bool:=decide (XZ s)
def pQ(l:hC):Nat:=if OT l.N=iA then zO l.V else 41
def lD:List hC->Nat->Option (Nat×Nat)
 |[],_=>eA
 |l::r,i=>if pQ l=0 then lD r (i+1) else fA (pQ l,i)
def iR(x l:hC):Bool:=x.N.toList==l.N.toList
def qF:List hC->List hC->Nat->Option Nat
 |_,[],_=>eA
 |a,l::r,i=>if a.any (λx=>iR x l)=iA then fA i else qF (a++[l]) r (i+1)
def OY:vB:=⟨#[95,95,110,97,109,101,95,95]⟩
def bP(l:hC):Bool:=l.N.toList==OY.toList
def vS(l:hC):Bool:=l.V.toList==ByteArray.empty.toList
def cP(x y:hC):Bool:=Op.bytesLess x.N.toList y.N.toList
def aL:List hC->vB
 |[]=>pA
 |l::r=>if bP l=iA then l.V else aL r
def oL(a:List hC):List hC:=a.filter (λl=>!vS l)
def rR(a:List hC):Bool:=a.any (λl=>!vS l&&bP l)
def wX(l:hC):List hC->Nat
 |[]=>0
 |x::r=>if cP x l=iA then wX l r+1 else 0
def qQ(l:hC)(a:List hC):List hC:=a.take (wX l a)++l::a.drop (wX l a)
def kG(a:List hC):List hC->List hC
 |[]=>a
 |l::r=>kG (if vS l=iA then a else qQ l a) r
def yB(a:List hC):List hC×Nat×Nat:=
 if 16<cB a then([],40,0) else match lD a 0 with
 |some (c,i)=>([],c,i)
 |none=>match qF [] a 0 with
  |some i=>([],45,i)
  |none=>if rR a=iA then(kG [] a,0,0) else([],46,0)
def qd(l:hC):∀a,wX l a<=cB a
 |[]=>Ia _
 |x::r=>by
  have:=qd l r;rw[wX];split;simp;omega;simp
def wf(l:hC)(a:List hC)(k:Nat)(b:k<cB a):wX l (a.drop k)=if cP a[k] l=iA then wX l (a.drop (k+1))+1 else 0:=by
 rw[Cb b,wX]
def XW(l:hC)(a:List hC):cB (qQ l a)=cB a+1:=by
 have:=qd l a;simp[qQ];omega
def ut(l:hC)(a:List hC):(qQ l a).Perm (l::a):=by
 unfold qQ;refine List.perm_middle.trans ?_;rw[Za]
theorem nL:∀(c b:List hC),(kG b c).Perm (b++oL c)
 |[],b=>by simp[kG,oL]
 |l::r,b=>by
  rw[kG,oL,List.filter_cons];by_cases h:vS l=iA
  .rw[Ma h,Ja (by simp[h])];exact nL r b
  rw[Ja h,Ma (by simpa using h)];refine(nL r _).trans ?_;refine((ut l b).append_right _).trans ?_;exact(List.perm_middle (l₁:=b) (a:=l) (l₂:=oL r)).symm
theorem AE(a:List hC):cB (oL a)<=cB a:=Pc _ _
theorem CF(a:List hC):cB (kG [] a)=cB (oL a):=by
 have:=(nL a []).length_eq;simpa using this
def Le(x y:hC):Prop:=cP y x=gA
def UO (l:hC):∀(a:List hC),∀x∈a.take (wX l a),cP x l=iA
 |[],x,h=>by simp at h
 |y::r,x,h=>by
  rw[wX]at h;split at h
  ·rename_i b
   rw[List.take_succ_cons,List.mem_cons]at h;obtain rfl|h:=h
   ·exact b
   ·exact UO l r x h
  ·simp at h
def UP (l:hC):∀(a:List hC),a.Pairwise Le->∀x∈a.drop (wX l a),cP x l=gA
 |[],_,x,h=>by simp at h
 |y::r,d,x,h=>by
  rw[wX]at h;rw[List.pairwise_cons]at d;split at h
  ·rw[List.drop_succ_cons]at h
   exact UP l r d.2 x h
  ·rename_i i
   rw[List.drop_zero,List.mem_cons]at h;have c:cP y l=gA:=by simpa using i
   obtain rfl|h:=h
   ·exact c
   ·have b:=d.1 x h
    unfold Le at b
    cases hx:cP x l
    ·rfl
    ·exfalso
     by_cases e:y.N.toList=l.N.toList
     ·unfold cP at b hx;rw[e]at b;rw[b]at hx;exact absurd hx (by simp)
     ·have f:cP l y=iA:=qL _ _ c e
      have g:cP x y=iA:=kJ _ _ _ hx f;rw[g]at b;exact absurd b (by simp)
def OS{x y z:hC}(a:Le x y)(b:Le y z):Le x z:=by grind [Le,cP,qL,kJ]
def de (l:hC) (c:List hC) (h:c.Pairwise Le):(qQ l c).Pairwise Le:=by
 unfold qQ;have i:=UO l c;have f:=UP l c h;rw[List.pairwise_append];refine⟨h.sublist (List.take_sublist _ _),?_,?_⟩
 ·rw[List.pairwise_cons]
  exact⟨λx j=>f x j,h.sublist (List.drop_sublist _ _)⟩
 ·intro a g b d
  have e:Le a l:=mP (i a g);rw[List.mem_cons]at d;obtain rfl|d:=d
  ·exact e
  ·exact OS e (f b d)
def mU:∀(b a:List hC),a.Pairwise Le->(kG a b).Pairwise Le
 |[],a,h=>h
 |l::r,a,h=>by
  rw[kG];refine mU r _ ?_;split;exact h;exact de l a h
def gU(a:List hC):Prop:=a.Pairwise (λx y=>x.N≠y.N)
def UZ(x l:hC):iR x l=iA ↔ x.N=l.N:=by grind [iR,toList_inj]
def EB:∀(r c:List hC)(i:Nat),gU c->qF c r i=eA->gU (c++r)
 |[],c,_,h,_=>by simpa using h
 |l::r,c,i,h,d=>by
  rw[qF]at d;split at d;exact absurd d (by simp)
  rename_i j;have:gU (c++[l]):=by
   unfold gU;rw[Ae];refine⟨h,We _ _,λa g b f=>?_⟩;rw[Uf]at f;subst f;intro e;apply j;rw[Zd];exact⟨a,g,(UZ _ _).2 e⟩
  have:=EB r _ _ this d;simpa using this
theorem pu(a:List hC)(h:qF [] a 0=eA):gU a:=by
 have:=EB a [] 0 (by exact Gd) h;simpa using this
def aFw{c:List hC}(h:gU c){x y:hC}(b:x∈c)(a:y∈c)(e:x.N=y.N):x=y:=by
 induction c with
 |nil=>exact absurd b (by simp)
 |cons l r d=>
  unfold gU at h;rw[Bc]at h;rw[Lb]at b a;obtain rfl|b:=b
  .rcases a with rfl|a
   .rfl
   exact absurd e (h.1 y a)
  obtain rfl|a:=a;exact absurd e.symm (h.1 x b);exact d h.2 b a
def VD{c d:List hC}(h:gU c)(k:d.Perm (oL c))(q:d.Pairwise Le):d=kG [] c:=by
 have f:=(nL c []).trans (by rw[Mb]);refine Qf (le:=Le) ?_ q (mU c [] Gd) (k.trans f.symm);intro a b o p g m;have i:a∈c:=(De.1 (k.mem_iff.1 o)).1;have j:b∈c:=(De.1 (f.mem_iff.1 p)).1;refine aFw h i j ?_;by_cases e:a.N=b.N
 .exact e
 have n:cP b a=iA:=qL _ _ m (λl=>e (toList_inj l));unfold Le at g;rw[n]at g;exact absurd g (by simp)
def ed:∀(c:List hC),gU c->((aL c).toList==ByteArray.empty.toList)=!rR c
 |[],_=>by simp[aL,rR]
 |l::r,h=>by
  unfold gU at h;rw[Bc]at h;rw[aL,rR,List.any_cons];by_cases a:bP l=iA
  .rw[Ma a,a,Bool.and_true];have g:(r.any λl=>!vS l&&bP l)=gA:=by
    rw[List.any_eq_false];intro x i d;rw[Sa]at d;have e:l.N=OY:=toList_inj (by simpa[bP]using a);have f:x.N=OY:=toList_inj (by simpa[bP]using d.2);exact h.1 x i (by rw[e,f])
   rw[g,Bool.or_false,Bool.not_not];rfl
  .rw[Ja a];have b:bP l=gA:=by simpa using a
   rw[b,Wg,Rf];exact ed r h.2
theorem BQ{a:List hC}(h:16<cB a):yB a=([],40,0):=by unfold yB;rw[Ma h]
theorem vZ{a:List hC}(h:¬16<cB a){c i:Nat}(b:lD a 0=fA (c,i)):yB a=([],c,i):=by unfold yB;rw[Ja h,b]
theorem iY{a:List hC}(h:¬16<cB a)(b:lD a 0=eA){i:Nat}(c:qF [] a 0=fA i):yB a=([],45,i):=by unfold yB;rw[Ja h,b,c]
theorem GK{a:List hC}(h:¬16<cB a)(b:lD a 0=eA)(d:qF [] a 0=eA)(c:rR a=gA):yB a=([],46,0):=by
 unfold yB;rw[Ja h,b,d];simp[c]
theorem MT{a:List hC}(h:¬16<cB a)(b:lD a 0=eA)(d:qF [] a 0=eA)(c:rR a=iA):yB a=(kG [] a,0,0):=by
 unfold yB;rw[Ja h,b,d];simp[c]
def AW(a:List hC)(k:Nat)(b:k<cB a):lD (a.drop k) k=if pQ a[k]=0 then lD (a.drop (k+1)) (k+1) else fA (pQ a[k],k):=by
 rw[Cb b,lD]
def EC(a:List hC)(k:Nat)(b:k<cB a):qF (a.take k) (a.drop k) k=if (a.take k).any (λx=>iR x a[k])=iA then fA k else qF (a.take (k+1)) (a.drop (k+1)) (k+1):=by
 rw[Cb b,qF,Pa b]
def UF(a:List hC)(k:Nat)(b:k<cB a):aL (a.drop k)=if bP a[k]=iA then a[k].V else aL (a.drop (k+1)):=by
 rw[Cb b,aL]
def dc(a b:List hC)(k:Nat)(c:k<cB b):kG a (b.drop k)=kG (if vS b[k]=iA then a else qQ b[k] a) (b.drop (k+1)):=by
 rw[Cb c,kG]
def vp(a:List hC)(k:Nat)(b:k<cB a):rR (a.take (k+1))=(rR (a.take k) ||(!vS a[k] &&bP a[k])):=by
 rw[Pa b,rR,Tf];simp[rR]
def ln(a:List hC)(k:Nat)(b:k<cB a):oL (a.take (k+1))=oL (a.take k)++if vS a[k]=iA then [] else [a[k]]:=by
 rw[Pa b,oL,Vf,oL];congr 1;by_cases h:vS a[k]=iA<;>simp[h]
def uX(l:List UInt8):Nat:=l.foldl (λv c=>v*256+c.toNat) 0
def DP(l:List UInt8)(c:UInt8):uX (l++[c])=uX l*256+c.toNat:=by simp[uX]
def GH(l:List UInt8):uX l<256 ^ cB l:=by
 have b:∀(n:Nat)(l:List UInt8),cB l=n->uX l<256 ^ n:=λn=>by
  induction n with
  |zero=>intro l h;rw[Nb.1 h];decide
  |succ n c=>
   intro l h;have a:l≠[]:=by intro e;rw[e]at h;simp at h
   rw[<-List.dropLast_concat_getLast a,DP];have d:=c l.dropLast (by simp[h]);have f:=(l.getLast a).toNat_lt;rw[Od];omega
 exact b _ l rfl
def sQ(s:vB)(p n:Nat):List UInt8:=(s.data.toList.drop p).take n
def vR{s:vB}{p n:Nat}(h:p+n<=s.size):cB (sQ s p n)=n:=by
 have:cB s.data.toList=s.size:=by simp
 simp only[sQ,Hb,Rc];omega
def PM{s:vB}{p k:Nat}(h:p+k<s.size):sQ s p (k+1)=sQ s p k++[s[p+k]]:=by
 have a:cB s.data.toList=s.size:=by simp
 unfold sQ;rw[Pa (by rw[Rc,a];omega),Cg];rfl
def CW(v:Int):Nat->Int
 |0=>v
 |k+1=>CW v k / 256
def vX(v:Int):Nat->List Int
 |0=>[]
 |n+1=>CW v n % 256::vX v n
def uB(n:Nat)(v:Int):vB:=strOfNums (vX v n)
def dZ(v:Int):∀n,cB (vX v n)=n
 |0=>rfl
 |n+1=>by simp[vX,dZ v n]
theorem oB(n:Nat)(v:Int):(uB n v).size=n:=by
 rw[uB,strOfNums_size,dZ]
def LR:∃i,prog.info? 5=fA i/\i.zero=fA (.int .u8 0)/\i.size=1/\i.bytes=1:=by
 have h:(prog.info? 5).map (λi=>(i.zero,i.size,i.bytes))=fA (fA (.int .u8 0),1,1):=by kernel_rfl
 obtain⟨i,b,a⟩:=Wb.1 h;simp only[Dc]at a;exact⟨i,b,a.1,a.2.1,a.2.2⟩
def MX{w:jA}{B:Nat}{d:nC}{f:Nat}{ys:List Int}(h:w.ownsRow B 5 1 (uA d (cB ys) f) (cB ys) (ys.map (mA.int .u8))):
 (convert 22 9 (uA d (cB ys) f)).run prog w=.ok (tA (strOfNums ys)) w:=by
 obtain⟨b,q⟩|⟨g,k,a,b,_,m,o,_,p,c⟩:=h.2;simp only[mA.slice.injEq]at b;obtain⟨rfl,l,rfl⟩:=b;have e:ys=[]:=Nb.1 l;subst e;exact run_convert_bytes_nil w 22 5 underlying22 underlying5 _ _ 9 underlying9;simp only[mA.slice.injEq]at b;obtain⟨rfl,_,rfl⟩:=b;refine run_convert_bytes_arg w 22 5 underlying22 underlying5 g 0 _ _ ys rfl (λi n=>?_) 9 underlying9;rw[Ya,cell_of_row w g i a _ _ m];have j:(a.toList.take (cB ys*1))[i]?=(ys.map (mA.int .u8))[i]?:=by rw[c]
 rw[Jb (by omega)]at j;rw[<-Yd,j];simp[List.getD,Va n]
def oD(n:Nat)(v:Int)(w:jA)(Z:n<=8)(_o : -9223372036854775808<=v)(_p:v<=9223372036854775807):
 gF 68 #[dB n,dB v] w (tA (uB n v)):=by
 obtain⟨J,p,B,C,D⟩:=LR;have K:fB (prog.info? 5=fA J):=p;clear p;clear _o _p;go_enter func68,ntmps68;go_wp2;go_loopw [5,6,7,8] (λE i _ _ wr=>∃(m:Nat)(a:List Int)(s:nC)(t:Nat),cB a+m=n/\fB (a++vX v m=vX v n)/\i=dB ((m:Int)-1)/\E=uA s (cB a) t/\fB (wr.ownsRow w.1.size 5 1 (uA s (cB a) t) (cB a) (a.map (mA.int .u8)))/\zB w wr) (λ_ i _ _ _=>((intOf i)+1).toNat)
 case atStart=>
  exact⟨n,[],_,_,by simp,by show _=_;simp,by simp,rfl,jA.ownsRow_made w #[] 0 (Ia _) (by simp[maxLen]) (by simp),aC⟩
 case round=>
  obtain⟨m,a,s,t,Y,h,rfl,rfl,d,b⟩:=hrel;by_cases o:0<m
  .obtain ⟨r,rfl⟩:∃r,m=r+1:=⟨m-1,by omega⟩
   have F:((r+1:Nat):Int)-1=(r:Int):=by omega
   rw[F];clear F;go_wp2;go_loop [7,8] (λx k=>∃(j:Nat)(X:Int),j<=r/\k=dB j/\x=dB X/\fB (X=CW v j)) (λ_ k=>r-(intOf k).toNat)
   case atStart=>exact⟨0,v,Oa _,rfl,rfl,rfl⟩
   case round=>
    obtain⟨j,X,W,rfl,rfl,G⟩:=hrel;by_cases R:j<r
    .go_wp2;exact⟨⟨j+1,X / 256,by omega,by go_num,rfl,by show _=_;rw[CW,G.o]⟩,by simp[intOf];omega⟩
    have e:j=r:=by omega
    subst e;have S:=b.size;go_wp2_with(at_builtin;refine wpList_append_lies _ rfl _ _ _ rfl w.1.size 5 J _ 1 1 underlying22 K.o B C D rfl (by omega) (uA s (cB a) t) (cB a) (a.map (mA.int .u8)) rfl (by exact lC d.o aC) (iB wr.1.size 0) 1 1 [.int .u8 (X % 256)] rfl rfl (by exact jA.news_of_block (heap_alloc_new _ _)) (by simp[mA.oneCell']) (by omega) (by simp[maxLen];omega) (by omega) (by simp;omega) (wr.1.size+1) (by simp) ?_;intro N o U c f H I);have y:zB w U:=(xB b aC).grown f (by simp;omega) (λq u=>by
     obtain⟨z,_⟩|⟨g,L,M,z,V,_⟩:=d.o.2;rw[z]at u;simp[mA.ownBlock]at u;rw[z]at u;simp[mA.ownBlock]at u;omega)
    have A:a.map (mA.int .u8)++[mA.int .u8 (X % 256)]=(a++[X % 256]).map (mA.int .u8):=by simp
    have l:cB (a++[X % 256])=cB a+1:=by simp
    rw[A,<-l]at c;refine⟨⟨j,a++[X % 256],cC N,o,by rw[l];omega,?_,rfl,by rw[l],c,y⟩,by simp[intOf]⟩;show _=_;rw[<-h.o,vX,G.o];simp
  have e:m=0:=by omega
  subst e;have Q:=MX d.o;go_wp2;go_ret;refine⟨Kd (λx=>Ending.returned (tA x)) ?_,b⟩;rw[uB,<-h.o,vX,Cd]
def CM(v:Nat):Nat->List Nat
 |0=>[]
 |n+1=>v / 256 ^ n % 256::CM v n
def JY(v:Nat):∀n,cB (CM v n)=n
 |0=>rfl
 |n+1=>by simp[CM,JY v n]
def gj(v:Nat):∀k,CW (v:Int) k=((v / 256 ^ k:Nat):Int)
 |0=>by simp[CW]
 |k+1=>by rw[CW,gj v k,Od,<-Fg];omega
def PC(v:Nat):∀n,vX (v:Int) n=(CM v n).map (λx:Nat=>(x:Int))
 |0=>rfl
 |n+1=>by rw[vX,CM,Fc,PC v n,gj];simp
def eo(a b n:Nat):∀m,m<=n->CM (a*256 ^ n+b) m=CM b m
 |0,_=>rfl
 |m+1,h=>by
  rw[CM,CM,eo a b n m (by omega)];congr 1;obtain⟨d,rfl⟩:∃d,n=m+1+d:=⟨n-(m+1),by omega⟩
  have e:a*256 ^ (m+1+d)+b=b+256 ^ m*(a*256 ^ d*256):=by rw[Nat.pow_add,Od,Nat.add_comm];congr 1;ac_rfl
  rw[e,Nat.add_mul_div_left _ _ (Zf (by omega))];omega
def ah(c:UInt8)(l:List UInt8):uX (c::l)=c.toNat*256 ^ cB l+uX l:=by
 have f:∀(l:List UInt8)(v:Nat),l.foldl (λv c=>v*256+c.toNat) v=v*256 ^ cB l+uX l:=λl=>by
  induction l with
  |nil=>intro v;simp[uX]
  |cons d l e=>
   intro v;have a:=e (v*256+d.toNat);have b:=e (0*256+d.toNat);simp only[uX,Og,Zb,Od]at a b |-
   rw[a,b];simp only[Nat.add_mul,Nat.zero_mul,Ya];rw[Nat.add_assoc];congr 1;ac_rfl
 have:=f l (0*256+c.toNat);simpa[uX]using this
def pw:∀(l:List UInt8),CM (uX l) (cB l)=l.map (λc=>c.toNat)
 |[]=>rfl
 |c::l=>by
  have a:=GH l;have b:=c.toNat_lt;rw[Zb,CM,ah,eo _ _ _ _ (Ia _),pw l,Fc];congr 1;rw[Nat.add_comm,Nat.mul_comm,Nat.add_mul_div_left _ _ (Zf (by omega)),Nat.div_eq_of_lt a];omega
def px(l:List UInt8)(n:Nat)(h:cB l=n):uB n (uX l:Nat)=⟨l.toArray⟩:=by
 subst h;rw[uB,PC,pw,strOfNums];congr 2;rw[Vd,Vd];conv=>rhs;rw[<-List.map_id l]
 congr 1;funext c;simp
def oz(v:Nat):∀n,uX ((CM v n).map UInt8.ofNat)=v % 256 ^ n
 |0=>by simp[CM,uX,Nat.mod_one]
 |n+1=>by
  rw[CM,Fc,ah,oz v n,Xa,JY,UInt8.toNat_ofNat_of_lt' (by show _<256;omega),Od,Nat.mod_mul];rw[Nat.mul_comm,Nat.add_comm]
def vw(n v:Nat):(uB n v).data.toList=(CM v n).map UInt8.ofNat:=by
 rw[uB,PC,strOfNums_data,Vd];congr 1
theorem pT(n v:Nat)(h:v<256 ^ n):uX (uB n v).data.toList=v:=by
 rw[vw,oz,Ic h]
def vM(s:vB):vB:=uB 1 (s.size:Nat)++s
def eG(s:vB):vB:=uB 2 (s.size:Nat)++s
theorem sF(s:vB):(vM s).size=1+s.size:=by rw[vM,Ka,oB]
theorem kF(s:vB):(eG s).size=2+s.size:=by rw[eG,Ka,oB]
def okM(a:List UInt8)(c:UInt8):Bool:=(97<=c&&c<=122) ||(48<=c&&c<=57) ||decide (0<=Lib.indexByte a c)
def cT(s:vB)(b:Int)(a:vB):Bool:=decide (1<=s.size) &&decide ((s.size:Int)<=b) &&s.data.toList.all (okM a.data.toList)
def um(mk:vB)(c:UInt8)(w:jA):bM 237 #[tA mk,.int .u8 (c.toNat:Int)] w (dB (Lib.indexByte mk.data.toList c)):=by
 have:=strings_IndexByte mk (c.toNat:Int) w;simpa using this
def AQ{s:vB}{f:UInt8->Bool}{k:Nat}(h:k<s.size):(s.data.toList.take (k+1)).all f=((s.data.toList.take k).all f&&f s[k]):=by
 rw[rV s k h];simp
def ov{l:List UInt8}{f:UInt8->Bool}{k:Nat}(h:(l.take k).all f=gA):l.all f=gA:=by grind
def vi(c:UInt8):(97<=c&&c<=122)=decide (97<=(c.toNat:Int)/\(c.toNat:Int)<=122):=by rw[Qb];simp[Df];omega
def aAb(c:UInt8):(48<=c&&c<=57)=decide (48<=(c.toNat:Int)/\(c.toNat:Int)<=57):=by rw[Qb];simp[Df];omega
def JS(s:vB)(a:Int)(mk:vB)(w:jA)(q:s.size<=maxLen):
 bM 176 #[tA s,dB a,tA mk] w (.bool (cT s a mk)):=by
 unfold maxLen at q;by_cases r:(s.size:Int)<1
 .have c:fB (cT s a mk=gA):=by show _=_;simp[cT];omega
  go_enter func176,ntmps176;go_wp2;go_ret;exact⟨tB c.o.symm,rfl⟩
 by_cases t:a<(s.size:Int)
 .have c:fB (cT s a mk=gA):=by
   show _=_;have:decide ((s.size:Int)<=a)=gA:=by simp;omega
   simp[cT,this]
  go_enter func176,ntmps176;go_wp2;go_ret;exact⟨tB c.o.symm,rfl⟩
 have c:fB (cT s a mk=s.data.toList.all (okM mk.data.toList)):=by
  show _=_;have o:1<=s.size:=by omega
  have p:(s.size:Int)<=a:=by omega
  simp[cT,o,p]
 go_enter func176,ntmps176;go_wp2;go_loop [7,8,20] (λ_ _ i=>∃k:Nat,k<=s.size/\i=dB k/\(s.data.toList.take k).all (okM mk.data.toList)=iA) (λ_ _ i=>s.size-(intOf i).toNat)
 case atStart=>exact⟨0,Oa _,rfl,by simp⟩
 case round=>
  obtain⟨k,u,rfl,g⟩:=hrel;have d:fB _:=g;clear g;by_cases j:k<s.size
  .have b:=AQ (f:=okM mk.data.toList) j;rw[d.o,Oc,okM,vi,aAb]at b;have l:fB _:=b;clear b;have m:=λW=>um mk s[k] W;generalize Lib.indexByte mk.data.toList s[k]=v at *;have h:fB _:=m;clear m;go_wp2_with(go_at_call 237;apply oC (h.o _);rintro n rfl);all_goals first
    |(go_ret
      refine⟨tB ?_,rfl⟩;rw[c.o];refine(ov (k:=k+1) ?_).symm;rw[l.o];simp at *;omega)
    |(refine⟨⟨k+1,by omega,by go_num,?_⟩,by simp[intOf];omega⟩
      rw[l.o];simp at *;omega)
  go_wp2;go_ret;exact⟨tB (by rw[c.o,<-d.o,Ra (by simp;omega)]),rfl⟩
def sP(s:vB)(w:jA)(f:s.size<=1000000000):
 gF 104 #[tA s] w (tA (vM s)):=by
 have d:fB (∀W,gF 68 #[dB 1,dB (s.size:Nat)] W (tA (uB 1 (s.size:Nat)))):=λW=>oD 1 (s.size:Nat) W (by omega) (by omega) (by omega);have g:=oB 1 (s.size:Nat);unfold vM;generalize uB 1 (s.size:Nat)=N at *;go_enter func104,ntmps104;go_wp2_with fail;apply oC (d.o _);intro h a;have c:fB _:=a;clear a;go_wp2;go_ret;exact⟨rfl,c.o⟩
def bO(s:vB)(w:jA)(f:s.size<=1000000000):
 gF 75 #[tA s] w (tA (eG s)):=by
 have d:fB (∀W,gF 68 #[dB 2,dB (s.size:Nat)] W (tA (uB 2 (s.size:Nat)))):=λW=>oD 2 (s.size:Nat) W (by omega) (by omega) (by omega);have g:=oB 2 (s.size:Nat);unfold eG;generalize uB 2 (s.size:Nat)=N at *;go_enter func75,ntmps75;go_wp2_with fail;apply oC (d.o _);intro h a;have c:fB _:=a;clear a;go_wp2;go_ret;exact⟨rfl,c.o⟩
def xV(v:Int):Prop:=-9223372036854775808<=v/\v<=9223372036854775807
def ab(a:List pB):Prop:=∀i(h:i<cB a),xV a[i].n
def MI(a:List kB):Prop:=∀i(h:i<cB a),xV a[i].L/\ab a[i].M/\ab a[i].Z
def KY(p:pB):vB:=eG p.s++uB 8 p.n
def nE:List pB->vB
 |[]=>pA
 |p::q=>KY p++nE q
def QP(a:List pB):Prop:=∀i(h:i<cB a),a[i].s.size<=65535
def sJ(t:kB):Prop:=t.N.size<=255/\QP t.M/\QP t.Z
def FU(t:kB):vB:=vM t.N++uB 8 t.L++uB 4 (cB t.M:Nat)
def mQ(t:kB):vB:=FU t++nE t.M++uB 4 (cB t.Z:Nat)++nE t.Z
def sE:List kB->vB
 |[]=>pA
 |t::q=>mQ t++sE q
def rx:vB:=⟨#[67,75,80,84]⟩
def AK(a b:Int)(n:Nat):vB:=rx++uB 8 a++uB 8 b++uB 4 (n:Nat)
def qX(a:Int)(b:List kB):Prop:=0<=a/\a<=1000000000000000/\∀i(h:i<cB b),sJ b[i]
def cL(a b:Int)(c:List kB):vB:=AK a b (cB c)++sE c
def aLw(a:Int)(b:List kB):Decidable (qX a b):=by unfold qX sJ QP;exact inferInstance
def bH(a b:Int)(c:List kB):vB:=haveI:=aLw a c;if qX a c then cL a b c++uB 4 (qK (cL a b c):Nat) else pA
def FN{a b:Int}{c:List kB}(h:qX a c):bH a b c=cL a b c++uB 4 (qK (cL a b c):Nat):=by unfold bH;rw[Ma h]
def LX{a b:Int}{c:List kB}(h:¬qX a c):bH a b c=pA:=by unfold bH;rw[Ja h]
def iW:∀(a b:List pB),nE (a++b)=nE a++nE b
 |[],b=>by simp[nE]
 |r::q,b=>by
  show KY r++nE (q++b)=KY r++nE q++nE b;rw[iW q b,Wa]
def NK(a:List pB)(k:Nat)(h:k<cB a):nE (a.take (k+1))=nE (a.take k)++KY a[k]:=by
 rw[Pa h,iW];simp[nE]
def lO:∀(a b:List kB),sE (a++b)=sE a++sE b
 |[],b=>by simp[sE]
 |r::q,b=>by
  show mQ r++sE (q++b)=mQ r++sE q++sE b;rw[lO q b,Wa]
def NL(a:List kB)(k:Nat)(h:k<cB a):sE (a.take (k+1))=sE (a.take k)++mQ a[k]:=by
 rw[Pa h,lO];simp[sE]
def tt(p:pB):(KY p).size=10+p.s.size:=by
 unfold KY;rw[Ka,kF,oB];omega
theorem pS:∀(a:List pB),(nE a).size=10*cB a+dE a
 |[]=>rfl
 |p::q=>by
  show(KY p++nE q).size=_;rw[Ka,tt,pS q];show _=10*(cB q+1)+(p.s.size+dE q)
  omega
theorem ZL(t:kB):(FU t).size=13+t.N.size:=by grind [FU,sF,oB]
def yZ(t:kB):(mQ t).size=17+t.N.size+10*cB t.M+dE t.M+10*cB t.Z+dE t.Z:=by grind [mQ,dE,ZL,pS,oB]
def FO(a b:Int)(n:Nat):(AK a b n).size=24:=by
 unfold AK;rw[Ka,Ka,Ka,oB,oB,oB];rfl
def qm{c:List kB}{k:Nat}(e:k<cB c)(h:¬sJ c[k])(a b:Int):bH a b c=pA:=LX λd=>h (d.2.2 k e)
def yM(w:jA)(B:Nat)(v:mA)(s:vB):Prop:=
 ∃g a b c,v=uA (cC g) s.size a/\B<=g/\w.heap[g]?=fA (aB b 5 c)/\(c.2=0\/a<=c.1)/\s.size<=a/\a<=maxLen/\b.size=a/\b.toList.take s.size=Lib.strCells s
def yM.z{w d:jA}{B:Nat}{v:mA}{s:vB}(h:yM w B v s)(k:zB w d):yM d B v s:=by
 obtain⟨g,a,b,e,f,i,c,j⟩:=h;exact⟨g,a,b,e,f,i,(k.block g (eB c)).trans c,j⟩
def yM.mono{w:jA}{B B':Nat}{v:mA}{s:vB}(h:yM w B v s)(i:B'<=B):yM w B' v s:=by
 obtain⟨g,a,b,c,d,e,f⟩:=h;exact⟨g,a,b,c,d,Ua i e,f⟩
def yM.lt{w:jA}{B:Nat}{v:mA}{s:vB}(h:yM w B v s):∃g,v.ownBlock=fA g/\B<=g/\g<w.1.size:=by
 obtain⟨g,a,b,e,rfl,c,d,f⟩:=h;exact⟨g,rfl,c,eB d⟩
def rX(a b:vB):Lib.strCells (a++b)=Lib.strCells a++Lib.strCells b:=by simp[Lib.strCells]
theorem nw(P:Program)(g o:Nat)(t:TypeId)(b:Nat×Nat)(d:List Value):∀(i:Nat)(a:Array Value)(w:World),w.heap[g]?=some (.cells a t b)->(b.2=0\/a.size<=b.1)->o+i+d.length<=a.size->(∀v∈d,v.oneCell'=true)->
 (storeCells (iB g o) d i).run P w=.ok () (w.setRow g (a.toList.take (o+i)++d++a.toList.drop (o+i+d.length)).toArray):=by
 induction d with
 |nil=>
  intro i a w c _ _ _;rw[storeCells,Cd,List.length_nil,Bg,Za,Array.toArray_toList,setRow_self w g a t b c];rfl
 |cons v q s=>
  intro i a w c f n k;rw[Zb]at n;have l:((iB g o):Addr).add i=(iB g (o+i)):=by unfold Addr.add;split<;>simp_all
  have m:w.cell? (iB g (o+i))=some (a[o+i]'(by omega)):=by rw[cell_of_row w g _ a t b c];exact Qc (by omega)
  have j:w.frozen? (iB g (o+i))=false:=by
   unfold World.frozen?;rw[c];obtain f|f:=f
   .rw[Gg];exact La (Ub (by show ¬o+i<b.2;omega))
   .rw[Gg];exact Ca (Ub (by show ¬b.1<=o+i;omega))
  have p:(store (((iB g o):Addr).add i) v).run P w=.ok () (w.setRow g (a.setIfInBounds (o+i) v)):=by
   rw[l,run_store P w _ v _ (k v (Kc ..)),m];simp[j,setCell_eq_setRow w g (o+i) a t b v c]
  have h:=s (i+1) (a.setIfInBounds (o+i) v) (w.setRow g (a.setIfInBounds (o+i) v)) (setRow_heap w g a _ t _ c) (by simpa using f) (by simp;omega) (λx r=>k x (Sb _ r));rw[storeCells,Sem.run_bind,p,Result.andThen_ok,h,setRow_setRow];congr 3;have e:=list_seg_step a.toList (o+i) v q (by simp;omega);simpa[Jf,Nat.add_assoc]using e
def pU(w:jA)(B:Nat)(v:mA)(s x:vB)(I:oA)(m:yM w B v s)(J:B<=w.1.size)(S:s.size+x.size<=140737488355328):
 ∃r G,(Builtin.append_ #[22,9] I #[v,tA x]).run prog w=.ok r G/\yM G B r (s++x)/\w.grownBy G v.ownBlock/\(r.ownBlock=v.ownBlock\/r.ownBlock=fA w.1.size):=by
 obtain⟨R,o,E,p,F⟩:=LR;obtain⟨g,a,b,H,rfl,y,d,i,M,z,A,l⟩:=m;have c:(s++x).size=s.size+x.size:=Ka;by_cases h:s.size+x.size<=a
 .have L:=Lib.run_firstCells_string (P:=prog) w 1 x;have n:=nw prog g s.size 5 H (Lib.strCells x) 0 b w d (by rw[A];exact i) (by rw[Lib.strCells_length];omega) (Lib.strCells_oneCell x);simp only[Bg,Lib.strCells_length]at n;refine⟨uA (cC g) (s.size+x.size) a,w.setRow g (b.toList.take s.size++Lib.strCells x++b.toList.drop (s.size+x.size)).toArray,?_,?_,⟨rfl,rfl,rfl,by simp,λk _ C=>setRow_other w g k _ (λe=>C (by simp[mA.ownBlock,e]))⟩,Ca rfl⟩
  .simp[Builtin.append_,run_underlying underlying22,run_underlying underlying9,sizeOf,typeInfo,o,p,Builtin.lenOf,h,L,Addr.add_lit,n]
  refine ⟨g,a,_,H,by rw[c],y,setRow_heap w g b _ _ _ d,i,by omega,z,?_,?_⟩;simp only[List.size_toArray,Kb,Hb,Rc,Qg,Lib.strCells_length];omega;rw[l,c,rX];have D:cB (Lib.strCells s++Lib.strCells x)=s.size+x.size:=by rw[Kb,Lib.strCells_length,Lib.strCells_length]
  rw[<-D];exact List.take_left
 have f:∀j u,(Lib.strCells s)[j]?=fA u->w.cell? (((iB g 0):Addr).add j)=fA u:=λj u q=>by
  have K:((iB g 0):Addr).add j=(iB g j):=by unfold Addr.add;split<;>simp_all
  rw[K,cell_of_row w g j b _ _ d];rw[<-l,Ye]at q;split at q;simpa using q
  cases q
 have Q:=Lib.run_append_grow_string (P:=prog) w 22 9 I 5 R (.int .u8 0) underlying22 underlying9 o E (iB g 0) s.size a (Lib.strCells s) (by rw[p,Lib.strCells_length,Nat.mul_one]) f x (by omega) (by omega) (by rw[F];exact growslice_fits (by omega) (by omega));have N:=grownCap_ge w (s.size+x.size) a 5;have t:=grownCap_le_maxLen w (s.size+x.size) a 5 (by unfold maxLen;omega);refine⟨_,_,Q,⟨w.1.size,_,_,(0,0),by rw[c],J,heap_alloc_new w.drew _,Ca rfl,by omega,t,?_,?_⟩,⟨rfl,rfl,rfl,by simp,λk C _=>heap_alloc_old w.drew _ C⟩,La rfl⟩;have O:(mA.int IntKind.u8 0).cells.size=1:=rfl;simp only[Array.size_append,List.size_toArray,size_zeroCells,O,Lib.strCells_length];omega;rw[c,rX];have D:cB (Lib.strCells s++Lib.strCells x)=s.size+x.size:=by rw[Kb,Lib.strCells_length,Lib.strCells_length]
 simp only[Array.toList_append,Nd];rw[<-Nd,<-D];exact List.take_left
def YO(w:jA)(B:Nat)(v:mA)(s x:vB)(d:oA)(a:yM w B v s)(h:B<=w.1.size)(i:s.size+x.size<=140737488355328):
 ∃c b,(Builtin.append_ #[22,9] d #[v,tA x]).run prog w=.ok c b/\yM b B c (s++x)/\w.grownBy b v.ownBlock:=by
 obtain⟨c,b,e,f,g,_⟩:=pU w B v s x d a h i;exact⟨c,b,e,f,g⟩
def RM(w:jA){d:Array Oper}{o:Oper}{a:Act}{K:Act->jA->Prop}{Q:Exit->Act->jA->Prop}{E:Prop}(i:o.guard=eA)(h x:Operand)
(A:o.op=.call { callee:=.builtin .append,args:=#[h,x],argTypes:=#[22,9] })
(B:Nat)(v:mA)(s t:vB)(D:a.eval h=v)(b:yM w B v s)(F:a.eval x=tA t)(n:B<=w.1.size)(G:s.size+t.size<=140737488355328)
(h:∀f c,yM c B f (s++t)->kA B w c->(∀k,k<w.1.size->v.ownBlock≠fA k->c.heap[k]?=w.heap[k]?)->K (a.put o.dst f) c):
 if Region.wanted o (yielded d a.tmps)=iA then Oper.wp prog o a w K Q else E:=by
 have m:Region.wanted o (yielded d a.tmps)=iA:=by simp[Region.wanted,i]
 rw[Ma m];obtain⟨f,c,C,r,m⟩:=YO w B v s t o.type b n G;have j:=b.lt;have u:=h f c r ((kA.refl B w).grown m n (λq p=>by obtain⟨g,e,y,_⟩:=j;rw[e]at p;cases p;exact y)) (λk z l=>m.block k z (λe=>l e.symm));unfold Oper.wp execOp;simp only[A,resolve,invoke,builtin,Sem.run_bind,Sem.run_pure,Result.andThen_ok,Hg,Fc,Ag,D,F,C];exact u
def uO(w:jA){f:Array Oper}{o:Oper}{a:Act}{K:Act->jA->Prop}{Q:Exit->Act->jA->Prop}{E:Prop}(j:o.guard=eA)(h x:Operand)
(C:o.op=.call { callee:=.builtin .append,args:=#[h,x],argTypes:=#[22,9] })
(B:Nat)(v:mA)(s t:vB)(F:a.eval h=v)(b:yM w B v s)(G:a.eval x=tA t)(n:B<=w.1.size)(H:s.size+t.size<=140737488355328)
(h:∀d c,yM c B d (s++t)->kA B w c->(∀k,k<w.1.size->v.ownBlock≠fA k->c.heap[k]?=w.heap[k]?)->(d.ownBlock=v.ownBlock\/d.ownBlock=fA w.1.size)->w.1.size<=c.1.size->K (a.put o.dst d) c):
 if Region.wanted o (yielded f a.tmps)=iA then Oper.wp prog o a w K Q else E:=by
 have m:Region.wanted o (yielded f a.tmps)=iA:=by simp[Region.wanted,j]
 rw[Ma m];obtain⟨d,c,D,r,i,u⟩:=pU w B v s t o.type b n H;have l:=b.lt;have y:=h d c r ((kA.refl B w).grown i n (λq p=>by obtain⟨g,e,z,_⟩:=l;rw[e]at p;cases p;exact z)) (λk A m=>i.block k A (λe=>m e.symm)) u i.size;unfold Oper.wp execOp;simp only[C,resolve,invoke,builtin,Sem.run_bind,Sem.run_pure,Result.andThen_ok,Hg,Fc,Ag,F,G,D];exact y
def jK(w:jA){i:Array Oper}{c:List Oper}{o:Oper}{a:Act}{Q:Exit->Act->jA->Prop}(l:o.guard=eA)(h x:Operand)
(E:o.op=.call { callee:=.builtin .append,args:=#[h,x],argTypes:=#[22,9] })
(B:Nat)(v:mA)(s t:vB)(G:a.eval h=v)(b:yM w B v s)(H:a.eval x=tA t)(p:B<=w.1.size)(I:s.size+t.size<=140737488355328)
(h:∀f d,yM d B f (s++t)->kA B w d->(∀k,k<w.1.size->v.ownBlock≠fA k->d.heap[k]?=w.heap[k]?)->(f.ownBlock=v.ownBlock\/f.ownBlock=fA w.1.size)->w.1.size<=d.1.size->wpList prog i Q c (a.put o.dst f) d):
 wpList prog i Q (o::c) a w:=by
 refine wpList_plain l λK z=>?_;obtain⟨f,d,F,u,j,y⟩:=pU w B v s t o.type b p I;have m:=b.lt;have C:=h f d u ((kA.refl B w).grown j p (λq r=>by obtain⟨g,e,A,_⟩:=m;rw[e]at r;cases r;exact A)) (λk D n=>j.block k D (λe=>n e.symm)) y j.size;unfold Oper.wp execOp;simp only[E,resolve,invoke,builtin,Sem.run_bind,Sem.run_pure,Result.andThen_ok,Hg,Fc,Ag,G,H,F];exact z _ _ C
def WL(w:jA)(s:vB)(f:s.size<=140737488355328):∃v d,(convert 9 22 (tA s)).run prog w=.ok v d/\yM d w.1.size v s/\zB w d:=by
 refine⟨_,_,run_bytes_of_string w _ _ 5 s underlying9 underlying22 underlying5,?_,(kA.refl _ w).drew.alloc (by simp) _⟩;have c:=grownCap_ge w s.size 0 5;have b:=grownCap_le_maxLen w s.size 0 5 (by unfold maxLen;omega);have a:(bytesRow s (grownCap w s.size 0 5)).size=grownCap w s.size 0 5:=by
  unfold bytesRow;rw[Array.size_append,Array.size_map,Array.size_replicate];show s.size+_=_;omega
 refine⟨w.1.size,_,_,_,rfl,Ia _,heap_alloc_new w.drew _,La (by rw[a];exact Ia _),c,b,a,?_⟩;have e:=Lib.strCells_length s;unfold bytesRow;rw[Array.toList_append,Array.toList_map];conv=>lhs;arg 1;rw[<-e]
 exact List.take_left
def DU(s:vB)(a:s.size<=140737488355328):∃(V:jA->mA)(N:jA->jA),(∀w,(convert 9 22 (tA s)).run prog w=.ok (V w) (N w))/\∀w,yM (N w) w.1.size (V w) s/\zB w (N w):=
 ⟨λw=>Classical.choose (WL w s a),λw=>Classical.choose (Me (WL w s a)),λw=>(Me (Me (WL w s a))).1,λw=>(Me (Me (WL w s a))).2⟩
def BN{w:jA}{B:Nat}{v:mA}{s:vB}(h:yM w B v s):(convert 22 9 v).run prog w=.ok (tA s) w:=by
 obtain⟨g,b,a,k,rfl,l,e,m,n,o,p,f⟩:=h;have:=run_convert_bytes_back w 22 9 5 (iB g 0) b s.data.toList underlying22 underlying5 underlying9 (λj d=>by
  have i:((iB g 0):Addr).add j=(iB g j):=by unfold Addr.add;split<;>simp_all
  rw[i,cell_of_row w g j a _ _ e,<-Yd];have c:j<s.size:=by simpa using d
  have:(a.toList.take s.size)[j]?=(Lib.strCells s)[j]?:=by rw[f]
  rw[Jb c]at this;rw[this,Lib.strCells,Se,Va d];rfl)
 simpa using this
def aV(x:Nat):Nat:=if x % 2=1 then(x / 2) ^^^ 2197175160 else x / 2
def kO(x:Nat):Nat->Nat
 |0=>x
 |k+1=>aV (kO x k)
def jn(i:Nat):Nat:=kO i 8
def zt{x:Nat}(h:x<4294967296):aV x<4294967296:=by
 unfold aV;split;exact Qd (n:=32) (by omega) (by omega);omega
def SO{x:Nat}(h:x<4294967296):∀k,kO x k<4294967296
 |0=>h
 |k+1=>zt (SO h k)
def aEs{i:Nat}(h:i<256):jn i<4294967296:=SO (by omega) 8
def qw(a b:Nat):(a ^^^ b) % 2=(a+b) % 2:=by
 have:=Nat.xor_mod_two_eq_one (a:=a) (b:=b);omega
def sn(r x:Nat):aV (r ^^^ x)=mY r x ^^^ (x / 2):=by
 unfold aV mY;rw[qw,Nat.xor_div_two];split;rw[Nat.xor_assoc,Nat.xor_comm (x / 2),<-Nat.xor_assoc];rfl
def IX(r b:Nat):∀k,kO (r ^^^ b) k=aQ r b k ^^^ (b / 2 ^ k)
 |0=>by simp[kO,aQ]
 |k+1=>by
  show aV (kO (r ^^^ b) k)=mY (aQ r b k) (b / 2 ^ k) ^^^ (b / 2 ^ (k+1));rw[IX r b k,sn,Fg,Od]
def jm(x z:Nat):aV (x ^^^ (2*z))=aV x ^^^ z:=by
 unfold aV;rw[qw,Nat.xor_div_two,show(x+2*z) % 2=x % 2 by omega,show 2*z / 2=z by omega];split;rw[Nat.xor_assoc,Nat.xor_comm z,<-Nat.xor_assoc];rfl
def IY(x z:Nat):∀k,kO (x ^^^ (2 ^ k*z)) k=kO x k ^^^ z
 |0=>by simp[kO]
 |k+1=>by
  show aV (kO (x ^^^ (2 ^ (k+1)*z)) k)=aV (kO x k) ^^^ z;rw[Od,Nat.mul_assoc,IY x (2*z) k,jm]
def so(r:Nat):r=(r % 256) ^^^ (256*(r / 256)):=by
 have h:256*(r / 256)+r % 256=(2 ^ 8*(r / 256)) ||| (r % 256):=Ef (i:=8) (b:=r % 256) (by omega) (r / 256)
 have c:(r % 256) ^^^ (256*(r / 256))=(2 ^ 8*(r / 256)) ||| (r % 256):=by
  apply Nat.eq_of_testBit_eq;intro i;rw[Nat.testBit_xor,Nat.testBit_or,show 256*(r / 256)=2 ^ 8*(r / 256) from rfl,Nat.testBit_two_pow_mul,show r % 256=r % 2 ^ 8 from rfl,Nat.testBit_mod_two_pow];by_cases a:i<8
  .simp[a,Nat.not_le.2 a]
  simp[a,Nat.not_lt.1 a]
 omega
def sr(r b:Nat)(d:b<256):aQ r b 8=(r / 256) ^^^ jn ((r % 256) ^^^ b):=by
 have a:=IX r b 8;rw[show b / 2 ^ 8=0 by omega,Nat.xor_zero]at a;rw[<-a];have c:=IY ((r % 256) ^^^ b) (r / 256) 8;rw[show((r % 256) ^^^ b) ^^^ (2 ^ 8*(r / 256))=r ^^^ b by
  rw[Nat.xor_assoc,Nat.xor_comm b,<-Nat.xor_assoc,show(2 ^ 8*(r / 256))=256*(r / 256) from rfl,<-so r]]at c
 rw[c,Nat.xor_comm];rfl
