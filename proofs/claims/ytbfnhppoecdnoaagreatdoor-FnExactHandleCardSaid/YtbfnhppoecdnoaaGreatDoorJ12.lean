import Derived.Test.YtbfnhppoecdnoaaGreatDoorJ09
import Derived.Test.YtbfnhppoecdnoaaGreatDoorJ07
import Derived.Test.YtbfnhppoecdnoaaGreatDoorJ03
set_option maxRecDepth 100000
set_option maxHeartbeats 2000000
set_option linter.defProp false
open Option renaming none->aA,some->bA
open Bool renaming false->cA,true->dA
open ByteArray renaming empty->kA
open List renaming length->vA
namespace Go.Proofs.YtbfnhppoecdnoaaGreatDoor
open Go renaming Value->iA,World->eA,TypeId->jA
open Value renaming slice->oA,int->lA,bool->pA,string->nA,pointer->qA
open IntKind renaming i64->mA
open Go.RowKit Tryz
structure mE where
 fs:List cB
 c:Int
 k:Int
 cr:Int
 fl:Int
 dn:Bool
structure kG where
 first:Int
 last:Int
 size:Int
structure oC where
 d:mE
 l:kG
 now:Int
 ts:List aB
 lsn:Int
 deg:Bool
 up:Bool
def dC(a:iC)(e:Nat)(b:iC)(f:Nat)(N:oC):Array iA:=#[oA a (vA N.d.fs) e,lA mA N.d.c,lA mA N.d.k,lA mA N.d.cr,lA mA N.d.fl,pA N.d.dn,lA mA N.l.first,lA mA N.l.last,lA mA N.l.size,lA mA N.now,oA b (vA N.ts) f,lA mA N.lsn,pA N.deg,pA N.up]
def iB.n14{w:eA}{b:Nat}{a c d e f g i j k l m n o p:iA}{t:jA}(h:iB w b #[a,c,d,e,f,g,i,j,k,l,m,n,o,p] t):
 w.cell? ⟨b,0,aA⟩=bA a/\w.cell? ⟨b,1,aA⟩=bA c/\w.cell? ⟨b,2,aA⟩=bA d/\w.cell? ⟨b,3,aA⟩=bA e/\w.cell? ⟨b,4,aA⟩=bA f/\w.cell? ⟨b,5,aA⟩=bA g/\w.cell? ⟨b,6,aA⟩=bA i/\
 w.cell? ⟨b,7,aA⟩=bA j/\w.cell? ⟨b,8,aA⟩=bA k/\w.cell? ⟨b,9,aA⟩=bA l/\w.cell? ⟨b,10,aA⟩=bA m/\w.cell? ⟨b,11,aA⟩=bA n/\w.cell? ⟨b,12,aA⟩=bA o/\w.cell? ⟨b,13,aA⟩=bA p:=by
 refine⟨?_,?_,?_,?_,?_,?_,?_,?_,?_,?_,?_,?_,?_,?_⟩<;>(rw[iB.cell h];rfl)
def iB.frees{w:eA}{b:Nat}{cs:Array iA}{t:jA}(h:iB w b cs t):w.frozen? ⟨b,0,aA⟩=cA/\w.frozen? ⟨b,1,aA⟩=cA/\w.frozen? ⟨b,2,aA⟩=cA/\w.frozen? ⟨b,3,aA⟩=cA/\w.frozen? ⟨b,4,aA⟩=cA/\w.frozen? ⟨b,5,aA⟩=cA/\w.frozen? ⟨b,6,aA⟩=cA/\
 w.frozen? ⟨b,7,aA⟩=cA/\w.frozen? ⟨b,8,aA⟩=cA/\w.frozen? ⟨b,9,aA⟩=cA/\w.frozen? ⟨b,10,aA⟩=cA/\w.frozen? ⟨b,11,aA⟩=cA/\w.frozen? ⟨b,12,aA⟩=cA/\w.frozen? ⟨b,13,aA⟩=cA:=
 ⟨h.free 0,h.free 1,h.free 2,h.free 3,h.free 4,h.free 5,h.free 6,h.free 7,h.free 8,h.free 9,h.free 10,h.free 11,h.free 12,h.free 13⟩
def aBc{C:eA->Prop}{w:eA}{O:Nat}{r s u v x y i j l m n o p q a b c d e f:iA}{t:jA}(h:iB w O #[r,s,u,v,x,y,i,j,l,m,n,o,p,q] t)
(k:∀g,iB g O #[a,b,c,d,e,f,i,j,l,m,n,o,p,q] t->bB (·=O) w g->C g):C ((((((w.setCell ⟨O,0,aA⟩ a).setCell ⟨O,1,aA⟩ b).setCell ⟨O,2,aA⟩ c).setCell ⟨O,3,aA⟩ d).setCell ⟨O,4,aA⟩ e).setCell ⟨O,5,aA⟩ f):=
 k _ (by have:=((((((h.set 0 a).set 1 b).set 2 c).set 3 d).set 4 e).set 5 f);simpa using this) (((((((bB.refl (·=O) w).setCell (Ca rfl) 0 a).setCell (Ca rfl) 1 b).setCell (Ca rfl) 2 c).setCell (Ca rfl) 3 d).setCell (Ca rfl) 4 e).setCell (Ca rfl) 5 f)
def aNn{C:eA->Prop}{w:eA}{O:Nat}{e f g i j l r s u m n o p q a b c:iA}{t:jA}(h:iB w O #[e,f,g,i,j,l,r,s,u,m,n,o,p,q] t)
(k:∀d,iB d O #[e,f,g,i,j,l,a,b,c,m,n,o,p,q] t->bB (·=O) w d->C d):C (((w.setCell ⟨O,6,aA⟩ a).setCell ⟨O,7,aA⟩ b).setCell ⟨O,8,aA⟩ c):=
 k _ (by have:=(((h.set 6 a).set 7 b).set 8 c);simpa using this) ((((bB.refl (·=O) w).setCell (Ca rfl) 6 a).setCell (Ca rfl) 7 b).setCell (Ca rfl) 8 c)
def qK:oC:=⟨⟨[],0,0,0,0,cA⟩,⟨0,0,0⟩,0,[],0,cA,cA⟩
def upB(N:oC):Bool:=N.up&&!N.deg
def WO(a:iC)(Q:Nat)(q:List cB)(k B:Nat)(w:eA)(hk:0<k)(hk2:k+3*vA q<=100000000)(X:pG w B a q):
 Calls prog 93 #[oA a (vA q) Q,lA mA (k:Int)] w fun e Z=>e=.returned (lA mA ((k+3*vA q:Nat):Int))/\JZ w Z B a (vA q)/\pG Z B a (zR k (vA q)):=by
 have H:pG w B a q/\(q=[]\/0<vA q):=⟨X,by rcases q with _|⟨f,r⟩<;>simp⟩
 have T:q=[]\/(0<vA q/\∃g o s t,a=bA ⟨g,o,aA⟩/\B<=g/\w.heap[g]?=bA (.cells s t (0,0))/\bX w g o q):=by
  rcases H.2 with h|h;exact Ca h;rcases H.1 with R|R;exact Ca R;exact La ⟨h,R⟩
 clear X H;rcases T with rfl|⟨L,g,o,s,t,rfl,W,U,K⟩
 .go_enter func93,ntmps93;go_wp2;go_loopw [1,5] (fun l i wr=>l=lA mA (k:Int)/\i=lA mA 0/\wr=w) (fun _ i _=>0)
  case atStart=>exact⟨rfl,rfl,rfl⟩
  case round=>
   obtain⟨rfl,rfl,rfl⟩:=hrel;go_wp2;go_ret;exact⟨rfl,Ca ⟨rfl,eD⟩,Ca rfl⟩
 have D:=OS U K;have M:=aHi D;have HG:xA (iB w g s t):=U;clear D U K;generalize Y:vA q=n at *;have E:n=0\/o+n*3<=s.size:=by
  rcases M with h|h;left;rw[<-Y,h];rfl;exact La h
 clear M Y;go_enter func93,ntmps93;go_wp2;go_loopw [1,5] (fun l i wr=>∃(j:Nat)(c:Array iA),j<=n/\i=lA mA j/\l=lA mA ((k+3*j:Nat):Int)/\iB wr g c t/\c.size=s.size/\(∀m,m<j->xF c o m (qa k m))/\tD g w wr) (fun _ i _=>n-(intOf i).toNat)
 case atStart=>exact⟨0,s,Oa _,rfl,rfl,HG.o,rfl,fun m h=>absurd h (by omega),tD.refl _ _⟩
 case round=>
  obtain⟨j,c,hj,rfl,rfl,C,J,z,y⟩:=hrel;have v:xA (iB wr g c t):=C;have x:xA _:=z;have P:xA _:=J;clear C z;by_cases hlt:j<n
  .have S:o+j*3+2<c.size:=by rcases E with h|h<;>omega
   clear J E;go_wp2_with fail;refine aC (bJ _ (k+3*j) (by omega) _ (by omega) (by omega)) ?_;intro w1 F;have A:=v.o.z F;obtain⟨v0,d0⟩:=A.there (j:=o+j*3) (by omega);have b:=A.free (o+j*3);have N:xA (iB w1 g c t):=A;clear A;go_wp2_with fail;refine aC (bJ _ (k+3*j+1) (by omega) _ (by omega) (by omega)) ?_;intro w2 G;have u:=(N.o.set (o+j*3) (nA (mt (k+3*j)))).z G;obtain⟨v1,d1⟩:=u.there (j:=o+j*3+1) (by simp;omega);have d:=u.free (o+j*3+1);obtain⟨v2,d2⟩:=u.there (j:=o+j*3+2) (by simp;omega);have p:=u.free (o+j*3+2);have O:xA (iB w2 g (c.setIfInBounds (o+j*3) (nA (mt (k+3*j)))) t):=u;have I:xA _:=((y.trans (tD.of F)).setCell _ _).trans (tD.of G);clear u d0 b F G y;go_wp2;refine⟨⟨j+1,_,by omega,by go_num,by go_num,(O.o.set (o+j*3+1) (nA (mt (k+3*j+1)))).set (o+j*3+2) (lA mA ((k+3*j+2:Nat):Int)),by simp[P.o],?_,(I.o.setCell _ _).setCell _ _⟩,by simp[intOf];omega⟩;intro m V;by_cases e:m=j
   .subst e;exact xF.made c o m (qa k m) S
   exact (((x.o m (by omega)).set (by omega) _).set (by omega) _).set (by omega) _
  go_wp2;go_ret;have e:j=n:=by omega
  subst e;refine⟨fD (by omega),La ⟨L,g,o,rfl,W,y⟩,La ⟨g,o,c,t,rfl,W,v.o,sR v.o ?_⟩⟩;intro m V;rw[ZH];exact x.o m (by rw[IU]at V;exact V)
structure cF where
 B:List eC
 bits:Int
structure xG where
 K:Int
 T:gB
 R:gB
 U:Int
 P:List cF
def ke(w:eA)(b o:Nat)(x:cF):Prop:=
 ∃a c,w.cell? ⟨b,o,aA⟩=bA (oA a (vA x.B) c)/\w.cell? ⟨b,o+1,aA⟩=bA (lA mA x.bits)/\yD w a x.B/\vA x.B<=c
def aRd(w:eA)(b o:Nat)(a:List cF):Prop:=∀i(h:i<vA a),ke w b (o+i*2) a[i]
def jI(w:eA)(a:iC)(c:List cF):Prop:=c=[]\/∃b o,a=bA ⟨b,o,aA⟩/\b<w.1.size/\aRd w b o c
def ke.z{w f:eA}{b o:Nat}{x:cF}(h:ke w b o x)(d:b<w.1.size)(e:kB w f):ke f b o x:=by
 obtain⟨a,c,g,i,j,k⟩:=h;exact⟨a,c,(e.cell d).trans g,(e.cell d).trans i,j.z e,k⟩
def jI.z{w e:eA}{a:iC}{f:List cF}(h:jI w a f)(d:kB w e):jI e a f:=by
 rcases h with h|⟨b,o,rfl,c,h⟩;exact Ca h;exact La ⟨b,o,rfl,Bb c d.size,fun i g=>(h i g).z c d⟩
def jI.atc{w:eA}{a:iC}{c:List cF}(h:jI w a c){i:Nat}(g:i<vA c):
 ∃b o d e,a=bA ⟨b,o,aA⟩/\b<w.1.size/\w.cell? ⟨b,o+i*2,aA⟩=bA (.slice d (vA c[i].B) e)/\w.cell? ⟨b,o+i*2+1,aA⟩=bA (lA mA c[i].bits)/\yD w d c[i].B/\vA c[i].B<=e:=by
 rcases h with rfl|⟨b,o,rfl,f,h⟩;exact absurd g (by simp);obtain ⟨d,e,h⟩:=h i g;exact⟨b,o,d,e,rfl,f,h⟩
def jI.at{w:eA}{a:iC}{c:List cF}(h:jI w a c){i:Nat}(m:i<vA c):
 ∃b o d e,a=bA ⟨b,o,aA⟩/\b<w.1.size/\w.cell? ⟨b,o+i*2,aA⟩=bA (.slice d (vA c[i].B) e)/\w.cell? ⟨b,o+i*2+1,aA⟩=bA (lA mA c[i].bits)/\yD w d c[i].B:=by
 obtain⟨b,o,d,e,f,g,j,k,l,_⟩:=h.atc m;exact⟨b,o,d,e,f,g,j,k,l⟩
def zN(w:eA)(B:Nat)(T:Nat->Nat)(n:Nat)(a:iC)(c:List eC):Prop:=
 c=[]\/∃g o b t,a=bA ⟨g,o,aA⟩/\B<=g/\T g=n/\w.heap[g]?=bA (.cells b t (0,0))/\rR w g o c
def zN.B{w:eA}{B n:Nat}{T:Nat->Nat}{a:iC}{b:List eC}(h:zN w B T n a b):yD w a b:=by grind [zN,yD]
def zN.base{w:eA}{B b n:Nat}{T:Nat->Nat}{a:iC}{c:List eC}(h:zN w B T n a c)(d:b<=B):zN w b T n a c:=by grind [zN]
def zN.keep{w w':eA}{B n:Nat}{T c:Nat->Nat}{a:iC}{l:List eC}(h:zN w B T n a l)
(s:∀g,g<w.1.size->B<=g->T g=n->w'.heap[g]?=w.heap[g]?/\c g=n):zN w' B c n a l:=by
 rcases h with h|⟨g,o,b,t,e,f,p,k,h⟩;exact Ca h;obtain ⟨d,m⟩:=s g (zA k) f p;have q:∀j,w'.cell? ⟨g,j,aA⟩=w.cell? ⟨g,j,aA⟩:=fun j=>eA.cell?_of_block d;exact La ⟨g,o,b,t,e,f,m,d.trans k,fun i r=>by simp only[q];exact h i r⟩
def KD(w:eA)(B:Nat)(T:Nat->Nat)(i b o:Nat)(x:cF):Prop:=
 ∃a c,w.cell? ⟨b,o,aA⟩=bA (oA a (vA x.B) c)/\w.cell? ⟨b,o+1,aA⟩=bA (lA mA x.bits)/\zN w B T (i+1) a x.B/\vA x.B<=c
def rF(w:eA)(B:Nat)(a:iC)(c:List cF):Prop:=
 c=[]\/∃g o b t T,a=bA ⟨g,o,aA⟩/\B<=g/\w.heap[g]?=bA (.cells b t (0,0))/\T g=0/\∀i(h:i<vA c),KD w B T i g (o+i*2) c[i]
def KD.at{w:eA}{B i b o:Nat}{T:Nat->Nat}{x:cF}(h:KD w B T i b o x):ke w b o x:=by
 obtain⟨a,c,d,e,f,g⟩:=h;exact⟨a,c,d,e,f.B,g⟩
def rF.P{w:eA}{B:Nat}{a:iC}{b:List cF}(h:rF w B a b):jI w a b:=by
 rcases h with h|⟨g,o,c,t,T,rfl,_,d,_,h⟩;exact Ca h;exact La ⟨g,o,rfl,zA d,fun i e=>(h i e).at⟩
def KD.keep{w w':eA}{B i b o:Nat}{T d:Nat->Nat}{x:cF}(h:KD w B T i b o x)(f:∀j,j<2->w'.cell? ⟨b,o+j,aA⟩=w.cell? ⟨b,o+j,aA⟩)
(r:∀g,g<w.1.size->B<=g->T g=i+1->w'.heap[g]?=w.heap[g]?/\d g=T g):KD w' B d i b o x:=by
 obtain⟨a,c,k,l,m,n⟩:=h;refine⟨a,c,(f 0 (by omega)).trans k,(f 1 (by omega)).trans l,m.keep fun g q p e=>?_,n⟩;obtain⟨s,t⟩:=r g q p e;exact⟨s,t.trans e⟩
def rF.z{w k:eA}{B:Nat}{a:iC}{l:List cF}(h:rF w B a l)(d:kB w k):rF k B a l:=by
 rcases h with h|⟨g,o,c,t,T,rfl,n,f,p,h⟩;exact Ca h;have b:=zA f;exact La ⟨g,o,c,t,T,rfl,n,(d.block g b).trans f,p,fun i q=>(h i q).keep (fun j _=>eA.cell?_of_block (d.block g b)) fun m e _ _=>⟨d.block m e,rfl⟩⟩
def rF.but{g B:Nat}{w k:eA}{a:iC}{l:List cF}(h:rF w B a l)(e:tD g w k)(s:g<B):rF k B a l:=by
 rcases h with h|⟨d,o,c,t,T,rfl,m,b,p,h⟩;exact Ca h;have f:=e.block d (zA b) (by omega);exact La ⟨d,o,c,t,T,rfl,m,f.trans b,p,fun i q=>(h i q).keep (fun j _=>eA.cell?_of_block f) fun x r n _=>⟨e.block x r (by omega),rfl⟩⟩
def rF.mono{B B':Nat}{w:eA}{a:iC}{f:List cF}(h:rF w B a f)(d:B'<=B):rF w B' a f:=by
 rcases h with h|⟨g,o,b,t,T,rfl,q,e,j,h⟩;exact Ca h;refine La ⟨g,o,b,t,T,rfl,by omega,e,j,fun i k=>?_⟩;obtain⟨a,c,l,m,n,p⟩:=h i k;exact⟨a,c,l,m,n.base d,p⟩
def eH(x:cF):Nat:=vA x.B+nD x.B
def fE:List cF->Nat
 |[]=>0
 |f::r=>eH f+fE r
theorem xR(a b:List cF):fE (a++b)=fE a+fE b:=by induction a<;>grind [fE]
def FQ(a:List cF)(k:Nat)(h:k<vA a):fE (a.take (k+1))=fE (a.take k)+eH a[k]:=by
 rw[Pa h,xR];simp[fE]
def wW(a:List cF)(k:Nat):fE (a.take k)<=fE a:=by
 have:=xR (a.take k) (a.drop k);rw[Za]at this;omega
def rY(a:List cF)(k:Nat)(h:k<vA a):eH a[k]<=fE a:=by
 have b:=FQ a k h;have c:=wW a (k+1);omega
def cJ(r:xG):Nat:=r.T.size+r.R.size+vA r.P+fE r.P
section
open Go.Maps
section
variable {α β:Type}
def gC(key:α->gB)(a:α):List α->List α
 |[]=>[a]
 |p::r=>if aK (key p) (key a)=dA then p::gC key a r else if (key p).toList==(key a).toList then a::r else a::p::r
def xE(key:α->gB)(k:gB)(l:List α):List α:=l.filter (fun p=>!((key p).toList==k.toList))
def zC(key:α->gB)(k:gB)(l:List α):Option α:=l.find? (fun p=>(key p).toList==k.toList)
def wC(key:α->gB)(l:List α):Prop:=l.Pairwise (fun p q=>aK (key p) (key q)=dA)
theorem uS{key:α->gB}{key':β->gB}(g:α->β)(b:∀a,key' (g a)=key a)(a:α)(l:List α):(gC key a l).map g=gC key' (g a) (l.map g):=by induction l<;>grind [gC]
theorem BN{key:α->gB}{key':β->gB}(g:α->β)(b:∀a,key' (g a)=key a)(k:gB)(l:List α):(xE key k l).map g=xE key' k (l.map g):=by
 unfold xE;rw[List.filter_map];congr 1;apply List.filter_congr;intro p _;simp only[Function.comp,b]
theorem lW{key:α->gB}{key':β->gB}(g:α->β)(b:∀a,key' (g a)=key a)(k:gB)(l:List α):zC key' k (l.map g)=(zC key k l).map g:=by
 unfold zC;rw[List.find?_map];congr 2;funext p;simp only[Function.comp,b]
theorem nY{key:α->gB}{key':β->gB}(g:α->β)(b:∀a,key' (g a)=key a){l:List α}:wC key' (l.map g) ↔ wC key l:=by
 unfold wC;rw[Te];simp only[b]
theorem aJr(k:gB)(d:β)(l:List (gB×β)):gC (·.1) (k,d) l=rT k d l:=by
 induction l with
 |nil=>rfl
 |cons p r a=>rw[gC,rT,a]
theorem aJc(k:gB)(l:List (gB×β)):xE (·.1) k l=GR k l:=rfl
theorem ng(k:gB)(l:List (gB×β)):(zC (·.1) k l).map (·.2)=lk l k:=rfl
theorem yM{key:α->gB}{k:gB}{l:List α}{a:α}(h:zC key k l=bA a):a∈l/\key a=k:=by grind [zC,jE]
theorem aY{key:α->gB}{k:gB}{l:List α}(h:zC key k l=aA):∀a∈l,key a≠k:=by grind [zC]
theorem tN{key:α->gB}{k:gB}{l:List α}(h:∀a∈l,key a≠k):zC key k l=aA:=
 List.find?_eq_none.2 fun a b e=>h a b ((jE _ _).1 e)
theorem wC.head{key:α->gB}{p:α}{r:List α}(h:wC key (p::r)):∀q∈r,aK (key p) (key q)=dA:=(Bc.1 h).1
theorem wC.tail{key:α->gB}{p:α}{r:List α}(h:wC key (p::r)):wC key r:=(Bc.1 h).2
theorem oT{key:α->gB}(p:α)(r:List α)(k:gB):zC key k (p::r)=if key p=k then bA p else zC key k r:=by grind [zC,jE,cE]
theorem aN{key:α->gB}{l:List α}(b:wC key l){a:α}(h:a∈l):zC key (key a) l=bA a:=by
 induction l with
 |nil=>cases h
 |cons p r c=>
  rw[oT];rcases Lb.1 h with rfl|h;rw[Ma rfl];rw[Ja (eJ (b.head _ h))];exact c b.tail h
theorem yK{key:α->gB}{a q:α}{l:List α}(h:q∈gC key a l):q=a\/q∈l:=by induction l<;>grind [gC]
theorem gK{key:α->gB}{a:α}{l:List α}(h:wC key l):wC key (gC key a l):=by
 induction l with
 |nil=>exact We ..
 |cons p r g=>
  unfold gC;split
  .rename_i c;refine Bc.2 ⟨fun q b=>?_,g h.tail⟩;rcases yK b with rfl|b
   .exact c
   exact h.head q b
  rename_i c;split
  .rename_i f;rw[jE]at f;refine Bc.2 ⟨fun q b=>?_,h.tail⟩;rw[<-f];exact h.head q b
  rename_i f;have d:aK (key a) (key p)=dA:=gW (by simpa using c) (fun e=>f ((jE _ _).2 e));refine Bc.2 ⟨fun q b=>?_,h⟩;rcases Lb.1 b with rfl|b
  .exact d
  exact KK d (h.head q b)
theorem aFd{key:α->gB}{a:α}{l:List α}(h:∀p∈l,aK (key p) (key a)=dA):gC key a l=l++[a]:=by induction l<;>grind [aK,gC]
theorem KW{key:α->gB}{a:α}{l:List α}(h:zC key (key a) l=aA):(gC key a l).Perm (a::l):=by
 induction l with
 |nil=>exact Lf _
 |cons p r d=>
  have b:=aY h;unfold gC;split;have:=d (tN fun q c=>b q (Sb _ c));exact(List.Perm.cons p this).trans (List.Perm.swap a p r);rw[Ja (by rw[cE (b p (Kc ..))];simp)]
theorem iQ{key:α->gB}{k:gB}{l:List α}(h:wC key l):wC key (xE key k l):=Mf _ h
theorem wS{key:α->gB}{k:gB}{l:List α}{a:α}:a∈xE key k l ↔ a∈l/\key a≠k:=by grind [xE,jE,cE]
end
def ed{α:Type}(key:α->gB)(val:α->DataW Unit)(l:List α)(k:gB):has (eE (l.map fun a=>(key a,val a))) (kL k)=(zC key k l).isSome:=by
 rw[aEx,<-ng,lW (key:=key) (fun a=>(key a,val a)) (fun _=>rfl)];cases zC key k l<;>rfl
def iT{α:Type}(key:α->gB)(val:α->DataW Unit)(l:List α)(k:gB)(z:DataW Unit):(eE (l.map fun a=>(key a,val a))).atKey (kL k) z=((zC key k l).map val).getD z:=by
 rw[ko,<-ng,lW (key:=key) (fun a=>(key a,val a)) (fun _=>rfl)];cases zC key k l<;>rfl
def aPl{α:Type}{key:α->gB}(val:α->DataW Unit){l:List α}(h:wC key l):fT (l.map fun a=>(key a,val a)):=by grind [wC,fT]
def LG{α:Type}{key:α->gB}(val:α->DataW Unit)(a:α){l:List α}(h:wC key l):(eE (l.map fun a=>(key a,val a))).put (kL (key a)) (val a)=eE ((gC key a l).map fun a=>(key a,val a)):=by
 rw[aGx _ _ (aPl val h),uS (key':=(·.1)) (fun a=>(key a,val a)) (fun _=>rfl),aJr]
def dj{α:Type}{key:α->gB}(val:α->DataW Unit)(k:gB)(l:List α):(eE (l.map fun a=>(key a,val a))).del (kL k)=eE ((xE key k l).map fun a=>(key a,val a)):=by
 rw[aEc,BN (key':=(·.1)) (fun a=>(key a,val a)) (fun _=>rfl),aJc]
def kN{α:Type}(key:α->gB)(val:α->DataW Unit)(l:List α):Maps.size (eE (l.map fun a=>(key a,val a)))=vA l:=by
 rw[zv,Xa]
def uI(met:gB->gB)(l:List dB)(m:gB):Nat:=vA (l.filter fun p=>(met p.s).toList==m.toList)
def XZ{met:gB->gB}{l a:List dB}(h:l.Perm a)(m:gB):uI met l m=uI met a m:=(h.filter _).length_eq
def XY(met:gB->gB)(p:dB)(l:List dB)(m:gB):uI met (p::l) m=uI met l m+if met p.s=m then 1 else 0:=by grind [uI,jE,cE]
def db(met:gB->gB)(l:List dB)(m:gB):uI met l m<=vA l:=Pc _ _
end
def FF(v:Nat):Nat->List Nat
 |0=>[]
 |n+1=>v / 256 ^ n % 256::FF v n
def NF(v:Nat):∀n,vA (FF v n)=n
 |0=>rfl
 |n+1=>by simp[FF,NF v n]
def ry(v:Nat):∀k,FO (v:Int) k=((v / 256 ^ k:Nat):Int)
 |0=>by simp[FO]
 |k+1=>by rw[FO,ry v k,Od,<-Fg];omega
def UK(v:Nat):∀n,jZ (v:Int) n=(FF v n).map (fun x:Nat=>(x:Int))
 |0=>rfl
 |n+1=>by rw[jZ,FF,Fc,UK v n,ry];simp
def qm(a b n:Nat):∀m,m<=n->FF (a*256 ^ n+b) m=FF b m
 |0,_=>rfl
 |m+1,h=>by
  rw[FF,FF,qm a b n m (by omega)];congr 1;obtain⟨d,rfl⟩:∃d,n=m+1+d:=⟨n-(m+1),by omega⟩
  have e:a*256 ^ (m+1+d)+b=b+256 ^ m*(a*256 ^ d*256):=by rw[Nat.pow_add,Od,Nat.add_comm];congr 1;ac_rfl
  rw[e,Nat.add_mul_div_left _ _ (Zf (by omega))];omega
def kq(c:UInt8)(l:List UInt8):rS (c::l)=c.toNat*256 ^ vA l+rS l:=by
 have f:∀(l:List UInt8)(v:Nat),l.foldl (fun v c=>v*256+c.toNat) v=v*256 ^ vA l+rS l:=fun l=>by
  induction l with
  |nil=>intro v;simp[rS]
  |cons d l e=>
   intro v;have a:=e (v*256+d.toNat);have b:=e (0*256+d.toNat);simp only[rS,Og,Zb,Od]at a b |-
   rw[a,b];simp only[Nat.add_mul,Nat.zero_mul,Ya];rw[Nat.add_assoc];congr 1;ac_rfl
 have:=f l (0*256+c.toNat);simpa[rS]using this
def aBt:∀(l:List UInt8),FF (rS l) (vA l)=l.map (fun c=>c.toNat)
 |[]=>rfl
 |c::l=>by
  have a:=DY l;have b:=c.toNat_lt;rw[Zb,FF,kq,qm _ _ _ _ (Ia _),aBt l,Fc];congr 1;rw[Nat.add_comm,Nat.mul_comm,Nat.add_mul_div_left _ _ (Zf (by omega)),Nat.div_eq_of_lt a];omega
def aBu(l:List UInt8)(n:Nat)(h:vA l=n):pB n (rS l:Nat)=⟨l.toArray⟩:=by
 subst h;rw[pB,UK,aBt,strOfNums];congr 2;rw[Vd,Vd];conv=>rhs;rw[<-List.map_id l]
 congr 1;funext c;simp
def aBf(v:Nat):∀n,rS ((FF v n).map UInt8.ofNat)=v % 256 ^ n
 |0=>by simp[FF,rS,Nat.mod_one]
 |n+1=>by
  rw[FF,Fc,kq,aBf v n,Xa,NF,UInt8.toNat_ofNat_of_lt' (by show _<256;omega),Od,Nat.mod_mul];rw[Nat.mul_comm,Nat.add_comm]
def aGn(n v:Nat):(pB n v).data.toList=(FF v n).map UInt8.ofNat:=by
 rw[pB,UK,strOfNums_data,Vd];congr 1
theorem kX(n v:Nat)(h:v<256 ^ n):rS (pB n v).data.toList=v:=by
 rw[aGn,aBf,Ic h]
def kO(s:gB):gB:=pB 1 (s.size:Nat)++s
def qF(s:gB):gB:=pB 2 (s.size:Nat)++s
theorem lH(s:gB):(kO s).size=1+s.size:=by rw[kO,Ka,qB]
theorem uF(s:gB):(qF s).size=2+s.size:=by rw[qF,Ka,qB]
def DI(r:Nat)(w:eA)(f:r<=1114111):dI 234 #[.int .i32 (r:Nat)] w (pA (ctl r)):=by
 by_cases a:r<32
 .have E:xA (ctl r=dA):=by show _=_;simp[ctl,a]
  go_enter func234,ntmps234;go_wp2;go_ret;exact⟨fB (by rw[E.o]),rfl⟩
 by_cases b:127<=r
 .by_cases c:r<=159
  .have E:xA (ctl r=dA):=by show _=_;simp[ctl,b,c]
   go_enter func234,ntmps234;go_wp2;go_ret;exact⟨fB (by rw[E.o];simp;omega),rfl⟩
  have E:xA (ctl r=cA):=by show _=_;simp[ctl,a,c]
  go_enter func234,ntmps234;go_wp2;go_ret;exact⟨fB (by rw[E.o];simp;omega),rfl⟩
 have E:xA (ctl r=cA):=by show _=_;simp[ctl,a,b]
 go_enter func234,ntmps234;go_wp2;go_ret;exact⟨fB (by rw[E.o];simp;omega),rfl⟩
abbrev vH(w:eA):Prop:=Lib.Utf8Tabs 3 4 w
def vH.z{w a:eA}(h:vH w)(b:kB w a):vH a:=Utf8Tabs_below h b
def uo(s:gB)(p:Nat)(w:eA)(k:p<s.size)(c:vH w):
 qD 233 #[nA s,lA mA (p:Nat)] w (lA mA ((Utf8.decode s p).2:Nat)):=by
 have j:(s.extract p s.size).size=s.size-p:=by simp
 have e:Lib.decodeGo (s.extract p s.size)=Utf8.decode s p:=by
  rw[Lib.decodeGo,Ja (by omega),YF]
 have d:∀W,vH W->qD 270 #[nA (s.extract p s.size)] W (.tuple #[.int .i32 (Utf8.decode s p).1,lA mA (Utf8.decode s p).2]):=fun W i=>by
  have:=utf8_DecodeRuneInString (s.extract p s.size) W i;rw[e]at this;exact this
 generalize (Utf8.decode s p).1=R at *;generalize (Utf8.decode s p).2=N at *;have g:xA _:=d;have h:xA (vH w):=c;clear d c e j;go_enter func233,ntmps233;go_wp2_with fail;apply aC (g.o _ h.o);intro l a;have f:xA _:=a;clear a;go_wp2;go_ret;exact⟨rfl,f.o⟩
def UG{w:eA}{g:Nat}{x:Obj}(h:w.heap[g]?=bA x):g<w.1.size:=by grind
def nN(W:eA)(B:Nat)(s:gB)(p:Nat):Prop:=W.heap[B]?=bA (.stringIter s p)
def aO(W:eA)(B:Nat)(s:gB)(p:Nat):eA:={ W with heap:=W.heap.setIfInBounds B (.stringIter s p) }
def aKx{P:Program}(W:eA)(B:Nat)(s:gB)(pos:Nat)(b:jA)(a:nN W B s pos)(h:pos<s.size):
 (Instr.next (qA (bA ⟨B,0,aA⟩)) dA b).run P W=.ok (.tuple #[pA dA,lA mA pos,.int .i32 (Utf8.decode s pos).1]) (aO W B s (pos+(Utf8.decode s pos).2)):=by
 unfold nN at a;simp only[Instr.next,getObj,setObj,Sem.run_bind,Sem.run,a,Result.andThen,h,Td];simp[goInt,aO]
def aKy{P:Program}(W:eA)(B:Nat)(s:gB)(pos:Nat)(b:jA)(a:nN W B s pos)(h:¬pos<s.size):
 (Instr.next (qA (bA ⟨B,0,aA⟩)) dA b).run P W=.ok (.tuple #[pA cA]) W:=by
 unfold nN at a;simp[Instr.next,getObj,Sem.run,a,h]
def nN.set{W:eA}{B:Nat}{s:gB}{p:Nat}(h:nN W B s p)(q:Nat):nN (aO W B s q) B s q:=by
 have:=UG h;unfold nN aO;simp[this]
def nN.z{W a:eA}{B:Nat}{s:gB}{p:Nat}(h:nN W B s p)(b:kB W a):nN a B s p:=(b.block B (UG h)).trans h
def WK{w W:eA}{B C:Nat}(h:Below C w W)(a:C<=B)(s:gB)(q:Nat):Below C w (aO W B s q):=
 h.trans ⟨rfl,rfl,rfl,by simp[aO],fun k b=>by simp only[aO];rw[Ea (by omega)]⟩
def MX(s:gB)(w:eA)(hs:s.size<=1000000000)(hT:vH w):
 qD 199 #[nA s] w (lA mA (zP s:Nat)):=by
 have X:xA (vH w):=hT;clear hT;have b0:=run_range_string w 9 s underlying9;have G:xA (nN (w.iter s 0) w.1.size s 0/\kB w (w.iter s 0)):=⟨eA.iter_heap _ _ _,vB⟩
 generalize w.iter s 0=w0 at *;go_enter func199,ntmps199;go_wp2;clear b0;go_loopw [3,4,5,6] (fun cnt Y _ _ wr=>∃(p:Nat)(a:List Nat)(v:Bool),p<=s.size/\vA a<=p/\xA (CQ s p a/\v=a.any ctl)/\cnt=lA mA (vA a:Nat)/\Y=pA v/\xA (nN wr w.1.size s p/\kB w wr)) (fun _ _ _ _ wr=>s.size-wr.iterPos w.1.size)
 case atStart=>
  exact⟨0,[],cA,Oa _,Ia _,⟨CQ.start s,rfl⟩,rfl,rfl,G.o⟩
 case round=>
  obtain⟨p,a,v,hp,hac,D,rfl,rfl,y⟩:=hrel;have HM:xA (wr.iterPos w.1.size=p):=by show _=_;unfold eA.iterPos;rw[y.o.1]
  clear G;by_cases j:p<s.size
  .have B:∀C,(Instr.next (qA (bA ⟨w.1.size,0,aA⟩)) dA C).run prog wr=_:=fun C=>aKx wr w.1.size s p C y.o.1 j;have M:=sX s p;have u:=wZ s p;have K:xA _:=fun W h=>uo s p W j h;have x:xA _:=MK s p j;have H:xA _:=fun E=>D.o.1.step j E;have F:xA _:=fun E=>D.o.1.bad j E;have U:xA (∀r,(a++[r]).any ctl=(v||ctl r)):=fun r=>by rw[Tf,<-D.o.2];simp
   have J:xA (nN (aO wr w.1.size s (p+(Utf8.decode s p).2)) w.1.size s (p+(Utf8.decode s p).2)/\kB w (aO wr w.1.size s (p+(Utf8.decode s p).2))):=⟨y.o.1.set _,WK y.o.2 (Ia _) _ _⟩
   obtain⟨R,Q⟩:∃R,(Utf8.decode s p).1=R:=⟨_,rfl⟩
   obtain⟨N,A⟩:∃N,(Utf8.decode s p).2=N:=⟨_,rfl⟩
   have HD:xA (Utf8.decode s p=(R,N)):=by show _=_;rw[<-Q,<-A]
   rw[Q]at u B;rw[A]at u B M;have o:xA (∀W,vH W->qD 233 #[nA s,lA mA (p:Nat)] W (lA mA (N:Nat))):=by show ∀_,_;rw[<-A];exact K.o
   have n:xA ((R,N)≠(65533,1)->CQ s (p+N) (a++[R])/\p+N<=s.size):=fun h=>by
    have E:Utf8.decode s p≠(65533,1):=by rw[HD.o];exact h
    have z:=H.o E;have h2:=x.o E;rw[Q,A]at z;rw[A]at h2;exact⟨z,h2⟩
   have f:xA (nN (aO wr w.1.size s (p+N)) w.1.size s (p+N)/\kB w (aO wr w.1.size s (p+N))):=by show _/\_;rw[<-A];exact J.o
   clear K H x J Q A y;obtain⟨O,hr2⟩:=u;generalize aO wr w.1.size s (p+N)=P at *;have l:xA (∀W,(R,N)≠(65533,1)->kB P W->∃(T:Nat)(i:List Nat)(L:Bool),T<=s.size/\vA i<=T/\xA (CQ s T i/\L=i.any ctl)/\iA.int mA ((vA a:Int)+1)=lA mA (vA i:Nat)/\iA.bool (v||ctl R)=pA L/\xA (nN W w.1.size s T/\kB w W)):=fun W g S=>
    ⟨p+N,a++[R],v||ctl R,(n.o g).2,(n.o g).1.1,⟨(n.o g).1,(U.o R).symm⟩,by simp,rfl,f.o.1.z S,oB f.o.2 S⟩
   have m:xA (∀W,(R,N)≠(65533,1)->kB P W->s.size-W.iterPos w.1.size<s.size-wr.iterPos w.1.size):=fun W g S=>by
    have z:W.iterPos w.1.size=p+N:=by unfold eA.iterPos;rw[f.o.1.z S]
    rw[z,HM.o];omega
   by_cases hf:R=65533
   .have Z:((R:Int)==65533)=dA:=by simp;omega
    by_cases z:N=1
    .have a0:((N:Int)==1)=dA:=by simp;omega
     have I:xA _:=F.o (by rw[HD.o,hf,z]);clear l m;go_wp2_with fail;apply aC (o.o _ (X.o.z f.o.2));intro w2 c;have d:xA _:=oB f.o.2 c;clear c;go_wp2;go_ret;exact⟨fD (by rw[I.o];rfl),d.o⟩
    have a0:((N:Int)==1)=cA:=by simp;omega
    have g:(R,N)≠(65533,1):=by simp;omega
    have b:xA ((R,N)≠(65533,1)):=g;clear g hf z;cases v with
    |true=>
     go_wp2_with fail;apply aC (o.o _ (X.o.z f.o.2));intro w2 c;have d:xA _:=c;clear c;go_wp2;have t:=l.o _ b.o d.o;rw[Bool.true_or]at t;exact⟨t,m.o _ b.o d.o⟩
    |false=>
     go_wp2_with fail;apply aC (o.o _ (X.o.z f.o.2));intro w2 c;have d:xA _:=c;clear c;go_wp2_with fail;apply lK (DI R _ O);go_wp2;have t:=l.o _ b.o d.o;rw[Rf]at t;exact⟨t,m.o _ b.o d.o⟩
   have Z:((R:Int)==65533)=cA:=by simp;omega
   have b:xA ((R,N)≠(65533,1)):=by show _≠_;simp;omega
   cases v with
   |true=>
    go_wp2;have t:=l.o _ b.o eD;rw[Bool.true_or]at t;exact⟨t,m.o _ b.o eD⟩
   |false=>
    go_wp2_with fail;apply lK (DI R _ O);go_wp2;have t:=l.o _ b.o eD;rw[Rf]at t;exact⟨t,m.o _ b.o eD⟩
  have B:∀C,(Instr.next (qA (bA ⟨w.1.size,0,aA⟩)) dA C).run prog wr=_:=fun C=>aKy wr w.1.size s p C y.o.1 j;have I:xA _:=D.o.1.done (by omega);have HC:xA _:=D.o.2;have V:xA _:=y.o.2;clear D y HM;by_cases q:128<vA a
  .have k:xA (zP s=43):=by show _=_;rw[I.o,WB,Ma q]
   go_wp2;go_ret;exact⟨fD (by rw[k.o];rfl),V.o⟩
  cases v with
  |true=>
   have k:xA (zP s=44):=by show _=_;rw[I.o,WB,Ja q,<-HC.o];rfl
   go_wp2;go_ret;exact⟨fD (by rw[k.o];rfl),V.o⟩
  |false=>
   have k:xA (zP s=0):=by show _=_;rw[I.o,WB,Ja q,<-HC.o];rfl
   go_wp2;go_ret;exact⟨fD (by rw[k.o];rfl),V.o⟩
def aSl(a b:Nat)(c:a<4611686018427387904)(d:b<4611686018427387904):bits .or mA (a:Int) (b:Int)=((a||| b:Nat):Int):=by
 have e:a||| b<2 ^ 62:=Nat.or_lt_two_pow (by omega) (by omega)
 show IntKind.i64.wrap ((BitVec.ofInt 64 (a:Int) ||| BitVec.ofInt 64 (b:Int)).toNat:Int)=_;rw[BitVec.toNat_or,Nc,Nc,Hc,Hc,Ic (by omega),Ic (by omega)];simp only[IntKind.wrap,IntKind.bits,IntKind.signed];simp;omega
def aSm(a b:Nat)(e:b<256)(d:a<281474976710656):bits .or mA ((a:Int)*256) (b:Int)=((a*256+b:Nat):Int):=by
 have c:a*256||| b=a*256+b:=by
  have:=Ef (i:=8) (b:=b) (by omega) a;rw[show 2 ^ 8*a=a*256 by omega]at this;exact this.symm
 rw[<-c];exact aSl (a*256) b (by omega) (by omega)
def nz(s:gB)(w:eA)(l:s.size<=7):
 dI 203 #[nA s] w (lA mA (rS s.data.toList:Nat)):=by
 go_enter func203,ntmps203;go_wp2;go_loopw [3,4,7] (fun x _ c wr=>∃(k X:Nat),k<=s.size/\c=lA mA k/\x=lA mA X/\X<256 ^ k/\xA (X=rS (s.data.toList.take k))/\wr=w) (fun _ _ c _=>s.size-(intOf c).toNat)
 case atStart=>exact⟨0,0,by omega,rfl,rfl,by simp,by show _=_;simp[rS],rfl⟩
 case round=>
  obtain⟨k,X,i,rfl,rfl,d,b,rfl⟩:=hrel;by_cases a:k<s.size
  .have h:=(s[k]).toNat_lt;have f:X<281474976710656:=Bb d (Sc (n:=256) (by omega) (show k<=6 by omega));have j:=aSm X (s[k]).toNat (by omega) (by omega);go_wp2;refine⟨⟨k+1,X*256+(s[k]).toNat,by omega,by go_num,?_,?_,?_,trivial⟩,by simp[intOf];omega⟩
   .go_num
   .rw[Od];omega
   show _=_;rw[eT s k a,oZ,<-b.o]
  have e:k=s.size:=by omega
  subst e;go_wp2;go_ret;refine⟨?_,rfl⟩;show Ending.returned (lA mA (X:Nat))=_;rw[b.o,Ra (by simp)]
def rQ(s:gB)(w:eA)(f:s.size<=1000000000):
 qD 106 #[nA s] w (nA (kO s)):=by
 have d:xA (∀W,qD 21 #[lA mA 1,lA mA (s.size:Nat)] W (nA (pB 1 (s.size:Nat)))):=fun W=>lD 1 (s.size:Nat) W (by omega) (by omega) (by omega);have g:=qB 1 (s.size:Nat);unfold kO;generalize pB 1 (s.size:Nat)=N at *;go_enter func106,ntmps106;go_wp2_with fail;apply aC (d.o _);intro h a;have c:xA _:=a;clear a;go_wp2;go_ret;exact⟨rfl,c.o⟩
def rO(s:gB)(w:eA)(f:s.size<=1000000000):
 qD 29 #[nA s] w (nA (qF s)):=by
 have d:xA (∀W,qD 21 #[lA mA 2,lA mA (s.size:Nat)] W (nA (pB 2 (s.size:Nat)))):=fun W=>lD 2 (s.size:Nat) W (by omega) (by omega) (by omega);have g:=qB 2 (s.size:Nat);unfold qF;generalize pB 2 (s.size:Nat)=N at *;go_enter func29,ntmps29;go_wp2_with fail;apply aC (d.o _);intro h a;have c:xA _:=a;clear a;go_wp2;go_ret;exact⟨rfl,c.o⟩
def FM(n:Nat):Nat->List UInt8
 |0=>[]
 |i+1=>(48+UInt8.ofNat (n / 10 ^ i % 10)):: FM n i
def gy(n:Nat):gB:=⟨(119::97::108::45::FM n 6).toArray⟩
def jN(n:Int):gB:=if 1<=n/\n<=999999 then gy n.toNat else kA
def BA(n:Nat):∀i,vA (FM n i)=i
 |0=>rfl
 |i+1=>by simp[FM,BA n i]
def cT(n:Int):(jN n).size<=10:=by
 unfold jN;split;show (119::97::108::45::FM n.toNat 6).toArray.size<=10;simp[BA];simp
def aEd(k:Nat):UInt8.ofNat (48+k)=48+UInt8.ofNat k:=by rw[UInt8.ofNat_add];rfl
def oz(n:Nat)(h:n<1000000):Lib.itoa ((1000000+n:Nat):Int)=49::FM n 6:=by
 have a:Lib.nDigits (1000000+n)=7:=Lib.nDigits_unique 6 _ (by omega) (by omega);rw[Lib.itoa,Ja (by omega),Hd,Lib.decDigits_eq,a];simp only[List.range_succ,List.range_zero,Fc,Ag,Mb,Sd,FM,Lib.dg,aEd];congr 1;rw[show(1000000+n) / 10 ^ (7-1-0) % 10=1 by omega];rfl;simp only[List.cons.injEq,Cc];refine⟨?_,?_,?_,?_,?_,?_⟩<;>congr 2<;>omega
def rz(v:Int):∀k,FO v k=v / 2 ^ (8*k)
 |0=>by simp[FO]
 |k+1=>by
  rw[FO,rz v k,show 8*(k+1)=8*k+8 by omega,Int.pow_add,Int.ediv_ediv_of_nonneg (Int.pow_nonneg (by omega))];rfl
def ql(v:Int):∀n i,i<n->(jZ v n)[i]?=bA (FO v (n-1-i) % 256)
 |0,i,h=>absurd h (by omega)
 |n+1,0,_=>by simp[jZ]
 |n+1,i+1,h=>by
  rw[jZ,Ga,ql v n i (by omega)];congr 3;omega
theorem aH(n:Nat)(v:Int)(w:World)(J:n<=8):
 Calls prog 79 #[.int .i64 v,.int .i64 n] w fun e F=>e=.returned (.string (pB n v))/\Below w.1.size w F:=by
 obtain⟨C,y,B⟩:∃C:Array Value,C.size=n/\(Instr.makeSlice 124 (.int .i64 n) (.int .i64 n)).run prog w=.ok (.slice (some ⟨w.1.size,0,none⟩) n n) (w.alloc (.cells C 5)):=by
  obtain⟨E,m,o,q,r⟩:=eo;have h:=run_make (P:=prog) w 124 5 E _ underlying124 m o .i64 .i64 (n:Int) (n:Int) (by omega) (by omega) (by rw[r];omega) (by omega);rw[q,Hd,Nat.mul_one]at h;exact⟨_,size_madeCells _ _,h⟩
 have t:xA (iB (w.alloc (.cells C 5)) w.1.size C 5):=heap_alloc_new _ _;go_enter func79,ntmps79;go_wp2;go_loopw [6,11] (fun _ c wr=>∃(k:Nat)(b:Array Value),k<=n/\c=.int .i64 k/\xA (iB wr w.1.size b 5)/\b.size=n/\xA (∀i,i<k->b[n-1-i]?=some (.int .u8 (FO v i % 256)))/\xA (Below w.1.size w wr)) (fun _ c _=>n-(intOf c).toNat)
 case atStart=>exact⟨0,C,by omega,rfl,t,y,fun i l=>absurd l (by omega),vB⟩
 case round=>
  obtain⟨k,b,I,rfl,a,j,f,d⟩:=hrel;by_cases A:k<n
  .obtain ⟨p,K,g⟩:∃p:Nat,(n:Int)-1-(k:Int)=(p:Int)/\xA (p=n-1-k):=⟨n-1-k,by omega,rfl⟩
   have G:wr.cell? ⟨w.1.size,p,none⟩=some (b[p]'(by have:=g.o;omega)):=by rw[a.o.cell];exact Qc _
   have H:=a.o.free p;go_wp2;refine⟨⟨k+1,b.setIfInBounds p (.int .u8 (v / 2 ^ (8*k) % 256)),by omega,by go_num,a.o.set p _,by simp[j],?_,d.o.setCell (p:=⟨w.1.size,p,none⟩) (Ia _) _⟩,by simp[intOf];omega⟩;intro i l;have D:=g.o;rw[Eb];split
   .rename_i e;have u:i=k:=by omega
    subst u;rw[Ma (by omega),rz]
   .rename_i e;exact f.o i (by omega)
  .have e:k=n:=by omega
   subst e;have z:(convert 124 9 (.slice (some ⟨w.1.size,0,none⟩) k k)).run prog wr=.ok (.string (pB k v)) wr:=by
    refine run_convert_bytes_arg wr 124 5 underlying124 underlying5 w.1.size 0 _ _ (jZ v k) (AR v k) (fun i l=>?_) 9 underlying9;rw[a.o.cell,Ya];have s:=f.o (k-1-i) (by omega);rw[show k-1-(k-1-i)=i by omega]at s;rw[s];have x:=ql v k i (by omega);simp[List.getD,x]
   go_wp2;go_ret;exact⟨rfl,d.o⟩
def nU(v:Int):Prop:=-9223372036854775808<=v/\v<=9223372036854775807
def QF(a:List dB):Prop:=∀i(h:i<vA a),nU a[i].n
def jz(a:List aB):Prop:=∀i(h:i<vA a),nU a[i].L/\QF a[i].M/\QF a[i].Z
def VZ(p:dB):gB:=qF p.s++pB 8 p.n
def qG:List dB->gB
 |[]=>kA
 |p::q=>VZ p++qG q
def br(a:List dB):Prop:=∀i(h:i<vA a),a[i].s.size<=65535
def aL(t:aB):Prop:=t.N.size<=255/\br t.M/\br t.Z
def jg(t:aB):gB:=kO t.N++pB 8 t.L++pB 4 (vA t.M:Nat)
def kW(t:aB):gB:=jg t++qG t.M++pB 4 (vA t.Z:Nat)++qG t.Z
def sF:List aB->gB
 |[]=>kA
 |t::q=>kW t++sF q
def ckB:gB:=⟨#[67,75,80,84]⟩
def PV(a b:Int)(n:Nat):gB:=ckB++pB 8 a++pB 8 b++pB 4 (n:Nat)
def aw(a:Int)(b:List aB):Prop:=0<=a/\a<=1000000000000000/\∀i(h:i<vA b),aL b[i]
def wN(a b:Int)(c:List aB):gB:=PV a b (vA c)++sF c
def aUl(a:Int)(b:List aB):Decidable (aw a b):=by unfold aw aL br;infer_instance
def xP(a b:Int)(c:List aB):gB:=haveI:=aUl a c;if aw a c then wN a b c++pB 4 (wL (wN a b c):Nat) else kA
def il{a b:Int}{c:List aB}(h:aw a c):xP a b c=wN a b c++pB 4 (wL (wN a b c):Nat):=by unfold xP;rw[Ma h]
def PT{a b:Int}{c:List aB}(h:¬aw a c):xP a b c=kA:=by unfold xP;rw[Ja h]
def GU:∀(a b:List dB),qG (a++b)=qG a++qG b
 |[],b=>by simp[qG]
 |r::q,b=>by
  show VZ r++qG (q++b)=VZ r++qG q++qG b;rw[GU q b,Wa]
def RK(a:List dB)(k:Nat)(h:k<vA a):qG (a.take (k+1))=qG (a.take k)++VZ a[k]:=by
 rw[Pa h,GU];simp[qG]
def iS:∀(a b:List aB),sF (a++b)=sF a++sF b
 |[],b=>by simp[sF]
 |r::q,b=>by
  show kW r++sF (q++b)=kW r++sF q++sF b;rw[iS q b,Wa]
def RN(a:List aB)(k:Nat)(h:k<vA a):sF (a.take (k+1))=sF (a.take k)++kW a[k]:=by
 rw[Pa h,iS];simp[sF]
def aEi(p:dB):(VZ p).size=10+p.s.size:=by
 unfold VZ;rw[Ka,uF,qB];omega
theorem EH:∀(a:List dB),(qG a).size=10*vA a+pC a
 |[]=>rfl
 |p::q=>by
  show(VZ p++qG q).size=_;rw[Ka,aEi,EH q];show _=10*(vA q+1)+(p.s.size+pC q)
  omega
theorem jh(t:aB):(jg t).size=13+t.N.size:=by grind [jg,lH,qB]
def YH(t:aB):(kW t).size=17+t.N.size+10*vA t.M+pC t.M+10*vA t.Z+pC t.Z:=by grind [kW,pC,jh,EH,qB]
def JO(a b:Int)(n:Nat):(PV a b n).size=24:=by
 unfold PV;rw[Ka,Ka,Ka,qB,qB,qB];rfl
def aCi{c:List aB}{k:Nat}(e:k<vA c)(h:¬aL c[k])(a b:Int):xP a b c=kA:=PT fun d=>h (d.2.2 k e)
def mz(x:Int)(w:eA):dI 287 #[lA mA x] w (pA (wB x 1 60000)):=by
 by_cases a:1<=x
 .by_cases b:x<=60000
  .have e:wB x 1 60000=dA:=by simp[wB,a,b]
   rw[e];go_enter func287,ntmps287;go_wp2;go_ret;exact⟨rfl,rfl⟩
  have e:wB x 1 60000=cA:=by simp[wB,b]
  rw[e];go_enter func287,ntmps287;go_wp2;go_ret;exact⟨rfl,rfl⟩
 have e:wB x 1 60000=cA:=by simp[wB,a]
 rw[e];go_enter func287,ntmps287;go_wp2;go_ret;exact⟨rfl,rfl⟩
def jl(a b c d f g:Int)(w:eA):
 qD 6 #[.agg #[lA mA a,lA mA b,lA mA c,lA mA d,lA mA f,lA mA g]] w (.agg #[lA mA a,lA mA b,lA mA c,lA mA d,lA mA f,lA mA g]):=by
 go_enter func6,ntmps6;go_wp2;exact bodyPost_ret (v:=.agg #[lA mA a,lA mA b,lA mA c,lA mA d,lA mA f,lA mA g]) (by simp[results,results6,go_sem]) rfl ⟨rfl,((eD.alloc (Ia _) _).alloc (by simp) _).alloc (by simp;omega) _⟩
