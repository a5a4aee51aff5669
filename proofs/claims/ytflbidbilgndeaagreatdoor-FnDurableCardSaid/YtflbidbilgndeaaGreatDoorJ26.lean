import Derived.Test.YtflbidbilgndeaaGreatDoorJ18
import Derived.Test.YtflbidbilgndeaaGreatDoorJ21
import Derived.Test.YtflbidbilgndeaaGreatDoorJ24
set_option maxRecDepth 100000
set_option maxHeartbeats 4000000
set_option linter.defProp false
open Bool renaming true->dA,false->cA
open Option renaming none->aA,some->bA
open ByteArray renaming empty->kA
open List renaming length->yA
namespace Go.Proofs.YtflbidbilgndeaaGreatDoor
open Go renaming World->eA,Calls->gA,Value->iA
open Ending renaming returned->uA
open Value renaming tuple->xA,agg->tA,slice->pA,bool->qA,string->oA
open Obj renaming cells->vA
open Go.RowKit Tryz
def wR{ts:List fB}(h:yA ts+cC ts<=1900000):aMa ts 1900000/\aHv ts/\True/\aOt ts:=by
 have f:∀i(a:i<yA ts),jF ts[i]<=1900000:=λi a=>by have:=mY ts i a;omega
 have c:∀i(a:i<yA ts),ts[i].N.size<=1900000/\yA ts[i].M<=1900000/\yA ts[i].Z<=1900000/\gE ts[i].M<=1900000/\gE ts[i].Z<=1900000:=λi a=>by have:=f i a;unfold jF at this;omega
 have b:∀i(a:i<yA ts),(∀j(e:j<yA ts[i].M),ts[i].M[j].s.size<=1000000000)/\(∀j(e:j<yA ts[i].Z),ts[i].Z[j].s.size<=1000000000):=λi a=>
  ⟨λj d=>by have:=nK _ j d;have:=c i a;omega,λj d=>by have:=nK _ j d;have:=c i a;omega⟩
 refine⟨λi a=>⟨?_,(b i a).1,(b i a).2,?_,?_,?_⟩,λi a=>⟨?_,(b i a).1,(b i a).2,?_,?_⟩,trivial,λi a=>⟨?_,?_⟩⟩<;>(have:=c i a;unfold maxLen at *;omega)
def aOr(a:List fB):Prop:=∀t∈a,t.N.size<=maxLen/\(∀i(h:i<yA t.M),t.M[i].s.size<=maxLen)/\(∀i(h:i<yA t.Z),t.Z[i].s.size<=maxLen)/\yA t.M<=2000000/\yA t.Z<=2000000
def xU(V:Int×List fB×Bool)(w:eA)(e:Ending)(c:eA):Prop:=
 ∃a b,e=uA (xA #[tA #[zA V.1,pA a (yA V.2.1) b],qA V.2.2])/\cD c w.1.size a V.2.1/\uB w c
def aQd(x:fB):Prop:=x.N.size<=1900000/\(∀p∈x.M,p.s.size<=1900000)/\(∀p∈x.Z,p.s.size<=1900000)/\yA x.M<=1900001/\yA x.Z<=1900001
def nS{ts:List fB}(h:yA ts+cC ts<=1900000):∀x∈ts,x.N.size<=1900000/\(∀p∈x.M,p.s.size<=1900000)/\(∀p∈x.Z,p.s.size<=1900000)/\yA x.M<=1900000/\yA x.Z<=1900000:=by
 intro x e;obtain⟨i,d,rfl⟩:=Ib e;have c:=mY ts i d;unfold jF at c;refine⟨by omega,λp b=>?_,λp b=>?_,by omega,by omega⟩;obtain ⟨j,a,rfl⟩:=Ib b;have:=nK _ j a;omega;obtain ⟨j,a,rfl⟩:=Ib b;have:=nK _ j a;omega
def vf{b:List fB}(h:∀x∈b,aQd x):aOr b:=λx e=>by
 obtain⟨f,c,d,g,j⟩:=h x e;exact⟨by unfold maxLen;omega,λi a=>by have:=c _ (Gb a);unfold maxLen;omega,λi a=>by have:=d _ (Gb a);unfold maxLen;omega,by omega,by omega⟩
def KM{a:List fB}(h:∀x∈a,x.N.size<=1900000/\(∀p∈x.M,p.s.size<=1900000)/\(∀p∈x.Z,p.s.size<=1900000)/\yA x.M<=1900000/\yA x.Z<=1900000){tenant:jB}(b:tenant.size<=1900000):
 (aC a tenant).N.size<=1900000/\(∀p∈(aC a tenant).M,p.s.size<=1900000)/\(∀p∈(aC a tenant).Z,p.s.size<=1900000)/\yA (aC a tenant).M<=1900000/\yA (aC a tenant).Z<=1900000:=by grind [aC,kM]
def GR{α:Type}{key:α->jB}{a:α}(l:List α):yA (fC key a l)<=yA l+1:=by induction l<;>grind [fC]
theorem kf{c:iC}{a:Int}{d:List fB}(h:nC c a d=dA):∀p∈d,p.N≠⟨#[]⟩:=λp f e=>by
 have b:=(dK (nJ (gH h).2.2.2.2 p f)).1;rw[e]at b;simp only[bD,Sa,Ab]at b;have g:(⟨#[]⟩:jB).size=0:=rfl;omega
def NZ{c:iC}{b:Int}{a:List fB}(h:nC c b a=dA)(e:yA a+cC a<=1900000):∀x∈a,ZA x:=λx d=>by
 obtain⟨_,j,k,_,g⟩:=gH h;obtain⟨_,_,_,l,m⟩:=nS e x d;refine⟨by omega,by omega,λi f=>?_⟩;have:=CE (dK (nJ g x d)).2.2.1 _ (Gb f);omega
def aHd{c:iC}{a:Int}{b:List fB}(h:nC c a b=dA):aE c.w a (FG ⟨⟨#[]⟩,0,[],[]⟩ dA b)=b:=by grind [nC,aE,FG,oV,kf,jl,gH]
def zT(c:iC)(f:Int)(a:mC)(k:Nat)(j:List fB)(w:eA)(F:xC w a j)(m:nC c f j=dA)(E:yA j+cC j<=1900000):
 gA prog 107 #[rE c,tA #[zA f,pA a (yA j) k]] w λe y=>∃r l,e=uA (tA #[zA f,pA r (yA j) l])/\cD y w.1.size r j/\uB w y:=by
 obtain⟨_,B,L,_,_⟩:=gH m;have I:cB (∀W,uB w W->gA prog 117 #[rE c,tA #[zA f,pA a (yA j) k],zA f,tA #[oA ⟨#[]⟩,zA 0,pA aA 0 0,pA aA 0 0]] W λe y=>∃r l,e=uA (tA #[zA f,pA r (yA j) l])/\cD y W.1.size r j/\uB W y):=λW K=>by
  have:=EJ c f f a k j ⟨⟨#[]⟩,0,[],[]⟩ aA aA 0 0 W (F.z K) (Ca rfl) (Ca rfl) (by omega) (λx C=>by
   obtain rfl|C:=C;exact ⟨Oa _,Oa _,λi h=>absurd h (by simp)⟩;exact NZ m E x C) B (by omega)
  have e:(⟨⟨#[]⟩,0,[],[]⟩:fB).N.toList.isEmpty=dA:=by kernel_rfl
  rw[e,aHd m]at this;exact this
 clear F m E;unfold rE at *;go_enter func107,ntmps107;have D:cB (uB w (((w.alloc (vA #[zA c.w,zA c.tl,zA c.ml,zA c.sh,zA c.ha,zA c.sg] 24)).alloc (vA #[zA f,pA a (yA j) k] 40)).alloc (vA #[zA 0,pA aA 0 0] 40))):=vB (vB zB zB) zB;have J:cB _:=bB (by have:=nB.new ((w.alloc (vA #[zA c.w,zA c.tl,zA c.ml,zA c.sh,zA c.ha,zA c.sg] 24)).alloc (vA #[zA f,pA a (yA j) k] 40)) #[zA 0,pA aA 0 0] 40;simpa using this);go_wp2_with fail;refine(I.o _ D.o).mono ?_;rintro e o ⟨p,u,rfl,t,n⟩;have A:cB _:=bB (by simpa using t);have z:cB (nB o (w.1.size+1+1) #[zA 0,pA aA 0 0] 40):=J.o.z n;have H:cB _:=vB D.o n;have M:tC o (w.1.size+1+1) 0 (zA 0):=z.o.cell 0;have N:tC o (w.1.size+1+1) 1 (pA aA 0 0):=z.o.cell 1;have b:=z.o.free 0;have d:=z.o.free 1;clear t n;go_wp2;have q:eB (·=w.1.size+1+1) o ((o.setCell (dB (w.1.size+1+1) 0) (zA f)).setCell (dB (w.1.size+1+1) 1) (pA p (yA j) u)):=((eB.refl (·=w.1.size+1+1) o).setCell (Ca rfl) 0 _).setCell (Ca rfl) 1 _;have G:cD ((o.setCell (dB (w.1.size+1+1) 0) (zA f)).setCell (dB (w.1.size+1+1) 1) (pA p (yA j) u)) w.1.size p j:=(cD.turned A.o q (λg O P e=>by omega)).mono (by omega);have s:=((eB.of (S:=λi=>w.1.size<=i) H.o).trans' (q.mono λi _ e=>by omega)).below (Ia _) λi Q h=>by omega
 refine bodyPost_ret (v:=tA #[zA f,pA p (yA j) u]) (by simp[results,results107,go_sem,M,N]) rfl ?_;first
  |exact⟨p,⟨u,rfl⟩,G,s⟩
  |exact⟨p,u,rfl,G,s⟩
def KX(a:eA)(X:Nat)(K:fB)(b:eA):Prop:=
 ∃c e d f,nB b X #[oA K.N,zA K.L,pA c (yA K.M) e,pA d (yA K.Z) f] 94/\(∀W,eB (·=X) b W->jC W c K.M/\jC W d K.Z)/\a.1.size<=X/\uB a b
def IE{w W:eA}{B X:Nat}{q:mC}{c:List kB}(h:fD w B q c)(b:eB (·=X) w W)(n:X<B\/w.1.size<=X):jC W q c:=by
 obtain h|⟨g,o,d,t,rfl,m,f,h⟩:=h;exact Ca h;have a:=aB f;have l:=b.block g a (by omega);have e:∀j,W.cell? (dB g j)=w.cell? (dB g j):=λj=>eA.cell?_of_block l;exact La ⟨g,o,rfl,by have:=b.size;omega,λi k=>by simp only[e];exact h i k⟩
def aNb{e b:eA}{K:fB}{B M:Nat}{c d:mC}{f g:Nat}(i:fD b B c K.M)(j:fD b M d K.Z)(h:uB e b):
 KX e b.1.size K (b.alloc (vA #[oA K.N,zA K.L,pA c (yA K.M) f,pA d (yA K.Z) g] 94)):=by
 refine⟨c,f,d,g,nB.new _ _ _,λW k=>?_,h.size,vB h zB⟩;have a:=(eB.of zB).trans' k;exact⟨IE i a (La (Ia _)),IE j a (La (Ia _))⟩
def aFl{f a:eA}{K:fB}{B M X:Nat}{b c:mC}{d e:Nat}(k:fD a B b K.M)(l:fD a M c K.Z)(m:X<B)(o:B<=M)(j:f.1.size<=X)(g:nB a X #[oA ⟨#[]⟩,zA 0,pA aA 0 0,pA aA 0 0] 94)(n:uB f a):
 KX f X K ((((a.setCell (dB X 0) (oA K.N)).setCell (dB X 1) (zA K.L)).setCell (dB X 2) (pA b (yA K.M) d)).setCell (dB X 3) (pA c (yA K.Z) e)):=by
 have i:eB (·=X) a ((((a.setCell (dB X 0) (oA K.N)).setCell (dB X 1) (zA K.L)).setCell (dB X 2) (pA b (yA K.M) d)).setCell (dB X 3) (pA c (yA K.Z) e)):=((((eB.refl (·=X) a).setCell (Ca rfl) 0 _).setCell (Ca rfl) 1 _).setCell (Ca rfl) 2 _).setCell (Ca rfl) 3 _;refine⟨b,d,c,e,?_,λW h=>⟨IE k (i.trans' h) (Ca m),IE l (i.trans' h) (Ca (by omega))⟩,j,db n j⟩;have:=(((g.set 0 (oA K.N)).set 1 (zA K.L)).set 2 (pA b (yA K.M) d)).set 3 (pA c (yA K.Z) e);simpa using this
structure CJ(w W:World)(c:iC)(now:Int)(a:mC)(n cap:Nat):Prop where
 C:nB W w.1.size #[zA c.w,zA c.tl,zA c.ml,zA c.sh,zA c.ha,zA c.sg] 24
 S:nB W (w.1.size+1) #[zA now,pA a n cap] 40
 R:nB W (w.1.size+1+1) #[zA 0,pA aA 0 0] 40
 B:uB w W
section
variable {w W W':eA} {c:iC} {now:Int} {a:mC} {n cap:Nat}
theorem CJ.new:CJ w (((w.alloc (vA #[zA c.w,zA c.tl,zA c.ml,zA c.sh,zA c.ha,zA c.sg] 24)).alloc (vA #[zA now,pA a n cap] 40)).alloc (vA #[zA 0,pA aA 0 0] 40)) c now a n cap:=
 ⟨((nB.new _ _ _).alloc _).alloc _,by have:=(nB.new (w.alloc (vA #[zA c.w,zA c.tl,zA c.ml,zA c.sh,zA c.ha,zA c.sg] 24)) #[zA now,pA a n cap] 40).alloc (vA #[zA 0,pA aA 0 0] 40);simpa using this,
   by have:=nB.new ((w.alloc (vA #[zA c.w,zA c.tl,zA c.ml,zA c.sh,zA c.ha,zA c.sg] 24)).alloc (vA #[zA now,pA a n cap] 40)) #[zA 0,pA aA 0 0] 40;simpa using this,vB (vB zB zB) zB⟩
theorem CJ.z(h:CJ w W c now a n cap)(b:uB W W'):CJ w W' c now a n cap:=⟨h.C.z b,h.S.z b,h.R.z b,vB h.B b⟩
theorem CJ.lt(h:CJ w W c now a n cap):w.1.size+1+1<W.1.size:=aB h.R
theorem CJ.turn{X:Nat}(h:CJ w W c now a n cap)(b:eB (·=X) W W')(d:w.1.size+1+1<X):CJ w W' c now a n cap:=
 ⟨b.blk h.C (by omega),b.blk h.S (by omega),b.blk h.R (by omega),h.B.trans (b.below (by have:=h.B.size;omega) λi f e=>by omega)⟩
theorem CJ.cells(h:CJ w W c now a n cap):W.cell? (dB w.1.size 0)=bA (zA c.w)/\W.cell? (dB w.1.size 1)=bA (zA c.tl)/\W.cell? (dB w.1.size 2)=bA (zA c.ml)/\W.cell? (dB w.1.size 3)=bA (zA c.sh)/\W.cell? (dB w.1.size 4)=bA (zA c.ha)/\W.cell? (dB w.1.size 5)=bA (zA c.sg)/\W.cell? (dB (w.1.size+1) 0)=bA (zA now)/\W.cell? (dB (w.1.size+1) 1)=bA (pA a n cap)/\W.cell? (dB (w.1.size+1+1) 0)=bA (zA 0)/\W.cell? (dB (w.1.size+1+1) 1)=bA (pA aA 0 0)/\W.frozen? (dB (w.1.size+1+1) 0)=cA/\W.frozen? (dB (w.1.size+1+1) 1)=cA/\w.1.size+1+1<W.1.size:=
 ⟨h.C.cell 0,h.C.cell 1,h.C.cell 2,h.C.cell 3,h.C.cell 4,h.C.cell 5,h.S.cell 0,h.S.cell 1,h.R.cell 0,h.R.cell 1,h.R.free 0,h.R.free 1,h.lt⟩
theorem CJ.done{N rc:Nat}{v:Int}{d:mC}{b:List fB}(h:CJ w W c now a n cap)(j:cD W N d b)(m:w.1.size+1+1<N):
 cD ((W.setCell (dB (w.1.size+1+1) 0) (zA v)).setCell (dB (w.1.size+1+1) 1) (pA d (yA b) rc)) w.1.size d b/\uB w ((W.setCell (dB (w.1.size+1+1) 0) (zA v)).setCell (dB (w.1.size+1+1) 1) (pA d (yA b) rc)):=by
 have f:eB (·=w.1.size+1+1) W ((W.setCell (dB (w.1.size+1+1) 0) (zA v)).setCell (dB (w.1.size+1+1) 1) (pA d (yA b) rc)):=((eB.refl (·=w.1.size+1+1) W).setCell (Ca rfl) 0 _).setCell (Ca rfl) 1 _;exact⟨(cD.turned j f (λg k l e=>by omega)).mono (by omega),((eB.of (S:=λi=>w.1.size<=i) h.B).trans' (f.mono λi _ e=>by omega)).below (Ia _) λi o h=>by omega⟩
end
def KXR(a:eA)(X:Nat)(K:fB)(c:eA):Prop:=
 ∃M b f e d,nB c X #[oA K.N,zA K.L,pA b (yA K.M) f,pA e (yA K.Z) d] 94/\fD c a.1.size b K.M/\(∀g o,b=bA (dB g o)->g<M)/\c.ownsRow M 98 2 (pA e (yA K.Z) d) (yA K.Z) (flatK K.Z)/\(∀q,(iA.slice e (yA K.Z) d).ownBlock=bA q->q≠X)/\(∀g o,b=bA (dB g o)->K.M≠[]->g≠X)/\a.1.size<=X/\a.1.size<=M/\uB a c
def aJj{d a:eA}{K:fB}{B M:Nat}{c k:mC}{b f:Nat}(r:d.1.size<=B)(l:fD a B c K.M)(i:∀g o,c=bA (dB g o)->g<M)(m:a.ownsRow M 98 2 (pA k (yA K.Z) f) (yA K.Z) (flatK K.Z))(x:B<=M)(n:uB d a):
 KXR d a.1.size K (a.alloc (vA #[oA K.N,zA K.L,pA c (yA K.M) b,pA k (yA K.Z) f] 94)):=by
 refine⟨M,c,b,k,f,nB.new _ _ _,(l.mono r).z zB,i,hC m zB,λq u e=>?_,λg o e j v=>?_,n.size,by omega,vB n zB⟩;have:=(m.lt q u).2;omega;obtain h|⟨w,y,p,t,b,_,s,_⟩:=l;exact j h;rw[b]at e;simp only[Qa,Addr.mk.injEq,Cc]at e;have:=aB s;omega
def vh{l a:eA}{K:fB}{B M X:Nat}{d f:mC}{b c:Nat}(w:fD a B d K.M)(m:∀g o,d=bA (dB g o)->g<M)(n:a.ownsRow M 98 2 (pA f (yA K.Z) c) (yA K.Z) (flatK K.Z))(H:X<B)(G:B<=M)(z:l.1.size<=X)(r:nB a X #[oA ⟨#[]⟩,zA 0,pA aA 0 0,pA aA 0 0] 94)(A:uB l a):
 KXR l X K ((((a.setCell (dB X 0) (oA K.N)).setCell (dB X 1) (zA K.L)).setCell (dB X 2) (pA d (yA K.M) b)).setCell (dB X 3) (pA f (yA K.Z) c)):=by
 have y:eB (·=X) a ((((a.setCell (dB X 0) (oA K.N)).setCell (dB X 1) (zA K.L)).setCell (dB X 2) (pA d (yA K.M) b)).setCell (dB X 3) (pA f (yA K.Z) c)):=((((eB.refl (·=X) a).setCell (Ca rfl) 0 _).setCell (Ca rfl) 1 _).setCell (Ca rfl) 2 _).setCell (Ca rfl) 3 _;refine⟨M,d,b,f,c,?_,?_,m,y.row n (λq v e=>by have:=(n.lt q v).1;omega),λq v e=>by have:=(n.lt q v).1;omega,λg o e u E=>?_,z,by omega,db A z⟩;have:=(((r.set 0 (oA K.N)).set 1 (zA K.L)).set 2 (pA d (yA K.M) b)).set 3 (pA f (yA K.Z) c);simpa using this
 .rcases w with h|⟨g,o,k,t,rfl,p,s,h⟩
  .exact Ca h
  have x:=y.block g (aB s) (by omega);have C:∀j,((((a.setCell (dB X 0) (oA K.N)).setCell (dB X 1) (zA K.L)).setCell (dB X 2) (pA (bA (dB g o)) (yA K.M) b)).setCell (dB X 3) (pA f (yA K.Z) c)).cell? (dB g j)=a.cell? (dB g j):=λj=>eA.cell?_of_block x;exact La ⟨g,o,k,t,rfl,by omega,x.trans s,λi D=>by simp only[C];exact h i D⟩
 obtain h|⟨F,I,k,t,b,p,s,_⟩:=w;exact u h;rw[b]at e;simp only[Qa,Addr.mk.injEq,Cc]at e;omega
def kq{S:Nat->Prop}{w W:eA}{B:Nat}{q:mC}{a:List kB}(h:fD w B q a)(d:eB S w W)(f:∀g o,q=bA (dB g o)->a≠[]->¬S g):jC W q a:=by
 obtain h|⟨g,o,e,t,rfl,n,b,h⟩:=h;exact Ca h
 by_cases c:a=[]
 .exact Ca c
 have m:=d.block g (aB b) (f g o rfl c);have k:∀j,W.cell? (dB g j)=w.cell? (dB g j):=λj=>eA.cell?_of_block m;exact La ⟨g,o,rfl,by have:=d.size;have:=aB b;omega,λi l=>by simp only[k];exact h i l⟩
def aFg{l:List kB}(e:zC (·.s) l){k:jB}{n:Int}{i:Nat}(b:i<yA l)(h:l[i].s=k):fC (·.s) ⟨k,n⟩ l=l.set i ⟨k,n⟩:=by
 induction l generalizing i with
 |nil=>simp at b
 |cons p r g=>
  cases i with
  |zero=>
   have d:p.s=k:=h;rw[fC,Ja (by show ¬eK p.s k=dA;rw[d,bO];simp),Ma (by exact(kE _ _).2 d)];rfl
  |succ i=>
   have a:i<yA r:=by simpa using b
   have c:r[i].s=k:=by simpa using h
   have f:eK p.s k=dA:=by rw[<-c];exact e.head _ (Gb a)
   rw[fC,Ma f,g e.tail a c];rfl
def zv(l:List kB)(i:Nat)(b:i<yA l)(n:Int):flatK (l.set i ⟨l[i].s,n⟩)=(flatK l).set (i*2+1) (zA n):=by
 induction l generalizing i with
 |nil=>simp at b
 |cons p r c=>
  cases i with
  |zero=>rfl
  |succ i=>
   have a:i<yA r:=by simpa using b
   have:=c i a;simp only[flatK,Jd,Xc,Ec]at this |-
   rw[this];have e:(i+1)*2+1=(i*2+1)+2:=by omega
   rw[e];rfl
def aGz{w:eA}{M g n a:Nat}{f:List iA}{j:Nat}{v:iA}(h:w.ownsRow M 98 2 (pA (yB g) n a) n f):(w.setCell (dB g j) v).ownsRow M 98 2 (pA (yB g) n a) n (f.set j v):=by
 refine⟨by rw[Pd];exact h.1,?_⟩;obtain⟨e,_⟩|⟨q,d,b,e,o,p,i,k,l,m⟩:=h.2
 .cases e
 simp only[iA.slice.injEq,Qa,Addr.mk.injEq,Cc]at e;obtain⟨rfl,_,rfl⟩:=e;have c:nB w g b 98:=p;refine La ⟨g,a,b.setIfInBounds j v,rfl,o,c.set j v,i,k,by simp[l],?_⟩;rw[Jf,List.take_set,m]
def lu{w:eA}{M n b:Nat}{a:mC}{f:List iA}(h:w.ownsRow M 98 2 (pA a n b) n f)(i:0<n):∃g,a=yB g:=by
 obtain⟨_,e⟩|⟨g,c,d,e,_⟩:=h.2;omega;simp only[iA.slice.injEq]at e;exact⟨g,e.1⟩
def aOb{w:eA}{M n b:Nat}{a:mC}{i:List iA}(h:w.ownsRow M 98 2 (pA a n b) n i):(a=aA/\b=0/\n=0)\/∃g,a=yB g:=by
 obtain⟨e,f⟩|⟨g,c,d,e,_⟩:=h.2;simp only[iA.slice.injEq]at e;exact Ca ⟨e.1,e.2.2,f⟩;simp only[iA.slice.injEq]at e;exact La ⟨g,e.1⟩
def aKq{w:eA}{M n a g:Nat}{f:List iA}(h:w.ownsRow M 98 2 (pA (yB g) n a) n f):n<=a:=by
 obtain⟨e,_⟩|⟨i,b,c,e,_,_,d,_⟩:=h.2
 .cases e
 simp only[iA.slice.injEq]at e;rw[e.2.2];exact d
def aKz{w:eA}{M g a j:Nat}{l:List kB}(h:w.ownsRow M 98 2 (pA (yB g) (yA l) a) (yA l) (flatK l))(n:j<=yA l):eT w (yB g) j (flatK (l.take j))/\eT w (bA (dB g (j*2))) (yA l-j) (flatK (l.drop j)):=by
 have p:=oD h;by_cases d:l=[]
 .subst d;exact⟨Ca (by simpa using n),Ca (by simp)⟩
 obtain m|⟨q,o,f,t,e,_,_,c⟩:=p;exact absurd m d;simp only[Qa,Addr.mk.injEq,Cc]at e;obtain⟨rfl,rfl⟩:=e;refine⟨La ⟨_,rfl,fO λi b=>?_⟩,La ⟨_,rfl,fO λi b=>?_⟩⟩;rw[Hb]at b;have:=c i (by omega);simpa[Ue]using this;rw[Rc]at b;have:=c (j+i) (by omega);have k:0+(j+i)*2=j*2+i*2:=by omega
 rw[k]at this;simpa[Cg]using this
def FH{P:Program}(w:eA){D:Array Oper}{p:List Oper}{o:Oper}{a:Act}{Q:Exit->Act->eA->Prop}(A:o.guard=aA)(s x:Operand)(t:TypeId)
(X:o.op=.call { callee:=.builtin .append,args:=#[s,x],argTypes:=#[t,t] })
(base:Nat)(e:TypeId)(i:TypeInfo)(z:iA)(b f:Nat)(Z:P.underlying t=bA (.slice e))(V:P.info? e=bA i)(O:i.zero=bA z)
(r:i.size=b)(H:i.bytes=f)(J:z.cells.size=b)(I:0<b)
(y n F:Nat)(K:List iA)(Y:a.eval s=pA (yB y) n F)(B:w.ownsRow base e b (pA (yB y) n F) n K)
(E:mC)(m c:Nat)(d:List iA)(hx:a.eval x=pA E m c)(W:yA d=m*b)(C:eT w E m d)(L:∀u∈d,u.oneCell'=dA)
(G:n+m<=maxLen)(l:(n+m)*f<=140737488355328)(q:base<=w.1.size)
(h:∀g j v,v.ownsRow base e b (pA (yB g) (n+m) j) (n+m) (K++d)->Below base w v->(∀k,k<w.1.size->k≠y->v.heap[k]?=w.heap[k]?)->base<=g->(g=y\/g=w.1.size)->g<v.1.size->wpList P D Q p (a.put o.dst (pA (yB g) (n+m) j)) v):wpList P D Q (o::p) a w:=
 wpList_plain A λ_ U=>VE w A s x t X base e i z b f Z V O r H J I y n F K Y B E m c d hx W C L G l q λg j v M N O R S T=>U _ _ (h g j v M N O R S T)
def ud{s:jB}(h:bD s=dA):s.toList.isEmpty=cA:=by
 refine nP.2 λe=>?_;simp only[bD,Sa,Ab]at h;rw[e,Nf]at h;omega
structure SC(w:World)(c:iC)(now:Int)(a:mC)(cap:Nat)(ts:List fB)(tenant:jB)(tn:fB):Prop where
 ok:∀W,uB w W→dF 49 #[tA #[zA c.w,zA c.tl,zA c.ml,zA c.sh,zA c.ha,zA c.sg],tA #[zA now,pA a (yA ts) cap]] W (qA dA)
 nm:∀W,rL 52 #[oA tenant] W (qA dA)
 sm:∀W,uB w W→gA prog 107 #[tA #[zA c.w,zA c.tl,zA c.ml,zA c.sh,zA c.ha,zA c.sg],tA #[zA now,pA a (yA ts) cap]] W λe w'=>∃a' cap',e=uA (tA #[zA now,pA a' (yA ts) cap'])∧cD w' W.1.size a' ts∧uB W w'
 te:∀W,uB w W→gA prog 61 #[tA #[zA now,pA a (yA ts) cap],oA tenant] W λe w'=>(∃a1 c1 a2 c2,e=uA (tA #[oA tn.N,zA tn.L,pA a1 (yA tn.M) c1,pA a2 (yA tn.Z) c2])∧jC w' a1 tn.M∧jC w' a2 tn.Z)∧uB W w'
 kp:∀W a1 a2 c1 c2,jC W a1 tn.M→jC W a2 tn.Z→gA prog 118 #[tA #[oA tn.N,zA tn.L,pA a1 (yA tn.M) c1,pA a2 (yA tn.Z) c2],zA now,zA c.w] W λe w'=>∃M a1 c1 a2 c2,e=uA (tA #[oA tn.N,zA tn.L,pA a1 (yA tn.M) c1,pA a2 (yA tn.Z) c2])∧W.1.size≤M∧fD w' W.1.size a1 tn.M∧(∀g o,a1=bA (dB g o)→g<M)∧w'.ownsRow M 98 2 (pA a2 (yA tn.Z) c2) (yA tn.Z) (flatK tn.Z)∧M≤w'.1.size∧uB W w'
 wi:∀W L ms ss q1 q2 e1 e2,uB w W→jC W q1 ms→jC W q2 ss→ZA ⟨tn.N,L,ms,ss⟩→gA prog 117 #[tA #[zA c.w,zA c.tl,zA c.ml,zA c.sh,zA c.ha,zA c.sg],tA #[zA now,pA a (yA ts) cap],zA now,tA #[oA tn.N,zA L,pA q1 (yA ms) e1,pA q2 (yA ss) e2]] W λe w'=>∃a' cap',e=uA (tA #[zA now,.slice a' (yA (aE c.w now (fC (·.N) ⟨tn.N,L,ms,ss⟩ ts))) cap'])∧cD w' W.1.size a' (aE c.w now (fC (·.N) ⟨tn.N,L,ms,ss⟩ ts))∧uB W w'
 fit:ZA tn
 len:yA tn.M≤1900000∧yA tn.Z≤1900000
 rm:zC (·.s) tn.M
 rs:zC (·.s) tn.Z
 now0:0≤now∧now≤1000000000000
def aLy{c:iC}{l:Int}{a:mC}{cap:Nat}{k:List fB}{j:jB}{w:eA}(v:xC w a k)(o:yA k+cC k<=1900000)(P:j.size<=1900000)(t:nC c l k=dA)(C:bD j=dA):SC w c l a cap k j (aC k j):=by
 obtain⟨d,b,f,g⟩:=wR o;obtain⟨-,r,z,-,m⟩:=gH t;obtain⟨-,-,-,R,S⟩:=KM (nS o) P;have p:ZA (aC k j)/\zC (·.s) (aC k j).M/\zC (·.s) (aC k j).Z:=by
  rcases kM (ts:=k) (name:=j) with⟨u,_⟩|⟨e,_⟩;obtain ⟨-,N,O,-⟩:=dK (nJ m _ u);have E:=KC (n:=yA (aC k j).M) N (Ia _);have F:=KI (n:=yA (aC k j).Z) O (Ia _);rw[Rb]at E F;exact⟨NZ t o _ u,E,F⟩;rw[e];exact⟨⟨Oa _,Oa _,λi h=>absurd h (by simp)⟩,Gd,Gd⟩
 refine⟨λW q=>?_,λW=>?_,λW q=>zT c l a cap k W (v.z q) t o,λW q=>bY l a cap k j W (v.z q) (by omega),λW G H I J A B=>?_,λW L D h T U K M q A B y=>?_,p.1,⟨R,S⟩,p.2.1,p.2.2,r,z⟩;have:=sJ c l a cap k W (v.z q) b (by omega);rw[t]at this;exact this;have:=pI j W (by unfold maxLen;omega);rw[C]at this;exact this;have:=LY (aC k j) G H I J l c.w W A B (by omega) (by omega) r (by omega) p.1.2.2;rw[BU (FF m)]at this;exact this;have:=EJ c l l a cap k ⟨(aC k j).N,L,D,h⟩ T U K M W (v.z q) A B (by omega) (λx Q=>Q.elim (λe=>e ▸ y) (NZ t o x)) r (by omega);rw[show(⟨(aC k j).N,L,D,h⟩:fB).N.toList.isEmpty=cA from by show(aC k j).N.toList.isEmpty=cA;rw[kG];exact ud C,aHo (wS m)]at this;exact this
def SC.wn{w:eA}{c:iC}{b:Int}{a:mC}{f:Nat}{n k:List fB}{d:jB}{j:fB}(h:SC w c b a f n d j){W:eA}{L:Int}{i C:List kB}{l m:mC}{p q r s:Nat}(x:aE c.w b (fC (·.N) ⟨j.N,L,i,C⟩ n)=k)(u:yA i=r)(v:yA C=s)(y:uB w W)(A:jC W l i)(B:jC W m C)(z:ZA ⟨j.N,L,i,C⟩):
 gA prog 117 #[tA #[zA c.w,zA c.tl,zA c.ml,zA c.sh,zA c.ha,zA c.sg],tA #[zA b,pA a (yA n) f],zA b,tA #[oA j.N,zA L,pA l r p,pA m s q]] W λe t=>∃o g,e=uA (tA #[zA b,pA o (yA k) g])/\cD t W.1.size o k/\uB W t:=by
 subst x u v;exact h.wi W L i C l m p q y A B z
def CJ.kin{w W:eA}{c:iC}{e:Int}{a:mC}{n d:Nat}(h:CJ w W c e a n d):∀b,uB W b->b.cell? (dB (w.1.size+1) 0)=bA (zA e)/\b.cell? (dB (w.1.size+1) 1)=bA (pA a n d)/\b.cell? (dB w.1.size 0)=bA (zA c.w):=λb f=>by
 have k:=h.z f;exact⟨k.S.cell 0,k.S.cell 1,k.C.cell 0⟩
section
open Go.Maps
def VF(V:Int×List fB×Nat)(w:eA)(e:Ending)(c:eA):Prop:=
 ∃a b,e=uA (xA #[tA #[zA V.1,pA a (yA V.2.1) b],zA (V.2.2:Nat)])/\cD c w.1.size a V.2.1/\uB w c
end
def ro(N:wC)(R:yD×iH×Nat)(S:Int×List fB×Bool):wC×Int:=
 if R.2.2=0 then(⟨R.1,R.2.1,S.1,S.2.1,N.lsn+1,cA,dA⟩,0)
 else if R.2.2=22\/R.2.2=23\/R.2.2=21 then(N,R.2.2)
 else(⟨R.1,R.2.1,N.now,N.ts,N.lsn,dA,!R.1.dn⟩,R.2.2)
def eG(c:iC)(N:wC)(rs:List xD):wC×Int:=
 if lH c=cA then(uP,61) else if ee N=cA then(N,60)
 else if (vF c N.now N.ts rs).2.2=cA\/bC N.lsn 0 999999999999999=cA\/lJ (N.lsn+1) rs=kA then(N,62)
 else ro N (dI N.d N.l (lJ (N.lsn+1) rs) c.sg) (vF c N.now N.ts rs)
section
variable {c:iC} {N:wC} {rs:List xD} {R:yD×iH×Nat} {S:Int×List fB×Bool}
theorem aPu(h:lH c=dA):ee N=cA/\eG c N rs=(N,60)\/ee N=dA/\((vF c N.now N.ts rs).2.2=cA/\eG c N rs=(N,62)\/(vF c N.now N.ts rs).2.2=dA/\(bC N.lsn 0 999999999999999=cA/\eG c N rs=(N,62)\/bC N.lsn 0 999999999999999=dA/\(lJ (N.lsn+1) rs=kA/\eG c N rs=(N,62)\/(lJ (N.lsn+1) rs).toList.isEmpty=cA/\eG c N rs=ro N (dI N.d N.l (lJ (N.lsn+1) rs) c.sg) (vF c N.now N.ts rs)))):=by
 unfold eG;rw[Ja (by simp[h])];cases h1:ee N
 .exact Ca ⟨rfl,Ma rfl⟩
 refine La ⟨rfl,?_⟩;rw[Ja (by simp)];cases h2:(vF c N.now N.ts rs).2.2
 .exact Ca ⟨rfl,Ma (Ca rfl)⟩
 refine La ⟨rfl,?_⟩;cases h3:bC N.lsn 0 999999999999999
 .exact Ca ⟨rfl,Ma (La (Ca rfl))⟩
 refine La ⟨rfl,?_⟩;by_cases a:lJ (N.lsn+1) rs=kA
 .exact Ca ⟨a,Ma (La (La a))⟩
 exact La ⟨nP.2 a,Ja (by simp[a])⟩
theorem aPt:(((R.2.2:Int)==0)=dA/\((R.2.2:Int)==22)=cA/\((R.2.2:Int)==23)=cA/\((R.2.2:Int)==21)=cA/\ro N R S=(⟨R.1,R.2.1,S.1,S.2.1,N.lsn+1,cA,dA⟩,0))\/
 (((R.2.2:Int)==0)=cA/\¬(R.2.2:Int)=0/\((((R.2.2:Int)==22)=dA\/((R.2.2:Int)==22)=cA/\(((R.2.2:Int)==23)=dA\/((R.2.2:Int)==23)=cA/\((R.2.2:Int)==21)=dA))/\ro N R S=(N,(R.2.2:Int))\/
   ((R.2.2:Int)==22)=cA/\((R.2.2:Int)==23)=cA/\((R.2.2:Int)==21)=cA/\ro N R S=(⟨R.1,R.2.1,N.now,N.ts,N.lsn,dA,!R.1.dn⟩,(R.2.2:Int)))):=by
 unfold ro;by_cases a:R.2.2=0
 .exact Ca ⟨by simp[a],by simp[a],by simp[a],by simp[a],by simp[a]⟩
 refine La ⟨by simp;omega,by omega,?_⟩;by_cases b:R.2.2=22\/R.2.2=23\/R.2.2=21
 .refine Ca ⟨?_,by simp[a,b]⟩;rcases b with h|h|h<;>simp[h]
 refine La ⟨by simp;omega,by simp;omega,by simp;omega,by simp[a,b]⟩
end
def DZ:∀rs:List xD,(wH rs).size=12*yA rs+gD rs
 |[]=>rfl
 |r::q=>by
  have:=DZ q;show(UI r++wH q).size=12*(yA q+1)+(r.T.size+r.X.size+gD q)
  rw[Ka,zq];omega
def aIl{a:Int}{rs:List xD}(h:yA rs+gD rs<=1400000):(lJ a rs).size<=1900000:=by
 by_cases b:dW a rs
 .have:=b.2.2.2.1;rw[FW b,Ka,FX,DZ];omega
 rw[NW b];exact Oa _
def LK{D:yD}{L:iH}{f:jB}(h:JH D.fs):JH (kS D L f).1.fs:=by
 have b:(zE L.last).size<=maxLen:=by have:=bL (L.last);unfold maxLen;omega
 have a:JH (gF D (yJ L.last f)).1.fs:=oT h b (Oa _);have d:=oT (op:=zR L.last) a b (Oa _);unfold kS;split;exact a;split<;>exact d
def LJ{D:yD}{L:iH}{p:jB}{b:Int}(h:JH D.fs):JH (dI D L p b).1.fs:=by
 have a:JH (gF D (aH (L.last+1))).1.fs:=oT h (by have:=bL (L.last+1);unfold maxLen;show(zE (L.last+1)).size<=_;omega) (Oa _);unfold dI;repeat' split
 all_goals first|exact h|exact a|exact LK a|exact LK h
structure aHw(w:World)(a b:mC)(N:wC)(ar:mC)(rs:List xD):Prop where
 files:tB w a N.d.fs
 fit:JH N.d.fs
 tens:xC w b N.ts
 recs:tI w ar rs
 bulk:yA N.ts+cC N.ts+yA rs+gD rs≤1400000
 rng:JK rs
 lsn:wU N.lsn
def CH{a:List fB}(h:yA a+cC a<=1400000):∀t∈a,yA t.M<=2000000/\yA t.Z<=2000000:=λt e=>by
 obtain⟨i,d,rfl⟩:=Ib e;have b:=oK a i d;have f:=dN a (i+1);unfold jF at b;omega
def aKn(r:xD):iA:=tA #[zA r.K,oA r.T,oA r.X,zA r.U]
def wV(r:xD):iA:=if r.K=1 then .iface 314 (tA #[zA 1,oA r.T,oA r.X]) else if r.K=2 then .iface 316 (tA #[zA 2,oA kA,zA r.U]) else if r.K=3 then .iface 318 (tA #[zA 3,oA r.T,oA r.X,zA r.U]) else .nilIface
def nW(r:xD):Bool:=decide (r.K=1\/r.K=2\/r.K=3)
def gP(r:xD)(w:eA):
 dF 202 #[aKn r] w (xA #[wV r,qA (nW r)]):=by
 obtain⟨a,g,h,f⟩:=r;unfold aKn;by_cases b:a=1
 .subst b;go_enter func202,ntmps202;go_wp2;go_ret2;exact⟨rfl,zB⟩
 by_cases c:a=2
 .subst c;go_enter func202,ntmps202;go_wp2;go_ret2;exact⟨rfl,zB⟩
 by_cases d:a=3
 .subst d;go_enter func202,ntmps202;go_wp2;go_ret2;exact⟨rfl,zB⟩
 have E:cB (wV ⟨a,g,h,f⟩=.nilIface/\nW ⟨a,g,h,f⟩=cA):=⟨by unfold wV;simp[b,c,d],by unfold nW;simp[b,c,d]⟩
 go_enter func202,ntmps202;go_wp2;go_ret2;exact⟨by rw[E.o.1,E.o.2];rfl,zB⟩
def uX(a b:Int)(c d:jB)(w:eA):
 dF 384 #[tA #[zA a,oA c],oA d,zA b] w (tA #[zA a,oA c,oA d,zA b]):=by
 go_enter func384,ntmps384;go_wp2;exact bodyPost_ret (v:=tA #[zA a,oA c,oA d,zA b]) (by simp[results,results384,go_sem]) rfl ⟨rfl,vB zB zB⟩
def aAa(d:Int)(f g:jB)(w:eA):
 dF 385 #[tA #[zA d,oA f,oA g]] w (tA #[zA d,oA f,oA g,zA 0]):=by
 go_enter func385,ntmps385;go_wp2_with fail;apply lC (uX _ _ _ _ _);intro c b;have h:cB _:=vB (vB zB zB) b;have a:cB (nB c (w.1.size+1) #[zA 0,oA kA,oA kA,zA 0] 137):=by have:=(nB.new (w.alloc (vA #[zA d,oA f,oA g] 314)) #[zA 0,oA kA,oA kA,zA 0] 137).z b;exact bB (by simpa using this)
 have i:tC c (w.1.size+1) 0 (zA 0):=a.o.cell 0;have j:tC c (w.1.size+1) 1 (oA kA):=a.o.cell 1;have k:tC c (w.1.size+1) 2 (oA kA):=a.o.cell 2;have l:tC c (w.1.size+1) 3 (zA 0):=a.o.cell 3;have n:=a.o.free 0;have o:=a.o.free 1;have p:=a.o.free 2;have q:=a.o.free 3;clear b;go_wp2;refine bodyPost_ret (v:=tA #[zA d,oA f,oA g,zA 0]) (by simp[results,results385,go_sem,i,j,k,l]) rfl ⟨rfl,?_⟩;exact(((h.o.setCell (by simp) _).setCell (by simp) _).setCell (by simp) _).setCell (by simp) _
def aAb(d f:Int)(g:jB)(w:eA):
 dF 386 #[tA #[zA d,oA g,zA f]] w (tA #[zA d,oA g,oA kA,zA f]):=by
 go_enter func386,ntmps386;go_wp2_with fail;apply lC (uX _ _ _ _ _);intro c b;have h:cB _:=vB (vB zB zB) b;have a:cB (nB c (w.1.size+1) #[zA 0,oA kA,oA kA,zA 0] 137):=by have:=(nB.new (w.alloc (vA #[zA d,oA g,zA f] 316)) #[zA 0,oA kA,oA kA,zA 0] 137).z b;exact bB (by simpa using this)
 have i:tC c (w.1.size+1) 0 (zA 0):=a.o.cell 0;have j:tC c (w.1.size+1) 1 (oA kA):=a.o.cell 1;have k:tC c (w.1.size+1) 2 (oA kA):=a.o.cell 2;have l:tC c (w.1.size+1) 3 (zA 0):=a.o.cell 3;have n:=a.o.free 0;have o:=a.o.free 1;have p:=a.o.free 2;have q:=a.o.free 3;clear b;go_wp2;refine bodyPost_ret (v:=tA #[zA d,oA g,oA kA,zA f]) (by simp[results,results386,go_sem,i,j,k,l];rfl) rfl ⟨rfl,?_⟩;exact(((h.o.setCell (by simp) _).setCell (by simp) _).setCell (by simp) _).setCell (by simp) _
def zw(d f:Int)(g h:jB)(w:eA):
 dF 387 #[tA #[zA d,oA g,oA h,zA f]] w (tA #[zA d,oA g,oA h,zA f]):=by
 go_enter func387,ntmps387;go_wp2_with fail;apply lC (uX _ _ _ _ _);intro c b;have i:cB _:=vB (vB zB zB) b;have a:cB (nB c (w.1.size+1) #[zA 0,oA kA,oA kA,zA 0] 137):=by have:=(nB.new (w.alloc (vA #[zA d,oA g,oA h,zA f] 318)) #[zA 0,oA kA,oA kA,zA 0] 137).z b;exact bB (by simpa using this)
 have j:tC c (w.1.size+1) 0 (zA 0):=a.o.cell 0;have k:tC c (w.1.size+1) 1 (oA kA):=a.o.cell 1;have l:tC c (w.1.size+1) 2 (oA kA):=a.o.cell 2;have m:tC c (w.1.size+1) 3 (zA 0):=a.o.cell 3;have o:=a.o.free 0;have p:=a.o.free 1;have q:=a.o.free 2;have r:=a.o.free 3;clear b;go_wp2;refine bodyPost_ret (v:=tA #[zA d,oA g,oA h,zA f]) (by simp[results,results387,go_sem,j,k,l,m]) rfl ⟨rfl,?_⟩;exact(((i.o.setCell (by simp) _).setCell (by simp) _).setCell (by simp) _).setCell (by simp) _
def je(x : Value)(w : World) : (invoke (.fn (.method "loop.example/s02176/impl.flat") #[]) #[.iface 314 x]).run prog w = .ok (.enter 385 #[x]) w := by kernel_rfl
def jf(x : Value)(w : World) : (invoke (.fn (.method "loop.example/s02176/impl.flat") #[]) #[.iface 316 x]).run prog w = .ok (.enter 386 #[x]) w := by kernel_rfl
def jg(x : Value)(w : World) : (invoke (.fn (.method "loop.example/s02176/impl.flat") #[]) #[.iface 318 x]).run prog w = .ok (.enter 387 #[x]) w := by kernel_rfl
def ZX{P:Program}(ρ:Operand->iA)(o:Oper)(r:Operand)(name:String)(a:o.op=.call { callee:=.invoke r name,args:=#[],argTypes:=#[] }){u:iA}(b:ρ r=u){n:Next}{w:eA}
(h:(invoke (.fn (.method name) #[]) #[u]).run P w=.ok n w):(execOp ρ o).run P w=.ok n w:=by
 unfold execOp;simp only[a,resolve];simp[b,h]
def nx{P:Program}{c:Array Oper}{C:eA->Prop}{Q:Act->Prop}{a:Act}{o:Oper}{b:List Oper}{v:iA}(f:Region.wanted o (yielded c a.tmps)=dA)
(e:∀w,(execOp a.eval o).run P w=.ok (.value v) w)(h:wpQuiet P c C Q b (a.put o.dst v)):wpQuiet P c C Q (o::b) a:=
 BigFrame.wpQuiet_want f λK d=>⟨v,λw f=>by unfold Oper.quietAt;rw[e];exact⟨rfl,rfl⟩,d _ h⟩
def aMr(k a n b:Int)(t c x d:jB)(W:eA):(binOp .eql 137 (tA #[zA k,oA t,oA x,zA n]) (tA #[zA a,oA c,oA d,zA b])).run prog W=.ok (qA (k==a&&(t.toList==c.toList&&(x.toList==d.toList&&n==b)))) W:=by
 rw[run_eql_struct,run_equalIn_agg W _ _ _ _ (by kernel_rfl) (by kernel_rfl)];unfold Program.fieldsOf;rw[underlying137];simp[Op.eqFields,go_sem,underlying3,underlying9];repeat' split
 all_goals simp_all
def gr(ρ:Operand->iA)(o:Oper)(p q:Operand)(g:o.op=.binOp .eql 137 p q 137){k a n c:Int}{t d x e:jB}
(h:ρ p=tA #[zA k,oA t,oA x,zA n])(i:ρ q=tA #[zA a,oA d,oA e,zA c]){b:Bool}(f:(k==a&&(t.toList==d.toList&&(x.toList==e.toList&&n==c)))=b)(W:eA):
 (execOp ρ o).run prog W=.ok (.value (qA b)) W:=by
 unfold execOp;simp only[g,h,i,Sem.run_bind,run_eqGuard_agg W _ _ _ _ _ _ (show prog.eqGuardType prog.depth 137=cA by kernel_rfl),Result.andThen_ok,aMr,f,Sem.run_pure]
def aDq{x:jB}:x.toList=ByteArray.empty.toList ↔ x.size=0:=by
 rw[ByteArray.toList_eq,ByteArray.toList_eq];constructor;intro h;show x.data.size=0;rw[<-Qg,h];rfl;intro h;have:yA x.data.toList=0:=by simpa using h
 rw[Nb.1 this];rfl
def RC{k i r j:Int}{a c l m:jB}{p:TypeId}{s:iA}{f:FuncId}{args:Array iA}{b:Bool}(w:eA)(_h1:a.size<=1000000000)(_h2:c.size<=1000000000)
(B:cB (∀W,dF 202 #[tA #[zA k,oA a,oA c,zA i]] W (xA #[.iface p s,qA dA])))
(A : cB (∀ W, (invoke (.fn (.method "loop.example/s02176/impl.flat") #[]) #[.iface p s]).run prog W = .ok (.enter f args) W))(y : cB (∀ W, Calls prog f args W fun e n => e = .returned (.agg #[.int .i64 r, .string l, .string m, .int .i64 j]) /\ uB W n))
(z:cB ((r==k&&(l.toList==a.toList&&(m.toList==c.toList&&j==i)))=b))(E:cB (el ⟨k,a,c,i⟩=(b&&(decide ((a.size:Int)<=255) &&decide ((c.size:Int)<=65535))))):
 dF 245 #[tA #[zA k,oA a,oA c,zA i]] w (qA (el ⟨k,a,c,i⟩)):=by
 have o:b=cA\/b=dA/\decide ((a.size:Int)<=255)=cA\/b=dA/\decide ((a.size:Int)<=255)=dA:=by cases b<;>cases decide ((a.size:Int)<=255)<;>simp
 obtain rfl|⟨rfl,q⟩|⟨rfl,q⟩:=o
 all_goals
  try rw[q]at E
  go_enter func245,ntmps245;go_wp2_with fail;apply lC (B.o _);intro t g;have u:cB _:=vB zB g;have d:=λx:kC t=>(((nB.new w #[zA k,oA a,oA c,zA i] 137).z g).z x.h).c4;simp only[forall_and]at d;obtain⟨D,F,G,H⟩:=d;have C:=kC.there t;clear g;go_wp2_with fail;refine wB (by kernel_rfl) (by kernel_rfl) ?_;repeat (go_big_quiet_step (fail))
  refine bR (by rfl) (λW=>ZX _ _ _ _ rfl rfl (A.o W)) (by rintro _ ⟨x,rfl⟩;exact oC (y.o _)) ?_;simp only[Act.put,Ud,Jd,Ze];repeat (go_big_quiet_step (fail))
  first
   |(refine nx (by rfl) (gr _ _ _ _ rfl rfl rfl z.o) ?_;simp only[Act.put,Ud,Jd,Ze];repeat (go_big_quiet_step (fail)))
   |skip
  refine wpQuiet_nil ?_;rintro _ ⟨x,rfl⟩;have v:=bB (vB u.o x.h);go_wp2;go_ret;exact⟨oB (by rw[E.o];simp),v.o⟩
def aGq{r:xD}{b:Bool}(h:(r.K=1/\r.U=0)\/(r.K=2/\r.T.size=0/\r.X.size=0)\/r.K=3 ↔ b=dA):el r=(b&&(decide ((r.T.size:Int)<=255) &&decide ((r.X.size:Int)<=65535))):=by grind [el,fP,XY,DC]
def aAr(r:xD)(w:eA)(m:r.T.size<=1000000000)(n:r.X.size<=1000000000):
 dF 245 #[aKn r] w (qA (el r)):=by
 obtain⟨f,c,d,b⟩:=r;by_cases j:f=1
 .subst j;exact RC w m n (λW=>gP ⟨1,c,d,b⟩ W) (λW=>je _ W) (λW=>aAa 1 c d W) rfl (aGq (by simp;exact eq_comm))
 by_cases k:f=2
 .subst k;exact RC w m n (λW=>gP ⟨2,c,d,b⟩ W) (λW=>jf _ W) (λW=>aAb 2 b kA W) rfl (aGq (by simp only[Sa,Lg,beq_self_eq_true,true_and,Cc];rw[eq_comm (a:=ByteArray.empty.toList),eq_comm (a:=ByteArray.empty.toList),aDq,aDq];simp))
 by_cases l:f=3
 .subst l;exact RC w m n (λW=>gP ⟨3,c,d,b⟩ W) (λW=>jg _ W) (λW=>zw 3 b c d W) rfl (aGq (by simp))
 have s:cB (∀W,dF 202 #[tA #[zA f,oA c,oA d,zA b]] W (xA #[.nilIface,qA cA])):=λW=>by
  have:=gP ⟨f,c,d,b⟩ W;have t:wV ⟨f,c,d,b⟩=.nilIface:=by unfold wV;simp[j,k,l]
  have u:nW ⟨f,c,d,b⟩=cA:=by unfold nW;simp[j,k,l]
  rw[t,u]at this;exact this
 have E:cB (el ⟨f,c,d,b⟩=cA):=bB (DC (λv=>by obtain g|g|g:=v.2.2;exact j g.1;exact k g.1;exact l g));unfold aKn;clear j k l;go_enter func245,ntmps245;go_wp2_with fail;apply lC (s.o _);intro z i;have p:cB _:=vB zB i;have y:=kC.there z;clear i;go_wp2_with fail;refine wB (by kernel_rfl) (by kernel_rfl) ?_;repeat (go_big_quiet_step (fail))
 refine wpQuiet_nil ?_;rintro _ ⟨x,rfl⟩;have q:cB _:=vB p.o x.h;go_wp2;go_ret;exact⟨oB E.o.symm,q.o⟩
def kW(s:jB):Nat:=if s.size<=65535 then s.size+10 else s.size+1000000000
def oN:List kB->Nat
 |[]=>0
 |p::r=>kW p.s+oN r
def nY(t:fB):Nat:=t.N.size+17+oN t.M+oN t.Z
def dG:List fB->Nat
 |[]=>0
 |t::r=>nY t+dG r
def aPo(s:jB):s.size+10<=kW s:=by unfold kW;split<;>omega
theorem XQ{p:kB}(l:List kB):oN (fC (·.s) p l)<=oN l+kW p.s:=by
 induction l with
 |nil=>simp[fC,oN]
 |cons q r a=>
  rw[fC];split;simp only[oN];omega;split<;>(simp only[oN];omega)
theorem IG(f:kB->Bool)(l:List kB):oN (l.filter f)<=oN l:=by
 induction l with
 |nil=>exact Ia _
 |cons q r a=>
  rw[List.filter_cons];split<;>(simp only[oN];omega)
def oY(f:fB->Bool)(l:List fB):dG (l.filter f)<=dG l:=by
 induction l with
 |nil=>exact Ia _
 |cons q r a=>
  rw[List.filter_cons];split<;>(simp only[dG];omega)
def YR{a:List fB}(f:zC (·.N) a){t:fB}{k:Nat}(h:nY t<=nY (aC a t.N)+k):dG (fC (·.N) t a)<=dG a+17+t.N.size+k:=by
 have g:nY ⟨t.N,-1,[],[]⟩=t.N.size+17:=by simp[nY,oN]
 have key:(∃q∈a,q.N=t.N/\nY t<=nY q+k)\/(nY t<=t.N.size+17+k):=by
  rcases kM (ts:=a) (name:=t.N) with⟨m,_⟩|⟨e,_⟩;exact Ca ⟨_,m,kG,h⟩;rw[e,g]at h;exact La h
 clear h g;obtain⟨q,c,d,j⟩|j:=key
 .have:dG (fC (·.N) t a)<=dG a+k:=by
   induction a with
   |nil=>cases c
   |cons p r i=>
    rw[fC];rcases Lb.1 c with rfl|c;rw[Ja (by rw[d,bO];simp),Ma ((kE _ _).2 d)];simp only[dG];omega;have b:=f.head q c;simp only[d]at b;rw[Ma b];have:=i f.tail c;simp only[dG];omega
  omega
 .have:∀l:List fB,dG (fC (·.N) t l)<=dG l+nY t:=λl=>by
   induction l with
   |nil=>simp[fC,dG]
   |cons p r i=>
    rw[fC];split;simp only[dG];omega;split<;>(simp only[dG];omega)
  have:=this a;omega
def aMf{c:List fB}{a key:jB}{b:Int}:nY (kJ (aC c a) key b)<=nY (aC c (kJ (aC c a) key b).N)+kW key:=by grind [nY,kJ,aC,kW,kG,XQ]
def aNe{d:List fB}{b a:jB}{c:Int}:nY (sH (aC d b) a c)<=nY (aC d (sH (aC d b) a c).N)+kW a:=by grind [nY,sH,aC,kW,oN,vE,dQ,kG,XQ,IG]
def aMz{win now:Int}(a:List fB):dG (aE win now a)<=dG a:=by
 have d:=oY (λt=>!cF t) (a.map (xE win now));have e:dG (a.map (xE win now))<=dG a:=by
  induction a with
  |nil=>exact Ia _
  |cons t r c=>
   have:=IG (λp=>decide (now-p.n<win)) t.Z;have b:=c (oY _ _);simp only[Fc,dG,nY,xE]at b |-
   omega
 unfold aE;omega
def aLa{c:iC}{b:Int}{a:List fB}(h:nC c b a=dA)(r:xD):dG (pE c b a r).2.1<=dG a+17+r.T.size+kW r.X:=by
 have g:=wS (gH h).2.2.2.2;have d:dG a<=dG a+17+r.T.size+kW r.X:=by omega
 have f:dG (fC (·.N) (kJ (aC a r.T) r.X b) a)<=dG a+17+r.T.size+kW r.X:=by
  have:=YR g (t:=kJ (aC a r.T) r.X b) aMf;have e:(kJ (aC a r.T) r.X b).N=r.T:=kG;rw[e]at this;omega
 have i:dG (fC (·.N) (sH (aC a r.T) r.X r.U) a)<=dG a+17+r.T.size+kW r.X:=by
  have:=YR g (t:=sH (aC a r.T) r.X r.U) aNe;have e:(sH (aC a r.T) r.X r.U).N=r.T:=by rw[dQ,kG]
  rw[e]at this;omega
 unfold pE;split
 .unfold nL;split
  .exact d
  split;exact f;generalize (if (aC a r.T).L = -1 then c.tl else(aC a r.T).L)=j;split;exact d;split;exact d;exact f
 split
 .unfold jK;split
  .exact d
  exact Ua (aMz (win:=c.w) (now:=b+r.U) a) d
 split
 .unfold uS;split
  .exact d
  split;exact Ua (oY _ a) d;split;exact d;exact i
 exact d
def aHb{c:iC}:∀{rs:List xD}{a:Int}{b:List fB},nC c a b=dA->gD rs<=65535->dG (nF c a b rs).2.1<=dG b+27*yA rs+gD rs/\((nF c a b rs).2.2=dA->nC c (nF c a b rs).1 (nF c a b rs).2.1=dA)
 |[],a,b,h,_=>⟨by simp[nF,gD],λ_=>h⟩
 |r::rs,a,b,h,f=>by
  have i:=aLa h r;simp only[gD]at f;have j:kW r.X=r.X.size+10:=Ma (by omega);rw[nF];simp only[Zb,gD];split
  .rename_i g;have d:=aHb (rs:=rs) (IZ h g) (by omega);exact⟨by omega,d.2⟩
  exact ⟨by show dG (pE c a b r).2.1<=_;omega,λe=>by cases e⟩
def fU:∀a:List kB,yA a+gE a<=oN a/\(mE a).size<=oN a/\(oN a<1000000000->∀p∈a,p.s.size<=65535)
 |[]=>⟨Ia _,Ia _,λ_ p d=>by cases d⟩
 |p::r=>by
  obtain⟨e,f,c⟩:=fU r;have g:=aPo p.s;refine⟨by simp only[Zb,gE,oN];omega,?_,λh q b=>?_⟩;rw[mE,NK,Ka,Ka,iF,gB,oN];omega;rw[oN]at h;rcases Lb.1 b with rfl|b
  .unfold kW at h;split at h
   .assumption
   omega
  exact c (by omega) q b
def lM:∀a:List fB,yA a+cC a<=dG a/\(sE a).size<=dG a/\(dG a<1000000000->∀t∈a,oN t.M<1000000000/\oN t.Z<1000000000)
 |[]=>⟨Ia _,Ia _,λ_ p d=>by cases d⟩
 |t::r=>by
  obtain⟨e,f,c⟩:=lM r;have g:=fU t.M;have h:=fU t.Z;refine⟨by simp only[Zb,cC,jF,dG,nY];omega,?_,λh q b=>?_⟩;rw[sE,kR,JC];simp only[Ka,rF,gB,dG,nY];omega;rw[dG,nY]at h;rcases Lb.1 b with rfl|b;exact ⟨by omega,by omega⟩;exact c (by omega) q b
def IY{c:iC}{a lsn:Int}{b:List fB}(h:nC c a b=dA)(w:dG b<=1000000)(n:0<=lsn)(o:lsn<=1000000000000000):BD lsn b/\(rI lsn a b).size<=dG b+28/\(rI lsn a b).size≠0/\TW b/\wU a:=by
 obtain⟨y,p,q,_,r⟩:=gH h;have g:∀t∈b,oP c.w a t=dA:=nJ r;have k:BD lsn b:=⟨n,o,λi f=>by
  obtain⟨l,m⟩:=(lM b).2.2 (by omega) _ (Gb f);obtain⟨s,_⟩:=JB (g _ (Gb f));refine⟨?_,λj d=>(fU _).2.2 l _ (Gb d),λj d=>(fU _).2.2 m _ (Gb d)⟩;simp only[bD,Sa,Ab]at s;omega⟩
 have z:=(lM b).2.1;have e:(rI lsn a b).size=28+(sE b).size:=by
  rw[IW k,qL,CF];simp only[Ka,gB];show 4+8+8+4+_+4=_;omega
 refine⟨k,by omega,by omega,λi f=>?_,by unfold wU;omega⟩;obtain⟨_,u,v,x,_⟩:=JB (g _ (Gb f));simp only[bC,Sa,Ab]at u;refine⟨⟨by omega,by omega⟩,λj d=>?_,λj d=>?_⟩;have:=((OC v).1 _ (Gb d)).2;simp only[bC,Sa,Ab]at this;exact⟨by omega,by omega⟩;have:=((IQ x).1 _ (Gb d)).2.1;simp only[bC,Sa,Ab]at this;exact⟨by omega,by omega⟩
