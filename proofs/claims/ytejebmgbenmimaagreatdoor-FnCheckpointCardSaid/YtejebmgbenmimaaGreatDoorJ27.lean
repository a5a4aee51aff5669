import Derived.Test.YtejebmgbenmimaaGreatDoorJ19
import Derived.Test.YtejebmgbenmimaaGreatDoorJ22
import Derived.Test.YtejebmgbenmimaaGreatDoorJ25
set_option maxRecDepth 100000
set_option maxHeartbeats 4000000
set_option linter.defProp false
open Bool renaming true->iA,false->gA
open Option renaming none->eA,some->fA
open ByteArray renaming empty->pA
open List renaming length->cB
namespace Go.Proofs.YtejebmgbenmimaaGreatDoor
open Go renaming World->jA,Calls->lA,Value->mA
open Ending renaming returned->zA
open Value renaming tuple->bB,agg->yA,slice->uA,bool->vA,string->tA
open Obj renaming cells->aB
open Go.RowKit Tryz
def sR(a:List pB)(k:Nat)(h:k<cB a):a[k].s.size<=dE a:=by
 have b:=pN a k h;have c:=lM a (k+1);omega
def nO{ts:List kB}(h:cB ts+fC ts<=1900000):aHx ts 1900000/\aDw ts/\True/\aKq ts:=by
 have f:∀i(a:i<cB ts),lF ts[i]<=1900000:=λi a=>by have:=gX ts i a;omega
 have c:∀i(a:i<cB ts),ts[i].N.size<=1900000/\cB ts[i].M<=1900000/\cB ts[i].Z<=1900000/\dE ts[i].M<=1900000/\dE ts[i].Z<=1900000:=λi a=>by have:=f i a;unfold lF at this;omega
 have b:∀i(a:i<cB ts),(∀j(e:j<cB ts[i].M),ts[i].M[j].s.size<=1000000000)/\(∀j(e:j<cB ts[i].Z),ts[i].Z[j].s.size<=1000000000):=λi a=>
  ⟨λj d=>by have:=sR _ j d;have:=c i a;omega,λj d=>by have:=sR _ j d;have:=c i a;omega⟩
 refine⟨λi a=>⟨?_,(b i a).1,(b i a).2,?_,?_,?_⟩,λi a=>⟨?_,(b i a).1,(b i a).2,?_,?_⟩,trivial,λi a=>⟨?_,?_⟩⟩<;>(have:=c i a;unfold maxLen at *;omega)
def aKp(a:List kB):Prop:=∀t∈a,t.N.size<=maxLen/\(∀i(h:i<cB t.M),t.M[i].s.size<=maxLen)/\(∀i(h:i<cB t.Z),t.Z[i].s.size<=maxLen)/\cB t.M<=2000000/\cB t.Z<=2000000
def iS(V:Int×List kB×Bool)(w:jA)(e:Ending)(c:jA):Prop:=
 ∃a b,e=zA (bB #[yA #[dB V.1,uA a (cB V.2.1) b],vA V.2.2])/\cD c w.1.size a V.2.1/\zB w c
def aMa(x:kB):Prop:=x.N.size<=1900000/\(∀p∈x.M,p.s.size<=1900000)/\(∀p∈x.Z,p.s.size<=1900000)/\cB x.M<=1900001/\cB x.Z<=1900001
def nR{ts:List kB}(h:cB ts+fC ts<=1900000):∀x∈ts,x.N.size<=1900000/\(∀p∈x.M,p.s.size<=1900000)/\(∀p∈x.Z,p.s.size<=1900000)/\cB x.M<=1900000/\cB x.Z<=1900000:=by
 intro x e;obtain⟨i,d,rfl⟩:=Ib e;have c:=gX ts i d;unfold lF at c;refine⟨by omega,λp b=>?_,λp b=>?_,by omega,by omega⟩;obtain ⟨j,a,rfl⟩:=Ib b;have:=sR _ j a;omega;obtain ⟨j,a,rfl⟩:=Ib b;have:=sR _ j a;omega
def pf{b:List kB}(h:∀x∈b,aMa x):aKp b:=λx e=>by
 obtain⟨f,c,d,g,j⟩:=h x e;exact⟨by unfold maxLen;omega,λi a=>by have:=c _ (Gb a);unfold maxLen;omega,λi a=>by have:=d _ (Gb a);unfold maxLen;omega,by omega,by omega⟩
def IM{a:List kB}(h:∀x∈a,x.N.size<=1900000/\(∀p∈x.M,p.s.size<=1900000)/\(∀p∈x.Z,p.s.size<=1900000)/\cB x.M<=1900000/\cB x.Z<=1900000){tenant:vB}(b:tenant.size<=1900000):
 (eC a tenant).N.size<=1900000/\(∀p∈(eC a tenant).M,p.s.size<=1900000)/\(∀p∈(eC a tenant).Z,p.s.size<=1900000)/\cB (eC a tenant).M<=1900000/\cB (eC a tenant).Z<=1900000:=by grind [eC,zL]
def EK{α:Type}{key:α->vB}{a:α}(l:List α):cB (iC key a l)<=cB l+1:=by induction l<;>grind [iC]
theorem eh{c:kC}{a:Int}{d:List kB}(h:pC c a d=iA):∀p∈d,p.N≠⟨#[]⟩:=λp f e=>by
 have b:=(tJ (dJ (dH h).2.2.2.2 p f)).1;rw[e]at b;simp only[xC,Sa,Ab]at b;have g:(⟨#[]⟩:vB).size=0:=rfl;omega
def LQ{c:kC}{b:Int}{a:List kB}(h:pC c b a=iA)(e:cB a+fC a<=1900000):∀x∈a,VO x:=λx d=>by
 obtain⟨_,j,k,_,g⟩:=dH h;obtain⟨_,_,_,l,m⟩:=nR e x d;refine⟨by omega,by omega,λi f=>?_⟩;have:=AJ (tJ (dJ g x d)).2.2.1 _ (Gb f);omega
def aDb{c:kC}{a:Int}{b:List kB}(h:pC c a b=iA):xD c.w a (DE ⟨⟨#[]⟩,0,[],[]⟩ iA b)=b:=by grind [pC,xD,DE,eU,eh,dt,dH]
def xS(c:kC)(f:Int)(a:nC)(k:Nat)(j:List kB)(w:jA)(F:uC w a j)(m:pC c f j=iA)(E:cB j+fC j<=1900000):
 lA prog 45 #[oE c,yA #[dB f,uA a (cB j) k]] w λe y=>∃r l,e=zA (yA #[dB f,uA r (cB j) l])/\cD y w.1.size r j/\zB w y:=by
 obtain⟨_,B,L,_,_⟩:=dH m;have I:fB (∀W,zB w W->lA prog 46 #[oE c,yA #[dB f,uA a (cB j) k],dB f,yA #[tA ⟨#[]⟩,dB 0,uA eA 0 0,uA eA 0 0]] W λe y=>∃r l,e=zA (yA #[dB f,uA r (cB j) l])/\cD y W.1.size r j/\zB W y):=λW K=>by
  have:=CI c f f a k j ⟨⟨#[]⟩,0,[],[]⟩ eA eA 0 0 W (F.z K) (Ca rfl) (Ca rfl) (by omega) (λx C=>by
   obtain rfl|C:=C;exact ⟨Oa _,Oa _,λi h=>absurd h (by simp)⟩;exact LQ m E x C) B (by omega)
  have e:(⟨⟨#[]⟩,0,[],[]⟩:kB).N.toList.isEmpty=iA:=by kernel_rfl
  rw[e,aDb m]at this;exact this
 clear F m E;unfold oE at *;go_enter func45,ntmps45;have D:fB (zB w (((w.alloc (aB #[dB c.w,dB c.tl,dB c.ml,dB c.sh,dB c.ha,dB c.sg] 24)).alloc (aB #[dB f,uA a (cB j) k] 40)).alloc (aB #[dB 0,uA eA 0 0] 40))):=xB (xB aC aC) aC;have J:fB _:=gB (by have:=rB.new ((w.alloc (aB #[dB c.w,dB c.tl,dB c.ml,dB c.sh,dB c.ha,dB c.sg] 24)).alloc (aB #[dB f,uA a (cB j) k] 40)) #[dB 0,uA eA 0 0] 40;simpa using this);go_wp2_with fail;refine(I.o _ D.o).mono ?_;rintro e o ⟨p,u,rfl,t,n⟩;have A:fB _:=gB (by simpa using t);have z:fB (rB o (w.1.size+1+1) #[dB 0,uA eA 0 0] 40):=J.o.z n;have H:fB _:=xB D.o n;have M:gD o (w.1.size+1+1) 0 (dB 0):=z.o.cell 0;have N:gD o (w.1.size+1+1) 1 (uA eA 0 0):=z.o.cell 1;have b:=z.o.free 0;have d:=z.o.free 1;clear t n;go_wp2;have q:jB (·=w.1.size+1+1) o ((o.setCell (iB (w.1.size+1+1) 0) (dB f)).setCell (iB (w.1.size+1+1) 1) (uA p (cB j) u)):=((jB.refl (·=w.1.size+1+1) o).setCell (Ca rfl) 0 _).setCell (Ca rfl) 1 _;have G:cD ((o.setCell (iB (w.1.size+1+1) 0) (dB f)).setCell (iB (w.1.size+1+1) 1) (uA p (cB j) u)) w.1.size p j:=(cD.turned A.o q (λg O P e=>by omega)).mono (by omega);have s:=((jB.of (S:=λi=>w.1.size<=i) H.o).trans' (q.mono λi _ e=>by omega)).below (Ia _) λi Q h=>by omega
 refine bodyPost_ret (v:=yA #[dB f,uA p (cB j) u]) (by simp[results,results45,go_sem,M,N]) rfl ?_;first
  |exact⟨p,⟨u,rfl⟩,G,s⟩
  |exact⟨p,u,rfl,G,s⟩
def KX(a:jA)(X:Nat)(K:kB)(b:jA):Prop:=
 ∃c e d f,rB b X #[tA K.N,dB K.L,uA c (cB K.M) e,uA d (cB K.Z) f] 105/\(∀W,jB (·=X) b W->jC W c K.M/\jC W d K.Z)/\a.1.size<=X/\zB a b
def EX{w W:jA}{B X:Nat}{q:nC}{c:List pB}(h:kD w B q c)(b:jB (·=X) w W)(n:X<B\/w.1.size<=X):jC W q c:=by
 obtain h|⟨g,o,d,t,rfl,m,f,h⟩:=h;exact Ca h;have a:=eB f;have l:=b.block g a (by omega);have e:∀j,W.cell? (iB g j)=w.cell? (iB g j):=λj=>jA.cell?_of_block l;exact La ⟨g,o,rfl,by have:=b.size;omega,λi k=>by simp only[e];exact h i k⟩
def aJc{e b:jA}{K:kB}{B M:Nat}{c d:nC}{f g:Nat}(i:kD b B c K.M)(j:kD b M d K.Z)(h:zB e b):
 KX e b.1.size K (b.alloc (aB #[tA K.N,dB K.L,uA c (cB K.M) f,uA d (cB K.Z) g] 105)):=by
 refine⟨c,f,d,g,rB.new _ _ _,λW k=>?_,h.size,xB h aC⟩;have a:=(jB.of aC).trans' k;exact⟨EX i a (La (Ia _)),EX j a (La (Ia _))⟩
def aBf{f a:jA}{K:kB}{B M X:Nat}{b c:nC}{d e:Nat}(k:kD a B b K.M)(l:kD a M c K.Z)(m:X<B)(o:B<=M)(j:f.1.size<=X)(g:rB a X #[tA ⟨#[]⟩,dB 0,uA eA 0 0,uA eA 0 0] 105)(n:zB f a):
 KX f X K ((((a.setCell (iB X 0) (tA K.N)).setCell (iB X 1) (dB K.L)).setCell (iB X 2) (uA b (cB K.M) d)).setCell (iB X 3) (uA c (cB K.Z) e)):=by
 have i:jB (·=X) a ((((a.setCell (iB X 0) (tA K.N)).setCell (iB X 1) (dB K.L)).setCell (iB X 2) (uA b (cB K.M) d)).setCell (iB X 3) (uA c (cB K.Z) e)):=((((jB.refl (·=X) a).setCell (Ca rfl) 0 _).setCell (Ca rfl) 1 _).setCell (Ca rfl) 2 _).setCell (Ca rfl) 3 _;refine⟨b,d,c,e,?_,λW h=>⟨EX k (i.trans' h) (Ca m),EX l (i.trans' h) (Ca (by omega))⟩,j,YS n j⟩;have:=(((g.set 0 (tA K.N)).set 1 (dB K.L)).set 2 (uA b (cB K.M) d)).set 3 (uA c (cB K.Z) e);simpa using this
structure AN(w W:World)(c:kC)(now:Int)(a:nC)(n cap:Nat):Prop where
 C:rB W w.1.size #[dB c.w,dB c.tl,dB c.ml,dB c.sh,dB c.ha,dB c.sg] 24
 S:rB W (w.1.size+1) #[dB now,uA a n cap] 40
 R:rB W (w.1.size+1+1) #[dB 0,uA eA 0 0] 40
 B:zB w W
section
variable {w W W':jA} {c:kC} {now:Int} {a:nC} {n cap:Nat}
theorem AN.new:AN w (((w.alloc (aB #[dB c.w,dB c.tl,dB c.ml,dB c.sh,dB c.ha,dB c.sg] 24)).alloc (aB #[dB now,uA a n cap] 40)).alloc (aB #[dB 0,uA eA 0 0] 40)) c now a n cap:=
 ⟨((rB.new _ _ _).alloc _).alloc _,by have:=(rB.new (w.alloc (aB #[dB c.w,dB c.tl,dB c.ml,dB c.sh,dB c.ha,dB c.sg] 24)) #[dB now,uA a n cap] 40).alloc (aB #[dB 0,uA eA 0 0] 40);simpa using this,
   by have:=rB.new ((w.alloc (aB #[dB c.w,dB c.tl,dB c.ml,dB c.sh,dB c.ha,dB c.sg] 24)).alloc (aB #[dB now,uA a n cap] 40)) #[dB 0,uA eA 0 0] 40;simpa using this,xB (xB aC aC) aC⟩
theorem AN.z(h:AN w W c now a n cap)(b:zB W W'):AN w W' c now a n cap:=⟨h.C.z b,h.S.z b,h.R.z b,xB h.B b⟩
theorem AN.lt(h:AN w W c now a n cap):w.1.size+1+1<W.1.size:=eB h.R
theorem AN.turn{X:Nat}(h:AN w W c now a n cap)(b:jB (·=X) W W')(d:w.1.size+1+1<X):AN w W' c now a n cap:=
 ⟨b.blk h.C (by omega),b.blk h.S (by omega),b.blk h.R (by omega),h.B.trans (b.below (by have:=h.B.size;omega) λi f e=>by omega)⟩
theorem AN.cells(h:AN w W c now a n cap):W.cell? (iB w.1.size 0)=fA (dB c.w)/\W.cell? (iB w.1.size 1)=fA (dB c.tl)/\W.cell? (iB w.1.size 2)=fA (dB c.ml)/\W.cell? (iB w.1.size 3)=fA (dB c.sh)/\W.cell? (iB w.1.size 4)=fA (dB c.ha)/\W.cell? (iB w.1.size 5)=fA (dB c.sg)/\W.cell? (iB (w.1.size+1) 0)=fA (dB now)/\W.cell? (iB (w.1.size+1) 1)=fA (uA a n cap)/\W.cell? (iB (w.1.size+1+1) 0)=fA (dB 0)/\W.cell? (iB (w.1.size+1+1) 1)=fA (uA eA 0 0)/\W.frozen? (iB (w.1.size+1+1) 0)=gA/\W.frozen? (iB (w.1.size+1+1) 1)=gA/\w.1.size+1+1<W.1.size:=
 ⟨h.C.cell 0,h.C.cell 1,h.C.cell 2,h.C.cell 3,h.C.cell 4,h.C.cell 5,h.S.cell 0,h.S.cell 1,h.R.cell 0,h.R.cell 1,h.R.free 0,h.R.free 1,h.lt⟩
theorem AN.done{N rc:Nat}{v:Int}{d:nC}{b:List kB}(h:AN w W c now a n cap)(j:cD W N d b)(m:w.1.size+1+1<N):
 cD ((W.setCell (iB (w.1.size+1+1) 0) (dB v)).setCell (iB (w.1.size+1+1) 1) (uA d (cB b) rc)) w.1.size d b/\zB w ((W.setCell (iB (w.1.size+1+1) 0) (dB v)).setCell (iB (w.1.size+1+1) 1) (uA d (cB b) rc)):=by
 have f:jB (·=w.1.size+1+1) W ((W.setCell (iB (w.1.size+1+1) 0) (dB v)).setCell (iB (w.1.size+1+1) 1) (uA d (cB b) rc)):=((jB.refl (·=w.1.size+1+1) W).setCell (Ca rfl) 0 _).setCell (Ca rfl) 1 _;exact⟨(cD.turned j f (λg k l e=>by omega)).mono (by omega),((jB.of (S:=λi=>w.1.size<=i) h.B).trans' (f.mono λi _ e=>by omega)).below (Ia _) λi o h=>by omega⟩
end
def KXR(a:jA)(X:Nat)(K:kB)(c:jA):Prop:=
 ∃M b f e d,rB c X #[tA K.N,dB K.L,uA b (cB K.M) f,uA e (cB K.Z) d] 105/\kD c a.1.size b K.M/\(∀g o,b=fA (iB g o)->g<M)/\c.ownsRow M 109 2 (uA e (cB K.Z) d) (cB K.Z) (flatK K.Z)/\(∀q,(mA.slice e (cB K.Z) d).ownBlock=fA q->q≠X)/\(∀g o,b=fA (iB g o)->K.M≠[]->g≠X)/\a.1.size<=X/\a.1.size<=M/\zB a c
def aFh{d a:jA}{K:kB}{B M:Nat}{c k:nC}{b f:Nat}(r:d.1.size<=B)(l:kD a B c K.M)(i:∀g o,c=fA (iB g o)->g<M)(m:a.ownsRow M 109 2 (uA k (cB K.Z) f) (cB K.Z) (flatK K.Z))(x:B<=M)(n:zB d a):
 KXR d a.1.size K (a.alloc (aB #[tA K.N,dB K.L,uA c (cB K.M) b,uA k (cB K.Z) f] 105)):=by
 refine⟨M,c,b,k,f,rB.new _ _ _,(l.mono r).z aC,i,lC m aC,λq u e=>?_,λg o e j v=>?_,n.size,by omega,xB n aC⟩;have:=(m.lt q u).2;omega;obtain h|⟨w,y,p,t,b,_,s,_⟩:=l;exact j h;rw[b]at e;simp only[Qa,Addr.mk.injEq,Cc]at e;have:=eB s;omega
def pi{l a:jA}{K:kB}{B M X:Nat}{d f:nC}{b c:Nat}(w:kD a B d K.M)(m:∀g o,d=fA (iB g o)->g<M)(n:a.ownsRow M 109 2 (uA f (cB K.Z) c) (cB K.Z) (flatK K.Z))(H:X<B)(G:B<=M)(z:l.1.size<=X)(r:rB a X #[tA ⟨#[]⟩,dB 0,uA eA 0 0,uA eA 0 0] 105)(A:zB l a):
 KXR l X K ((((a.setCell (iB X 0) (tA K.N)).setCell (iB X 1) (dB K.L)).setCell (iB X 2) (uA d (cB K.M) b)).setCell (iB X 3) (uA f (cB K.Z) c)):=by
 have y:jB (·=X) a ((((a.setCell (iB X 0) (tA K.N)).setCell (iB X 1) (dB K.L)).setCell (iB X 2) (uA d (cB K.M) b)).setCell (iB X 3) (uA f (cB K.Z) c)):=((((jB.refl (·=X) a).setCell (Ca rfl) 0 _).setCell (Ca rfl) 1 _).setCell (Ca rfl) 2 _).setCell (Ca rfl) 3 _;refine⟨M,d,b,f,c,?_,?_,m,y.row n (λq v e=>by have:=(n.lt q v).1;omega),λq v e=>by have:=(n.lt q v).1;omega,λg o e u E=>?_,z,by omega,YS A z⟩;have:=(((r.set 0 (tA K.N)).set 1 (dB K.L)).set 2 (uA d (cB K.M) b)).set 3 (uA f (cB K.Z) c);simpa using this
 .rcases w with h|⟨g,o,k,t,rfl,p,s,h⟩
  .exact Ca h
  have x:=y.block g (eB s) (by omega);have C:∀j,((((a.setCell (iB X 0) (tA K.N)).setCell (iB X 1) (dB K.L)).setCell (iB X 2) (uA (fA (iB g o)) (cB K.M) b)).setCell (iB X 3) (uA f (cB K.Z) c)).cell? (iB g j)=a.cell? (iB g j):=λj=>jA.cell?_of_block x;exact La ⟨g,o,k,t,rfl,by omega,x.trans s,λi D=>by simp only[C];exact h i D⟩
 obtain h|⟨F,I,k,t,b,p,s,_⟩:=w;exact u h;rw[b]at e;simp only[Qa,Addr.mk.injEq,Cc]at e;omega
def ez{S:Nat->Prop}{w W:jA}{B:Nat}{q:nC}{a:List pB}(h:kD w B q a)(d:jB S w W)(f:∀g o,q=fA (iB g o)->a≠[]->¬S g):jC W q a:=by
 obtain h|⟨g,o,e,t,rfl,n,b,h⟩:=h;exact Ca h
 by_cases c:a=[]
 .exact Ca c
 have m:=d.block g (eB b) (f g o rfl c);have k:∀j,W.cell? (iB g j)=w.cell? (iB g j):=λj=>jA.cell?_of_block m;exact La ⟨g,o,rfl,by have:=d.size;have:=eB b;omega,λi l=>by simp only[k];exact h i l⟩
def aBa{l:List pB}(e:zC (·.s) l){k:vB}{n:Int}{i:Nat}(b:i<cB l)(h:l[i].s=k):iC (·.s) ⟨k,n⟩ l=l.set i ⟨k,n⟩:=by
 induction l generalizing i with
 |nil=>simp at b
 |cons p r g=>
  cases i with
  |zero=>
   have d:p.s=k:=h;rw[iC,Ja (by show ¬vJ p.s k=iA;rw[d,mN];simp),Ma (by exact(mE _ _).2 d)];rfl
  |succ i=>
   have a:i<cB r:=by simpa using b
   have c:r[i].s=k:=by simpa using h
   have f:vJ p.s k=iA:=by rw[<-c];exact e.head _ (Gb a)
   rw[iC,Ma f,g e.tail a c];rfl
def ub(l:List pB)(i:Nat)(b:i<cB l)(n:Int):flatK (l.set i ⟨l[i].s,n⟩)=(flatK l).set (i*2+1) (dB n):=by
 induction l generalizing i with
 |nil=>simp at b
 |cons p r c=>
  cases i with
  |zero=>rfl
  |succ i=>
   have a:i<cB r:=by simpa using b
   have:=c i a;simp only[flatK,Jd,Xc,Ec]at this |-
   rw[this];have e:(i+1)*2+1=(i*2+1)+2:=by omega
   rw[e];rfl
def aCx{w:jA}{M g n a:Nat}{f:List mA}{j:Nat}{v:mA}(h:w.ownsRow M 109 2 (uA (cC g) n a) n f):(w.setCell (iB g j) v).ownsRow M 109 2 (uA (cC g) n a) n (f.set j v):=by
 refine⟨by rw[Pd];exact h.1,?_⟩;obtain⟨e,_⟩|⟨q,d,b,e,o,p,i,k,l,m⟩:=h.2
 .cases e
 simp only[mA.slice.injEq,Qa,Addr.mk.injEq,Cc]at e;obtain⟨rfl,_,rfl⟩:=e;have c:rB w g b 109:=p;refine La ⟨g,a,b.setIfInBounds j v,rfl,o,c.set j v,i,k,by simp[l],?_⟩;rw[Jf,List.take_set,m]
def fu{w:jA}{M n b:Nat}{a:nC}{f:List mA}(h:w.ownsRow M 109 2 (uA a n b) n f)(i:0<n):∃g,a=cC g:=by
 obtain⟨_,e⟩|⟨g,c,d,e,_⟩:=h.2;omega;simp only[mA.slice.injEq]at e;exact⟨g,e.1⟩
def aKc{w:jA}{M n b:Nat}{a:nC}{i:List mA}(h:w.ownsRow M 109 2 (uA a n b) n i):(a=eA/\b=0/\n=0)\/∃g,a=cC g:=by
 obtain⟨e,f⟩|⟨g,c,d,e,_⟩:=h.2;simp only[mA.slice.injEq]at e;exact Ca ⟨e.1,e.2.2,f⟩;simp only[mA.slice.injEq]at e;exact La ⟨g,e.1⟩
def aGj{w:jA}{M n a g:Nat}{f:List mA}(h:w.ownsRow M 109 2 (uA (cC g) n a) n f):n<=a:=by
 obtain⟨e,_⟩|⟨i,b,c,e,_,_,d,_⟩:=h.2
 .cases e
 simp only[mA.slice.injEq]at e;rw[e.2.2];exact d
def aGs{w:jA}{M g a j:Nat}{l:List pB}(h:w.ownsRow M 109 2 (uA (cC g) (cB l) a) (cB l) (flatK l))(n:j<=cB l):gS w (cC g) j (flatK (l.take j))/\gS w (fA (iB g (j*2))) (cB l-j) (flatK (l.drop j)):=by
 have p:=rD h;by_cases d:l=[]
 .subst d;exact⟨Ca (by simpa using n),Ca (by simp)⟩
 obtain m|⟨q,o,f,t,e,_,_,c⟩:=p;exact absurd m d;simp only[Qa,Addr.mk.injEq,Cc]at e;obtain⟨rfl,rfl⟩:=e;refine⟨La ⟨_,rfl,qN λi b=>?_⟩,La ⟨_,rfl,qN λi b=>?_⟩⟩;rw[Hb]at b;have:=c i (by omega);simpa[Ue]using this;rw[Rc]at b;have:=c (j+i) (by omega);have k:0+(j+i)*2=j*2+i*2:=by omega
 rw[k]at this;simpa[Cg]using this
def DF{P:Program}(w:jA){D:Array Oper}{p:List Oper}{o:Oper}{a:Act}{Q:Exit->Act->jA->Prop}(A:o.guard=eA)(s x:Operand)(t:TypeId)
(X:o.op=.call { callee:=.builtin .append,args:=#[s,x],argTypes:=#[t,t] })
(base:Nat)(e:TypeId)(i:TypeInfo)(z:mA)(b f:Nat)(Z:P.underlying t=fA (.slice e))(V:P.info? e=fA i)(O:i.zero=fA z)
(r:i.size=b)(H:i.bytes=f)(J:z.cells.size=b)(I:0<b)
(y n F:Nat)(K:List mA)(Y:a.eval s=uA (cC y) n F)(B:w.ownsRow base e b (uA (cC y) n F) n K)
(E:nC)(m c:Nat)(d:List mA)(hx:a.eval x=uA E m c)(W:cB d=m*b)(C:gS w E m d)(L:∀u∈d,u.oneCell'=iA)
(G:n+m<=maxLen)(l:(n+m)*f<=140737488355328)(q:base<=w.1.size)
(h:∀g j v,v.ownsRow base e b (uA (cC g) (n+m) j) (n+m) (K++d)->Below base w v->(∀k,k<w.1.size->k≠y->v.heap[k]?=w.heap[k]?)->base<=g->(g=y\/g=w.1.size)->g<v.1.size->wpList P D Q p (a.put o.dst (uA (cC g) (n+m) j)) v):wpList P D Q (o::p) a w:=
 wpList_plain A λ_ U=>RP w A s x t X base e i z b f Z V O r H J I y n F K Y B E m c d hx W C L G l q λg j v M N O R S T=>U _ _ (h g j v M N O R S T)
def RZ{w a:jA}{cs:Array mA}{t:TypeId}(h:Below (w.alloc (aB cs t)).drew.1.size (w.alloc (aB cs t)).drew a):rB a w.1.size cs t:=(rB.new w cs t).z ⟨h.os,h.tape,h.output,h.size,h.block⟩
def oc{s:vB}(h:xC s=iA):s.toList.isEmpty=gA:=by
 refine vO.2 λe=>?_;simp only[xC,Sa,Ab]at h;rw[e,Nf]at h;omega
structure SC(w:World)(c:kC)(now:Int)(a:nC)(cap:Nat)(ts:List kB)(tenant:vB)(tn:kB):Prop where
 ok:∀W,zB w W→gF 44 #[yA #[dB c.w,dB c.tl,dB c.ml,dB c.sh,dB c.ha,dB c.sg],yA #[dB now,uA a (cB ts) cap]] W (vA iA)
 nm:∀W,bM 66 #[tA tenant] W (vA iA)
 sm:∀W,zB w W→lA prog 45 #[yA #[dB c.w,dB c.tl,dB c.ml,dB c.sh,dB c.ha,dB c.sg],yA #[dB now,uA a (cB ts) cap]] W λe w'=>∃a' cap',e=zA (yA #[dB now,uA a' (cB ts) cap'])∧cD w' W.1.size a' ts∧zB W w'
 te:∀W,zB w W→lA prog 74 #[yA #[dB now,uA a (cB ts) cap],tA tenant] W λe w'=>(∃a1 c1 a2 c2,e=zA (yA #[tA tn.N,dB tn.L,uA a1 (cB tn.M) c1,uA a2 (cB tn.Z) c2])∧jC w' a1 tn.M∧jC w' a2 tn.Z)∧zB W w'
 kp:∀W a1 a2 c1 c2,jC W a1 tn.M→jC W a2 tn.Z→lA prog 124 #[yA #[tA tn.N,dB tn.L,uA a1 (cB tn.M) c1,uA a2 (cB tn.Z) c2],dB now,dB c.w] W λe w'=>∃M a1 c1 a2 c2,e=zA (yA #[tA tn.N,dB tn.L,uA a1 (cB tn.M) c1,uA a2 (cB tn.Z) c2])∧W.1.size≤M∧kD w' W.1.size a1 tn.M∧(∀g o,a1=fA (iB g o)→g<M)∧w'.ownsRow M 109 2 (uA a2 (cB tn.Z) c2) (cB tn.Z) (flatK tn.Z)∧M≤w'.1.size∧zB W w'
 wi:∀W L ms ss q1 q2 e1 e2,zB w W→jC W q1 ms→jC W q2 ss→VO ⟨tn.N,L,ms,ss⟩→lA prog 46 #[yA #[dB c.w,dB c.tl,dB c.ml,dB c.sh,dB c.ha,dB c.sg],yA #[dB now,uA a (cB ts) cap],dB now,yA #[tA tn.N,dB L,uA q1 (cB ms) e1,uA q2 (cB ss) e2]] W λe w'=>∃a' cap',e=zA (yA #[dB now,.slice a' (cB (xD c.w now (iC (·.N) ⟨tn.N,L,ms,ss⟩ ts))) cap'])∧cD w' W.1.size a' (xD c.w now (iC (·.N) ⟨tn.N,L,ms,ss⟩ ts))∧zB W w'
 fit:VO tn
 len:cB tn.M≤1900000∧cB tn.Z≤1900000
 rm:zC (·.s) tn.M
 rs:zC (·.s) tn.Z
 now0:0≤now∧now≤1000000000000
def aHs{c:kC}{l:Int}{a:nC}{cap:Nat}{k:List kB}{j:vB}{w:jA}(v:uC w a k)(o:cB k+fC k<=1900000)(P:j.size<=1900000)(t:pC c l k=iA)(C:xC j=iA):SC w c l a cap k j (eC k j):=by
 obtain⟨d,b,f,g⟩:=nO o;obtain⟨-,r,z,-,m⟩:=dH t;obtain⟨-,-,-,R,S⟩:=IM (nR o) P;have p:VO (eC k j)/\zC (·.s) (eC k j).M/\zC (·.s) (eC k j).Z:=by
  rcases zL (ts:=k) (name:=j) with⟨u,_⟩|⟨e,_⟩;obtain ⟨-,N,O,-⟩:=tJ (dJ m _ u);have E:=GY (n:=cB (eC k j).M) N (Ia _);have F:=II (n:=cB (eC k j).Z) O (Ia _);rw[Rb]at E F;exact⟨LQ t o _ u,E,F⟩;rw[e];exact⟨⟨Oa _,Oa _,λi h=>absurd h (by simp)⟩,Gd,Gd⟩
 refine⟨λW q=>?_,λW=>?_,λW q=>xS c l a cap k W (v.z q) t o,λW q=>uW l a cap k j W (v.z q) (by omega),λW G H I J A B=>?_,λW L D h T U K M q A B y=>?_,p.1,⟨R,S⟩,p.2.1,p.2.2,r,z⟩;have:=rH c l a cap k W (v.z q) b (by omega);rw[t]at this;exact this;have:=qG j W (by unfold maxLen;omega);rw[C]at this;exact this;have:=JV (eC k j) G H I J l c.w W A B (by omega) (by omega) r (by omega) p.1.2.2;rw[AF (DD m)]at this;exact this;have:=CI c l l a cap k ⟨(eC k j).N,L,D,h⟩ T U K M W (v.z q) A B (by omega) (λx Q=>Q.elim (λe=>e ▸ y) (LQ t o x)) r (by omega);rw[show(⟨(eC k j).N,L,D,h⟩:kB).N.toList.isEmpty=gA from by show(eC k j).N.toList.isEmpty=gA;rw[nG];exact oc C,aDp (yR m)]at this;exact this
def SC.wn{w:jA}{c:kC}{b:Int}{a:nC}{f:Nat}{n k:List kB}{d:vB}{j:kB}(h:SC w c b a f n d j){W:jA}{L:Int}{i C:List pB}{l m:nC}{p q r s:Nat}(x:xD c.w b (iC (·.N) ⟨j.N,L,i,C⟩ n)=k)(u:cB i=r)(v:cB C=s)(y:zB w W)(A:jC W l i)(B:jC W m C)(z:VO ⟨j.N,L,i,C⟩):
 lA prog 46 #[yA #[dB c.w,dB c.tl,dB c.ml,dB c.sh,dB c.ha,dB c.sg],yA #[dB b,uA a (cB n) f],dB b,yA #[tA j.N,dB L,uA l r p,uA m s q]] W λe t=>∃o g,e=zA (yA #[dB b,uA o (cB k) g])/\cD t W.1.size o k/\zB W t:=by
 subst x u v;exact h.wi W L i C l m p q y A B z
def AN.kin{w W:jA}{c:kC}{e:Int}{a:nC}{n d:Nat}(h:AN w W c e a n d):∀b,zB W b->b.cell? (iB (w.1.size+1) 0)=fA (dB e)/\b.cell? (iB (w.1.size+1) 1)=fA (uA a n d)/\b.cell? (iB w.1.size 0)=fA (dB c.w):=λb f=>by
 have k:=h.z f;exact⟨k.S.cell 0,k.S.cell 1,k.C.cell 0⟩
section
open Go.Maps
def RQ(V:Int×List kB×Nat)(w:jA)(e:Ending)(c:jA):Prop:=
 ∃a b,e=zA (bB #[yA #[dB V.1,uA a (cB V.2.1) b],dB (V.2.2:Nat)])/\cD c w.1.size a V.2.1/\zB w c
end
def mj(N:vC)(R:eE×aI×Nat)(S:Int×List kB×Bool):vC×Int:=
 if R.2.2=0 then(⟨R.1,R.2.1,S.1,S.2.1,N.lsn+1,gA,iA⟩,0)
 else if R.2.2=22\/R.2.2=23\/R.2.2=21 then(N,R.2.2)
 else(⟨R.1,R.2.1,N.now,N.ts,N.lsn,iA,!R.1.dn⟩,R.2.2)
def fG(c:kC)(N:vC)(rs:List tE):vC×Int:=
 if mH c=gA then(yN,61) else if ZQ N=gA then(N,60)
 else if (oF c N.now N.ts rs).2.2=gA\/dC N.lsn 0 999999999999999=gA\/aN (N.lsn+1) rs=pA then(N,62)
 else mj N (zH N.d N.l (aN (N.lsn+1) rs) c.sg) (oF c N.now N.ts rs)
section
variable {c:kC} {N:vC} {rs:List tE} {R:eE×aI×Nat} {S:Int×List kB×Bool}
theorem aLp(h:mH c=iA):ZQ N=gA/\fG c N rs=(N,60)\/ZQ N=iA/\((oF c N.now N.ts rs).2.2=gA/\fG c N rs=(N,62)\/(oF c N.now N.ts rs).2.2=iA/\(dC N.lsn 0 999999999999999=gA/\fG c N rs=(N,62)\/dC N.lsn 0 999999999999999=iA/\(aN (N.lsn+1) rs=pA/\fG c N rs=(N,62)\/(aN (N.lsn+1) rs).toList.isEmpty=gA/\fG c N rs=mj N (zH N.d N.l (aN (N.lsn+1) rs) c.sg) (oF c N.now N.ts rs)))):=by
 unfold fG;rw[Ja (by simp[h])];cases h1:ZQ N
 .exact Ca ⟨rfl,Ma rfl⟩
 refine La ⟨rfl,?_⟩;rw[Ja (by simp)];cases h2:(oF c N.now N.ts rs).2.2
 .exact Ca ⟨rfl,Ma (Ca rfl)⟩
 refine La ⟨rfl,?_⟩;cases h3:dC N.lsn 0 999999999999999
 .exact Ca ⟨rfl,Ma (La (Ca rfl))⟩
 refine La ⟨rfl,?_⟩;by_cases a:aN (N.lsn+1) rs=pA
 .exact Ca ⟨a,Ma (La (La a))⟩
 exact La ⟨vO.2 a,Ja (by simp[a])⟩
theorem aLo:(((R.2.2:Int)==0)=iA/\((R.2.2:Int)==22)=gA/\((R.2.2:Int)==23)=gA/\((R.2.2:Int)==21)=gA/\mj N R S=(⟨R.1,R.2.1,S.1,S.2.1,N.lsn+1,gA,iA⟩,0))\/
 (((R.2.2:Int)==0)=gA/\¬(R.2.2:Int)=0/\((((R.2.2:Int)==22)=iA\/((R.2.2:Int)==22)=gA/\(((R.2.2:Int)==23)=iA\/((R.2.2:Int)==23)=gA/\((R.2.2:Int)==21)=iA))/\mj N R S=(N,(R.2.2:Int))\/
   ((R.2.2:Int)==22)=gA/\((R.2.2:Int)==23)=gA/\((R.2.2:Int)==21)=gA/\mj N R S=(⟨R.1,R.2.1,N.now,N.ts,N.lsn,iA,!R.1.dn⟩,(R.2.2:Int)))):=by
 unfold mj;by_cases a:R.2.2=0
 .exact Ca ⟨by simp[a],by simp[a],by simp[a],by simp[a],by simp[a]⟩
 refine La ⟨by simp;omega,by omega,?_⟩;by_cases b:R.2.2=22\/R.2.2=23\/R.2.2=21
 .refine Ca ⟨?_,by simp[a,b]⟩;rcases b with h|h|h<;>simp[h]
 refine La ⟨by simp;omega,by simp;omega,by simp;omega,by simp[a,b]⟩
end
def BU:∀rs:List tE,(uM rs).size=12*cB rs+iD rs
 |[]=>rfl
 |r::q=>by
  have:=BU q;show(WW r++uM q).size=12*(cB q+1)+(r.T.size+r.X.size+iD q)
  rw[Ka,tv];omega
def aEl{a:Int}{rs:List tE}(h:cB rs+iD rs<=1400000):(aN a rs).size<=1900000:=by
 by_cases b:eY a rs
 .have:=b.2.2.2.1;rw[LM b,Ka,DO,BU];omega
 rw[LL b];exact Oa _
def JH{D:eE}{L:aI}{f:vB}(h:DG D.fs):DG (lR D L f).1.fs:=by
 have b:(tF L.last).size<=maxLen:=by have:=pK (L.last);unfold maxLen;omega
 have a:DG (fF D (iK L.last f)).1.fs:=nQ h b (Oa _);have d:=nQ (op:=xW L.last) a b (Oa _);unfold lR;split;exact a;split<;>exact d
def JG{D:eE}{L:aI}{p:vB}{b:Int}(h:DG D.fs):DG (zH D L p b).1.fs:=by
 have a:DG (fF D (pI (L.last+1))).1.fs:=nQ h (by have:=pK (L.last+1);unfold maxLen;show(tF (L.last+1)).size<=_;omega) (Oa _);unfold zH;repeat' split
 all_goals first|exact h|exact a|exact JH a|exact JH h
structure aDx(w:World)(a b:nC)(N:vC)(ar:nC)(rs:List tE):Prop where
 files:wB w a N.d.fs
 fit:DG N.d.fs
 tens:uC w b N.ts
 recs:lI w ar rs
 bulk:cB N.ts+fC N.ts+cB rs+iD rs≤1400000
 rng:VQ rs
 lsn:VP N.lsn
def cU{a:List kB}(h:cB a+fC a<=1400000):∀t∈a,cB t.M<=2000000/\cB t.Z<=2000000:=λt e=>by
 obtain⟨i,d,rfl⟩:=Ib e;have b:=eK a i d;have f:=tM a (i+1);unfold lF at b;omega
def aGh(r:tE):mA:=yA #[dB r.K,tA r.T,tA r.X,dB r.U]
def nU(r:tE):mA:=if r.K=1 then .iface 317 (yA #[dB 1,tA r.T,tA r.X]) else if r.K=2 then .iface 319 (yA #[dB 2,tA pA,dB r.U]) else if r.K=3 then .iface 321 (yA #[dB 3,tA r.T,tA r.X,dB r.U]) else .nilIface
def eV(r:tE):Bool:=decide (r.K=1\/r.K=2\/r.K=3)
def rO(r:tE)(w:jA):
 gF 194 #[aGh r] w (bB #[nU r,vA (eV r)]):=by
 obtain⟨a,g,h,f⟩:=r;unfold aGh;by_cases b:a=1
 .subst b;go_enter func194,ntmps194;go_wp2;go_ret2;exact⟨rfl,aC⟩
 by_cases c:a=2
 .subst c;go_enter func194,ntmps194;go_wp2;go_ret2;exact⟨rfl,aC⟩
 by_cases d:a=3
 .subst d;go_enter func194,ntmps194;go_wp2;go_ret2;exact⟨rfl,aC⟩
 have E:fB (nU ⟨a,g,h,f⟩=.nilIface/\eV ⟨a,g,h,f⟩=gA):=⟨by unfold nU;simp[b,c,d],by unfold eV;simp[b,c,d]⟩
 go_enter func194,ntmps194;go_wp2;go_ret2;exact⟨by rw[E.o.1,E.o.2];rfl,aC⟩
def pW(a b:Int)(c d:vB)(w:jA):
 gF 384 #[yA #[dB a,tA c],tA d,dB b] w (yA #[dB a,tA c,tA d,dB b]):=by
 go_enter func384,ntmps384;go_wp2;exact bodyPost_ret (v:=yA #[dB a,tA c,tA d,dB b]) (by simp[results,results384,go_sem]) rfl ⟨rfl,xB aC aC⟩
def uf(d:Int)(f g:vB)(w:jA):
 gF 385 #[yA #[dB d,tA f,tA g]] w (yA #[dB d,tA f,tA g,dB 0]):=by
 go_enter func385,ntmps385;go_wp2_with fail;apply oC (pW _ _ _ _ _);intro c b;have h:fB _:=xB (xB aC aC) b;have a:fB (rB c (w.1.size+1) #[dB 0,tA pA,tA pA,dB 0] 56):=by have:=(rB.new (w.alloc (aB #[dB d,tA f,tA g] 317)) #[dB 0,tA pA,tA pA,dB 0] 56).z b;exact gB (by simpa using this)
 have i:gD c (w.1.size+1) 0 (dB 0):=a.o.cell 0;have j:gD c (w.1.size+1) 1 (tA pA):=a.o.cell 1;have k:gD c (w.1.size+1) 2 (tA pA):=a.o.cell 2;have l:gD c (w.1.size+1) 3 (dB 0):=a.o.cell 3;have n:=a.o.free 0;have o:=a.o.free 1;have p:=a.o.free 2;have q:=a.o.free 3;clear b;go_wp2;refine bodyPost_ret (v:=yA #[dB d,tA f,tA g,dB 0]) (by simp[results,results385,go_sem,i,j,k,l]) rfl ⟨rfl,?_⟩;exact(((h.o.setCell (by simp) _).setCell (by simp) _).setCell (by simp) _).setCell (by simp) _
def ug(d f:Int)(g:vB)(w:jA):
 gF 386 #[yA #[dB d,tA g,dB f]] w (yA #[dB d,tA g,tA pA,dB f]):=by
 go_enter func386,ntmps386;go_wp2_with fail;apply oC (pW _ _ _ _ _);intro c b;have h:fB _:=xB (xB aC aC) b;have a:fB (rB c (w.1.size+1) #[dB 0,tA pA,tA pA,dB 0] 56):=by have:=(rB.new (w.alloc (aB #[dB d,tA g,dB f] 319)) #[dB 0,tA pA,tA pA,dB 0] 56).z b;exact gB (by simpa using this)
 have i:gD c (w.1.size+1) 0 (dB 0):=a.o.cell 0;have j:gD c (w.1.size+1) 1 (tA pA):=a.o.cell 1;have k:gD c (w.1.size+1) 2 (tA pA):=a.o.cell 2;have l:gD c (w.1.size+1) 3 (dB 0):=a.o.cell 3;have n:=a.o.free 0;have o:=a.o.free 1;have p:=a.o.free 2;have q:=a.o.free 3;clear b;go_wp2;refine bodyPost_ret (v:=yA #[dB d,tA g,tA pA,dB f]) (by simp[results,results386,go_sem,i,j,k,l];rfl) rfl ⟨rfl,?_⟩;exact(((h.o.setCell (by simp) _).setCell (by simp) _).setCell (by simp) _).setCell (by simp) _
def uc(d f:Int)(g h:vB)(w:jA):
 gF 387 #[yA #[dB d,tA g,tA h,dB f]] w (yA #[dB d,tA g,tA h,dB f]):=by
 go_enter func387,ntmps387;go_wp2_with fail;apply oC (pW _ _ _ _ _);intro c b;have i:fB _:=xB (xB aC aC) b;have a:fB (rB c (w.1.size+1) #[dB 0,tA pA,tA pA,dB 0] 56):=by have:=(rB.new (w.alloc (aB #[dB d,tA g,tA h,dB f] 321)) #[dB 0,tA pA,tA pA,dB 0] 56).z b;exact gB (by simpa using this)
 have j:gD c (w.1.size+1) 0 (dB 0):=a.o.cell 0;have k:gD c (w.1.size+1) 1 (tA pA):=a.o.cell 1;have l:gD c (w.1.size+1) 2 (tA pA):=a.o.cell 2;have m:gD c (w.1.size+1) 3 (dB 0):=a.o.cell 3;have o:=a.o.free 0;have p:=a.o.free 1;have q:=a.o.free 2;have r:=a.o.free 3;clear b;go_wp2;refine bodyPost_ret (v:=yA #[dB d,tA g,tA h,dB f]) (by simp[results,results387,go_sem,j,k,l,m]) rfl ⟨rfl,?_⟩;exact(((i.o.setCell (by simp) _).setCell (by simp) _).setCell (by simp) _).setCell (by simp) _
def dh(x : Value)(w : World) : (invoke (.fn (.method "loop.example/s02176/impl.flat") #[]) #[.iface 317 x]).run prog w = .ok (.enter 385 #[x]) w := by kernel_rfl
def dj(x : Value)(w : World) : (invoke (.fn (.method "loop.example/s02176/impl.flat") #[]) #[.iface 319 x]).run prog w = .ok (.enter 386 #[x]) w := by kernel_rfl
def dl(x : Value)(w : World) : (invoke (.fn (.method "loop.example/s02176/impl.flat") #[]) #[.iface 321 x]).run prog w = .ok (.enter 387 #[x]) w := by kernel_rfl
def WY{P:Program}(ρ:Operand->mA)(o:Oper)(r:Operand)(name:String)(a:o.op=.call { callee:=.invoke r name,args:=#[],argTypes:=#[] }){u:mA}(b:ρ r=u){n:Next}{w:jA}
(h:(invoke (.fn (.method name) #[]) #[u]).run P w=.ok n w):(execOp ρ o).run P w=.ok n w:=by
 unfold execOp;simp only[a,resolve];simp[b,h]
def ZT{P:Program}{c:Array Oper}{C:jA->Prop}{Q:Act->Prop}{a:Act}{o:Oper}{b:List Oper}{f:FuncId}{args:Array mA}{v:mA}(k:Region.wanted o (yielded c a.tmps)=iA)
(j:∀w,(execOp a.eval o).run P w=.ok (.enter f args) w)(i:∀w,C w->lA P f args w (λe d=>e=zA v/\C d))(h:wpQuiet P c C Q b (a.put o.dst v)):wpQuiet P c C Q (o::b) a:=
 BigFrame.wpQuiet_want k λK g=>⟨v,λw k=>by unfold Oper.quietAt;rw[j];exact⟨rfl,i w k⟩,g _ h⟩
def il{P:Program}{c:Array Oper}{C:jA->Prop}{Q:Act->Prop}{a:Act}{o:Oper}{b:List Oper}{v:mA}(f:Region.wanted o (yielded c a.tmps)=iA)
(e:∀w,(execOp a.eval o).run P w=.ok (.value v) w)(h:wpQuiet P c C Q b (a.put o.dst v)):wpQuiet P c C Q (o::b) a:=
 BigFrame.wpQuiet_want f λK d=>⟨v,λw f=>by unfold Oper.quietAt;rw[e];exact⟨rfl,rfl⟩,d _ h⟩
def aIm(k a n b:Int)(t c x d:vB)(W:jA):(binOp .eql 56 (yA #[dB k,tA t,tA x,dB n]) (yA #[dB a,tA c,tA d,dB b])).run prog W=.ok (vA (k==a&&(t.toList==c.toList&&(x.toList==d.toList&&n==b)))) W:=by
 rw[run_eql_struct,run_equalIn_agg W _ _ _ _ (by kernel_rfl) (by kernel_rfl)];unfold Program.fieldsOf;rw[underlying56];simp[Op.eqFields,go_sem,underlying3,underlying9];repeat' split
 all_goals simp_all
def bn(ρ:Operand->mA)(o:Oper)(p q:Operand)(g:o.op=.binOp .eql 56 p q 56){k a n c:Int}{t d x e:vB}
(h:ρ p=yA #[dB k,tA t,tA x,dB n])(i:ρ q=yA #[dB a,tA d,tA e,dB c]){b:Bool}(f:(k==a&&(t.toList==d.toList&&(x.toList==e.toList&&n==c)))=b)(W:jA):
 (execOp ρ o).run prog W=.ok (.value (vA b)) W:=by
 unfold execOp;simp only[g,h,i,Sem.run_bind,run_eqGuard_agg W _ _ _ _ _ _ (show prog.eqGuardType prog.depth 56=gA by kernel_rfl),Result.andThen_ok,aIm,f,Sem.run_pure]
def zc{x:vB}:x.toList=ByteArray.empty.toList ↔ x.size=0:=by
 rw[ByteArray.toList_eq,ByteArray.toList_eq];constructor;intro h;show x.data.size=0;rw[<-Qg,h];rfl;intro h;have:cB x.data.toList=0:=by simpa using h
 rw[Nb.1 this];rfl
def OJ{k i r j:Int}{a c l m:vB}{p:TypeId}{s:mA}{f:FuncId}{args:Array mA}{b:Bool}(w:jA)(_h1:a.size<=1000000000)(_h2:c.size<=1000000000)
(B:fB (∀W,gF 194 #[yA #[dB k,tA a,tA c,dB i]] W (bB #[.iface p s,vA iA])))
(A : fB (∀ W, (invoke (.fn (.method "loop.example/s02176/impl.flat") #[]) #[.iface p s]).run prog W = .ok (.enter f args) W))(y : fB (∀ W, Calls prog f args W fun e n => e = .returned (.agg #[.int .i64 r, .string l, .string m, .int .i64 j]) /\ zB W n))
(z:fB ((r==k&&(l.toList==a.toList&&(m.toList==c.toList&&j==i)))=b))(E:fB (ZX ⟨k,a,c,i⟩=(b&&(decide ((a.size:Int)<=255) &&decide ((c.size:Int)<=65535))))):
 gF 115 #[yA #[dB k,tA a,tA c,dB i]] w (vA (ZX ⟨k,a,c,i⟩)):=by
 have o:b=gA\/b=iA/\decide ((a.size:Int)<=255)=gA\/b=iA/\decide ((a.size:Int)<=255)=iA:=by cases b<;>cases decide ((a.size:Int)<=255)<;>simp
 obtain rfl|⟨rfl,q⟩|⟨rfl,q⟩:=o
 all_goals
  try rw[q]at E
  go_enter func115,ntmps115;go_wp2_with fail;apply oC (B.o _);intro t g;have u:fB _:=xB aC g;have d:=λx:mC t=>(((rB.new w #[dB k,tA a,tA c,dB i] 56).z g).z x.h).c4;simp only[forall_and]at d;obtain⟨D,F,G,H⟩:=d;have C:=mC.there t;clear g;go_wp2_with fail;refine bC (by kernel_rfl) (by kernel_rfl) ?_;repeat (go_big_quiet_step (fail))
  refine ZT (by rfl) (λW=>WY _ _ _ _ rfl rfl (A.o W)) (by rintro _ ⟨x,rfl⟩;exact rC (y.o _)) ?_;simp only[Act.put,Ud,Jd,Ze];repeat (go_big_quiet_step (fail))
  first
   |(refine il (by rfl) (bn _ _ _ _ rfl rfl rfl z.o) ?_;simp only[Act.put,Ud,Jd,Ze];repeat (go_big_quiet_step (fail)))
   |skip
  refine wpQuiet_nil ?_;rintro _ ⟨x,rfl⟩;have v:=gB (xB u.o x.h);go_wp2;go_ret;exact⟨tB (by rw[E.o];simp),v.o⟩
def aCn{r:tE}{b:Bool}(h:(r.K=1/\r.U=0)\/(r.K=2/\r.T.size=0/\r.X.size=0)\/r.K=3 ↔ b=iA):ZX r=(b&&(decide ((r.T.size:Int)<=255) &&decide ((r.X.size:Int)<=65535))):=by grind [ZX,qO,UQ,BD]
def uw(r:tE)(w:jA)(m:r.T.size<=1000000000)(n:r.X.size<=1000000000):
 gF 115 #[aGh r] w (vA (ZX r)):=by
 obtain⟨f,c,d,b⟩:=r;by_cases j:f=1
 .subst j;exact OJ w m n (λW=>rO ⟨1,c,d,b⟩ W) (λW=>dh _ W) (λW=>uf 1 c d W) rfl (aCn (by simp;exact eq_comm))
 by_cases k:f=2
 .subst k;exact OJ w m n (λW=>rO ⟨2,c,d,b⟩ W) (λW=>dj _ W) (λW=>ug 2 b pA W) rfl (aCn (by simp only[Sa,Lg,beq_self_eq_true,true_and,Cc];rw[eq_comm (a:=ByteArray.empty.toList),eq_comm (a:=ByteArray.empty.toList),zc,zc];simp))
 by_cases l:f=3
 .subst l;exact OJ w m n (λW=>rO ⟨3,c,d,b⟩ W) (λW=>dl _ W) (λW=>uc 3 b c d W) rfl (aCn (by simp))
 have s:fB (∀W,gF 194 #[yA #[dB f,tA c,tA d,dB b]] W (bB #[.nilIface,vA gA])):=λW=>by
  have:=rO ⟨f,c,d,b⟩ W;have t:nU ⟨f,c,d,b⟩=.nilIface:=by unfold nU;simp[j,k,l]
  have u:eV ⟨f,c,d,b⟩=gA:=by unfold eV;simp[j,k,l]
  rw[t,u]at this;exact this
 have E:fB (ZX ⟨f,c,d,b⟩=gA):=gB (BD (λv=>by obtain g|g|g:=v.2.2;exact j g.1;exact k g.1;exact l g));unfold aGh;clear j k l;go_enter func115,ntmps115;go_wp2_with fail;apply oC (s.o _);intro z i;have p:fB _:=xB aC i;have y:=mC.there z;clear i;go_wp2_with fail;refine bC (by kernel_rfl) (by kernel_rfl) ?_;repeat (go_big_quiet_step (fail))
 refine wpQuiet_nil ?_;rintro _ ⟨x,rfl⟩;have q:fB _:=xB p.o x.h;go_wp2;go_ret;exact⟨tB E.o.symm,q.o⟩
def kW(s:vB):Nat:=if s.size<=65535 then s.size+10 else s.size+1000000000
def dN:List pB->Nat
 |[]=>0
 |p::r=>kW p.s+dN r
def iX(t:kB):Nat:=t.N.size+17+dN t.M+dN t.Z
def iG:List kB->Nat
 |[]=>0
 |t::r=>iX t+iG r
def aLi(s:vB):s.size+10<=kW s:=by unfold kW;split<;>omega
theorem UL{p:pB}(l:List pB):dN (iC (·.s) p l)<=dN l+kW p.s:=by
 induction l with
 |nil=>simp[iC,dN]
 |cons q r a=>
  rw[iC];split;simp only[dN];omega;split<;>(simp only[dN];omega)
theorem EZ(f:pB->Bool)(l:List pB):dN (l.filter f)<=dN l:=by
 induction l with
 |nil=>exact Ia _
 |cons q r a=>
  rw[List.filter_cons];split<;>(simp only[dN];omega)
def jX(f:kB->Bool)(l:List kB):iG (l.filter f)<=iG l:=by
 induction l with
 |nil=>exact Ia _
 |cons q r a=>
  rw[List.filter_cons];split<;>(simp only[iG];omega)
def VH{a:List kB}(f:zC (·.N) a){t:kB}{k:Nat}(h:iX t<=iX (eC a t.N)+k):iG (iC (·.N) t a)<=iG a+17+t.N.size+k:=by
 have g:iX ⟨t.N,-1,[],[]⟩=t.N.size+17:=by simp[iX,dN]
 have key:(∃q∈a,q.N=t.N/\iX t<=iX q+k)\/(iX t<=t.N.size+17+k):=by
  rcases zL (ts:=a) (name:=t.N) with⟨m,_⟩|⟨e,_⟩;exact Ca ⟨_,m,nG,h⟩;rw[e,g]at h;exact La h
 clear h g;obtain⟨q,c,d,j⟩|j:=key
 .have:iG (iC (·.N) t a)<=iG a+k:=by
   induction a with
   |nil=>cases c
   |cons p r i=>
    rw[iC];rcases Lb.1 c with rfl|c;rw[Ja (by rw[d,mN];simp),Ma ((mE _ _).2 d)];simp only[iG];omega;have b:=f.head q c;simp only[d]at b;rw[Ma b];have:=i f.tail c;simp only[iG];omega
  omega
 .have:∀l:List kB,iG (iC (·.N) t l)<=iG l+iX t:=λl=>by
   induction l with
   |nil=>simp[iC,iG]
   |cons p r i=>
    rw[iC];split;simp only[iG];omega;split<;>(simp only[iG];omega)
  have:=this a;omega
def aIc{c:List kB}{a key:vB}{b:Int}:iX (zI (eC c a) key b)<=iX (eC c (zI (eC c a) key b).N)+kW key:=by grind [iX,zI,eC,kW,nG,UL]
def aJf{d:List kB}{b a:vB}{c:Int}:iX (xH (eC d b) a c)<=iX (eC d (xH (eC d b) a c).N)+kW a:=by grind [iX,xH,eC,kW,dN,yE,nP,nG,UL,EZ]
def aJa{win now:Int}(a:List kB):iG (xD win now a)<=iG a:=by
 have d:=jX (λt=>!eF t) (a.map (aF win now));have e:iG (a.map (aF win now))<=iG a:=by
  induction a with
  |nil=>exact Ia _
  |cons t r c=>
   have:=EZ (λp=>decide (now-p.n<win)) t.Z;have b:=c (jX _ _);simp only[Fc,iG,iX,aF]at b |-
   omega
 unfold xD;omega
def aGt{c:kC}{b:Int}{a:List kB}(h:pC c b a=iA)(r:tE):iG (pE c b a r).2.1<=iG a+17+r.T.size+kW r.X:=by
 have g:=yR (dH h).2.2.2.2;have d:iG a<=iG a+17+r.T.size+kW r.X:=by omega
 have f:iG (iC (·.N) (zI (eC a r.T) r.X b) a)<=iG a+17+r.T.size+kW r.X:=by
  have:=VH g (t:=zI (eC a r.T) r.X b) aIc;have e:(zI (eC a r.T) r.X b).N=r.T:=nG;rw[e]at this;omega
 have i:iG (iC (·.N) (xH (eC a r.T) r.X r.U) a)<=iG a+17+r.T.size+kW r.X:=by
  have:=VH g (t:=xH (eC a r.T) r.X r.U) aJf;have e:(xH (eC a r.T) r.X r.U).N=r.T:=by rw[nP,nG]
  rw[e]at this;omega
 unfold pE;split
 .unfold zK;split
  .exact d
  split;exact f;generalize (if (eC a r.T).L = -1 then c.tl else(eC a r.T).L)=j;split;exact d;split;exact d;exact f
 split
 .unfold uJ;split
  .exact d
  exact Ua (aJa (win:=c.w) (now:=b+r.U) a) d
 split
 .unfold wR;split
  .exact d
  split;exact Ua (jX _ a) d;split;exact d;exact i
 exact d
def aCz{c:kC}:∀{rs:List tE}{a:Int}{b:List kB},pC c a b=iA->iD rs<=65535->iG (aG c a b rs).2.1<=iG b+27*cB rs+iD rs/\((aG c a b rs).2.2=iA->pC c (aG c a b rs).1 (aG c a b rs).2.1=iA)
 |[],a,b,h,_=>⟨by simp[aG,iD],λ_=>h⟩
 |r::rs,a,b,h,f=>by
  have i:=aGt h r;simp only[iD]at f;have j:kW r.X=r.X.size+10:=Ma (by omega);rw[aG];simp only[Zb,iD];split
  .rename_i g;have d:=aCz (rs:=rs) (FP h g) (by omega);exact⟨by omega,d.2⟩
  exact ⟨by show iG (pE c a b r).2.1<=_;omega,λe=>by cases e⟩
def bT:∀a:List pB,cB a+dE a<=dN a/\(nE a).size<=dN a/\(dN a<1000000000->∀p∈a,p.s.size<=65535)
 |[]=>⟨Ia _,Ia _,λ_ p d=>by cases d⟩
 |p::r=>by
  obtain⟨e,f,c⟩:=bT r;have g:=aLi p.s;refine⟨by simp only[Zb,dE,dN];omega,?_,λh q b=>?_⟩;rw[nE,KY,Ka,Ka,kF,oB,dN];omega;rw[dN]at h;rcases Lb.1 b with rfl|b
  .unfold kW at h;split at h
   .assumption
   omega
  exact c (by omega) q b
def sN:∀a:List kB,cB a+fC a<=iG a/\(sE a).size<=iG a/\(iG a<1000000000->∀t∈a,dN t.M<1000000000/\dN t.Z<1000000000)
 |[]=>⟨Ia _,Ia _,λ_ p d=>by cases d⟩
 |t::r=>by
  obtain⟨e,f,c⟩:=sN r;have g:=bT t.M;have h:=bT t.Z;refine⟨by simp only[Zb,fC,lF,iG,iX];omega,?_,λh q b=>?_⟩;rw[sE,mQ,FU];simp only[Ka,sF,oB,iG,iX];omega;rw[iG,iX]at h;rcases Lb.1 b with rfl|b;exact ⟨by omega,by omega⟩;exact c (by omega) q b
def oZ{c:kC}{a lsn:Int}{b:List kB}(h:pC c a b=iA)(m:iG b<=1000000)(n:0<=lsn)(o:lsn<=1000000000000000):qX lsn b/\(bH lsn a b).size<=iG b+28/\(bH lsn a b).size≠0/\MI b/\xV a:=by
 obtain⟨y,p,q,_,r⟩:=dH h;have g:∀t∈b,wO c.w a t=iA:=dJ r;have k:qX lsn b:=⟨n,o,λi f=>by
  obtain⟨l,m⟩:=(sN b).2.2 (by omega) _ (Gb f);obtain⟨s,_⟩:=FS (g _ (Gb f));refine⟨?_,λj d=>(bT _).2.2 l _ (Gb d),λj d=>(bT _).2.2 m _ (Gb d)⟩;simp only[xC,Sa,Ab]at s;omega⟩
 have z:=(sN b).2.1;have e:(bH lsn a b).size=28+(sE b).size:=by
  rw[FN k,cL,AK];simp only[Ka,oB];show 4+8+8+4+_+4=_;omega
 refine⟨k,by omega,by omega,λi f=>?_,by unfold xV;omega⟩;obtain⟨_,u,v,x,_⟩:=FS (g _ (Gb f));simp only[dC,Sa,Ab]at u;refine⟨⟨by omega,by omega⟩,λj d=>?_,λj d=>?_⟩;have:=((LS v).1 _ (Gb d)).2;simp only[dC,Sa,Ab]at this;exact⟨by omega,by omega⟩;have:=((FK x).1 _ (Gb d)).2.1;simp only[dC,Sa,Ab]at this;exact⟨by omega,by omega⟩
