import Derived.Test.YtcmdjimlmnaojaaGreatDoorJ20
import Derived.Test.YtcmdjimlmnaojaaGreatDoorJ23
import Derived.Test.YtcmdjimlmnaojaaGreatDoorJ26
set_option maxRecDepth 100000
set_option maxHeartbeats 4000000
set_option linter.defProp false
open Bool renaming true->eA,false->dA
open Option renaming none->aA,some->cA
open ByteArray renaming empty->lA
open List renaming length->zA
namespace Go.Proofs.YtcmdjimlmnaojaaGreatDoor
open Go renaming World->fA,Calls->iA,Value->jA
open Ending renaming returned->vA
open Value renaming tuple->yA,agg->uA,slice->qA,bool->sA,string->pA
open Obj renaming cells->xA
open Go.RowKit Tryz
def wR(a:List kB)(k:Nat)(h:k<zA a):a[k].s.size<=fE a:=by
 have b:=wN a k h;have c:=tM a (k+1);omega
def gR{ts:List gB}(h:zA ts+eC ts<=1900000):aJy ts 1900000/\aFu ts/\True/\aMo ts:=by
 have f:∀i(a:i<zA ts),fF ts[i]<=1900000:=λi a=>by have:=fX ts i a;omega
 have c:∀i(a:i<zA ts),ts[i].N.size<=1900000/\zA ts[i].M<=1900000/\zA ts[i].Z<=1900000/\fE ts[i].M<=1900000/\fE ts[i].Z<=1900000:=λi a=>by have:=f i a;unfold fF at this;omega
 have b:∀i(a:i<zA ts),(∀j(e:j<zA ts[i].M),ts[i].M[j].s.size<=1000000000)/\(∀j(e:j<zA ts[i].Z),ts[i].Z[j].s.size<=1000000000):=λi a=>
  ⟨λj d=>by have:=wR _ j d;have:=c i a;omega,λj d=>by have:=wR _ j d;have:=c i a;omega⟩
 refine⟨λi a=>⟨?_,(b i a).1,(b i a).2,?_,?_,?_⟩,λi a=>⟨?_,(b i a).1,(b i a).2,?_,?_⟩,trivial,λi a=>⟨?_,?_⟩⟩<;>(have:=c i a;unfold maxLen at *;omega)
def aMn(a:List gB):Prop:=∀t∈a,t.N.size<=maxLen/\(∀i(h:i<zA t.M),t.M[i].s.size<=maxLen)/\(∀i(h:i<zA t.Z),t.Z[i].s.size<=maxLen)/\zA t.M<=2000000/\zA t.Z<=2000000
def oT(V:Int×List gB×Bool)(w:fA)(e:Ending)(c:fA):Prop:=
 ∃a b,e=vA (yA #[uA #[aB V.1,qA a (zA V.2.1) b],sA V.2.2])/\dD c w.1.size a V.2.1/\xB w c
def aNx(x:gB):Prop:=x.N.size<=1900000/\(∀p∈x.M,p.s.size<=1900000)/\(∀p∈x.Z,p.s.size<=1900000)/\zA x.M<=1900001/\zA x.Z<=1900001
def lW{ts:List gB}(h:zA ts+eC ts<=1900000):∀x∈ts,x.N.size<=1900000/\(∀p∈x.M,p.s.size<=1900000)/\(∀p∈x.Z,p.s.size<=1900000)/\zA x.M<=1900000/\zA x.Z<=1900000:=by
 intro x e;obtain⟨i,d,rfl⟩:=Ib e;have c:=fX ts i d;unfold fF at c;refine⟨by omega,λp b=>?_,λp b=>?_,by omega,by omega⟩;obtain ⟨j,a,rfl⟩:=Ib b;have:=wR _ j a;omega;obtain ⟨j,a,rfl⟩:=Ib b;have:=wR _ j a;omega
def aGv{b:List gB}(h:∀x∈b,aNx x):aMn b:=λx e=>by
 obtain⟨f,c,d,g,j⟩:=h x e;exact⟨by unfold maxLen;omega,λi a=>by have:=c _ (Gb a);unfold maxLen;omega,λi a=>by have:=d _ (Gb a);unfold maxLen;omega,by omega,by omega⟩
def JG{a:List gB}(h:∀x∈a,x.N.size<=1900000/\(∀p∈x.M,p.s.size<=1900000)/\(∀p∈x.Z,p.s.size<=1900000)/\zA x.M<=1900000/\zA x.Z<=1900000){tenant:pB}(b:tenant.size<=1900000):
 (rB a tenant).N.size<=1900000/\(∀p∈(rB a tenant).M,p.s.size<=1900000)/\(∀p∈(rB a tenant).Z,p.s.size<=1900000)/\zA (rB a tenant).M<=1900000/\zA (rB a tenant).Z<=1900000:=by grind [rB,dM]
def EZ{α:Type}{key:α->pB}{a:α}(l:List α):zA (fC key a l)<=zA l+1:=by induction l<;>grind [fC]
theorem gu{c:lC}{a:Int}{d:List gB}(h:iC c a d=eA):∀p∈d,p.N≠⟨#[]⟩:=λp f e=>by
 have b:=(aK (kJ (bG h).2.2.2.2 p f)).1;rw[e]at b;simp only[uC,Sa,Ab]at b;have g:(⟨#[]⟩:pB).size=0:=rfl;omega
def MH{c:lC}{b:Int}{a:List gB}(h:iC c b a=eA)(e:zA a+eC a<=1900000):∀x∈a,WT x:=λx d=>by
 obtain⟨_,j,k,_,g⟩:=bG h;obtain⟨_,_,_,l,m⟩:=lW e x d;refine⟨by omega,by omega,λi f=>?_⟩;have:=AH (aK (kJ g x d)).2.2.1 _ (Gb f);omega
def aFd{c:lC}{a:Int}{b:List gB}(h:iC c a b=eA):kD c.w a (DH ⟨⟨#[]⟩,0,[],[]⟩ eA b)=b:=by grind [iC,kD,DH,fU,gu,fu,bG]
def uS(c:lC)(f:Int)(a:nC)(k:Nat)(j:List gB)(w:fA)(F:aD w a j)(m:iC c f j=eA)(E:zA j+eC j<=1900000):
 iA prog 101 #[uE c,uA #[aB f,qA a (zA j) k]] w λe y=>∃r l,e=vA (uA #[aB f,qA r (zA j) l])/\dD y w.1.size r j/\xB w y:=by
 obtain⟨_,B,L,_,_⟩:=bG m;have I:cB (∀W,xB w W->iA prog 111 #[uE c,uA #[aB f,qA a (zA j) k],aB f,uA #[pA ⟨#[]⟩,aB 0,qA aA 0 0,qA aA 0 0]] W λe y=>∃r l,e=vA (uA #[aB f,qA r (zA j) l])/\dD y W.1.size r j/\xB W y):=λW K=>by
  have:=CL c f f a k j ⟨⟨#[]⟩,0,[],[]⟩ aA aA 0 0 W (F.z K) (Ca rfl) (Ca rfl) (by omega) (λx C=>by
   obtain rfl|C:=C;exact ⟨Oa _,Oa _,λi h=>absurd h (by simp)⟩;exact MH m E x C) B (by omega)
  have e:(⟨⟨#[]⟩,0,[],[]⟩:gB).N.toList.isEmpty=eA:=by kernel_rfl
  rw[e,aFd m]at this;exact this
 clear F m E;unfold uE at *;go_enter func101,ntmps101;have D:cB (xB w (((w.alloc (xA #[aB c.w,aB c.tl,aB c.ml,aB c.sh,aB c.ha,aB c.sg] 24)).alloc (xA #[aB f,qA a (zA j) k] 40)).alloc (xA #[aB 0,qA aA 0 0] 40))):=aC (aC bC bC) bC;have J:cB _:=dB (by have:=jB.new ((w.alloc (xA #[aB c.w,aB c.tl,aB c.ml,aB c.sh,aB c.ha,aB c.sg] 24)).alloc (xA #[aB f,qA a (zA j) k] 40)) #[aB 0,qA aA 0 0] 40;simpa using this);go_wp2_with fail;refine(I.o _ D.o).mono ?_;rintro e o ⟨p,u,rfl,t,n⟩;have A:cB _:=dB (by simpa using t);have z:cB (jB o (w.1.size+1+1) #[aB 0,qA aA 0 0] 40):=J.o.z n;have H:cB _:=aC D.o n;have M:yC o (w.1.size+1+1) 0 (aB 0):=z.o.cell 0;have N:yC o (w.1.size+1+1) 1 (qA aA 0 0):=z.o.cell 1;have b:=z.o.free 0;have d:=z.o.free 1;clear t n;go_wp2;have q:fB (·=w.1.size+1+1) o ((o.setCell (eB (w.1.size+1+1) 0) (aB f)).setCell (eB (w.1.size+1+1) 1) (qA p (zA j) u)):=((fB.refl (·=w.1.size+1+1) o).setCell (Ca rfl) 0 _).setCell (Ca rfl) 1 _;have G:dD ((o.setCell (eB (w.1.size+1+1) 0) (aB f)).setCell (eB (w.1.size+1+1) 1) (qA p (zA j) u)) w.1.size p j:=(dD.turned A.o q (λg O P e=>by omega)).mono (by omega);have s:=((fB.of (S:=λi=>w.1.size<=i) H.o).trans' (q.mono λi _ e=>by omega)).below (Ia _) λi Q h=>by omega
 refine bodyPost_ret (v:=uA #[aB f,qA p (zA j) u]) (by simp[results,results101,go_sem,M,N]) rfl ?_;first
  |exact⟨p,⟨u,rfl⟩,G,s⟩
  |exact⟨p,u,rfl,G,s⟩
def KX(a:fA)(X:Nat)(K:gB)(b:fA):Prop:=
 ∃c e d f,jB b X #[pA K.N,aB K.L,qA c (zA K.M) e,qA d (zA K.Z) f] 131/\(∀W,fB (·=X) b W->mC W c K.M/\mC W d K.Z)/\a.1.size<=X/\xB a b
def FM{w W:fA}{B X:Nat}{q:nC}{c:List kB}(h:lD w B q c)(b:fB (·=X) w W)(n:X<B\/w.1.size<=X):mC W q c:=by
 obtain h|⟨g,o,d,t,rfl,m,f,h⟩:=h;exact Ca h;have a:=bB f;have l:=b.block g a (by omega);have e:∀j,W.cell? (eB g j)=w.cell? (eB g j):=λj=>fA.cell?_of_block l;exact La ⟨g,o,rfl,by have:=b.size;omega,λi k=>by simp only[e];exact h i k⟩
def aLd{e b:fA}{K:gB}{B M:Nat}{c d:nC}{f g:Nat}(i:lD b B c K.M)(j:lD b M d K.Z)(h:xB e b):
 KX e b.1.size K (b.alloc (xA #[pA K.N,aB K.L,qA c (zA K.M) f,qA d (zA K.Z) g] 131)):=by
 refine⟨c,f,d,g,jB.new _ _ _,λW k=>?_,h.size,aC h bC⟩;have a:=(fB.of bC).trans' k;exact⟨FM i a (La (Ia _)),FM j a (La (Ia _))⟩
def aDf{f a:fA}{K:gB}{B M X:Nat}{b c:nC}{d e:Nat}(k:lD a B b K.M)(l:lD a M c K.Z)(m:X<B)(o:B<=M)(j:f.1.size<=X)(g:jB a X #[pA ⟨#[]⟩,aB 0,qA aA 0 0,qA aA 0 0] 131)(n:xB f a):
 KX f X K ((((a.setCell (eB X 0) (pA K.N)).setCell (eB X 1) (aB K.L)).setCell (eB X 2) (qA b (zA K.M) d)).setCell (eB X 3) (qA c (zA K.Z) e)):=by
 have i:fB (·=X) a ((((a.setCell (eB X 0) (pA K.N)).setCell (eB X 1) (aB K.L)).setCell (eB X 2) (qA b (zA K.M) d)).setCell (eB X 3) (qA c (zA K.Z) e)):=((((fB.refl (·=X) a).setCell (Ca rfl) 0 _).setCell (Ca rfl) 1 _).setCell (Ca rfl) 2 _).setCell (Ca rfl) 3 _;refine⟨b,d,c,e,?_,λW h=>⟨FM k (i.trans' h) (Ca m),FM l (i.trans' h) (Ca (by omega))⟩,j,ZM n j⟩;have:=(((g.set 0 (pA K.N)).set 1 (aB K.L)).set 2 (qA b (zA K.M) d)).set 3 (qA c (zA K.Z) e);simpa using this
structure AL(w W:World)(c:lC)(now:Int)(a:nC)(n cap:Nat):Prop where
 C:jB W w.1.size #[aB c.w,aB c.tl,aB c.ml,aB c.sh,aB c.ha,aB c.sg] 24
 S:jB W (w.1.size+1) #[aB now,qA a n cap] 40
 R:jB W (w.1.size+1+1) #[aB 0,qA aA 0 0] 40
 B:xB w W
section
variable {w W W':fA} {c:lC} {now:Int} {a:nC} {n cap:Nat}
theorem AL.new:AL w (((w.alloc (xA #[aB c.w,aB c.tl,aB c.ml,aB c.sh,aB c.ha,aB c.sg] 24)).alloc (xA #[aB now,qA a n cap] 40)).alloc (xA #[aB 0,qA aA 0 0] 40)) c now a n cap:=
 ⟨((jB.new _ _ _).alloc _).alloc _,by have:=(jB.new (w.alloc (xA #[aB c.w,aB c.tl,aB c.ml,aB c.sh,aB c.ha,aB c.sg] 24)) #[aB now,qA a n cap] 40).alloc (xA #[aB 0,qA aA 0 0] 40);simpa using this,
   by have:=jB.new ((w.alloc (xA #[aB c.w,aB c.tl,aB c.ml,aB c.sh,aB c.ha,aB c.sg] 24)).alloc (xA #[aB now,qA a n cap] 40)) #[aB 0,qA aA 0 0] 40;simpa using this,aC (aC bC bC) bC⟩
theorem AL.z(h:AL w W c now a n cap)(b:xB W W'):AL w W' c now a n cap:=⟨h.C.z b,h.S.z b,h.R.z b,aC h.B b⟩
theorem AL.lt(h:AL w W c now a n cap):w.1.size+1+1<W.1.size:=bB h.R
theorem AL.turn{X:Nat}(h:AL w W c now a n cap)(b:fB (·=X) W W')(d:w.1.size+1+1<X):AL w W' c now a n cap:=
 ⟨b.blk h.C (by omega),b.blk h.S (by omega),b.blk h.R (by omega),h.B.trans (b.below (by have:=h.B.size;omega) λi f e=>by omega)⟩
theorem AL.cells(h:AL w W c now a n cap):W.cell? (eB w.1.size 0)=cA (aB c.w)/\W.cell? (eB w.1.size 1)=cA (aB c.tl)/\W.cell? (eB w.1.size 2)=cA (aB c.ml)/\W.cell? (eB w.1.size 3)=cA (aB c.sh)/\W.cell? (eB w.1.size 4)=cA (aB c.ha)/\W.cell? (eB w.1.size 5)=cA (aB c.sg)/\W.cell? (eB (w.1.size+1) 0)=cA (aB now)/\W.cell? (eB (w.1.size+1) 1)=cA (qA a n cap)/\W.cell? (eB (w.1.size+1+1) 0)=cA (aB 0)/\W.cell? (eB (w.1.size+1+1) 1)=cA (qA aA 0 0)/\W.frozen? (eB (w.1.size+1+1) 0)=dA/\W.frozen? (eB (w.1.size+1+1) 1)=dA/\w.1.size+1+1<W.1.size:=
 ⟨h.C.cell 0,h.C.cell 1,h.C.cell 2,h.C.cell 3,h.C.cell 4,h.C.cell 5,h.S.cell 0,h.S.cell 1,h.R.cell 0,h.R.cell 1,h.R.free 0,h.R.free 1,h.lt⟩
theorem AL.done{N rc:Nat}{v:Int}{d:nC}{b:List gB}(h:AL w W c now a n cap)(j:dD W N d b)(m:w.1.size+1+1<N):
 dD ((W.setCell (eB (w.1.size+1+1) 0) (aB v)).setCell (eB (w.1.size+1+1) 1) (qA d (zA b) rc)) w.1.size d b/\xB w ((W.setCell (eB (w.1.size+1+1) 0) (aB v)).setCell (eB (w.1.size+1+1) 1) (qA d (zA b) rc)):=by
 have f:fB (·=w.1.size+1+1) W ((W.setCell (eB (w.1.size+1+1) 0) (aB v)).setCell (eB (w.1.size+1+1) 1) (qA d (zA b) rc)):=((fB.refl (·=w.1.size+1+1) W).setCell (Ca rfl) 0 _).setCell (Ca rfl) 1 _;exact⟨(dD.turned j f (λg k l e=>by omega)).mono (by omega),((fB.of (S:=λi=>w.1.size<=i) h.B).trans' (f.mono λi _ e=>by omega)).below (Ia _) λi o h=>by omega⟩
end
def KXR(a:fA)(X:Nat)(K:gB)(c:fA):Prop:=
 ∃M b f e d,jB c X #[pA K.N,aB K.L,qA b (zA K.M) f,qA e (zA K.Z) d] 131/\lD c a.1.size b K.M/\(∀g o,b=cA (eB g o)->g<M)/\c.ownsRow M 134 2 (qA e (zA K.Z) d) (zA K.Z) (flatK K.Z)/\(∀q,(jA.slice e (zA K.Z) d).ownBlock=cA q->q≠X)/\(∀g o,b=cA (eB g o)->K.M≠[]->g≠X)/\a.1.size<=X/\a.1.size<=M/\xB a c
def aHk{d a:fA}{K:gB}{B M:Nat}{c k:nC}{b f:Nat}(r:d.1.size<=B)(l:lD a B c K.M)(i:∀g o,c=cA (eB g o)->g<M)(m:a.ownsRow M 134 2 (qA k (zA K.Z) f) (zA K.Z) (flatK K.Z))(x:B<=M)(n:xB d a):
 KXR d a.1.size K (a.alloc (xA #[pA K.N,aB K.L,qA c (zA K.M) b,qA k (zA K.Z) f] 131)):=by
 refine⟨M,c,b,k,f,jB.new _ _ _,(l.mono r).z bC,i,hC m bC,λq u e=>?_,λg o e j v=>?_,n.size,by omega,aC n bC⟩;have:=(m.lt q u).2;omega;obtain h|⟨w,y,p,t,b,_,s,_⟩:=l;exact j h;rw[b]at e;simp only[Qa,Addr.mk.injEq,Cc]at e;have:=bB s;omega
def ru{l a:fA}{K:gB}{B M X:Nat}{d f:nC}{b c:Nat}(w:lD a B d K.M)(m:∀g o,d=cA (eB g o)->g<M)(n:a.ownsRow M 134 2 (qA f (zA K.Z) c) (zA K.Z) (flatK K.Z))(H:X<B)(G:B<=M)(z:l.1.size<=X)(r:jB a X #[pA ⟨#[]⟩,aB 0,qA aA 0 0,qA aA 0 0] 131)(A:xB l a):
 KXR l X K ((((a.setCell (eB X 0) (pA K.N)).setCell (eB X 1) (aB K.L)).setCell (eB X 2) (qA d (zA K.M) b)).setCell (eB X 3) (qA f (zA K.Z) c)):=by
 have y:fB (·=X) a ((((a.setCell (eB X 0) (pA K.N)).setCell (eB X 1) (aB K.L)).setCell (eB X 2) (qA d (zA K.M) b)).setCell (eB X 3) (qA f (zA K.Z) c)):=((((fB.refl (·=X) a).setCell (Ca rfl) 0 _).setCell (Ca rfl) 1 _).setCell (Ca rfl) 2 _).setCell (Ca rfl) 3 _;refine⟨M,d,b,f,c,?_,?_,m,y.row n (λq v e=>by have:=(n.lt q v).1;omega),λq v e=>by have:=(n.lt q v).1;omega,λg o e u E=>?_,z,by omega,ZM A z⟩;have:=(((r.set 0 (pA K.N)).set 1 (aB K.L)).set 2 (qA d (zA K.M) b)).set 3 (qA f (zA K.Z) c);simpa using this
 .rcases w with h|⟨g,o,k,t,rfl,p,s,h⟩
  .exact Ca h
  have x:=y.block g (bB s) (by omega);have C:∀j,((((a.setCell (eB X 0) (pA K.N)).setCell (eB X 1) (aB K.L)).setCell (eB X 2) (qA (cA (eB g o)) (zA K.M) b)).setCell (eB X 3) (qA f (zA K.Z) c)).cell? (eB g j)=a.cell? (eB g j):=λj=>fA.cell?_of_block x;exact La ⟨g,o,k,t,rfl,by omega,x.trans s,λi D=>by simp only[C];exact h i D⟩
 obtain h|⟨F,I,k,t,b,p,s,_⟩:=w;exact u h;rw[b]at e;simp only[Qa,Addr.mk.injEq,Cc]at e;omega
def ig{S:Nat->Prop}{w W:fA}{B:Nat}{q:nC}{a:List kB}(h:lD w B q a)(d:fB S w W)(f:∀g o,q=cA (eB g o)->a≠[]->¬S g):mC W q a:=by
 obtain h|⟨g,o,e,t,rfl,n,b,h⟩:=h;exact Ca h
 by_cases c:a=[]
 .exact Ca c
 have m:=d.block g (bB b) (f g o rfl c);have k:∀j,W.cell? (eB g j)=w.cell? (eB g j):=λj=>fA.cell?_of_block m;exact La ⟨g,o,rfl,by have:=d.size;have:=bB b;omega,λi l=>by simp only[k];exact h i l⟩
def aCy{l:List kB}(e:tC (·.s) l){k:pB}{n:Int}{i:Nat}(b:i<zA l)(h:l[i].s=k):fC (·.s) ⟨k,n⟩ l=l.set i ⟨k,n⟩:=by
 induction l generalizing i with
 |nil=>simp at b
 |cons p r g=>
  cases i with
  |zero=>
   have d:p.s=k:=h;rw[fC,Ja (by show ¬bK p.s k=eA;rw[d,sN];simp),Ma (by exact(gE _ _).2 d)];rfl
  |succ i=>
   have a:i<zA r:=by simpa using b
   have c:r[i].s=k:=by simpa using h
   have f:bK p.s k=eA:=by rw[<-c];exact e.head _ (Gb a)
   rw[fC,Ma f,g e.tail a c];rfl
def wm(l:List kB)(i:Nat)(b:i<zA l)(n:Int):flatK (l.set i ⟨l[i].s,n⟩)=(flatK l).set (i*2+1) (aB n):=by
 induction l generalizing i with
 |nil=>simp at b
 |cons p r c=>
  cases i with
  |zero=>rfl
  |succ i=>
   have a:i<zA r:=by simpa using b
   have:=c i a;simp only[flatK,Jd,Xc,Ec]at this |-
   rw[this];have e:(i+1)*2+1=(i*2+1)+2:=by omega
   rw[e];rfl
def aEw{w:fA}{M g n a:Nat}{f:List jA}{j:Nat}{v:jA}(h:w.ownsRow M 134 2 (qA (vB g) n a) n f):(w.setCell (eB g j) v).ownsRow M 134 2 (qA (vB g) n a) n (f.set j v):=by
 refine⟨by rw[Pd];exact h.1,?_⟩;obtain⟨e,_⟩|⟨q,d,b,e,o,p,i,k,l,m⟩:=h.2
 .cases e
 simp only[jA.slice.injEq,Qa,Addr.mk.injEq,Cc]at e;obtain⟨rfl,_,rfl⟩:=e;have c:jB w g b 134:=p;refine La ⟨g,a,b.setIfInBounds j v,rfl,o,c.set j v,i,k,by simp[l],?_⟩;rw[Jf,List.take_set,m]
def iz{w:fA}{M n b:Nat}{a:nC}{f:List jA}(h:w.ownsRow M 134 2 (qA a n b) n f)(i:0<n):∃g,a=vB g:=by
 obtain⟨_,e⟩|⟨g,c,d,e,_⟩:=h.2;omega;simp only[jA.slice.injEq]at e;exact⟨g,e.1⟩
def aLz{w:fA}{M n b:Nat}{a:nC}{i:List jA}(h:w.ownsRow M 134 2 (qA a n b) n i):(a=aA/\b=0/\n=0)\/∃g,a=vB g:=by
 obtain⟨e,f⟩|⟨g,c,d,e,_⟩:=h.2;simp only[jA.slice.injEq]at e;exact Ca ⟨e.1,e.2.2,f⟩;simp only[jA.slice.injEq]at e;exact La ⟨g,e.1⟩
def aIl{w:fA}{M n a g:Nat}{f:List jA}(h:w.ownsRow M 134 2 (qA (vB g) n a) n f):n<=a:=by
 obtain⟨e,_⟩|⟨i,b,c,e,_,_,d,_⟩:=h.2
 .cases e
 simp only[jA.slice.injEq]at e;rw[e.2.2];exact d
def aIu{w:fA}{M g a j:Nat}{l:List kB}(h:w.ownsRow M 134 2 (qA (vB g) (zA l) a) (zA l) (flatK l))(n:j<=zA l):jS w (vB g) j (flatK (l.take j))/\jS w (cA (eB g (j*2))) (zA l-j) (flatK (l.drop j)):=by
 have p:=bE h;by_cases d:l=[]
 .subst d;exact⟨Ca (by simpa using n),Ca (by simp)⟩
 obtain m|⟨q,o,f,t,e,_,_,c⟩:=p;exact absurd m d;simp only[Qa,Addr.mk.injEq,Cc]at e;obtain⟨rfl,rfl⟩:=e;refine⟨La ⟨_,rfl,xN λi b=>?_⟩,La ⟨_,rfl,xN λi b=>?_⟩⟩;rw[Hb]at b;have:=c i (by omega);simpa[Ue]using this;rw[Rc]at b;have:=c (j+i) (by omega);have k:0+(j+i)*2=j*2+i*2:=by omega
 rw[k]at this;simpa[Cg]using this
def DI{P:Program}(w:fA){D:Array Oper}{p:List Oper}{o:Oper}{a:Act}{Q:Exit->Act->fA->Prop}(A:o.guard=aA)(s x:Operand)(t:TypeId)
(X:o.op=.call { callee:=.builtin .append,args:=#[s,x],argTypes:=#[t,t] })
(base:Nat)(e:TypeId)(i:TypeInfo)(z:jA)(b f:Nat)(Z:P.underlying t=cA (.slice e))(V:P.info? e=cA i)(O:i.zero=cA z)
(r:i.size=b)(H:i.bytes=f)(J:z.cells.size=b)(I:0<b)
(y n F:Nat)(K:List jA)(Y:a.eval s=qA (vB y) n F)(B:w.ownsRow base e b (qA (vB y) n F) n K)
(E:nC)(m c:Nat)(d:List jA)(hx:a.eval x=qA E m c)(W:zA d=m*b)(C:jS w E m d)(L:∀u∈d,u.oneCell'=eA)
(G:n+m<=maxLen)(l:(n+m)*f<=140737488355328)(q:base<=w.1.size)
(h:∀g j v,v.ownsRow base e b (qA (vB g) (n+m) j) (n+m) (K++d)->Below base w v->(∀k,k<w.1.size->k≠y->v.heap[k]?=w.heap[k]?)->base<=g->(g=y\/g=w.1.size)->g<v.1.size->wpList P D Q p (a.put o.dst (qA (vB g) (n+m) j)) v):wpList P D Q (o::p) a w:=
 wpList_plain A λ_ U=>TA w A s x t X base e i z b f Z V O r H J I y n F K Y B E m c d hx W C L G l q λg j v M N O R S T=>U _ _ (h g j v M N O R S T)
def TO{w a:fA}{cs:Array jA}{t:TypeId}(h:Below (w.alloc (xA cs t)).drew.1.size (w.alloc (xA cs t)).drew a):jB a w.1.size cs t:=(jB.new w cs t).z ⟨h.os,h.tape,h.output,h.size,h.block⟩
def qp{s:pB}(h:uC s=eA):s.toList.isEmpty=dA:=by
 refine rV.2 λe=>?_;simp only[uC,Sa,Ab]at h;rw[e,Nf]at h;omega
structure SC(w:World)(c:lC)(now:Int)(a:nC)(cap:Nat)(ts:List gB)(tenant:pB)(tn:gB):Prop where
 ok:∀W,xB w W→cF 44 #[uA #[aB c.w,aB c.tl,aB c.ml,aB c.sh,aB c.ha,aB c.sg],uA #[aB now,qA a (zA ts) cap]] W (sA eA)
 nm:∀W,rI 47 #[pA tenant] W (sA eA)
 sm:∀W,xB w W→iA prog 101 #[uA #[aB c.w,aB c.tl,aB c.ml,aB c.sh,aB c.ha,aB c.sg],uA #[aB now,qA a (zA ts) cap]] W λe w'=>∃a' cap',e=vA (uA #[aB now,qA a' (zA ts) cap'])∧dD w' W.1.size a' ts∧xB W w'
 te:∀W,xB w W→iA prog 56 #[uA #[aB now,qA a (zA ts) cap],pA tenant] W λe w'=>(∃a1 c1 a2 c2,e=vA (uA #[pA tn.N,aB tn.L,qA a1 (zA tn.M) c1,qA a2 (zA tn.Z) c2])∧mC w' a1 tn.M∧mC w' a2 tn.Z)∧xB W w'
 kp:∀W a1 a2 c1 c2,mC W a1 tn.M→mC W a2 tn.Z→iA prog 112 #[uA #[pA tn.N,aB tn.L,qA a1 (zA tn.M) c1,qA a2 (zA tn.Z) c2],aB now,aB c.w] W λe w'=>∃M a1 c1 a2 c2,e=vA (uA #[pA tn.N,aB tn.L,qA a1 (zA tn.M) c1,qA a2 (zA tn.Z) c2])∧W.1.size≤M∧lD w' W.1.size a1 tn.M∧(∀g o,a1=cA (eB g o)→g<M)∧w'.ownsRow M 134 2 (qA a2 (zA tn.Z) c2) (zA tn.Z) (flatK tn.Z)∧M≤w'.1.size∧xB W w'
 wi:∀W L ms ss q1 q2 e1 e2,xB w W→mC W q1 ms→mC W q2 ss→WT ⟨tn.N,L,ms,ss⟩→iA prog 111 #[uA #[aB c.w,aB c.tl,aB c.ml,aB c.sh,aB c.ha,aB c.sg],uA #[aB now,qA a (zA ts) cap],aB now,uA #[pA tn.N,aB L,qA q1 (zA ms) e1,qA q2 (zA ss) e2]] W λe w'=>∃a' cap',e=vA (uA #[aB now,.slice a' (zA (kD c.w now (fC (·.N) ⟨tn.N,L,ms,ss⟩ ts))) cap'])∧dD w' W.1.size a' (kD c.w now (fC (·.N) ⟨tn.N,L,ms,ss⟩ ts))∧xB W w'
 fit:WT tn
 len:zA tn.M≤1900000∧zA tn.Z≤1900000
 rm:tC (·.s) tn.M
 rs:tC (·.s) tn.Z
 now0:0≤now∧now≤1000000000000
def aJr{c:lC}{l:Int}{a:nC}{cap:Nat}{k:List gB}{j:pB}{w:fA}(v:aD w a k)(o:zA k+eC k<=1900000)(P:j.size<=1900000)(t:iC c l k=eA)(C:uC j=eA):SC w c l a cap k j (rB k j):=by
 obtain⟨d,b,f,g⟩:=gR o;obtain⟨-,r,z,-,m⟩:=bG t;obtain⟨-,-,-,R,S⟩:=JG (lW o) P;have p:WT (rB k j)/\tC (·.s) (rB k j).M/\tC (·.s) (rB k j).Z:=by
  rcases dM (ts:=k) (name:=j) with⟨u,_⟩|⟨e,_⟩;obtain ⟨-,N,O,-⟩:=aK (kJ m _ u);have E:=IN (n:=zA (rB k j).M) N (Ia _);have F:=JA (n:=zA (rB k j).Z) O (Ia _);rw[Rb]at E F;exact⟨MH t o _ u,E,F⟩;rw[e];exact⟨⟨Oa _,Oa _,λi h=>absurd h (by simp)⟩,Gd,Gd⟩
 refine⟨λW q=>?_,λW=>?_,λW q=>uS c l a cap k W (v.z q) t o,λW q=>tW l a cap k j W (v.z q) (by omega),λW G H I J A B=>?_,λW L D h T U K M q A B y=>?_,p.1,⟨R,S⟩,p.2.1,p.2.2,r,z⟩;have:=tH c l a cap k W (v.z q) b (by omega);rw[t]at this;exact this;have:=rG j W (by unfold maxLen;omega);rw[C]at this;exact this;have:=KK (rB k j) G H I J l c.w W A B (by omega) (by omega) r (by omega) p.1.2.2;rw[AA (DG m)]at this;exact this;have:=CL c l l a cap k ⟨(rB k j).N,L,D,h⟩ T U K M W (v.z q) A B (by omega) (λx Q=>Q.elim (λe=>e ▸ y) (MH t o x)) r (by omega);rw[show(⟨(rB k j).N,L,D,h⟩:gB).N.toList.isEmpty=dA from by show(rB k j).N.toList.isEmpty=dA;rw[gF];exact qp C,aFo (gL m)]at this;exact this
def SC.wn{w:fA}{c:lC}{b:Int}{a:nC}{f:Nat}{n k:List gB}{d:pB}{j:gB}(h:SC w c b a f n d j){W:fA}{L:Int}{i C:List kB}{l m:nC}{p q r s:Nat}(x:kD c.w b (fC (·.N) ⟨j.N,L,i,C⟩ n)=k)(u:zA i=r)(v:zA C=s)(y:xB w W)(A:mC W l i)(B:mC W m C)(z:WT ⟨j.N,L,i,C⟩):
 iA prog 111 #[uA #[aB c.w,aB c.tl,aB c.ml,aB c.sh,aB c.ha,aB c.sg],uA #[aB b,qA a (zA n) f],aB b,uA #[pA j.N,aB L,qA l r p,qA m s q]] W λe t=>∃o g,e=vA (uA #[aB b,qA o (zA k) g])/\dD t W.1.size o k/\xB W t:=by
 subst x u v;exact h.wi W L i C l m p q y A B z
def AL.kin{w W:fA}{c:lC}{e:Int}{a:nC}{n d:Nat}(h:AL w W c e a n d):∀b,xB W b->b.cell? (eB (w.1.size+1) 0)=cA (aB e)/\b.cell? (eB (w.1.size+1) 1)=cA (qA a n d)/\b.cell? (eB w.1.size 0)=cA (aB c.w):=λb f=>by
 have k:=h.z f;exact⟨k.S.cell 0,k.S.cell 1,k.C.cell 0⟩
section
open Go.Maps
def TD(V:Int×List gB×Nat)(w:fA)(e:Ending)(c:fA):Prop:=
 ∃a b,e=vA (yA #[uA #[aB V.1,qA a (zA V.2.1) b],aB (V.2.2:Nat)])/\dD c w.1.size a V.2.1/\xB w c
end
def oz(N:sC)(R:xD×jG×Nat)(S:Int×List gB×Bool):sC×Int:=
 if R.2.2=0 then(⟨R.1,R.2.1,S.1,S.2.1,N.lsn+1,dA,eA⟩,0)
 else if R.2.2=22\/R.2.2=23\/R.2.2=21 then(N,R.2.2)
 else(⟨R.1,R.2.1,N.now,N.ts,N.lsn,eA,!R.1.dn⟩,R.2.2)
def nF(c:lC)(N:sC)(rs:List nE):sC×Int:=
 if lG c=dA then(bL,61) else if bf N=dA then(N,60)
 else if (vG c N.now N.ts rs).2.2=dA\/yB N.lsn 0 999999999999999=dA\/oO (N.lsn+1) rs=lA then(N,62)
 else oz N (qE N.d N.l (oO (N.lsn+1) rs) c.sg) (vG c N.now N.ts rs)
section
variable {c:lC} {N:sC} {rs:List nE} {R:xD×jG×Nat} {S:Int×List gB×Bool}
theorem aJp(h:lG c=dA):nF c N rs=(bL,61):=by unfold nF;rw[Ma h]
theorem aDw(h:lG c=eA):bf N=dA/\nF c N rs=(N,60)\/bf N=eA/\((vG c N.now N.ts rs).2.2=dA/\nF c N rs=(N,62)\/(vG c N.now N.ts rs).2.2=eA/\(yB N.lsn 0 999999999999999=dA/\nF c N rs=(N,62)\/yB N.lsn 0 999999999999999=eA/\(oO (N.lsn+1) rs=lA/\nF c N rs=(N,62)\/(oO (N.lsn+1) rs).toList.isEmpty=dA/\nF c N rs=oz N (qE N.d N.l (oO (N.lsn+1) rs) c.sg) (vG c N.now N.ts rs)))):=by
 unfold nF;rw[Ja (by simp[h])];cases h1:bf N
 .exact Ca ⟨rfl,Ma rfl⟩
 refine La ⟨rfl,?_⟩;rw[Ja (by simp)];cases h2:(vG c N.now N.ts rs).2.2
 .exact Ca ⟨rfl,Ma (Ca rfl)⟩
 refine La ⟨rfl,?_⟩;cases h3:yB N.lsn 0 999999999999999
 .exact Ca ⟨rfl,Ma (La (Ca rfl))⟩
 refine La ⟨rfl,?_⟩;by_cases a:oO (N.lsn+1) rs=lA
 .exact Ca ⟨a,Ma (La (La a))⟩
 exact La ⟨rV.2 a,Ja (by simp[a])⟩
theorem aJq:(((R.2.2:Int)==0)=eA/\((R.2.2:Int)==22)=dA/\((R.2.2:Int)==23)=dA/\((R.2.2:Int)==21)=dA/\oz N R S=(⟨R.1,R.2.1,S.1,S.2.1,N.lsn+1,dA,eA⟩,0))\/
 (((R.2.2:Int)==0)=dA/\¬(R.2.2:Int)=0/\((((R.2.2:Int)==22)=eA\/((R.2.2:Int)==22)=dA/\(((R.2.2:Int)==23)=eA\/((R.2.2:Int)==23)=dA/\((R.2.2:Int)==21)=eA))/\oz N R S=(N,(R.2.2:Int))\/
   ((R.2.2:Int)==22)=dA/\((R.2.2:Int)==23)=dA/\((R.2.2:Int)==21)=dA/\oz N R S=(⟨R.1,R.2.1,N.now,N.ts,N.lsn,eA,!R.1.dn⟩,(R.2.2:Int)))):=by
 unfold oz;by_cases a:R.2.2=0
 .exact Ca ⟨by simp[a],by simp[a],by simp[a],by simp[a],by simp[a]⟩
 refine La ⟨by simp;omega,by omega,?_⟩;by_cases b:R.2.2=22\/R.2.2=23\/R.2.2=21
 .refine Ca ⟨?_,by simp[a,b]⟩;rcases b with h|h|h<;>simp[h]
 refine La ⟨by simp;omega,by simp;omega,by simp;omega,by simp[a,b]⟩
end
def BZ:∀rs:List nE,(aN rs).size=12*zA rs+eD rs
 |[]=>rfl
 |r::q=>by
  have:=BZ q;show(XW r++aN q).size=12*(zA q+1)+(r.T.size+r.X.size+eD q)
  rw[Ka,wh];omega
def ri{a:Int}{rs:List nE}(h:zA rs+eD rs<=1400000):(oO a rs).size<=1900000:=by
 by_cases b:fY a rs
 .have:=b.2.2.2.1;rw[MD b,Ka,DT,BZ];omega
 rw[MC b];exact Oa _
def KB{D:xD}{L:jG}{f:pB}(h:JK D.fs):JK (mH D L f).1.fs:=by
 have b:(sH L.last).size<=maxLen:=by have:=fO (L.last);unfold maxLen;omega
 have a:JK (cE D (bI L.last f)).1.fs:=dV h b (Oa _);have d:=dV (op:=jR L.last) a b (Oa _);unfold mH;split;exact a;split<;>exact d
def KA{D:xD}{L:jG}{p:pB}{b:Int}(h:JK D.fs):JK (qE D L p b).1.fs:=by
 have a:JK (cE D (sG (L.last+1))).1.fs:=dV h (by have:=fO (L.last+1);unfold maxLen;show(sH (L.last+1)).size<=_;omega) (Oa _);unfold qE;repeat' split
 all_goals first|exact h|exact a|exact KB a|exact KB h
structure aFv(w:World)(a b:nC)(N:sC)(ar:nC)(rs:List nE):Prop where
 files:uB w a N.d.fs
 fit:JK N.d.fs
 tens:aD w b N.ts
 recs:yI w ar rs
 bulk:zA N.ts+eC N.ts+zA rs+eD rs≤1400000
 rng:WV rs
 lsn:WU N.lsn
def dP{a:List gB}(h:zA a+eC a<=1400000):∀t∈a,zA t.M<=2000000/\zA t.Z<=2000000:=λt e=>by
 obtain⟨i,d,rfl⟩:=Ib e;have b:=mK a i d;have f:=yM a (i+1);unfold fF at b;omega
def aIj(r:nE):jA:=uA #[aB r.K,pA r.T,pA r.X,aB r.U]
def rU(r:nE):jA:=if r.K=1 then .iface 311 (uA #[aB 1,pA r.T,pA r.X]) else if r.K=2 then .iface 313 (uA #[aB 2,pA lA,aB r.U]) else if r.K=3 then .iface 315 (uA #[aB 3,pA r.T,pA r.X,aB r.U]) else .nilIface
def gV(r:nE):Bool:=decide (r.K=1\/r.K=2\/r.K=3)
def zO(r:nE)(w:fA):
 cF 197 #[aIj r] w (yA #[rU r,sA (gV r)]):=by
 obtain⟨a,g,h,f⟩:=r;unfold aIj;by_cases b:a=1
 .subst b;go_enter func197,ntmps197;go_wp2;go_ret2;exact⟨rfl,bC⟩
 by_cases c:a=2
 .subst c;go_enter func197,ntmps197;go_wp2;go_ret2;exact⟨rfl,bC⟩
 by_cases d:a=3
 .subst d;go_enter func197,ntmps197;go_wp2;go_ret2;exact⟨rfl,bC⟩
 have E:cB (rU ⟨a,g,h,f⟩=.nilIface/\gV ⟨a,g,h,f⟩=dA):=⟨by unfold rU;simp[b,c,d],by unfold gV;simp[b,c,d]⟩
 go_enter func197,ntmps197;go_wp2;go_ret2;exact⟨by rw[E.o.1,E.o.2];rfl,bC⟩
def oW(a b:Int)(c d:pB)(w:fA):
 cF 380 #[uA #[aB a,pA c],pA d,aB b] w (uA #[aB a,pA c,pA d,aB b]):=by
 go_enter func380,ntmps380;go_wp2;exact bodyPost_ret (v:=uA #[aB a,pA c,pA d,aB b]) (by simp[results,results380,go_sem]) rfl ⟨rfl,aC bC bC⟩
def xb(d:Int)(f g:pB)(w:fA):
 cF 381 #[uA #[aB d,pA f,pA g]] w (uA #[aB d,pA f,pA g,aB 0]):=by
 go_enter func381,ntmps381;go_wp2_with fail;apply jC (oW _ _ _ _ _);intro c b;have h:cB _:=aC (aC bC bC) b;have a:cB (jB c (w.1.size+1) #[aB 0,pA lA,pA lA,aB 0] 119):=by have:=(jB.new (w.alloc (xA #[aB d,pA f,pA g] 311)) #[aB 0,pA lA,pA lA,aB 0] 119).z b;exact dB (by simpa using this)
 have i:yC c (w.1.size+1) 0 (aB 0):=a.o.cell 0;have j:yC c (w.1.size+1) 1 (pA lA):=a.o.cell 1;have k:yC c (w.1.size+1) 2 (pA lA):=a.o.cell 2;have l:yC c (w.1.size+1) 3 (aB 0):=a.o.cell 3;have n:=a.o.free 0;have o:=a.o.free 1;have p:=a.o.free 2;have q:=a.o.free 3;clear b;go_wp2;refine bodyPost_ret (v:=uA #[aB d,pA f,pA g,aB 0]) (by simp[results,results381,go_sem,i,j,k,l]) rfl ⟨rfl,?_⟩;exact(((h.o.setCell (by simp) _).setCell (by simp) _).setCell (by simp) _).setCell (by simp) _
def xc(d f:Int)(g:pB)(w:fA):
 cF 382 #[uA #[aB d,pA g,aB f]] w (uA #[aB d,pA g,pA lA,aB f]):=by
 go_enter func382,ntmps382;go_wp2_with fail;apply jC (oW _ _ _ _ _);intro c b;have h:cB _:=aC (aC bC bC) b;have a:cB (jB c (w.1.size+1) #[aB 0,pA lA,pA lA,aB 0] 119):=by have:=(jB.new (w.alloc (xA #[aB d,pA g,aB f] 313)) #[aB 0,pA lA,pA lA,aB 0] 119).z b;exact dB (by simpa using this)
 have i:yC c (w.1.size+1) 0 (aB 0):=a.o.cell 0;have j:yC c (w.1.size+1) 1 (pA lA):=a.o.cell 1;have k:yC c (w.1.size+1) 2 (pA lA):=a.o.cell 2;have l:yC c (w.1.size+1) 3 (aB 0):=a.o.cell 3;have n:=a.o.free 0;have o:=a.o.free 1;have p:=a.o.free 2;have q:=a.o.free 3;clear b;go_wp2;refine bodyPost_ret (v:=uA #[aB d,pA g,pA lA,aB f]) (by simp[results,results382,go_sem,i,j,k,l];rfl) rfl ⟨rfl,?_⟩;exact(((h.o.setCell (by simp) _).setCell (by simp) _).setCell (by simp) _).setCell (by simp) _
def wt(d f:Int)(g h:pB)(w:fA):
 cF 383 #[uA #[aB d,pA g,pA h,aB f]] w (uA #[aB d,pA g,pA h,aB f]):=by
 go_enter func383,ntmps383;go_wp2_with fail;apply jC (oW _ _ _ _ _);intro c b;have i:cB _:=aC (aC bC bC) b;have a:cB (jB c (w.1.size+1) #[aB 0,pA lA,pA lA,aB 0] 119):=by have:=(jB.new (w.alloc (xA #[aB d,pA g,pA h,aB f] 315)) #[aB 0,pA lA,pA lA,aB 0] 119).z b;exact dB (by simpa using this)
 have j:yC c (w.1.size+1) 0 (aB 0):=a.o.cell 0;have k:yC c (w.1.size+1) 1 (pA lA):=a.o.cell 1;have l:yC c (w.1.size+1) 2 (pA lA):=a.o.cell 2;have m:yC c (w.1.size+1) 3 (aB 0):=a.o.cell 3;have o:=a.o.free 0;have p:=a.o.free 1;have q:=a.o.free 2;have r:=a.o.free 3;clear b;go_wp2;refine bodyPost_ret (v:=uA #[aB d,pA g,pA h,aB f]) (by simp[results,results383,go_sem,j,k,l,m]) rfl ⟨rfl,?_⟩;exact(((i.o.setCell (by simp) _).setCell (by simp) _).setCell (by simp) _).setCell (by simp) _
def fj(x : Value)(w : World) : (invoke (.fn (.method "loop.example/s02176/impl.flat") #[]) #[.iface 311 x]).run prog w = .ok (.enter 381 #[x]) w := by kernel_rfl
def fk(x : Value)(w : World) : (invoke (.fn (.method "loop.example/s02176/impl.flat") #[]) #[.iface 313 x]).run prog w = .ok (.enter 382 #[x]) w := by kernel_rfl
def fm(x : Value)(w : World) : (invoke (.fn (.method "loop.example/s02176/impl.flat") #[]) #[.iface 315 x]).run prog w = .ok (.enter 383 #[x]) w := by kernel_rfl
def XX{P:Program}(ρ:Operand->jA)(o:Oper)(r:Operand)(name:String)(a:o.op=.call { callee:=.invoke r name,args:=#[],argTypes:=#[] }){u:jA}(b:ρ r=u){n:Next}{w:fA}
(h:(invoke (.fn (.method name) #[]) #[u]).run P w=.ok n w):(execOp ρ o).run P w=.ok n w:=by
 unfold execOp;simp only[a,resolve];simp[b,h]
def ay{P:Program}{c:Array Oper}{C:fA->Prop}{Q:Act->Prop}{a:Act}{o:Oper}{b:List Oper}{f:FuncId}{args:Array jA}{v:jA}(k:Region.wanted o (yielded c a.tmps)=eA)
(j:∀w,(execOp a.eval o).run P w=.ok (.enter f args) w)(i:∀w,C w->iA P f args w (λe d=>e=vA v/\C d))(h:wpQuiet P c C Q b (a.put o.dst v)):wpQuiet P c C Q (o::b) a:=
 BigFrame.wpQuiet_want k λK g=>⟨v,λw k=>by unfold Oper.quietAt;rw[j];exact⟨rfl,i w k⟩,g _ h⟩
def kx{P:Program}{c:Array Oper}{C:fA->Prop}{Q:Act->Prop}{a:Act}{o:Oper}{b:List Oper}{v:jA}(f:Region.wanted o (yielded c a.tmps)=eA)
(e:∀w,(execOp a.eval o).run P w=.ok (.value v) w)(h:wpQuiet P c C Q b (a.put o.dst v)):wpQuiet P c C Q (o::b) a:=
 BigFrame.wpQuiet_want f λK d=>⟨v,λw f=>by unfold Oper.quietAt;rw[e];exact⟨rfl,rfl⟩,d _ h⟩
def aKm(k a n b:Int)(t c x d:pB)(W:fA):(binOp .eql 119 (uA #[aB k,pA t,pA x,aB n]) (uA #[aB a,pA c,pA d,aB b])).run prog W=.ok (sA (k==a&&(t.toList==c.toList&&(x.toList==d.toList&&n==b)))) W:=by
 rw[run_eql_struct,run_equalIn_agg W _ _ _ _ (by kernel_rfl) (by kernel_rfl)];unfold Program.fieldsOf;rw[underlying119];simp[Op.eqFields,go_sem,underlying3,underlying9];repeat' split
 all_goals simp_all
def dp(ρ:Operand->jA)(o:Oper)(p q:Operand)(g:o.op=.binOp .eql 119 p q 119){k a n c:Int}{t d x e:pB}
(h:ρ p=uA #[aB k,pA t,pA x,aB n])(i:ρ q=uA #[aB a,pA d,pA e,aB c]){b:Bool}(f:(k==a&&(t.toList==d.toList&&(x.toList==e.toList&&n==c)))=b)(W:fA):
 (execOp ρ o).run prog W=.ok (.value (sA b)) W:=by
 unfold execOp;simp only[g,h,i,Sem.run_bind,run_eqGuard_agg W _ _ _ _ _ _ (show prog.eqGuardType prog.depth 119=dA by kernel_rfl),Result.andThen_ok,aKm,f,Sem.run_pure]
def aBh{x:pB}:x.toList=ByteArray.empty.toList ↔ x.size=0:=by
 rw[ByteArray.toList_eq,ByteArray.toList_eq];constructor;intro h;show x.data.size=0;rw[<-Qg,h];rfl;intro h;have:zA x.data.toList=0:=by simpa using h
 rw[Nb.1 this];rfl
def OZ{k i r j:Int}{a c l m:pB}{p:TypeId}{s:jA}{f:FuncId}{args:Array jA}{b:Bool}(w:fA)(_h1:a.size<=1000000000)(_h2:c.size<=1000000000)
(B:cB (∀W,cF 197 #[uA #[aB k,pA a,pA c,aB i]] W (yA #[.iface p s,sA eA])))
(A : cB (∀ W, (invoke (.fn (.method "loop.example/s02176/impl.flat") #[]) #[.iface p s]).run prog W = .ok (.enter f args) W))(y : cB (∀ W, Calls prog f args W fun e n => e = .returned (.agg #[.int .i64 r, .string l, .string m, .int .i64 j]) /\ xB W n))
(z:cB ((r==k&&(l.toList==a.toList&&(m.toList==c.toList&&j==i)))=b))(E:cB (bd ⟨k,a,c,i⟩=(b&&(decide ((a.size:Int)<=255) &&decide ((c.size:Int)<=65535))))):
 cF 240 #[uA #[aB k,pA a,pA c,aB i]] w (sA (bd ⟨k,a,c,i⟩)):=by
 have o:b=dA\/b=eA/\decide ((a.size:Int)<=255)=dA\/b=eA/\decide ((a.size:Int)<=255)=eA:=by cases b<;>cases decide ((a.size:Int)<=255)<;>simp
 obtain rfl|⟨rfl,q⟩|⟨rfl,q⟩:=o
 all_goals
  try rw[q]at E
  go_enter func240,ntmps240;go_wp2_with fail;apply jC (B.o _);intro t g;have u:cB _:=aC bC g;have d:=λx:kC t=>(((jB.new w #[aB k,pA a,pA c,aB i] 119).z g).z x.h).c4;simp only[forall_and]at d;obtain⟨D,F,G,H⟩:=d;have C:=kC.there t;clear g;go_wp2_with fail;refine zB (by kernel_rfl) (by kernel_rfl) ?_;repeat (go_big_quiet_step (fail))
  refine ay (by rfl) (λW=>XX _ _ _ _ rfl rfl (A.o W)) (by rintro _ ⟨x,rfl⟩;exact oC (y.o _)) ?_;simp only[Act.put,Ud,Jd,Ze];repeat (go_big_quiet_step (fail))
  first
   |(refine kx (by rfl) (dp _ _ _ _ rfl rfl rfl z.o) ?_;simp only[Act.put,Ud,Jd,Ze];repeat (go_big_quiet_step (fail)))
   |skip
  refine wpQuiet_nil ?_;rintro _ ⟨x,rfl⟩;have v:=dB (aC u.o x.h);go_wp2;go_ret;exact⟨oB (by rw[E.o];simp),v.o⟩
def aEn{r:nE}{b:Bool}(h:(r.K=1/\r.U=0)\/(r.K=2/\r.T.size=0/\r.X.size=0)\/r.K=3 ↔ b=eA):bd r=(b&&(decide ((r.T.size:Int)<=255) &&decide ((r.X.size:Int)<=65535))):=by grind [bd,yO,VU,BB]
def xq(r:nE)(w:fA)(m:r.T.size<=1000000000)(n:r.X.size<=1000000000):
 cF 240 #[aIj r] w (sA (bd r)):=by
 obtain⟨f,c,d,b⟩:=r;by_cases j:f=1
 .subst j;exact OZ w m n (λW=>zO ⟨1,c,d,b⟩ W) (λW=>fj _ W) (λW=>xb 1 c d W) rfl (aEn (by simp;exact eq_comm))
 by_cases k:f=2
 .subst k;exact OZ w m n (λW=>zO ⟨2,c,d,b⟩ W) (λW=>fk _ W) (λW=>xc 2 b lA W) rfl (aEn (by simp only[Sa,Lg,beq_self_eq_true,true_and,Cc];rw[eq_comm (a:=ByteArray.empty.toList),eq_comm (a:=ByteArray.empty.toList),aBh,aBh];simp))
 by_cases l:f=3
 .subst l;exact OZ w m n (λW=>zO ⟨3,c,d,b⟩ W) (λW=>fm _ W) (λW=>wt 3 b c d W) rfl (aEn (by simp))
 have s:cB (∀W,cF 197 #[uA #[aB f,pA c,pA d,aB b]] W (yA #[.nilIface,sA dA])):=λW=>by
  have:=zO ⟨f,c,d,b⟩ W;have t:rU ⟨f,c,d,b⟩=.nilIface:=by unfold rU;simp[j,k,l]
  have u:gV ⟨f,c,d,b⟩=dA:=by unfold gV;simp[j,k,l]
  rw[t,u]at this;exact this
 have E:cB (bd ⟨f,c,d,b⟩=dA):=dB (BB (λv=>by obtain g|g|g:=v.2.2;exact j g.1;exact k g.1;exact l g));unfold aIj;clear j k l;go_enter func240,ntmps240;go_wp2_with fail;apply jC (s.o _);intro z i;have p:cB _:=aC bC i;have y:=kC.there z;clear i;go_wp2_with fail;refine zB (by kernel_rfl) (by kernel_rfl) ?_;repeat (go_big_quiet_step (fail))
 refine wpQuiet_nil ?_;rintro _ ⟨x,rfl⟩;have q:cB _:=aC p.o x.h;go_wp2;go_ret;exact⟨oB E.o.symm,q.o⟩
def kW(s:pB):Nat:=if s.size<=65535 then s.size+10 else s.size+1000000000
def kN:List kB->Nat
 |[]=>0
 |p::r=>kW p.s+kN r
def gX(t:gB):Nat:=t.N.size+17+kN t.M+kN t.Z
def kG:List gB->Nat
 |[]=>0
 |t::r=>gX t+kG r
def aNg(s:pB):s.size+10<=kW s:=by unfold kW;split<;>omega
theorem VO{p:kB}(l:List kB):kN (fC (·.s) p l)<=kN l+kW p.s:=by
 induction l with
 |nil=>simp[fC,kN]
 |cons q r a=>
  rw[fC];split;simp only[kN];omega;split<;>(simp only[kN];omega)
theorem FO(f:kB->Bool)(l:List kB):kN (l.filter f)<=kN l:=by
 induction l with
 |nil=>exact Ia _
 |cons q r a=>
  rw[List.filter_cons];split<;>(simp only[kN];omega)
def jX(f:gB->Bool)(l:List gB):kG (l.filter f)<=kG l:=by
 induction l with
 |nil=>exact Ia _
 |cons q r a=>
  rw[List.filter_cons];split<;>(simp only[kG];omega)
def WK{a:List gB}(f:tC (·.N) a){t:gB}{k:Nat}(h:gX t<=gX (rB a t.N)+k):kG (fC (·.N) t a)<=kG a+17+t.N.size+k:=by
 have g:gX ⟨t.N,-1,[],[]⟩=t.N.size+17:=by simp[gX,kN]
 have key:(∃q∈a,q.N=t.N/\gX t<=gX q+k)\/(gX t<=t.N.size+17+k):=by
  rcases dM (ts:=a) (name:=t.N) with⟨m,_⟩|⟨e,_⟩;exact Ca ⟨_,m,gF,h⟩;rw[e,g]at h;exact La h
 clear h g;obtain⟨q,c,d,j⟩|j:=key
 .have:kG (fC (·.N) t a)<=kG a+k:=by
   induction a with
   |nil=>cases c
   |cons p r i=>
    rw[fC];rcases Lb.1 c with rfl|c;rw[Ja (by rw[d,sN];simp),Ma ((gE _ _).2 d)];simp only[kG];omega;have b:=f.head q c;simp only[d]at b;rw[Ma b];have:=i f.tail c;simp only[kG];omega
  omega
 .have:∀l:List gB,kG (fC (·.N) t l)<=kG l+gX t:=λl=>by
   induction l with
   |nil=>simp[fC,kG]
   |cons p r i=>
    rw[fC];split;simp only[kG];omega;split<;>(simp only[kG];omega)
  have:=this a;omega
def aKd{c:List gB}{a key:pB}{b:Int}:gX (sI (rB c a) key b)<=gX (rB c (sI (rB c a) key b).N)+kW key:=by grind [gX,sI,rB,kW,gF,VO]
def aLg{d:List gB}{b a:pB}{c:Int}:gX (pH (rB d b) a c)<=gX (rB d (pH (rB d b) a c).N)+kW a:=by grind [gX,pH,rB,kW,kN,sE,sM,gF,VO,FO]
def aLb{win now:Int}(a:List gB):kG (kD win now a)<=kG a:=by
 have d:=jX (λt=>!xE t) (a.map (oE win now));have e:kG (a.map (oE win now))<=kG a:=by
  induction a with
  |nil=>exact Ia _
  |cons t r c=>
   have:=FO (λp=>decide (now-p.n<win)) t.Z;have b:=c (jX _ _);simp only[Fc,kG,gX,oE]at b |-
   omega
 unfold kD;omega
def aIv{c:lC}{b:Int}{a:List gB}(h:iC c b a=eA)(r:nE):kG (vD c b a r).2.1<=kG a+17+r.T.size+kW r.X:=by
 have g:=gL (bG h).2.2.2.2;have d:kG a<=kG a+17+r.T.size+kW r.X:=by omega
 have f:kG (fC (·.N) (sI (rB a r.T) r.X b) a)<=kG a+17+r.T.size+kW r.X:=by
  have:=WK g (t:=sI (rB a r.T) r.X b) aKd;have e:(sI (rB a r.T) r.X b).N=r.T:=gF;rw[e]at this;omega
 have i:kG (fC (·.N) (pH (rB a r.T) r.X r.U) a)<=kG a+17+r.T.size+kW r.X:=by
  have:=WK g (t:=pH (rB a r.T) r.X r.U) aLg;have e:(pH (rB a r.T) r.X r.U).N=r.T:=by rw[sM,gF]
  rw[e]at this;omega
 unfold vD;split
 .unfold fJ;split
  .exact d
  split;exact f;generalize (if (rB a r.T).L = -1 then c.tl else(rB a r.T).L)=j;split;exact d;split;exact d;exact f
 split
 .unfold xI;split
  .exact d
  exact Ua (aLb (win:=c.w) (now:=b+r.U) a) d
 split
 .unfold bQ;split
  .exact d
  split;exact Ua (jX _ a) d;split;exact d;exact i
 exact d
def aFb{c:lC}:∀{rs:List nE}{a:Int}{b:List gB},iC c a b=eA->eD rs<=65535->kG (bF c a b rs).2.1<=kG b+27*zA rs+eD rs/\((bF c a b rs).2.2=eA->iC c (bF c a b rs).1 (bF c a b rs).2.1=eA)
 |[],a,b,h,_=>⟨by simp[bF,eD],λ_=>h⟩
 |r::rs,a,b,h,f=>by
  have i:=aIv h r;simp only[eD]at f;have j:kW r.X=r.X.size+10:=Ma (by omega);rw[bF];simp only[Zb,eD];split
  .rename_i g;have d:=aFb (rs:=rs) (gT h g) (by omega);exact⟨by omega,d.2⟩
  exact ⟨by show kG (vD c a b r).2.1<=_;omega,λe=>by cases e⟩
def xS:∀a:List kB,zA a+fE a<=kN a/\(xG a).size<=kN a/\(kN a<1000000000->∀p∈a,p.s.size<=65535)
 |[]=>⟨Ia _,Ia _,λ_ p d=>by cases d⟩
 |p::r=>by
  obtain⟨e,f,c⟩:=xS r;have g:=aNg p.s;refine⟨by simp only[Zb,fE,kN];omega,?_,λh q b=>?_⟩;rw[xG,OA,Ka,Ka,eF,nB,kN];omega;rw[kN]at h;rcases Lb.1 b with rfl|b
  .unfold kW at h;split at h
   .assumption
   omega
  exact c (by omega) q b
def iX:∀a:List gB,zA a+eC a<=kG a/\(wF a).size<=kG a/\(kG a<1000000000->∀t∈a,kN t.M<1000000000/\kN t.Z<1000000000)
 |[]=>⟨Ia _,Ia _,λ_ p d=>by cases d⟩
 |t::r=>by
  obtain⟨e,f,c⟩:=iX r;have g:=xS t.M;have h:=xS t.Z;refine⟨by simp only[Zb,eC,fF,kG,gX];omega,?_,λh q b=>?_⟩;rw[wF,mU,MR];simp only[Ka,sF,nB,kG,gX];omega;rw[kG,gX]at h;rcases Lb.1 b with rfl|b;exact ⟨by omega,by omega⟩;exact c (by omega) q b
def QY{c:lC}{a lsn:Int}{b:List gB}(h:iC c a b=eA)(m:kG b<=1000000)(n:0<=lsn)(o:lsn<=1000000000000000):LI lsn b/\(yN lsn a b).size<=kG b+28/\(yN lsn a b).size≠0/\um b/\GN a:=by
 obtain⟨y,p,q,_,r⟩:=bG h;have g:∀t∈b,cP c.w a t=eA:=kJ r;have k:LI lsn b:=⟨n,o,λi f=>by
  obtain⟨l,m⟩:=(iX b).2.2 (by omega) _ (Gb f);obtain⟨s,_⟩:=GG (g _ (Gb f));refine⟨?_,λj d=>(xS _).2.2 l _ (Gb d),λj d=>(xS _).2.2 m _ (Gb d)⟩;simp only[uC,Sa,Ab]at s;omega⟩
 have z:=(iX b).2.1;have e:(yN lsn a b).size=28+(wF b).size:=by
  rw[MP k,iN,GB];simp only[Ka,nB];show 4+8+8+4+_+4=_;omega
 refine⟨k,by omega,by omega,λi f=>?_,by unfold GN;omega⟩;obtain⟨_,u,v,x,_⟩:=GG (g _ (Gb f));simp only[yB,Sa,Ab]at u;refine⟨⟨by omega,by omega⟩,λj d=>?_,λj d=>?_⟩;have:=((MJ v).1 _ (Gb d)).2;simp only[yB,Sa,Ab]at this;exact⟨by omega,by omega⟩;have:=((FY x).1 _ (Gb d)).2.1;simp only[yB,Sa,Ab]at this;exact⟨by omega,by omega⟩
