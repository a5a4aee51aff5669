import Derived.Test.YtiegonaogehghaaGreatDoorJ20
import Derived.Test.YtiegonaogehghaaGreatDoorJ23
import Derived.Test.YtiegonaogehghaaGreatDoorJ26
set_option maxRecDepth 100000
set_option maxHeartbeats 4000000
set_option linter.defProp false
open Bool renaming true->dA,false->cA
open Option renaming none->aA,some->bA
open ByteArray renaming empty->kA
open List renaming length->yA
namespace Go.Proofs.YtiegonaogehghaaGreatDoor
open Go renaming World->eA,Calls->gA,Value->iA
open Ending renaming returned->uA
open Value renaming tuple->xA,agg->tA,slice->pA,bool->qA,string->oA
open Obj renaming cells->vA
open Go.RowKit Tryz
def sO(a:List iB)(k:Nat)(h:k<yA a):a[k].s.size<=yD a:=by
 have b:=qN a k h;have c:=gM a (k+1);omega
def rP{ts:List fB}(h:yA ts+aC ts<=1900000):aFz ts 1900000/\aFy ts/\True/\aMq ts:=by
 have f:∀i(a:i<yA ts),aF ts[i]<=1900000:=λi a=>by have:=gT ts i a;omega
 have c:∀i(a:i<yA ts),ts[i].N.size<=1900000/\yA ts[i].M<=1900000/\yA ts[i].Z<=1900000/\yD ts[i].M<=1900000/\yD ts[i].Z<=1900000:=λi a=>by have:=f i a;unfold aF at this;omega
 have b:∀i(a:i<yA ts),(∀j(e:j<yA ts[i].M),ts[i].M[j].s.size<=1000000000)/\(∀j(e:j<yA ts[i].Z),ts[i].Z[j].s.size<=1000000000):=λi a=>
  ⟨λj d=>by have:=sO _ j d;have:=c i a;omega,λj d=>by have:=sO _ j d;have:=c i a;omega⟩
 refine⟨λi a=>⟨?_,(b i a).1,(b i a).2,?_,?_,?_⟩,λi a=>⟨?_,(b i a).1,(b i a).2,?_,?_⟩,trivial,λi a=>⟨?_,?_⟩⟩<;>(have:=c i a;unfold maxLen at *;omega)
def aMp(a:List fB):Prop:=∀t∈a,t.N.size<=maxLen/\(∀i(h:i<yA t.M),t.M[i].s.size<=maxLen)/\(∀i(h:i<yA t.Z),t.Z[i].s.size<=maxLen)/\yA t.M<=2000000/\yA t.Z<=2000000
def nT(V:Int×List fB×Bool)(w:eA)(e:Ending)(c:eA):Prop:=
 ∃a b,e=uA (xA #[tA #[zA V.1,pA a (yA V.2.1) b],qA V.2.2])/\zC c w.1.size a V.2.1/\tB w c
def aNz(x:fB):Prop:=x.N.size<=1900000/\(∀p∈x.M,p.s.size<=1900000)/\(∀p∈x.Z,p.s.size<=1900000)/\yA x.M<=1900001/\yA x.Z<=1900001
def lW{ts:List fB}(h:yA ts+aC ts<=1900000):∀x∈ts,x.N.size<=1900000/\(∀p∈x.M,p.s.size<=1900000)/\(∀p∈x.Z,p.s.size<=1900000)/\yA x.M<=1900000/\yA x.Z<=1900000:=by
 intro x e;obtain⟨i,d,rfl⟩:=Ib e;have c:=gT ts i d;unfold aF at c;refine⟨by omega,λp b=>?_,λp b=>?_,by omega,by omega⟩;obtain ⟨j,a,rfl⟩:=Ib b;have:=sO _ j a;omega;obtain ⟨j,a,rfl⟩:=Ib b;have:=sO _ j a;omega
def aGz{b:List fB}(h:∀x∈b,aNz x):aMp b:=λx e=>by
 obtain⟨f,c,d,g,j⟩:=h x e;exact⟨by unfold maxLen;omega,λi a=>by have:=c _ (Gb a);unfold maxLen;omega,λi a=>by have:=d _ (Gb a);unfold maxLen;omega,by omega,by omega⟩
def JA{a:List fB}(h:∀x∈a,x.N.size<=1900000/\(∀p∈x.M,p.s.size<=1900000)/\(∀p∈x.Z,p.s.size<=1900000)/\yA x.M<=1900000/\yA x.Z<=1900000){tenant:nB}(b:tenant.size<=1900000):
 (xB a tenant).N.size<=1900000/\(∀p∈(xB a tenant).M,p.s.size<=1900000)/\(∀p∈(xB a tenant).Z,p.s.size<=1900000)/\yA (xB a tenant).M<=1900000/\yA (xB a tenant).Z<=1900000:=by grind [xB,xL]
def EU{α:Type}{key:α->nB}{a:α}(l:List α):yA (cC key a l)<=yA l+1:=by induction l<;>grind [cC]
theorem gq{c:gC}{a:Int}{d:List fB}(h:kC c a d=dA):∀p∈d,p.N≠⟨#[]⟩:=λp f e=>by
 have b:=(tJ (zI (yG h).2.2.2.2 p f)).1;rw[e]at b;simp only[oC,Sa,Ab]at b;have g:(⟨#[]⟩:nB).size=0:=rfl;omega
def LW{c:gC}{b:Int}{a:List fB}(h:kC c b a=dA)(e:yA a+aC a<=1900000):∀x∈a,WO x:=λx d=>by
 obtain⟨_,j,k,_,g⟩:=yG h;obtain⟨_,_,_,l,m⟩:=lW e x d;refine⟨by omega,by omega,λi f=>?_⟩;have:=AH (tJ (zI g x d)).2.2.1 _ (Gb f);omega
def aFf{c:gC}{a:Int}{b:List fB}(h:kC c a b=dA):uD c.w a (DD ⟨⟨#[]⟩,0,[],[]⟩ dA b)=b:=by grind [kC,uD,DD,eU,gq,fo,yG]
def rS(c:gC)(f:Int)(a:jC)(k:Nat)(j:List fB)(w:eA)(F:uC w a j)(m:kC c f j=dA)(E:yA j+aC j<=1900000):
 gA prog 109 #[jE c,tA #[zA f,pA a (yA j) k]] w λe y=>∃r l,e=uA (tA #[zA f,pA r (yA j) l])/\zC y w.1.size r j/\tB w y:=by
 obtain⟨_,B,L,_,_⟩:=yG m;have I:bB (∀W,tB w W->gA prog 119 #[jE c,tA #[zA f,pA a (yA j) k],zA f,tA #[oA ⟨#[]⟩,zA 0,pA aA 0 0,pA aA 0 0]] W λe y=>∃r l,e=uA (tA #[zA f,pA r (yA j) l])/\zC y W.1.size r j/\tB W y):=λW K=>by
  have:=CG c f f a k j ⟨⟨#[]⟩,0,[],[]⟩ aA aA 0 0 W (F.z K) (Ca rfl) (Ca rfl) (by omega) (λx C=>by
   obtain rfl|C:=C;exact ⟨Oa _,Oa _,λi h=>absurd h (by simp)⟩;exact LW m E x C) B (by omega)
  have e:(⟨⟨#[]⟩,0,[],[]⟩:fB).N.toList.isEmpty=dA:=by kernel_rfl
  rw[e,aFf m]at this;exact this
 clear F m E;unfold jE at *;go_enter func109,ntmps109;have D:bB (tB w (((w.alloc (vA #[zA c.w,zA c.tl,zA c.ml,zA c.sh,zA c.ha,zA c.sg] 24)).alloc (vA #[zA f,pA a (yA j) k] 40)).alloc (vA #[zA 0,pA aA 0 0] 40))):=vB (vB yB yB) yB;have J:bB _:=cB (by have:=gB.new ((w.alloc (vA #[zA c.w,zA c.tl,zA c.ml,zA c.sh,zA c.ha,zA c.sg] 24)).alloc (vA #[zA f,pA a (yA j) k] 40)) #[zA 0,pA aA 0 0] 40;simpa using this);go_wp2_with fail;refine(I.o _ D.o).mono ?_;rintro e o ⟨p,u,rfl,t,n⟩;have A:bB _:=cB (by simpa using t);have z:bB (gB o (w.1.size+1+1) #[zA 0,pA aA 0 0] 40):=J.o.z n;have H:bB _:=vB D.o n;have M:tC o (w.1.size+1+1) 0 (zA 0):=z.o.cell 0;have N:tC o (w.1.size+1+1) 1 (pA aA 0 0):=z.o.cell 1;have b:=z.o.free 0;have d:=z.o.free 1;clear t n;go_wp2;have q:eB (·=w.1.size+1+1) o ((o.setCell (dB (w.1.size+1+1) 0) (zA f)).setCell (dB (w.1.size+1+1) 1) (pA p (yA j) u)):=((eB.refl (·=w.1.size+1+1) o).setCell (Ca rfl) 0 _).setCell (Ca rfl) 1 _;have G:zC ((o.setCell (dB (w.1.size+1+1) 0) (zA f)).setCell (dB (w.1.size+1+1) 1) (pA p (yA j) u)) w.1.size p j:=(zC.turned A.o q (λg O P e=>by omega)).mono (by omega);have s:=((eB.of (S:=λi=>w.1.size<=i) H.o).trans' (q.mono λi _ e=>by omega)).below (Ia _) λi Q h=>by omega
 refine bodyPost_ret (v:=tA #[zA f,pA p (yA j) u]) (by simp[results,results109,go_sem,M,N]) rfl ?_;first
  |exact⟨p,⟨u,rfl⟩,G,s⟩
  |exact⟨p,u,rfl,G,s⟩
def KX(a:eA)(X:Nat)(K:fB)(b:eA):Prop:=
 ∃c e d f,gB b X #[oA K.N,zA K.L,pA c (yA K.M) e,pA d (yA K.Z) f] 54/\(∀W,eB (·=X) b W->lC W c K.M/\lC W d K.Z)/\a.1.size<=X/\tB a b
def FI{w W:eA}{B X:Nat}{q:jC}{c:List iB}(h:eD w B q c)(b:eB (·=X) w W)(n:X<B\/w.1.size<=X):lC W q c:=by
 obtain h|⟨g,o,d,t,rfl,m,f,h⟩:=h;exact Ca h;have a:=aB f;have l:=b.block g a (by omega);have e:∀j,W.cell? (dB g j)=w.cell? (dB g j):=λj=>eA.cell?_of_block l;exact La ⟨g,o,rfl,by have:=b.size;omega,λi k=>by simp only[e];exact h i k⟩
def aLe{e b:eA}{K:fB}{B M:Nat}{c d:jC}{f g:Nat}(i:eD b B c K.M)(j:eD b M d K.Z)(h:tB e b):
 KX e b.1.size K (b.alloc (vA #[oA K.N,zA K.L,pA c (yA K.M) f,pA d (yA K.Z) g] 54)):=by
 refine⟨c,f,d,g,gB.new _ _ _,λW k=>?_,h.size,vB h yB⟩;have a:=(eB.of yB).trans' k;exact⟨FI i a (La (Ia _)),FI j a (La (Ia _))⟩
def aDi{f a:eA}{K:fB}{B M X:Nat}{b c:jC}{d e:Nat}(k:eD a B b K.M)(l:eD a M c K.Z)(m:X<B)(o:B<=M)(j:f.1.size<=X)(g:gB a X #[oA ⟨#[]⟩,zA 0,pA aA 0 0,pA aA 0 0] 54)(n:tB f a):
 KX f X K ((((a.setCell (dB X 0) (oA K.N)).setCell (dB X 1) (zA K.L)).setCell (dB X 2) (pA b (yA K.M) d)).setCell (dB X 3) (pA c (yA K.Z) e)):=by
 have i:eB (·=X) a ((((a.setCell (dB X 0) (oA K.N)).setCell (dB X 1) (zA K.L)).setCell (dB X 2) (pA b (yA K.M) d)).setCell (dB X 3) (pA c (yA K.Z) e)):=((((eB.refl (·=X) a).setCell (Ca rfl) 0 _).setCell (Ca rfl) 1 _).setCell (Ca rfl) 2 _).setCell (Ca rfl) 3 _;refine⟨b,d,c,e,?_,λW h=>⟨FI k (i.trans' h) (Ca m),FI l (i.trans' h) (Ca (by omega))⟩,j,ZO n j⟩;have:=(((g.set 0 (oA K.N)).set 1 (zA K.L)).set 2 (pA b (yA K.M) d)).set 3 (pA c (yA K.Z) e);simpa using this
structure AL(w W:World)(c:gC)(now:Int)(a:jC)(n cap:Nat):Prop where
 C:gB W w.1.size #[zA c.w,zA c.tl,zA c.ml,zA c.sh,zA c.ha,zA c.sg] 24
 S:gB W (w.1.size+1) #[zA now,pA a n cap] 40
 R:gB W (w.1.size+1+1) #[zA 0,pA aA 0 0] 40
 B:tB w W
section
variable {w W W':eA} {c:gC} {now:Int} {a:jC} {n cap:Nat}
theorem AL.new:AL w (((w.alloc (vA #[zA c.w,zA c.tl,zA c.ml,zA c.sh,zA c.ha,zA c.sg] 24)).alloc (vA #[zA now,pA a n cap] 40)).alloc (vA #[zA 0,pA aA 0 0] 40)) c now a n cap:=
 ⟨((gB.new _ _ _).alloc _).alloc _,by have:=(gB.new (w.alloc (vA #[zA c.w,zA c.tl,zA c.ml,zA c.sh,zA c.ha,zA c.sg] 24)) #[zA now,pA a n cap] 40).alloc (vA #[zA 0,pA aA 0 0] 40);simpa using this,
   by have:=gB.new ((w.alloc (vA #[zA c.w,zA c.tl,zA c.ml,zA c.sh,zA c.ha,zA c.sg] 24)).alloc (vA #[zA now,pA a n cap] 40)) #[zA 0,pA aA 0 0] 40;simpa using this,vB (vB yB yB) yB⟩
theorem AL.z(h:AL w W c now a n cap)(b:tB W W'):AL w W' c now a n cap:=⟨h.C.z b,h.S.z b,h.R.z b,vB h.B b⟩
theorem AL.lt(h:AL w W c now a n cap):w.1.size+1+1<W.1.size:=aB h.R
theorem AL.turn{X:Nat}(h:AL w W c now a n cap)(b:eB (·=X) W W')(d:w.1.size+1+1<X):AL w W' c now a n cap:=
 ⟨b.blk h.C (by omega),b.blk h.S (by omega),b.blk h.R (by omega),h.B.trans (b.below (by have:=h.B.size;omega) λi f e=>by omega)⟩
theorem AL.cells(h:AL w W c now a n cap):W.cell? (dB w.1.size 0)=bA (zA c.w)/\W.cell? (dB w.1.size 1)=bA (zA c.tl)/\W.cell? (dB w.1.size 2)=bA (zA c.ml)/\W.cell? (dB w.1.size 3)=bA (zA c.sh)/\W.cell? (dB w.1.size 4)=bA (zA c.ha)/\W.cell? (dB w.1.size 5)=bA (zA c.sg)/\W.cell? (dB (w.1.size+1) 0)=bA (zA now)/\W.cell? (dB (w.1.size+1) 1)=bA (pA a n cap)/\W.cell? (dB (w.1.size+1+1) 0)=bA (zA 0)/\W.cell? (dB (w.1.size+1+1) 1)=bA (pA aA 0 0)/\W.frozen? (dB (w.1.size+1+1) 0)=cA/\W.frozen? (dB (w.1.size+1+1) 1)=cA/\w.1.size+1+1<W.1.size:=
 ⟨h.C.cell 0,h.C.cell 1,h.C.cell 2,h.C.cell 3,h.C.cell 4,h.C.cell 5,h.S.cell 0,h.S.cell 1,h.R.cell 0,h.R.cell 1,h.R.free 0,h.R.free 1,h.lt⟩
theorem AL.done{N rc:Nat}{v:Int}{d:jC}{b:List fB}(h:AL w W c now a n cap)(j:zC W N d b)(m:w.1.size+1+1<N):
 zC ((W.setCell (dB (w.1.size+1+1) 0) (zA v)).setCell (dB (w.1.size+1+1) 1) (pA d (yA b) rc)) w.1.size d b/\tB w ((W.setCell (dB (w.1.size+1+1) 0) (zA v)).setCell (dB (w.1.size+1+1) 1) (pA d (yA b) rc)):=by
 have f:eB (·=w.1.size+1+1) W ((W.setCell (dB (w.1.size+1+1) 0) (zA v)).setCell (dB (w.1.size+1+1) 1) (pA d (yA b) rc)):=((eB.refl (·=w.1.size+1+1) W).setCell (Ca rfl) 0 _).setCell (Ca rfl) 1 _;exact⟨(zC.turned j f (λg k l e=>by omega)).mono (by omega),((eB.of (S:=λi=>w.1.size<=i) h.B).trans' (f.mono λi _ e=>by omega)).below (Ia _) λi o h=>by omega⟩
end
def KXR(a:eA)(X:Nat)(K:fB)(c:eA):Prop:=
 ∃M b f e d,gB c X #[oA K.N,zA K.L,pA b (yA K.M) f,pA e (yA K.Z) d] 54/\eD c a.1.size b K.M/\(∀g o,b=bA (dB g o)->g<M)/\c.ownsRow M 58 2 (pA e (yA K.Z) d) (yA K.Z) (flatK K.Z)/\(∀q,(iA.slice e (yA K.Z) d).ownBlock=bA q->q≠X)/\(∀g o,b=bA (dB g o)->K.M≠[]->g≠X)/\a.1.size<=X/\a.1.size<=M/\tB a c
def aHl{d a:eA}{K:fB}{B M:Nat}{c k:jC}{b f:Nat}(r:d.1.size<=B)(l:eD a B c K.M)(i:∀g o,c=bA (dB g o)->g<M)(m:a.ownsRow M 58 2 (pA k (yA K.Z) f) (yA K.Z) (flatK K.Z))(x:B<=M)(n:tB d a):
 KXR d a.1.size K (a.alloc (vA #[oA K.N,zA K.L,pA c (yA K.M) b,pA k (yA K.Z) f] 54)):=by
 refine⟨M,c,b,k,f,gB.new _ _ _,(l.mono r).z yB,i,eC m yB,λq u e=>?_,λg o e j v=>?_,n.size,by omega,vB n yB⟩;have:=(m.lt q u).2;omega;obtain h|⟨w,y,p,t,b,_,s,_⟩:=l;exact j h;rw[b]at e;simp only[Qa,Addr.mk.injEq,Cc]at e;have:=aB s;omega
def rt{l a:eA}{K:fB}{B M X:Nat}{d f:jC}{b c:Nat}(w:eD a B d K.M)(m:∀g o,d=bA (dB g o)->g<M)(n:a.ownsRow M 58 2 (pA f (yA K.Z) c) (yA K.Z) (flatK K.Z))(H:X<B)(G:B<=M)(z:l.1.size<=X)(r:gB a X #[oA ⟨#[]⟩,zA 0,pA aA 0 0,pA aA 0 0] 54)(A:tB l a):
 KXR l X K ((((a.setCell (dB X 0) (oA K.N)).setCell (dB X 1) (zA K.L)).setCell (dB X 2) (pA d (yA K.M) b)).setCell (dB X 3) (pA f (yA K.Z) c)):=by
 have y:eB (·=X) a ((((a.setCell (dB X 0) (oA K.N)).setCell (dB X 1) (zA K.L)).setCell (dB X 2) (pA d (yA K.M) b)).setCell (dB X 3) (pA f (yA K.Z) c)):=((((eB.refl (·=X) a).setCell (Ca rfl) 0 _).setCell (Ca rfl) 1 _).setCell (Ca rfl) 2 _).setCell (Ca rfl) 3 _;refine⟨M,d,b,f,c,?_,?_,m,y.row n (λq v e=>by have:=(n.lt q v).1;omega),λq v e=>by have:=(n.lt q v).1;omega,λg o e u E=>?_,z,by omega,ZO A z⟩;have:=(((r.set 0 (oA K.N)).set 1 (zA K.L)).set 2 (pA d (yA K.M) b)).set 3 (pA f (yA K.Z) c);simpa using this
 .rcases w with h|⟨g,o,k,t,rfl,p,s,h⟩
  .exact Ca h
  have x:=y.block g (aB s) (by omega);have C:∀j,((((a.setCell (dB X 0) (oA K.N)).setCell (dB X 1) (zA K.L)).setCell (dB X 2) (pA (bA (dB g o)) (yA K.M) b)).setCell (dB X 3) (pA f (yA K.Z) c)).cell? (dB g j)=a.cell? (dB g j):=λj=>eA.cell?_of_block x;exact La ⟨g,o,k,t,rfl,by omega,x.trans s,λi D=>by simp only[C];exact h i D⟩
 obtain h|⟨F,I,k,t,b,p,s,_⟩:=w;exact u h;rw[b]at e;simp only[Qa,Addr.mk.injEq,Cc]at e;omega
def ia{S:Nat->Prop}{w W:eA}{B:Nat}{q:jC}{a:List iB}(h:eD w B q a)(d:eB S w W)(f:∀g o,q=bA (dB g o)->a≠[]->¬S g):lC W q a:=by
 obtain h|⟨g,o,e,t,rfl,n,b,h⟩:=h;exact Ca h
 by_cases c:a=[]
 .exact Ca c
 have m:=d.block g (aB b) (f g o rfl c);have k:∀j,W.cell? (dB g j)=w.cell? (dB g j):=λj=>eA.cell?_of_block m;exact La ⟨g,o,rfl,by have:=d.size;have:=aB b;omega,λi l=>by simp only[k];exact h i l⟩
def aDd{l:List iB}(e:sC (·.s) l){k:nB}{n:Int}{i:Nat}(b:i<yA l)(h:l[i].s=k):cC (·.s) ⟨k,n⟩ l=l.set i ⟨k,n⟩:=by
 induction l generalizing i with
 |nil=>simp at b
 |cons p r g=>
  cases i with
  |zero=>
   have d:p.s=k:=h;rw[cC,Ja (by show ¬uJ p.s k=dA;rw[d,mN];simp),Ma (by exact(dE _ _).2 d)];rfl
  |succ i=>
   have a:i<yA r:=by simpa using b
   have c:r[i].s=k:=by simpa using h
   have f:uJ p.s k=dA:=by rw[<-c];exact e.head _ (Gb a)
   rw[cC,Ma f,g e.tail a c];rfl
def wm(l:List iB)(i:Nat)(b:i<yA l)(n:Int):flatK (l.set i ⟨l[i].s,n⟩)=(flatK l).set (i*2+1) (zA n):=by
 induction l generalizing i with
 |nil=>simp at b
 |cons p r c=>
  cases i with
  |zero=>rfl
  |succ i=>
   have a:i<yA r:=by simpa using b
   have:=c i a;simp only[flatK,Jd,Xc,Ec]at this |-
   rw[this];have e:(i+1)*2+1=(i*2+1)+2:=by omega
   rw[e];rfl
def aEx{w:eA}{M g n a:Nat}{f:List iA}{j:Nat}{v:iA}(h:w.ownsRow M 58 2 (pA (pB g) n a) n f):(w.setCell (dB g j) v).ownsRow M 58 2 (pA (pB g) n a) n (f.set j v):=by
 refine⟨by rw[Pd];exact h.1,?_⟩;obtain⟨e,_⟩|⟨q,d,b,e,o,p,i,k,l,m⟩:=h.2
 .cases e
 simp only[iA.slice.injEq,Qa,Addr.mk.injEq,Cc]at e;obtain⟨rfl,_,rfl⟩:=e;have c:gB w g b 58:=p;refine La ⟨g,a,b.setIfInBounds j v,rfl,o,c.set j v,i,k,by simp[l],?_⟩;rw[Jf,List.take_set,m]
def ir{w:eA}{M n b:Nat}{a:jC}{f:List iA}(h:w.ownsRow M 58 2 (pA a n b) n f)(i:0<n):∃g,a=pB g:=by
 obtain⟨_,e⟩|⟨g,c,d,e,_⟩:=h.2;omega;simp only[iA.slice.injEq]at e;exact⟨g,e.1⟩
def aMb{w:eA}{M n b:Nat}{a:jC}{i:List iA}(h:w.ownsRow M 58 2 (pA a n b) n i):(a=aA/\b=0/\n=0)\/∃g,a=pB g:=by
 obtain⟨e,f⟩|⟨g,c,d,e,_⟩:=h.2;simp only[iA.slice.injEq]at e;exact Ca ⟨e.1,e.2.2,f⟩;simp only[iA.slice.injEq]at e;exact La ⟨g,e.1⟩
def aIn{w:eA}{M n a g:Nat}{f:List iA}(h:w.ownsRow M 58 2 (pA (pB g) n a) n f):n<=a:=by
 obtain⟨e,_⟩|⟨i,b,c,e,_,_,d,_⟩:=h.2
 .cases e
 simp only[iA.slice.injEq]at e;rw[e.2.2];exact d
def aIx{w:eA}{M g a j:Nat}{l:List iB}(h:w.ownsRow M 58 2 (pA (pB g) (yA l) a) (yA l) (flatK l))(n:j<=yA l):dS w (pB g) j (flatK (l.take j))/\dS w (bA (dB g (j*2))) (yA l-j) (flatK (l.drop j)):=by
 have p:=vD h;by_cases d:l=[]
 .subst d;exact⟨Ca (by simpa using n),Ca (by simp)⟩
 obtain m|⟨q,o,f,t,e,_,_,c⟩:=p;exact absurd m d;simp only[Qa,Addr.mk.injEq,Cc]at e;obtain⟨rfl,rfl⟩:=e;refine⟨La ⟨_,rfl,sN λi b=>?_⟩,La ⟨_,rfl,sN λi b=>?_⟩⟩;rw[Hb]at b;have:=c i (by omega);simpa[Ue]using this;rw[Rc]at b;have:=c (j+i) (by omega);have k:0+(j+i)*2=j*2+i*2:=by omega
 rw[k]at this;simpa[Cg]using this
def DE{P:Program}(w:eA){D:Array Oper}{p:List Oper}{o:Oper}{a:Act}{Q:Exit->Act->eA->Prop}(A:o.guard=aA)(s x:Operand)(t:TypeId)
(X:o.op=.call { callee:=.builtin .append,args:=#[s,x],argTypes:=#[t,t] })
(base:Nat)(e:TypeId)(i:TypeInfo)(z:iA)(b f:Nat)(Z:P.underlying t=bA (.slice e))(V:P.info? e=bA i)(O:i.zero=bA z)
(r:i.size=b)(H:i.bytes=f)(J:z.cells.size=b)(I:0<b)
(y n F:Nat)(K:List iA)(Y:a.eval s=pA (pB y) n F)(B:w.ownsRow base e b (pA (pB y) n F) n K)
(E:jC)(m c:Nat)(d:List iA)(hx:a.eval x=pA E m c)(W:yA d=m*b)(C:dS w E m d)(L:∀u∈d,u.oneCell'=dA)
(G:n+m<=maxLen)(l:(n+m)*f<=140737488355328)(q:base<=w.1.size)
(h:∀g j v,v.ownsRow base e b (pA (pB g) (n+m) j) (n+m) (K++d)->Below base w v->(∀k,k<w.1.size->k≠y->v.heap[k]?=w.heap[k]?)->base<=g->(g=y\/g=w.1.size)->g<v.1.size->wpList P D Q p (a.put o.dst (pA (pB g) (n+m) j)) v):wpList P D Q (o::p) a w:=
 wpList_plain A λ_ U=>SR w A s x t X base e i z b f Z V O r H J I y n F K Y B E m c d hx W C L G l q λg j v M N O R S T=>U _ _ (h g j v M N O R S T)
def TI{w a:eA}{cs:Array iA}{t:TypeId}(h:Below (w.alloc (vA cs t)).drew.1.size (w.alloc (vA cs t)).drew a):gB a w.1.size cs t:=(gB.new w cs t).z ⟨h.os,h.tape,h.output,h.size,h.block⟩
def qq{s:nB}(h:oC s=dA):s.toList.isEmpty=cA:=by
 refine sV.2 λe=>?_;simp only[oC,Sa,Ab]at h;rw[e,Nf]at h;omega
structure SC(w:World)(c:gC)(now:Int)(a:jC)(cap:Nat)(ts:List fB)(tenant:nB)(tn:fB):Prop where
 ok:∀W,tB w W→vE 49 #[tA #[zA c.w,zA c.tl,zA c.ml,zA c.sh,zA c.ha,zA c.sg],tA #[zA now,pA a (yA ts) cap]] W (qA dA)
 nm:∀W,hI 52 #[oA tenant] W (qA dA)
 sm:∀W,tB w W→gA prog 109 #[tA #[zA c.w,zA c.tl,zA c.ml,zA c.sh,zA c.ha,zA c.sg],tA #[zA now,pA a (yA ts) cap]] W λe w'=>∃a' cap',e=uA (tA #[zA now,pA a' (yA ts) cap'])∧zC w' W.1.size a' ts∧tB W w'
 te:∀W,tB w W→gA prog 61 #[tA #[zA now,pA a (yA ts) cap],oA tenant] W λe w'=>(∃a1 c1 a2 c2,e=uA (tA #[oA tn.N,zA tn.L,pA a1 (yA tn.M) c1,pA a2 (yA tn.Z) c2])∧lC w' a1 tn.M∧lC w' a2 tn.Z)∧tB W w'
 kp:∀W a1 a2 c1 c2,lC W a1 tn.M→lC W a2 tn.Z→gA prog 120 #[tA #[oA tn.N,zA tn.L,pA a1 (yA tn.M) c1,pA a2 (yA tn.Z) c2],zA now,zA c.w] W λe w'=>∃M a1 c1 a2 c2,e=uA (tA #[oA tn.N,zA tn.L,pA a1 (yA tn.M) c1,pA a2 (yA tn.Z) c2])∧W.1.size≤M∧eD w' W.1.size a1 tn.M∧(∀g o,a1=bA (dB g o)→g<M)∧w'.ownsRow M 58 2 (pA a2 (yA tn.Z) c2) (yA tn.Z) (flatK tn.Z)∧M≤w'.1.size∧tB W w'
 wi:∀W L ms ss q1 q2 e1 e2,tB w W→lC W q1 ms→lC W q2 ss→WO ⟨tn.N,L,ms,ss⟩→gA prog 119 #[tA #[zA c.w,zA c.tl,zA c.ml,zA c.sh,zA c.ha,zA c.sg],tA #[zA now,pA a (yA ts) cap],zA now,tA #[oA tn.N,zA L,pA q1 (yA ms) e1,pA q2 (yA ss) e2]] W λe w'=>∃a' cap',e=uA (tA #[zA now,.slice a' (yA (uD c.w now (cC (·.N) ⟨tn.N,L,ms,ss⟩ ts))) cap'])∧zC w' W.1.size a' (uD c.w now (cC (·.N) ⟨tn.N,L,ms,ss⟩ ts))∧tB W w'
 fit:WO tn
 len:yA tn.M≤1900000∧yA tn.Z≤1900000
 rm:sC (·.s) tn.M
 rs:sC (·.s) tn.Z
 now0:0≤now∧now≤1000000000000
def aJv{c:gC}{l:Int}{a:jC}{cap:Nat}{k:List fB}{j:nB}{w:eA}(v:uC w a k)(o:yA k+aC k<=1900000)(P:j.size<=1900000)(t:kC c l k=dA)(C:oC j=dA):SC w c l a cap k j (xB k j):=by
 obtain⟨d,b,f,g⟩:=rP o;obtain⟨-,r,z,-,m⟩:=yG t;obtain⟨-,-,-,R,S⟩:=JA (lW o) P;have p:WO (xB k j)/\sC (·.s) (xB k j).M/\sC (·.s) (xB k j).Z:=by
  rcases xL (ts:=k) (name:=j) with⟨u,_⟩|⟨e,_⟩;obtain ⟨-,N,O,-⟩:=tJ (zI m _ u);have E:=IG (n:=yA (xB k j).M) N (Ia _);have F:=IU (n:=yA (xB k j).Z) O (Ia _);rw[Rb]at E F;exact⟨LW t o _ u,E,F⟩;rw[e];exact⟨⟨Oa _,Oa _,λi h=>absurd h (by simp)⟩,Gd,Gd⟩
 refine⟨λW q=>?_,λW=>?_,λW q=>rS c l a cap k W (v.z q) t o,λW q=>tW l a cap k j W (v.z q) (by omega),λW G H I J A B=>?_,λW L D h T U K M q A B y=>?_,p.1,⟨R,S⟩,p.2.1,p.2.2,r,z⟩;have:=jH c l a cap k W (v.z q) b (by omega);rw[t]at this;exact this;have:=iG j W (by unfold maxLen;omega);rw[C]at this;exact this;have:=KE (xB k j) G H I J l c.w W A B (by omega) (by omega) r (by omega) p.1.2.2;rw[zZ (DC m)]at this;exact this;have:=CG c l l a cap k ⟨(xB k j).N,L,D,h⟩ T U K M W (v.z q) A B (by omega) (λx Q=>Q.elim (λe=>e ▸ y) (LW t o x)) r (by omega);rw[show(⟨(xB k j).N,L,D,h⟩:fB).N.toList.isEmpty=cA from by show(xB k j).N.toList.isEmpty=cA;rw[cG];exact qq C,aFr (mQ m)]at this;exact this
def SC.wn{w:eA}{c:gC}{b:Int}{a:jC}{f:Nat}{n k:List fB}{d:nB}{j:fB}(h:SC w c b a f n d j){W:eA}{L:Int}{i C:List iB}{l m:jC}{p q r s:Nat}(x:uD c.w b (cC (·.N) ⟨j.N,L,i,C⟩ n)=k)(u:yA i=r)(v:yA C=s)(y:tB w W)(A:lC W l i)(B:lC W m C)(z:WO ⟨j.N,L,i,C⟩):
 gA prog 119 #[tA #[zA c.w,zA c.tl,zA c.ml,zA c.sh,zA c.ha,zA c.sg],tA #[zA b,pA a (yA n) f],zA b,tA #[oA j.N,zA L,pA l r p,pA m s q]] W λe t=>∃o g,e=uA (tA #[zA b,pA o (yA k) g])/\zC t W.1.size o k/\tB W t:=by
 subst x u v;exact h.wi W L i C l m p q y A B z
def AL.kin{w W:eA}{c:gC}{e:Int}{a:jC}{n d:Nat}(h:AL w W c e a n d):∀b,tB W b->b.cell? (dB (w.1.size+1) 0)=bA (zA e)/\b.cell? (dB (w.1.size+1) 1)=bA (pA a n d)/\b.cell? (dB w.1.size 0)=bA (zA c.w):=λb f=>by
 have k:=h.z f;exact⟨k.S.cell 0,k.S.cell 1,k.C.cell 0⟩
section
open Go.Maps
def SU(V:Int×List fB×Nat)(w:eA)(e:Ending)(c:eA):Prop:=
 ∃a b,e=uA (xA #[tA #[zA V.1,pA a (yA V.2.1) b],zA (V.2.2:Nat)])/\zC c w.1.size a V.2.1/\tB w c
end
def oy(N:pC)(R:gE×mG×Nat)(S:Int×List fB×Bool):pC×Int:=
 if R.2.2=0 then(⟨R.1,R.2.1,S.1,S.2.1,N.lsn+1,cA,dA⟩,0)
 else if R.2.2=22\/R.2.2=23\/R.2.2=21 then(N,R.2.2)
 else(⟨R.1,R.2.1,N.now,N.ts,N.lsn,dA,!R.1.dn⟩,R.2.2)
def zF(c:gC)(N:pC)(rs:List qE):pC×Int:=
 if cF c=cA then(xK,61) else if ub N=cA then(N,60)
 else if (rG c N.now N.ts rs).2.2=cA\/zB N.lsn 0 999999999999999=cA\/cR (N.lsn+1) rs=kA then(N,62)
 else oy N (pE N.d N.l (cR (N.lsn+1) rs) c.sg) (rG c N.now N.ts rs)
section
variable {c:gC} {N:pC} {rs:List qE} {R:gE×mG×Nat} {S:Int×List fB×Bool}
theorem aJt(h:cF c=cA):zF c N rs=(xK,61):=by unfold zF;rw[Ma h]
theorem aDz(h:cF c=dA):ub N=cA/\zF c N rs=(N,60)\/ub N=dA/\((rG c N.now N.ts rs).2.2=cA/\zF c N rs=(N,62)\/(rG c N.now N.ts rs).2.2=dA/\(zB N.lsn 0 999999999999999=cA/\zF c N rs=(N,62)\/zB N.lsn 0 999999999999999=dA/\(cR (N.lsn+1) rs=kA/\zF c N rs=(N,62)\/(cR (N.lsn+1) rs).toList.isEmpty=cA/\zF c N rs=oy N (pE N.d N.l (cR (N.lsn+1) rs) c.sg) (rG c N.now N.ts rs)))):=by
 unfold zF;rw[Ja (by simp[h])];cases h1:ub N
 .exact Ca ⟨rfl,Ma rfl⟩
 refine La ⟨rfl,?_⟩;rw[Ja (by simp)];cases h2:(rG c N.now N.ts rs).2.2
 .exact Ca ⟨rfl,Ma (Ca rfl)⟩
 refine La ⟨rfl,?_⟩;cases h3:zB N.lsn 0 999999999999999
 .exact Ca ⟨rfl,Ma (La (Ca rfl))⟩
 refine La ⟨rfl,?_⟩;by_cases a:cR (N.lsn+1) rs=kA
 .exact Ca ⟨a,Ma (La (La a))⟩
 exact La ⟨sV.2 a,Ja (by simp[a])⟩
theorem aJu:(((R.2.2:Int)==0)=dA/\((R.2.2:Int)==22)=cA/\((R.2.2:Int)==23)=cA/\((R.2.2:Int)==21)=cA/\oy N R S=(⟨R.1,R.2.1,S.1,S.2.1,N.lsn+1,cA,dA⟩,0))\/
 (((R.2.2:Int)==0)=cA/\¬(R.2.2:Int)=0/\((((R.2.2:Int)==22)=dA\/((R.2.2:Int)==22)=cA/\(((R.2.2:Int)==23)=dA\/((R.2.2:Int)==23)=cA/\((R.2.2:Int)==21)=dA))/\oy N R S=(N,(R.2.2:Int))\/
   ((R.2.2:Int)==22)=cA/\((R.2.2:Int)==23)=cA/\((R.2.2:Int)==21)=cA/\oy N R S=(⟨R.1,R.2.1,N.now,N.ts,N.lsn,dA,!R.1.dn⟩,(R.2.2:Int)))):=by
 unfold oy;by_cases a:R.2.2=0
 .exact Ca ⟨by simp[a],by simp[a],by simp[a],by simp[a],by simp[a]⟩
 refine La ⟨by simp;omega,by omega,?_⟩;by_cases b:R.2.2=22\/R.2.2=23\/R.2.2=21
 .refine Ca ⟨?_,by simp[a,b]⟩;rcases b with h|h|h<;>simp[h]
 refine La ⟨by simp;omega,by simp;omega,by simp;omega,by simp[a,b]⟩
end
def NT:∀rs:List qE,(sM rs).size=12*yA rs+dD rs
 |[]=>rfl
 |r::q=>by
  have:=NT q;show(XX r++sM q).size=12*(yA q+1)+(r.T.size+r.X.size+dD q)
  rw[Ka,wh];omega
def rh{a:Int}{rs:List qE}(h:yA rs+dD rs<=1400000):(cR a rs).size<=1900000:=by
 by_cases b:AP a rs
 .have:=b.2.2.2.1;rw[XD b,Ka,XE,NT];omega
 rw[LQ b];exact Oa _
def JV{D:gE}{L:mG}{f:nB}(h:JE D.fs):JE (xH D L f).1.fs:=by
 have b:(gK L.last).size<=maxLen:=by have:=zN (L.last);unfold maxLen;omega
 have a:JE (fE D (kI L.last f)).1.fs:=eV h b (Oa _);have d:=eV (op:=uS L.last) a b (Oa _);unfold xH;split;exact a;split<;>exact d
def JU{D:gE}{L:mG}{p:nB}{b:Int}(h:JE D.fs):JE (pE D L p b).1.fs:=by
 have a:JE (fE D (vG (L.last+1))).1.fs:=eV h (by have:=zN (L.last+1);unfold maxLen;show(gK (L.last+1)).size<=_;omega) (Oa _);unfold pE;repeat' split
 all_goals first|exact h|exact a|exact JV a|exact JV h
structure aGa(w:World)(a b:jC)(N:pC)(ar:jC)(rs:List qE):Prop where
 files:rB w a N.d.fs
 fit:JE N.d.fs
 tens:uC w b N.ts
 recs:pI w ar rs
 bulk:yA N.ts+aC N.ts+yA rs+dD rs≤1400000
 rng:WT rs
 lsn:WR N.lsn
def yO{a:List fB}(h:yA a+aC a<=1400000):∀t∈a,yA t.M<=2000000/\yA t.Z<=2000000:=λt e=>by
 obtain⟨i,d,rfl⟩:=Ib e;have b:=hK a i d;have f:=pM a (i+1);unfold aF at b;omega
def aIl(r:qE):iA:=tA #[zA r.K,oA r.T,oA r.X,zA r.U]
def qU(r:qE):iA:=if r.K=1 then .iface 315 (tA #[zA 1,oA r.T,oA r.X]) else if r.K=2 then .iface 317 (tA #[zA 2,oA kA,zA r.U]) else if r.K=3 then .iface 319 (tA #[zA 3,oA r.T,oA r.X,zA r.U]) else .nilIface
def jV(r:qE):Bool:=decide (r.K=1\/r.K=2\/r.K=3)
def vO(r:qE)(w:eA):
 vE 203 #[aIl r] w (xA #[qU r,qA (jV r)]):=by
 obtain⟨a,g,h,f⟩:=r;unfold aIl;by_cases b:a=1
 .subst b;go_enter func203,ntmps203;go_wp2;go_ret2;exact⟨rfl,yB⟩
 by_cases c:a=2
 .subst c;go_enter func203,ntmps203;go_wp2;go_ret2;exact⟨rfl,yB⟩
 by_cases d:a=3
 .subst d;go_enter func203,ntmps203;go_wp2;go_ret2;exact⟨rfl,yB⟩
 have E:bB (qU ⟨a,g,h,f⟩=.nilIface/\jV ⟨a,g,h,f⟩=cA):=⟨by unfold qU;simp[b,c,d],by unfold jV;simp[b,c,d]⟩
 go_enter func203,ntmps203;go_wp2;go_ret2;exact⟨by rw[E.o.1,E.o.2];rfl,yB⟩
def oW(a b:Int)(c d:nB)(w:eA):
 vE 383 #[tA #[zA a,oA c],oA d,zA b] w (tA #[zA a,oA c,oA d,zA b]):=by
 go_enter func383,ntmps383;go_wp2;exact bodyPost_ret (v:=tA #[zA a,oA c,oA d,zA b]) (by simp[results,results383,go_sem]) rfl ⟨rfl,vB yB yB⟩
def xc(d:Int)(f g:nB)(w:eA):
 vE 384 #[tA #[zA d,oA f,oA g]] w (tA #[zA d,oA f,oA g,zA 0]):=by
 go_enter func384,ntmps384;go_wp2_with fail;apply hC (oW _ _ _ _ _);intro c b;have h:bB _:=vB (vB yB yB) b;have a:bB (gB c (w.1.size+1) #[zA 0,oA kA,oA kA,zA 0] 132):=by have:=(gB.new (w.alloc (vA #[zA d,oA f,oA g] 315)) #[zA 0,oA kA,oA kA,zA 0] 132).z b;exact cB (by simpa using this)
 have i:tC c (w.1.size+1) 0 (zA 0):=a.o.cell 0;have j:tC c (w.1.size+1) 1 (oA kA):=a.o.cell 1;have k:tC c (w.1.size+1) 2 (oA kA):=a.o.cell 2;have l:tC c (w.1.size+1) 3 (zA 0):=a.o.cell 3;have n:=a.o.free 0;have o:=a.o.free 1;have p:=a.o.free 2;have q:=a.o.free 3;clear b;go_wp2;refine bodyPost_ret (v:=tA #[zA d,oA f,oA g,zA 0]) (by simp[results,results384,go_sem,i,j,k,l]) rfl ⟨rfl,?_⟩;exact(((h.o.setCell (by simp) _).setCell (by simp) _).setCell (by simp) _).setCell (by simp) _
def xd(d f:Int)(g:nB)(w:eA):
 vE 385 #[tA #[zA d,oA g,zA f]] w (tA #[zA d,oA g,oA kA,zA f]):=by
 go_enter func385,ntmps385;go_wp2_with fail;apply hC (oW _ _ _ _ _);intro c b;have h:bB _:=vB (vB yB yB) b;have a:bB (gB c (w.1.size+1) #[zA 0,oA kA,oA kA,zA 0] 132):=by have:=(gB.new (w.alloc (vA #[zA d,oA g,zA f] 317)) #[zA 0,oA kA,oA kA,zA 0] 132).z b;exact cB (by simpa using this)
 have i:tC c (w.1.size+1) 0 (zA 0):=a.o.cell 0;have j:tC c (w.1.size+1) 1 (oA kA):=a.o.cell 1;have k:tC c (w.1.size+1) 2 (oA kA):=a.o.cell 2;have l:tC c (w.1.size+1) 3 (zA 0):=a.o.cell 3;have n:=a.o.free 0;have o:=a.o.free 1;have p:=a.o.free 2;have q:=a.o.free 3;clear b;go_wp2;refine bodyPost_ret (v:=tA #[zA d,oA g,oA kA,zA f]) (by simp[results,results385,go_sem,i,j,k,l];rfl) rfl ⟨rfl,?_⟩;exact(((h.o.setCell (by simp) _).setCell (by simp) _).setCell (by simp) _).setCell (by simp) _
def wt(d f:Int)(g h:nB)(w:eA):
 vE 386 #[tA #[zA d,oA g,oA h,zA f]] w (tA #[zA d,oA g,oA h,zA f]):=by
 go_enter func386,ntmps386;go_wp2_with fail;apply hC (oW _ _ _ _ _);intro c b;have i:bB _:=vB (vB yB yB) b;have a:bB (gB c (w.1.size+1) #[zA 0,oA kA,oA kA,zA 0] 132):=by have:=(gB.new (w.alloc (vA #[zA d,oA g,oA h,zA f] 319)) #[zA 0,oA kA,oA kA,zA 0] 132).z b;exact cB (by simpa using this)
 have j:tC c (w.1.size+1) 0 (zA 0):=a.o.cell 0;have k:tC c (w.1.size+1) 1 (oA kA):=a.o.cell 1;have l:tC c (w.1.size+1) 2 (oA kA):=a.o.cell 2;have m:tC c (w.1.size+1) 3 (zA 0):=a.o.cell 3;have o:=a.o.free 0;have p:=a.o.free 1;have q:=a.o.free 2;have r:=a.o.free 3;clear b;go_wp2;refine bodyPost_ret (v:=tA #[zA d,oA g,oA h,zA f]) (by simp[results,results386,go_sem,j,k,l,m]) rfl ⟨rfl,?_⟩;exact(((i.o.setCell (by simp) _).setCell (by simp) _).setCell (by simp) _).setCell (by simp) _
def fd(x : Value)(w : World) : (invoke (.fn (.method "loop.example/s02176/impl.flat") #[]) #[.iface 315 x]).run prog w = .ok (.enter 384 #[x]) w := by kernel_rfl
def fe(x : Value)(w : World) : (invoke (.fn (.method "loop.example/s02176/impl.flat") #[]) #[.iface 317 x]).run prog w = .ok (.enter 385 #[x]) w := by kernel_rfl
def fg(x : Value)(w : World) : (invoke (.fn (.method "loop.example/s02176/impl.flat") #[]) #[.iface 319 x]).run prog w = .ok (.enter 386 #[x]) w := by kernel_rfl
def XY{P:Program}(ρ:Operand->iA)(o:Oper)(r:Operand)(name:String)(a:o.op=.call { callee:=.invoke r name,args:=#[],argTypes:=#[] }){u:iA}(b:ρ r=u){n:Next}{w:eA}
(h:(invoke (.fn (.method name) #[]) #[u]).run P w=.ok n w):(execOp ρ o).run P w=.ok n w:=by
 unfold execOp;simp only[a,resolve];simp[b,h]
def bc{P:Program}{c:Array Oper}{C:eA->Prop}{Q:Act->Prop}{a:Act}{o:Oper}{b:List Oper}{f:FuncId}{args:Array iA}{v:iA}(k:Region.wanted o (yielded c a.tmps)=dA)
(j:∀w,(execOp a.eval o).run P w=.ok (.enter f args) w)(i:∀w,C w->gA P f args w (λe d=>e=uA v/\C d))(h:wpQuiet P c C Q b (a.put o.dst v)):wpQuiet P c C Q (o::b) a:=
 BigFrame.wpQuiet_want k λK g=>⟨v,λw k=>by unfold Oper.quietAt;rw[j];exact⟨rfl,i w k⟩,g _ h⟩
def ku{P:Program}{c:Array Oper}{C:eA->Prop}{Q:Act->Prop}{a:Act}{o:Oper}{b:List Oper}{v:iA}(f:Region.wanted o (yielded c a.tmps)=dA)
(e:∀w,(execOp a.eval o).run P w=.ok (.value v) w)(h:wpQuiet P c C Q b (a.put o.dst v)):wpQuiet P c C Q (o::b) a:=
 BigFrame.wpQuiet_want f λK d=>⟨v,λw f=>by unfold Oper.quietAt;rw[e];exact⟨rfl,rfl⟩,d _ h⟩
def aKp(k a n b:Int)(t c x d:nB)(W:eA):(binOp .eql 132 (tA #[zA k,oA t,oA x,zA n]) (tA #[zA a,oA c,oA d,zA b])).run prog W=.ok (qA (k==a&&(t.toList==c.toList&&(x.toList==d.toList&&n==b)))) W:=by
 rw[run_eql_struct,run_equalIn_agg W _ _ _ _ (by kernel_rfl) (by kernel_rfl)];unfold Program.fieldsOf;rw[underlying132];simp[Op.eqFields,go_sem,underlying3,underlying9];repeat' split
 all_goals simp_all
def dh(ρ:Operand->iA)(o:Oper)(p q:Operand)(g:o.op=.binOp .eql 132 p q 132){k a n c:Int}{t d x e:nB}
(h:ρ p=tA #[zA k,oA t,oA x,zA n])(i:ρ q=tA #[zA a,oA d,oA e,zA c]){b:Bool}(f:(k==a&&(t.toList==d.toList&&(x.toList==e.toList&&n==c)))=b)(W:eA):
 (execOp ρ o).run prog W=.ok (.value (qA b)) W:=by
 unfold execOp;simp only[g,h,i,Sem.run_bind,run_eqGuard_agg W _ _ _ _ _ _ (show prog.eqGuardType prog.depth 132=cA by kernel_rfl),Result.andThen_ok,aKp,f,Sem.run_pure]
def aBm{x:nB}:x.toList=ByteArray.empty.toList ↔ x.size=0:=by
 rw[ByteArray.toList_eq,ByteArray.toList_eq];constructor;intro h;show x.data.size=0;rw[<-Qg,h];rfl;intro h;have:yA x.data.toList=0:=by simpa using h
 rw[Nb.1 this];rfl
def OV{k i r j:Int}{a c l m:nB}{p:TypeId}{s:iA}{f:FuncId}{args:Array iA}{b:Bool}(w:eA)(_h1:a.size<=1000000000)(_h2:c.size<=1000000000)
(B:bB (∀W,vE 203 #[tA #[zA k,oA a,oA c,zA i]] W (xA #[.iface p s,qA dA])))
(A : bB (∀ W, (invoke (.fn (.method "loop.example/s02176/impl.flat") #[]) #[.iface p s]).run prog W = .ok (.enter f args) W))(y : bB (∀ W, Calls prog f args W fun e n => e = .returned (.agg #[.int .i64 r, .string l, .string m, .int .i64 j]) /\ tB W n))
(z:bB ((r==k&&(l.toList==a.toList&&(m.toList==c.toList&&j==i)))=b))(E:bB (bg ⟨k,a,c,i⟩=(b&&(decide ((a.size:Int)<=255) &&decide ((c.size:Int)<=65535))))):
 vE 245 #[tA #[zA k,oA a,oA c,zA i]] w (qA (bg ⟨k,a,c,i⟩)):=by
 have o:b=cA\/b=dA/\decide ((a.size:Int)<=255)=cA\/b=dA/\decide ((a.size:Int)<=255)=dA:=by cases b<;>cases decide ((a.size:Int)<=255)<;>simp
 obtain rfl|⟨rfl,q⟩|⟨rfl,q⟩:=o
 all_goals
  try rw[q]at E
  go_enter func245,ntmps245;go_wp2_with fail;apply hC (B.o _);intro t g;have u:bB _:=vB yB g;have d:=λx:iC t=>(((gB.new w #[zA k,oA a,oA c,zA i] 132).z g).z x.h).c4;simp only[forall_and]at d;obtain⟨D,F,G,H⟩:=d;have C:=iC.there t;clear g;go_wp2_with fail;refine wB (by kernel_rfl) (by kernel_rfl) ?_;repeat (go_big_quiet_step (fail))
  refine bc (by rfl) (λW=>XY _ _ _ _ rfl rfl (A.o W)) (by rintro _ ⟨x,rfl⟩;exact mC (y.o _)) ?_;simp only[Act.put,Ud,Jd,Ze];repeat (go_big_quiet_step (fail))
  first
   |(refine ku (by rfl) (dh _ _ _ _ rfl rfl rfl z.o) ?_;simp only[Act.put,Ud,Jd,Ze];repeat (go_big_quiet_step (fail)))
   |skip
  refine wpQuiet_nil ?_;rintro _ ⟨x,rfl⟩;have v:=cB (vB u.o x.h);go_wp2;go_ret;exact⟨oB (by rw[E.o];simp),v.o⟩
def aEq{r:qE}{b:Bool}(h:(r.K=1/\r.U=0)\/(r.K=2/\r.T.size=0/\r.X.size=0)\/r.K=3 ↔ b=dA):bg r=(b&&(decide ((r.T.size:Int)<=255) &&decide ((r.X.size:Int)<=65535))):=by grind [bg,uO,VP,BB]
def xv(r:qE)(w:eA)(m:r.T.size<=1000000000)(n:r.X.size<=1000000000):
 vE 245 #[aIl r] w (qA (bg r)):=by
 obtain⟨f,c,d,b⟩:=r;by_cases j:f=1
 .subst j;exact OV w m n (λW=>vO ⟨1,c,d,b⟩ W) (λW=>fd _ W) (λW=>xc 1 c d W) rfl (aEq (by simp;exact eq_comm))
 by_cases k:f=2
 .subst k;exact OV w m n (λW=>vO ⟨2,c,d,b⟩ W) (λW=>fe _ W) (λW=>xd 2 b kA W) rfl (aEq (by simp only[Sa,Lg,beq_self_eq_true,true_and,Cc];rw[eq_comm (a:=ByteArray.empty.toList),eq_comm (a:=ByteArray.empty.toList),aBm,aBm];simp))
 by_cases l:f=3
 .subst l;exact OV w m n (λW=>vO ⟨3,c,d,b⟩ W) (λW=>fg _ W) (λW=>wt 3 b c d W) rfl (aEq (by simp))
 have s:bB (∀W,vE 203 #[tA #[zA f,oA c,oA d,zA b]] W (xA #[.nilIface,qA cA])):=λW=>by
  have:=vO ⟨f,c,d,b⟩ W;have t:qU ⟨f,c,d,b⟩=.nilIface:=by unfold qU;simp[j,k,l]
  have u:jV ⟨f,c,d,b⟩=cA:=by unfold jV;simp[j,k,l]
  rw[t,u]at this;exact this
 have E:bB (bg ⟨f,c,d,b⟩=cA):=cB (BB (λv=>by obtain g|g|g:=v.2.2;exact j g.1;exact k g.1;exact l g));unfold aIl;clear j k l;go_enter func245,ntmps245;go_wp2_with fail;apply hC (s.o _);intro z i;have p:bB _:=vB yB i;have y:=iC.there z;clear i;go_wp2_with fail;refine wB (by kernel_rfl) (by kernel_rfl) ?_;repeat (go_big_quiet_step (fail))
 refine wpQuiet_nil ?_;rintro _ ⟨x,rfl⟩;have q:bB _:=vB p.o x.h;go_wp2;go_ret;exact⟨oB E.o.symm,q.o⟩
def kW(s:nB):Nat:=if s.size<=65535 then s.size+10 else s.size+1000000000
def cN:List iB->Nat
 |[]=>0
 |p::r=>kW p.s+cN r
def fX(t:fB):Nat:=t.N.size+17+cN t.M+cN t.Z
def jG:List fB->Nat
 |[]=>0
 |t::r=>fX t+jG r
def aNh(s:nB):s.size+10<=kW s:=by unfold kW;split<;>omega
theorem VK{p:iB}(l:List iB):cN (cC (·.s) p l)<=cN l+kW p.s:=by
 induction l with
 |nil=>simp[cC,cN]
 |cons q r a=>
  rw[cC];split;simp only[cN];omega;split<;>(simp only[cN];omega)
theorem FK(f:iB->Bool)(l:List iB):cN (l.filter f)<=cN l:=by
 induction l with
 |nil=>exact Ia _
 |cons q r a=>
  rw[List.filter_cons];split<;>(simp only[cN];omega)
def gX(f:fB->Bool)(l:List fB):jG (l.filter f)<=jG l:=by
 induction l with
 |nil=>exact Ia _
 |cons q r a=>
  rw[List.filter_cons];split<;>(simp only[jG];omega)
def WG{a:List fB}(f:sC (·.N) a){t:fB}{k:Nat}(h:fX t<=fX (xB a t.N)+k):jG (cC (·.N) t a)<=jG a+17+t.N.size+k:=by
 have g:fX ⟨t.N,-1,[],[]⟩=t.N.size+17:=by simp[fX,cN]
 have key:(∃q∈a,q.N=t.N/\fX t<=fX q+k)\/(fX t<=t.N.size+17+k):=by
  rcases xL (ts:=a) (name:=t.N) with⟨m,_⟩|⟨e,_⟩;exact Ca ⟨_,m,cG,h⟩;rw[e,g]at h;exact La h
 clear h g;obtain⟨q,c,d,j⟩|j:=key
 .have:jG (cC (·.N) t a)<=jG a+k:=by
   induction a with
   |nil=>cases c
   |cons p r i=>
    rw[cC];rcases Lb.1 c with rfl|c;rw[Ja (by rw[d,mN];simp),Ma ((dE _ _).2 d)];simp only[jG];omega;have b:=f.head q c;simp only[d]at b;rw[Ma b];have:=i f.tail c;simp only[jG];omega
  omega
 .have:∀l:List fB,jG (cC (·.N) t l)<=jG l+fX t:=λl=>by
   induction l with
   |nil=>simp[cC,jG]
   |cons p r i=>
    rw[cC];split;simp only[jG];omega;split<;>(simp only[jG];omega)
  have:=this a;omega
def aKg{c:List fB}{a key:nB}{b:Int}:fX (vI (xB c a) key b)<=fX (xB c (vI (xB c a) key b).N)+kW key:=by grind [fX,vI,xB,kW,cG,VK]
def aLh{d:List fB}{b a:nB}{c:Int}:fX (qH (xB d b) a c)<=fX (xB d (qH (xB d b) a c).N)+kW a:=by grind [fX,qH,xB,kW,cN,rE,uP,cG,VK,FK]
def aLc{win now:Int}(a:List fB):jG (uD win now a)<=jG a:=by
 have d:=gX (λt=>!yE t) (a.map (uE win now));have e:jG (a.map (uE win now))<=jG a:=by
  induction a with
  |nil=>exact Ia _
  |cons t r c=>
   have:=FK (λp=>decide (now-p.n<win)) t.Z;have b:=c (gX _ _);simp only[Fc,jG,fX,uE]at b |-
   omega
 unfold uD;omega
def aIy{c:gC}{b:Int}{a:List fB}(h:kC c b a=dA)(r:qE):jG (mE c b a r).2.1<=jG a+17+r.T.size+kW r.X:=by
 have g:=mQ (yG h).2.2.2.2;have d:jG a<=jG a+17+r.T.size+kW r.X:=by omega
 have f:jG (cC (·.N) (vI (xB a r.T) r.X b) a)<=jG a+17+r.T.size+kW r.X:=by
  have:=WG g (t:=vI (xB a r.T) r.X b) aKg;have e:(vI (xB a r.T) r.X b).N=r.T:=cG;rw[e]at this;omega
 have i:jG (cC (·.N) (qH (xB a r.T) r.X r.U) a)<=jG a+17+r.T.size+kW r.X:=by
  have:=WG g (t:=qH (xB a r.T) r.X r.U) aLh;have e:(qH (xB a r.T) r.X r.U).N=r.T:=by rw[uP,cG]
  rw[e]at this;omega
 unfold mE;split
 .unfold dL;split
  .exact d
  split;exact f;generalize (if (xB a r.T).L = -1 then c.tl else(xB a r.T).L)=j;split;exact d;split;exact d;exact f
 split
 .unfold mK;split
  .exact d
  exact Ua (aLc (win:=c.w) (now:=b+r.U) a) d
 split
 .unfold uR;split
  .exact d
  split;exact Ua (gX _ a) d;split;exact d;exact i
 exact d
def aFd{c:gC}:∀{rs:List qE}{a:Int}{b:List fB},kC c a b=dA->dD rs<=65535->jG (bG c a b rs).2.1<=jG b+27*yA rs+dD rs/\((bG c a b rs).2.2=dA->kC c (bG c a b rs).1 (bG c a b rs).2.1=dA)
 |[],a,b,h,_=>⟨by simp[bG,dD],λ_=>h⟩
 |r::rs,a,b,h,f=>by
  have i:=aIy h r;simp only[dD]at f;have j:kW r.X=r.X.size+10:=Ma (by omega);rw[bG];simp only[Zb,dD];split
  .rename_i g;have d:=aFd (rs:=rs) (GA h g) (by omega);exact⟨by omega,d.2⟩
  exact ⟨by show jG (mE c a b r).2.1<=_;omega,λe=>by cases e⟩
def vS:∀a:List iB,yA a+yD a<=cN a/\(oG a).size<=cN a/\(cN a<1000000000->∀p∈a,p.s.size<=65535)
 |[]=>⟨Ia _,Ia _,λ_ p d=>by cases d⟩
 |p::r=>by
  obtain⟨e,f,c⟩:=vS r;have g:=aNh p.s;refine⟨by simp only[Zb,yD,cN];omega,?_,λh q b=>?_⟩;rw[oG,NR,Ka,Ka,bF,kB,cN];omega;rw[cN]at h;rcases Lb.1 b with rfl|b
  .unfold kW at h;split at h
   .assumption
   omega
  exact c (by omega) q b
def iT:∀a:List fB,yA a+aC a<=jG a/\(rF a).size<=jG a/\(jG a<1000000000->∀t∈a,cN t.M<1000000000/\cN t.Z<1000000000)
 |[]=>⟨Ia _,Ia _,λ_ p d=>by cases d⟩
 |t::r=>by
  obtain⟨e,f,c⟩:=iT r;have g:=vS t.M;have h:=vS t.Z;refine⟨by simp only[Zb,aC,aF,jG,fX];omega,?_,λh q b=>?_⟩;rw[rF,lU,MG];simp only[Ka,lF,kB,jG,fX];omega;rw[jG,fX]at h;rcases Lb.1 b with rfl|b;exact ⟨by omega,by omega⟩;exact c (by omega) q b
def jw{c:gC}{a lsn:Int}{b:List fB}(h:kC c a b=dA)(m:jG b<=1000000)(n:0<=lsn)(o:lsn<=1000000000000000):KZ lsn b/\(eO lsn a b).size<=1000028/\(eO lsn a b).size≠0/\uj b/\GG a:=by
 obtain⟨y,p,q,_,r⟩:=yG h;have g:∀t∈b,fO c.w a t=dA:=zI r;have k:KZ lsn b:=⟨n,o,λi f=>by
  obtain⟨l,m⟩:=(iT b).2.2 (by omega) _ (Gb f);obtain⟨s,_⟩:=GB (g _ (Gb f));refine⟨?_,λj d=>(vS _).2.2 l _ (Gb d),λj d=>(vS _).2.2 m _ (Gb d)⟩;simp only[oC,Sa,Ab]at s;omega⟩
 have z:=(iT b).2.1;have e:(eO lsn a b).size=28+(rF b).size:=by
  rw[ME k,yM,FY];simp only[Ka,kB];show 4+8+8+4+_+4=_;omega
 refine⟨k,by omega,by omega,λi f=>?_,by unfold GG;omega⟩;obtain⟨_,u,v,x,_⟩:=GB (g _ (Gb f));simp only[zB,Sa,Ab]at u;refine⟨⟨by omega,by omega⟩,λj d=>?_,λj d=>?_⟩;have:=((LZ v).1 _ (Gb d)).2;simp only[zB,Sa,Ab]at this;exact⟨by omega,by omega⟩;have:=((FU x).1 _ (Gb d)).2.1;simp only[zB,Sa,Ab]at this;exact⟨by omega,by omega⟩
