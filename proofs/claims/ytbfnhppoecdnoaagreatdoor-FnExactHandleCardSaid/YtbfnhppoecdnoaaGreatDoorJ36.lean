import Derived.Test.YtbfnhppoecdnoaaGreatDoorJ31
import Derived.Test.YtbfnhppoecdnoaaGreatDoorJ34
set_option maxRecDepth 100000
set_option maxHeartbeats 8000000
set_option linter.defProp false
open Bool renaming true->dA,false->cA
open Option renaming none->aA,some->bA
open ByteArray renaming empty->kA
open List renaming length->vA
namespace Go.Proofs.YtbfnhppoecdnoaaGreatDoor
open Go renaming World->eA,Calls->gA,Value->iA
open Ending renaming returned->sA
open Value renaming agg->rA,int->lA,slice->oA,bool->pA,string->nA
open IntKind renaming i64->mA
open Obj renaming cells->tA
open Go.RowKit Tryz
def lS(a:List dB)(k:Nat)(h:k<vA a):a[k].s.size<=pC a:=by
 have b:=iK a k h;have c:=uJ a (k+1);omega
def fP{ts:List aB}(h:vA ts+nB ts<=1900000):aRc ts 1900000/\aNa ts/\True/\aCt ts:=by
 have f:∀i(a:i<vA ts),iE ts[i]<=1900000:=fun i a=>by have:=kU ts i a;omega
 have c:∀i(a:i<vA ts),ts[i].N.size<=1900000/\vA ts[i].M<=1900000/\vA ts[i].Z<=1900000/\pC ts[i].M<=1900000/\pC ts[i].Z<=1900000:=fun i a=>by have:=f i a;unfold iE at this;omega
 have b:∀i(a:i<vA ts),(∀j(e:j<vA ts[i].M),ts[i].M[j].s.size<=1000000000)/\(∀j(e:j<vA ts[i].Z),ts[i].Z[j].s.size<=1000000000):=fun i a=>
  ⟨fun j d=>by have:=lS _ j d;have:=c i a;omega,fun j d=>by have:=lS _ j d;have:=c i a;omega⟩
 refine⟨fun i a=>⟨?_,(b i a).1,(b i a).2,?_,?_,?_⟩,fun i a=>⟨?_,(b i a).1,(b i a).2,?_,?_⟩,trivial,fun i a=>⟨?_,?_⟩⟩<;>(have:=c i a;unfold maxLen at *;omega)
def aTl(a:List aB):Prop:=∀t∈a,t.N.size<=maxLen/\(∀i(h:i<vA t.M),t.M[i].s.size<=maxLen)/\(∀i(h:i<vA t.Z),t.Z[i].s.size<=maxLen)/\vA t.M<=2000000/\vA t.Z<=2000000
def tU(V:Int×List aB×Bool)(w:eA)(e:Ending)(c:eA):Prop:=
 ∃a b,e=sA (.tuple #[rA #[lA mA V.1,oA a (vA V.2.1) b],pA V.2.2])/\vC c w.1.size a V.2.1/\kB w c
def aUp(x:aB):Prop:=x.N.size<=1900000/\(∀p∈x.M,p.s.size<=1900000)/\(∀p∈x.Z,p.s.size<=1900000)/\vA x.M<=1900001/\vA x.Z<=1900001
def wX{ts:List aB}(h:vA ts+nB ts<=1900000):∀x∈ts,x.N.size<=1900000/\(∀p∈x.M,p.s.size<=1900000)/\(∀p∈x.Z,p.s.size<=1900000)/\vA x.M<=1900000/\vA x.Z<=1900000:=by
 intro x e;obtain⟨i,d,rfl⟩:=Ib e;have c:=kU ts i d;unfold iE at c;refine⟨by omega,fun p b=>?_,fun p b=>?_,by omega,by omega⟩;obtain ⟨j,a,rfl⟩:=Ib b;have:=lS _ j a;omega;obtain ⟨j,a,rfl⟩:=Ib b;have:=lS _ j a;omega
def aOd{b:List aB}(h:∀x∈b,aUp x):aTl b:=fun x e=>by
 obtain⟨f,c,d,g,j⟩:=h x e;exact⟨by unfold maxLen;omega,fun i a=>by have:=c _ (Gb a);unfold maxLen;omega,fun i a=>by have:=d _ (Gb a);unfold maxLen;omega,by omega,by omega⟩
def LV{a:List aB}(h:∀x∈a,x.N.size<=1900000/\(∀p∈x.M,p.s.size<=1900000)/\(∀p∈x.Z,p.s.size<=1900000)/\vA x.M<=1900000/\vA x.Z<=1900000){tenant:gB}(b:tenant.size<=1900000):
 (bC a tenant).N.size<=1900000/\(∀p∈(bC a tenant).M,p.s.size<=1900000)/\(∀p∈(bC a tenant).Z,p.s.size<=1900000)/\vA (bC a tenant).M<=1900000/\vA (bC a tenant).Z<=1900000:=by grind [bC,yN]
def IJ{α:Type}{key:α->gB}{a:α}(l:List α):vA (gC key a l)<=vA l+1:=by induction l<;>grind [gC]
theorem qi{c:lC}{a:Int}{d:List aB}(h:kC c a d=dA):∀p∈d,p.N≠⟨#[]⟩:=fun p f e=>by
 have b:=(yJ (pJ (cI h).2.2.2.2 p f)).1;rw[e]at b;simp only[tC,Sa,Ab]at b;have g:(⟨#[]⟩:gB).size=0:=rfl;omega
def PG{c:lC}{b:Int}{a:List aB}(h:kC c b a=dA)(e:vA a+nB a<=1900000):∀x∈a,bl x:=fun x d=>by
 obtain⟨_,j,k,_,g⟩:=cI h;obtain⟨_,_,_,l,m⟩:=wX e x d;refine⟨by omega,by omega,fun i f=>?_⟩;have:=CG (yJ (pJ g x d)).2.2.1 _ (Gb f);omega
def aMc{c:lC}{a:Int}{b:List aB}(h:kC c a b=dA):dE c.w a (FY ⟨⟨#[]⟩,0,[],[]⟩ dA b)=b:=by grind [kC,dE,FY,mV,qi,pc,cI]
def vT(c:lC)(f:Int)(a:iC)(k:Nat)(j:List aB)(w:eA)(F:nC w a j)(m:kC c f j=dA)(E:vA j+nB j<=1900000):
 gA prog 63 #[oF c,rA #[lA mA f,oA a (vA j) k]] w fun e y=>∃r l,e=sA (rA #[lA mA f,oA r (vA j) l])/\vC y w.1.size r j/\kB w y:=by
 obtain⟨_,B,L,_,_⟩:=cI m;have I:xA (∀W,kB w W->gA prog 64 #[oF c,rA #[lA mA f,oA a (vA j) k],lA mA f,rA #[nA ⟨#[]⟩,lA mA 0,oA aA 0 0,oA aA 0 0]] W fun e y=>∃r l,e=sA (rA #[lA mA f,oA r (vA j) l])/\vC y W.1.size r j/\kB W y):=fun W K=>by
  have:=FB c f f a k j ⟨⟨#[]⟩,0,[],[]⟩ aA aA 0 0 W (F.z K) (Ca rfl) (Ca rfl) (by omega) (fun x C=>by
   rcases C with rfl|C;exact ⟨Oa _,Oa _,fun i h=>absurd h (by simp)⟩;exact PG m E x C) B (by omega)
  have e:(⟨⟨#[]⟩,0,[],[]⟩:aB).N.toList.isEmpty=dA:=by kernel_rfl
  rw[e,aMc m]at this;exact this
 clear F m E;unfold oF at *;go_enter func63,ntmps63;have D:xA (kB w (((w.alloc (tA #[lA mA c.w,lA mA c.tl,lA mA c.ml,lA mA c.sh,lA mA c.ha,lA mA c.sg] 46)).alloc (tA #[lA mA f,oA a (vA j) k] 41)).alloc (tA #[lA mA 0,oA aA 0 0] 41))):=oB (oB vB vB) vB;have J:xA _:=yA (by have:=iB.new ((w.alloc (tA #[lA mA c.w,lA mA c.tl,lA mA c.ml,lA mA c.sh,lA mA c.ha,lA mA c.sg] 46)).alloc (tA #[lA mA f,oA a (vA j) k] 41)) #[lA mA 0,oA aA 0 0] 41;simpa using this);go_wp2_with fail;refine(I.o _ D.o).mono ?_;rintro e o ⟨p,u,rfl,t,n⟩;have A:xA _:=yA (by simpa using t);have z:xA (iB o (w.1.size+1+1) #[lA mA 0,oA aA 0 0] 41):=J.o.z n;have H:xA _:=oB D.o n;have M:cC o (w.1.size+1+1) 0 (lA mA 0):=z.o.cell 0;have N:cC o (w.1.size+1+1) 1 (oA aA 0 0):=z.o.cell 1;have b:=z.o.free 0;have d:=z.o.free 1;clear t n;go_wp2;have q:bB (·=w.1.size+1+1) o ((o.setCell ⟨w.1.size+1+1,0,aA⟩ (lA mA f)).setCell ⟨w.1.size+1+1,1,aA⟩ (oA p (vA j) u)):=((bB.refl (·=w.1.size+1+1) o).setCell (Ca rfl) 0 _).setCell (Ca rfl) 1 _;have G:vC ((o.setCell ⟨w.1.size+1+1,0,aA⟩ (lA mA f)).setCell ⟨w.1.size+1+1,1,aA⟩ (oA p (vA j) u)) w.1.size p j:=(vC.turned A.o q (fun g O P e=>by omega)).mono (by omega);have s:=((bB.of (S:=fun i=>w.1.size<=i) H.o).trans' (q.mono fun i _ e=>by omega)).below (Ia _) fun i Q h=>by omega
 refine bodyPost_ret (v:=rA #[lA mA f,oA p (vA j) u]) (by simp[results,results63,go_sem,M,N]) rfl ?_;first
  |exact⟨p,⟨u,rfl⟩,G,s⟩
  |exact⟨p,u,rfl,G,s⟩
def KX(a:eA)(X:Nat)(K:aB)(b:eA):Prop:=
 ∃c e d f,iB b X #[nA K.N,lA mA K.L,oA c (vA K.M) e,oA d (vA K.Z) f] 85/\(∀W,bB (·=X) b W->yB W c K.M/\yB W d K.Z)/\a.1.size<=X/\kB a b
def JC{w W:eA}{B X:Nat}{q:iC}{c:List dB}(h:mC w B q c)(b:bB (·=X) w W)(n:X<B\/w.1.size<=X):yB W q c:=by
 rcases h with h|⟨g,o,d,t,rfl,m,f,h⟩;exact Ca h;have a:=zA f;have l:=b.block g a (by omega);have e:∀j,W.cell? ⟨g,j,aA⟩=w.cell? ⟨g,j,aA⟩:=fun j=>eA.cell?_of_block l;exact La ⟨g,o,rfl,by have:=b.size;omega,fun i k=>by simp only[e];exact h i k⟩
def aRt{e b:eA}{K:aB}{B M:Nat}{c d:iC}{f g:Nat}(i:mC b B c K.M)(j:mC b M d K.Z)(h:kB e b):
 KX e b.1.size K (b.alloc (tA #[nA K.N,lA mA K.L,oA c (vA K.M) f,oA d (vA K.Z) g] 85)):=by
 refine⟨c,f,d,g,iB.new _ _ _,fun W k=>?_,h.size,oB h vB⟩;have a:=(bB.of vB).trans' k;exact⟨JC i a (La (Ia _)),JC j a (La (Ia _))⟩
def aJw{f a:eA}{K:aB}{B M X:Nat}{b c:iC}{d e:Nat}(k:mC a B b K.M)(l:mC a M c K.Z)(m:X<B)(o:B<=M)(j:f.1.size<=X)(g:iB a X #[nA ⟨#[]⟩,lA mA 0,oA aA 0 0,oA aA 0 0] 85)(n:kB f a):
 KX f X K ((((a.setCell ⟨X,0,aA⟩ (nA K.N)).setCell ⟨X,1,aA⟩ (lA mA K.L)).setCell ⟨X,2,aA⟩ (oA b (vA K.M) d)).setCell ⟨X,3,aA⟩ (oA c (vA K.Z) e)):=by
 have i:bB (·=X) a ((((a.setCell ⟨X,0,aA⟩ (nA K.N)).setCell ⟨X,1,aA⟩ (lA mA K.L)).setCell ⟨X,2,aA⟩ (oA b (vA K.M) d)).setCell ⟨X,3,aA⟩ (oA c (vA K.Z) e)):=((((bB.refl (·=X) a).setCell (Ca rfl) 0 _).setCell (Ca rfl) 1 _).setCell (Ca rfl) 2 _).setCell (Ca rfl) 3 _;refine⟨b,d,c,e,?_,fun W h=>⟨JC k (i.trans' h) (Ca m),JC l (i.trans' h) (Ca (by omega))⟩,j,gz n j⟩;have:=(((g.set 0 (nA K.N)).set 1 (lA mA K.L)).set 2 (oA b (vA K.M) d)).set 3 (oA c (vA K.Z) e);simpa using this
structure CP(w W:World)(c:lC)(now:Int)(a:iC)(n cap:Nat):Prop where
 C:iB W w.1.size #[lA mA c.w,lA mA c.tl,lA mA c.ml,lA mA c.sh,lA mA c.ha,lA mA c.sg] 46
 S:iB W (w.1.size+1) #[lA mA now,oA a n cap] 41
 R:iB W (w.1.size+1+1) #[lA mA 0,oA aA 0 0] 41
 B:kB w W
section
variable {w W W':eA} {c:lC} {now:Int} {a:iC} {n cap:Nat}
theorem CP.new:CP w (((w.alloc (tA #[lA mA c.w,lA mA c.tl,lA mA c.ml,lA mA c.sh,lA mA c.ha,lA mA c.sg] 46)).alloc (tA #[lA mA now,oA a n cap] 41)).alloc (tA #[lA mA 0,oA aA 0 0] 41)) c now a n cap:=
 ⟨((iB.new _ _ _).alloc _).alloc _,by have:=(iB.new (w.alloc (tA #[lA mA c.w,lA mA c.tl,lA mA c.ml,lA mA c.sh,lA mA c.ha,lA mA c.sg] 46)) #[lA mA now,oA a n cap] 41).alloc (tA #[lA mA 0,oA aA 0 0] 41);simpa using this,
   by have:=iB.new ((w.alloc (tA #[lA mA c.w,lA mA c.tl,lA mA c.ml,lA mA c.sh,lA mA c.ha,lA mA c.sg] 46)).alloc (tA #[lA mA now,oA a n cap] 41)) #[lA mA 0,oA aA 0 0] 41;simpa using this,oB (oB vB vB) vB⟩
theorem CP.z(h:CP w W c now a n cap)(b:kB W W'):CP w W' c now a n cap:=⟨h.C.z b,h.S.z b,h.R.z b,oB h.B b⟩
theorem CP.lt(h:CP w W c now a n cap):w.1.size+1+1<W.1.size:=zA h.R
theorem CP.turn{X:Nat}(h:CP w W c now a n cap)(b:bB (·=X) W W')(d:w.1.size+1+1<X):CP w W' c now a n cap:=
 ⟨b.blk h.C (by omega),b.blk h.S (by omega),b.blk h.R (by omega),h.B.trans (b.below (by have:=h.B.size;omega) fun i f e=>by omega)⟩
theorem CP.cells(h:CP w W c now a n cap):W.cell? ⟨w.1.size,0,aA⟩=bA (lA mA c.w)/\W.cell? ⟨w.1.size,1,aA⟩=bA (lA mA c.tl)/\W.cell? ⟨w.1.size,2,aA⟩=bA (lA mA c.ml)/\W.cell? ⟨w.1.size,3,aA⟩=bA (lA mA c.sh)/\W.cell? ⟨w.1.size,4,aA⟩=bA (lA mA c.ha)/\W.cell? ⟨w.1.size,5,aA⟩=bA (lA mA c.sg)/\W.cell? ⟨w.1.size+1,0,aA⟩=bA (lA mA now)/\W.cell? ⟨w.1.size+1,1,aA⟩=bA (oA a n cap)/\W.cell? ⟨w.1.size+1+1,0,aA⟩=bA (lA mA 0)/\W.cell? ⟨w.1.size+1+1,1,aA⟩=bA (oA aA 0 0)/\W.frozen? ⟨w.1.size+1+1,0,aA⟩=cA/\W.frozen? ⟨w.1.size+1+1,1,aA⟩=cA/\w.1.size+1+1<W.1.size:=
 ⟨h.C.cell 0,h.C.cell 1,h.C.cell 2,h.C.cell 3,h.C.cell 4,h.C.cell 5,h.S.cell 0,h.S.cell 1,h.R.cell 0,h.R.cell 1,h.R.free 0,h.R.free 1,h.lt⟩
theorem CP.done{N rc:Nat}{v:Int}{d:iC}{b:List aB}(h:CP w W c now a n cap)(j:vC W N d b)(m:w.1.size+1+1<N):
 vC ((W.setCell ⟨w.1.size+1+1,0,aA⟩ (lA mA v)).setCell ⟨w.1.size+1+1,1,aA⟩ (oA d (vA b) rc)) w.1.size d b/\kB w ((W.setCell ⟨w.1.size+1+1,0,aA⟩ (lA mA v)).setCell ⟨w.1.size+1+1,1,aA⟩ (oA d (vA b) rc)):=by
 have f:bB (·=w.1.size+1+1) W ((W.setCell ⟨w.1.size+1+1,0,aA⟩ (lA mA v)).setCell ⟨w.1.size+1+1,1,aA⟩ (oA d (vA b) rc)):=((bB.refl (·=w.1.size+1+1) W).setCell (Ca rfl) 0 _).setCell (Ca rfl) 1 _;exact⟨(vC.turned j f (fun g k l e=>by omega)).mono (by omega),((bB.of (S:=fun i=>w.1.size<=i) h.B).trans' (f.mono fun i _ e=>by omega)).below (Ia _) fun i o h=>by omega⟩
end
def KXR(a:eA)(X:Nat)(K:aB)(c:eA):Prop:=
 ∃M b f e d,iB c X #[nA K.N,lA mA K.L,oA b (vA K.M) f,oA e (vA K.Z) d] 85/\mC c a.1.size b K.M/\(∀g o,b=bA ⟨g,o,aA⟩->g<M)/\c.ownsRow M 88 2 (oA e (vA K.Z) d) (vA K.Z) (flatK K.Z)/\(∀q,(iA.slice e (vA K.Z) d).ownBlock=bA q->q≠X)/\(∀g o,b=bA ⟨g,o,aA⟩->K.M≠[]->g≠X)/\a.1.size<=X/\a.1.size<=M/\kB a c
def aOj{d a:eA}{K:aB}{B M:Nat}{c k:iC}{b f:Nat}(r:d.1.size<=B)(l:mC a B c K.M)(i:∀g o,c=bA ⟨g,o,aA⟩->g<M)(m:a.ownsRow M 88 2 (oA k (vA K.Z) f) (vA K.Z) (flatK K.Z))(x:B<=M)(n:kB d a):
 KXR d a.1.size K (a.alloc (tA #[nA K.N,lA mA K.L,oA c (vA K.M) b,oA k (vA K.Z) f] 85)):=by
 refine⟨M,c,b,k,f,iB.new _ _ _,(l.mono r).z vB,i,jC m vB,fun q u e=>?_,fun g o e j v=>?_,n.size,by omega,oB n vB⟩;have:=(m.lt q u).2;omega;rcases l with h|⟨w,y,p,t,b,_,s,_⟩;exact j h;rw[b]at e;simp only[Qa,Addr.mk.injEq,Cc]at e;have:=zA s;omega
def aBl{l a:eA}{K:aB}{B M X:Nat}{d f:iC}{b c:Nat}(w:mC a B d K.M)(m:∀g o,d=bA ⟨g,o,aA⟩->g<M)(n:a.ownsRow M 88 2 (oA f (vA K.Z) c) (vA K.Z) (flatK K.Z))(H:X<B)(G:B<=M)(z:l.1.size<=X)(r:iB a X #[nA ⟨#[]⟩,lA mA 0,oA aA 0 0,oA aA 0 0] 85)(A:kB l a):
 KXR l X K ((((a.setCell ⟨X,0,aA⟩ (nA K.N)).setCell ⟨X,1,aA⟩ (lA mA K.L)).setCell ⟨X,2,aA⟩ (oA d (vA K.M) b)).setCell ⟨X,3,aA⟩ (oA f (vA K.Z) c)):=by
 have y:bB (·=X) a ((((a.setCell ⟨X,0,aA⟩ (nA K.N)).setCell ⟨X,1,aA⟩ (lA mA K.L)).setCell ⟨X,2,aA⟩ (oA d (vA K.M) b)).setCell ⟨X,3,aA⟩ (oA f (vA K.Z) c)):=((((bB.refl (·=X) a).setCell (Ca rfl) 0 _).setCell (Ca rfl) 1 _).setCell (Ca rfl) 2 _).setCell (Ca rfl) 3 _;refine⟨M,d,b,f,c,?_,?_,m,y.row n (fun q v e=>by have:=(n.lt q v).1;omega),fun q v e=>by have:=(n.lt q v).1;omega,fun g o e u E=>?_,z,by omega,gz A z⟩;have:=(((r.set 0 (nA K.N)).set 1 (lA mA K.L)).set 2 (oA d (vA K.M) b)).set 3 (oA f (vA K.Z) c);simpa using this
 .rcases w with h|⟨g,o,k,t,rfl,p,s,h⟩
  .exact Ca h
  have x:=y.block g (zA s) (by omega);have C:∀j,((((a.setCell ⟨X,0,aA⟩ (nA K.N)).setCell ⟨X,1,aA⟩ (lA mA K.L)).setCell ⟨X,2,aA⟩ (oA (bA ⟨g,o,aA⟩) (vA K.M) b)).setCell ⟨X,3,aA⟩ (oA f (vA K.Z) c)).cell? ⟨g,j,aA⟩=a.cell? ⟨g,j,aA⟩:=fun j=>eA.cell?_of_block x;exact La ⟨g,o,k,t,rfl,by omega,x.trans s,fun i D=>by simp only[C];exact h i D⟩
 rcases w with h|⟨F,I,k,t,b,p,s,_⟩;exact u h;rw[b]at e;simp only[Qa,Addr.mk.injEq,Cc]at e;omega
def qu{S:Nat->Prop}{w W:eA}{B:Nat}{q:iC}{a:List dB}(h:mC w B q a)(d:bB S w W)(f:∀g o,q=bA ⟨g,o,aA⟩->a≠[]->¬S g):yB W q a:=by
 rcases h with h|⟨g,o,e,t,rfl,n,b,h⟩;exact Ca h
 by_cases c:a=[]
 .exact Ca c
 have m:=d.block g (zA b) (f g o rfl c);have k:∀j,W.cell? ⟨g,j,aA⟩=w.cell? ⟨g,j,aA⟩:=fun j=>eA.cell?_of_block m;exact La ⟨g,o,rfl,by have:=d.size;have:=zA b;omega,fun i l=>by simp only[k];exact h i l⟩
def aJq{l:List dB}(e:wC (·.s) l){k:gB}{n:Int}{i:Nat}(b:i<vA l)(h:l[i].s=k):gC (·.s) ⟨k,n⟩ l=l.set i ⟨k,n⟩:=by
 induction l generalizing i with
 |nil=>simp at b
 |cons p r g=>
  cases i with
  |zero=>
   have d:p.s=k:=h;rw[gC,Ja (by show ¬aK p.s k=dA;rw[d,gQ];simp),Ma (by exact(jE _ _).2 d)];rfl
  |succ i=>
   have a:i<vA r:=by simpa using b
   have c:r[i].s=k:=by simpa using h
   have f:aK p.s k=dA:=by rw[<-c];exact e.head _ (Gb a)
   rw[gC,Ma f,g e.tail a c];rfl
def aEn(l:List dB)(i:Nat)(b:i<vA l)(n:Int):flatK (l.set i ⟨l[i].s,n⟩)=(flatK l).set (i*2+1) (lA mA n):=by
 induction l generalizing i with
 |nil=>simp at b
 |cons p r c=>
  cases i with
  |zero=>rfl
  |succ i=>
   have a:i<vA r:=by simpa using b
   have:=c i a;simp only[flatK,Jd,Xc,Ec]at this |-
   rw[this];have e:(i+1)*2+1=(i*2+1)+2:=by omega
   rw[e];rfl
def aLy{w:eA}{M g n a:Nat}{f:List iA}{j:Nat}{v:iA}(h:w.ownsRow M 88 2 (oA (bA ⟨g,0,aA⟩) n a) n f):(w.setCell ⟨g,j,aA⟩ v).ownsRow M 88 2 (oA (bA ⟨g,0,aA⟩) n a) n (f.set j v):=by
 refine⟨by rw[Pd];exact h.1,?_⟩;rcases h.2 with⟨e,_⟩|⟨q,d,b,e,o,p,i,k,l,m⟩
 .cases e
 simp only[iA.slice.injEq,Qa,Addr.mk.injEq,Cc]at e;obtain⟨rfl,_,rfl⟩:=e;have c:iB w g b 88:=p;refine La ⟨g,a,b.setIfInBounds j v,rfl,o,c.set j v,i,k,by simp[l],?_⟩;rw[Jf,List.take_set,m]
def rk{w:eA}{M n b:Nat}{a:iC}{f:List iA}(h:w.ownsRow M 88 2 (oA a n b) n f)(i:0<n):∃g,a=bA ⟨g,0,aA⟩:=by
 rcases h.2 with⟨_,e⟩|⟨g,c,d,e,_⟩;omega;simp only[iA.slice.injEq]at e;exact⟨g,e.1⟩
def aSt{w:eA}{M n b:Nat}{a:iC}{i:List iA}(h:w.ownsRow M 88 2 (oA a n b) n i):(a=aA/\b=0/\n=0)\/∃g,a=bA ⟨g,0,aA⟩:=by
 rcases h.2 with⟨e,f⟩|⟨g,c,d,e,_⟩;simp only[iA.slice.injEq]at e;exact Ca ⟨e.1,e.2.2,f⟩;simp only[iA.slice.injEq]at e;exact La ⟨g,e.1⟩
def aPm{w:eA}{M n a g:Nat}{f:List iA}(h:w.ownsRow M 88 2 (oA (bA ⟨g,0,aA⟩) n a) n f):n<=a:=by
 rcases h.2 with⟨e,_⟩|⟨i,b,c,e,_,_,d,_⟩
 .cases e
 simp only[iA.slice.injEq]at e;rw[e.2.2];exact d
def aQc{w:eA}{M g a j:Nat}{l:List dB}(h:w.ownsRow M 88 2 (oA (bA ⟨g,0,aA⟩) (vA l) a) (vA l) (flatK l))(n:j<=vA l):sU w (bA ⟨g,0,aA⟩) j (flatK (l.take j))/\sU w (bA ⟨g,j*2,aA⟩) (vA l-j) (flatK (l.drop j)):=by
 have p:=zD h;by_cases d:l=[]
 .subst d;exact⟨Ca (by simpa using n),Ca (by simp)⟩
 rcases p with m|⟨q,o,f,t,e,_,_,c⟩;exact absurd m d;simp only[Qa,Addr.mk.injEq,Cc]at e;obtain⟨rfl,rfl⟩:=e;refine⟨La ⟨_,rfl,jO fun i b=>?_⟩,La ⟨_,rfl,jO fun i b=>?_⟩⟩;rw[Hb]at b;have:=c i (by omega);simpa[Ue]using this;rw[Rc]at b;have:=c (j+i) (by omega);have k:0+(j+i)*2=j*2+i*2:=by omega
 rw[k]at this;simpa[Cg]using this
def FZ{P:Program}(w:eA){C:Array Oper}{l:List Oper}{o:Oper}{a:Act}{Q:Exit->Act->eA->Prop}(y:o.guard=aA)(s x:Operand)(t:TypeId)
(W:o.op=.call { callee:=.builtin .append,args:=#[s,x],argTypes:=#[t,t] })
(base:Nat)(e:TypeId)(i:TypeInfo)(z:iA)(size d:Nat)(Y:P.underlying t=bA (.slice e))(U:P.info? e=bA i)(O:i.zero=bA z)
(q:i.size=size)(G:i.bytes=d)(I:z.cells.size=size)(H:0<size)
(v n E:Nat)(J:List iA)(X:a.eval s=oA (bA ⟨v,0,aA⟩) n E)(A:w.ownsRow base e size (oA (bA ⟨v,0,aA⟩) n E) n J)
(D:iC)(m c:Nat)(b:List iA)(Z:a.eval x=oA D m c)(V:vA b=m*size)(B:sU w D m b)(K:∀u∈b,u.oneCell'=dA)
(F:n+m<=maxLen)(j:(n+m)*d<=140737488355328)(p:base<=w.1.size)
(h:∀g f r,r.ownsRow base e size (oA (bA ⟨g,0,aA⟩) (n+m) f) (n+m) (J++b)->Below base w r->(∀k,k<w.1.size->k≠v->r.heap[k]?=w.heap[k]?)->base<=g->(g=v\/g=w.1.size)->g<r.1.size->wpList P C Q l (a.put o.dst (oA (bA ⟨g,0,aA⟩) (n+m) f)) r):wpList P C Q (o::l) a w:=
 wpList_plain y fun _ T=>XI w y s x t W base e i z size d Y U O q G I H v n E J X A D m c b Z V B K F j p fun g f r L M N O R S=>T _ _ (h g f r L M N O R S)
def XP{w a:eA}{cs:Array iA}{t:TypeId}(h:Below (w.alloc (tA cs t)).drew.1.size (w.alloc (tA cs t)).drew a):iB a w.1.size cs t:=(iB.new w cs t).z ⟨h.os,h.tape,h.output,h.size,h.block⟩
def aAm{s:gB}(h:tC s=dA):s.toList.isEmpty=cA:=by
 refine BE.2 fun e=>?_;simp only[tC,Sa,Ab]at h;rw[e,Nf]at h;omega
structure SC(w:World)(c:lC)(now:Int)(a:iC)(cap:Nat)(ts:List aB)(tenant:gB)(tn:aB):Prop where
 ok:∀W,kB w W→qD 16 #[rA #[lA mA c.w,lA mA c.tl,lA mA c.ml,lA mA c.sh,lA mA c.ha,lA mA c.sg],rA #[lA mA now,oA a (vA ts) cap]] W (pA dA)
 nm:∀W,dI 19 #[nA tenant] W (pA dA)
 sm:∀W,kB w W→gA prog 63 #[rA #[lA mA c.w,lA mA c.tl,lA mA c.ml,lA mA c.sh,lA mA c.ha,lA mA c.sg],rA #[lA mA now,oA a (vA ts) cap]] W fun e w'=>∃a' cap',e=sA (rA #[lA mA now,oA a' (vA ts) cap'])∧vC w' W.1.size a' ts∧kB W w'
 te:∀W,kB w W→gA prog 28 #[rA #[lA mA now,oA a (vA ts) cap],nA tenant] W fun e w'=>(∃a1 c1 a2 c2,e=sA (rA #[nA tn.N,lA mA tn.L,oA a1 (vA tn.M) c1,oA a2 (vA tn.Z) c2])∧yB w' a1 tn.M∧yB w' a2 tn.Z)∧kB W w'
 kp:∀W a1 a2 c1 c2,yB W a1 tn.M→yB W a2 tn.Z→gA prog 65 #[rA #[nA tn.N,lA mA tn.L,oA a1 (vA tn.M) c1,oA a2 (vA tn.Z) c2],lA mA now,lA mA c.w] W fun e w'=>∃M a1 c1 a2 c2,e=sA (rA #[nA tn.N,lA mA tn.L,oA a1 (vA tn.M) c1,oA a2 (vA tn.Z) c2])∧W.1.size≤M∧mC w' W.1.size a1 tn.M∧(∀g o,a1=bA ⟨g,o,aA⟩→g<M)∧w'.ownsRow M 88 2 (oA a2 (vA tn.Z) c2) (vA tn.Z) (flatK tn.Z)∧M≤w'.1.size∧kB W w'
 wi:∀W L ms ss q1 q2 e1 e2,kB w W→yB W q1 ms→yB W q2 ss→bl ⟨tn.N,L,ms,ss⟩→gA prog 64 #[rA #[lA mA c.w,lA mA c.tl,lA mA c.ml,lA mA c.sh,lA mA c.ha,lA mA c.sg],rA #[lA mA now,oA a (vA ts) cap],lA mA now,rA #[nA tn.N,lA mA L,oA q1 (vA ms) e1,oA q2 (vA ss) e2]] W fun e w'=>∃a' cap',e=sA (rA #[lA mA now,.slice a' (vA (dE c.w now (gC (·.N) ⟨tn.N,L,ms,ss⟩ ts))) cap'])∧vC w' W.1.size a' (dE c.w now (gC (·.N) ⟨tn.N,L,ms,ss⟩ ts))∧kB W w'
 fit:bl tn
 len:vA tn.M≤1900000∧vA tn.Z≤1900000
 rm:wC (·.s) tn.M
 rs:wC (·.s) tn.Z
 now0:0≤now∧now≤1000000000000
def aQz{c:lC}{l:Int}{a:iC}{cap:Nat}{k:List aB}{j:gB}{w:eA}(v:nC w a k)(o:vA k+nB k<=1900000)(P:j.size<=1900000)(t:kC c l k=dA)(C:tC j=dA):SC w c l a cap k j (bC k j):=by
 obtain⟨d,b,f,g⟩:=fP o;obtain⟨-,r,z,-,m⟩:=cI t;obtain⟨-,-,-,R,S⟩:=LV (wX o) P;have p:bl (bC k j)/\wC (·.s) (bC k j).M/\wC (·.s) (bC k j).Z:=by
  rcases yN (ts:=k) (name:=j) with⟨u,_⟩|⟨e,_⟩;obtain ⟨-,N,O,-⟩:=yJ (pJ m _ u);have E:=LB (n:=vA (bC k j).M) N (Ia _);have F:=LP (n:=vA (bC k j).Z) O (Ia _);rw[Rb]at E F;exact⟨PG t o _ u,E,F⟩;rw[e];exact⟨⟨Oa _,Oa _,fun i h=>absurd h (by simp)⟩,Gd,Gd⟩
 refine⟨fun W q=>?_,fun W=>?_,fun W q=>vT c l a cap k W (v.z q) t o,fun W q=>dY l a cap k j W (v.z q) (by omega),fun W G H I J A B=>?_,fun W L D h T U K M q A B y=>?_,p.1,⟨R,S⟩,p.2.1,p.2.2,r,z⟩;have:=jG c l a cap k W (v.z q) b (by omega);rw[t]at this;exact this;have:=cG j W (by unfold maxLen;omega);rw[C]at this;exact this;have:=NB (bC k j) G H I J l c.w W A B (by omega) (by omega) r (by omega) p.1.2.2;rw[BT (FW m)]at this;exact this;have:=FB c l l a cap k ⟨(bC k j).N,L,D,h⟩ T U K M W (v.z q) A B (by omega) (fun x Q=>Q.elim (fun e=>e ▸ y) (PG t o x)) r (by omega);rw[show(⟨(bC k j).N,L,D,h⟩:aB).N.toList.isEmpty=cA from by show(bC k j).N.toList.isEmpty=cA;rw[kJ];exact aAm C,aMt (lV m)]at this;exact this
def SC.wn{w:eA}{c:lC}{b:Int}{a:iC}{f:Nat}{n k:List aB}{d:gB}{j:aB}(h:SC w c b a f n d j){W:eA}{L:Int}{i C:List dB}{l m:iC}{p q r s:Nat}(x:dE c.w b (gC (·.N) ⟨j.N,L,i,C⟩ n)=k)(u:vA i=r)(v:vA C=s)(y:kB w W)(A:yB W l i)(B:yB W m C)(z:bl ⟨j.N,L,i,C⟩):
 gA prog 64 #[rA #[lA mA c.w,lA mA c.tl,lA mA c.ml,lA mA c.sh,lA mA c.ha,lA mA c.sg],rA #[lA mA b,oA a (vA n) f],lA mA b,rA #[nA j.N,lA mA L,oA l r p,oA m s q]] W fun e t=>∃o g,e=sA (rA #[lA mA b,oA o (vA k) g])/\vC t W.1.size o k/\kB W t:=by
 subst x u v;exact h.wi W L i C l m p q y A B z
def CP.kin{w W:eA}{c:lC}{e:Int}{a:iC}{n d:Nat}(h:CP w W c e a n d):∀b,kB W b->b.cell? ⟨w.1.size+1,0,aA⟩=bA (lA mA e)/\b.cell? ⟨w.1.size+1,1,aA⟩=bA (oA a n d)/\b.cell? ⟨w.1.size,0,aA⟩=bA (lA mA c.w):=fun b f=>by
 have k:=h.z f;exact⟨k.S.cell 0,k.S.cell 1,k.C.cell 0⟩
def px{L:kG}{b:Bool}(h:iJ L=b)(w:eA):qD 66 #[rA #[lA mA L.first,lA mA L.last,lA mA L.size]] w (pA b):=h ▸ DS L w
def aTs(R:mE×kG×Nat)(a:iC)(cap:Nat):iA:=
 .tuple #[rA #[oA a (vA R.1.fs) cap,lA mA R.1.c,lA mA R.1.k,lA mA R.1.cr,lA mA R.1.fl,pA R.1.dn],rA #[lA mA R.2.1.first,lA mA R.2.1.last,lA mA R.2.1.size],lA mA R.2.2]
structure LA(w W:World)(P:Nat)(a:iC)(cap:Nat)(fs:List cB)(c k cr fl:Int)(dn:Bool)(lf ll ls:Int):Prop where
 D:iB W P #[oA a (vA fs) cap,lA mA c,lA mA k,lA mA cr,lA mA fl,pA dn] 37
 L:iB W (w.1.size+1) #[lA mA lf,lA mA ll,lA mA ls] 38
 RD:iB W (w.1.size+1+1) #[oA aA 0 0,lA mA 0,lA mA 0,lA mA 0,lA mA 0,pA cA] 37
 RL:iB W (w.1.size+1+1+1) #[lA mA 0,lA mA 0,lA mA 0] 38
 F:eB W a fs
 B:kB w W
section
variable {w W W':eA} {P Q:Nat} {a a':iC} {cap cap':Nat} {fs fs':List cB} {c k cr fl c' k' cr' fl':Int} {dn dn':Bool} {lf ll ls:Int}
theorem LA.z(h:LA w W P a cap fs c k cr fl dn lf ll ls)(b:kB W W'):LA w W' P a cap fs c k cr fl dn lf ll ls:=⟨h.D.z b,h.L.z b,h.RD.z b,h.RL.z b,h.F.z b,oB h.B b⟩
theorem LA.cells(h:LA w W P a cap fs c k cr fl dn lf ll ls):(W.cell? ⟨P,0,aA⟩=bA (oA a (vA fs) cap)/\W.cell? ⟨P,1,aA⟩=bA (lA mA c)/\W.cell? ⟨P,2,aA⟩=bA (lA mA k)/\W.cell? ⟨P,3,aA⟩=bA (lA mA cr)/\W.cell? ⟨P,4,aA⟩=bA (lA mA fl)/\W.cell? ⟨P,5,aA⟩=bA (pA dn))/\(W.cell? ⟨w.1.size+1,0,aA⟩=bA (lA mA lf)/\W.cell? ⟨w.1.size+1,1,aA⟩=bA (lA mA ll)/\W.cell? ⟨w.1.size+1,2,aA⟩=bA (lA mA ls))/\
 (W.cell? ⟨w.1.size+1+1,0,aA⟩=bA (oA aA 0 0)/\W.cell? ⟨w.1.size+1+1,1,aA⟩=bA (lA mA 0)/\W.cell? ⟨w.1.size+1+1,2,aA⟩=bA (lA mA 0)/\W.cell? ⟨w.1.size+1+1,3,aA⟩=bA (lA mA 0)/\W.cell? ⟨w.1.size+1+1,4,aA⟩=bA (lA mA 0)/\W.cell? ⟨w.1.size+1+1,5,aA⟩=bA (pA cA))/\(W.cell? ⟨w.1.size+1+1+1,0,aA⟩=bA (lA mA 0)/\W.cell? ⟨w.1.size+1+1+1,1,aA⟩=bA (lA mA 0)/\W.cell? ⟨w.1.size+1+1+1,2,aA⟩=bA (lA mA 0))/\
 (∀j,W.frozen? ⟨P,j,aA⟩=cA)/\(∀j,W.frozen? ⟨w.1.size+1,j,aA⟩=cA)/\(∀j,W.frozen? ⟨w.1.size+1+1,j,aA⟩=cA)/\(∀j,W.frozen? ⟨w.1.size+1+1+1,j,aA⟩=cA)/\w.1.size+1+1+1<W.1.size:=
 ⟨h.D.c6,h.L.c3,h.RD.c6,h.RL.c3,h.D.free,h.L.free,h.RD.free,h.RL.free,zA h.RL⟩
theorem LA.ret(h:LA w W P a cap fs c k cr fl dn lf ll ls)(f:bB (fun i=>i=w.1.size+1+1\/i=w.1.size+1+1+1) W W'):eB W' a fs/\kB w W':=
 ⟨xc h.F f fun b o e d=>by rcases d with d|d;exact kg (gX h.F h.RD) e d;exact kg (XN h.F h.RL) e d,h.B.trans (f.below h.B.size fun i g e=>by omega)⟩
theorem LA.put(h:LA w W w.1.size a cap fs c k cr fl dn lf ll ls)(b:eB W a' fs'):LA w ((((((W.setCell ⟨w.1.size,0,aA⟩ (oA a' (vA fs') cap')).setCell ⟨w.1.size,1,aA⟩ (lA mA c')).setCell ⟨w.1.size,2,aA⟩ (lA mA k')).setCell ⟨w.1.size,3,aA⟩ (lA mA cr')).setCell ⟨w.1.size,4,aA⟩ (lA mA fl')).setCell ⟨w.1.size,5,aA⟩ (pA dn')) w.1.size a' cap' fs' c' k' cr' fl' dn' lf ll ls:=
 ⟨GI h.D,h.L.but (nK _ _ _ _ _ _) (by omega),h.RD.but (nK _ _ _ _ _ _) (by omega),h.RL.but (nK _ _ _ _ _ _) (by omega),b.apart (gX b h.D) (nK _ _ _ _ _ _),h.B.trans ((bB.but (nK _ _ _ _ _ _)).below h.B.size fun i d e=>by omega)⟩
theorem LA.putP(h:LA w W P a cap fs c k cr fl dn lf ll ls)(d:w.1.size+1+1+1<P)(b:eB W a' fs'):LA w ((((((W.setCell ⟨P,0,aA⟩ (oA a' (vA fs') cap')).setCell ⟨P,1,aA⟩ (lA mA c')).setCell ⟨P,2,aA⟩ (lA mA k')).setCell ⟨P,3,aA⟩ (lA mA cr')).setCell ⟨P,4,aA⟩ (lA mA fl')).setCell ⟨P,5,aA⟩ (pA dn')) P a' cap' fs' c' k' cr' fl' dn' lf ll ls:=
 ⟨GI h.D,h.L.but (nK _ _ _ _ _ _) (by omega),h.RD.but (nK _ _ _ _ _ _) (by omega),h.RL.but (nK _ _ _ _ _ _) (by omega),b.apart (gX b h.D) (nK _ _ _ _ _ _),h.B.trans ((bB.but (nK _ _ _ _ _ _)).below h.B.size fun i f e=>by omega)⟩
theorem LA.log(h:LA w W P a cap fs c k cr fl dn lf ll ls)(j:P≠w.1.size+1)(b:tD (w.1.size+1) W W'){d f:Int}(g:iB W' (w.1.size+1) #[lA mA lf,lA mA d,lA mA f] 38):LA w W' P a cap fs c k cr fl dn lf d f:=
 ⟨h.D.but b j,g,h.RD.but b (by omega),h.RL.but b (by omega),h.F.apart (XN h.F h.L) b,h.B.trans ((bB.but b).below h.B.size fun i l e=>by omega)⟩
end
def sj(a:iC)(cap:Nat)(fs:List cB)(c k cr fl:Int)(dn:Bool)(lf ll ls:Int)(p:gB)(d:Int)(w:eA)(Q:eB w a fs)(m:CO fs)(h:p.size<=1900000):
 gA prog 61 #[rA #[oA a (vA fs) cap,lA mA c,lA mA k,lA mA cr,lA mA fl,pA dn],rA #[lA mA lf,lA mA ll,lA mA ls],nA p,lA mA d] w fun e l=>
  ∃a' cap',e=sA (aTs (rE ⟨fs,c,k,cr,fl,dn⟩ ⟨lf,ll,ls⟩ p d) a' cap')/\eB l a' (rE ⟨fs,c,k,cr,fl,dn⟩ ⟨lf,ll,ls⟩ p d).1.fs/\kB w l:=by
 obtain⟨R,O⟩:∃R,rE ⟨fs,c,k,cr,fl,dn⟩ ⟨lf,ll,ls⟩ p d=R:=⟨_,rfl⟩
 rw[O];have HF:=yA Q;have HFIT:=yA m;have U:xA (p.size<=maxLen):=by show _<=_;unfold maxLen;omega
 have I:=m.len;have h:(jF p).size<=60008:=by
  unfold jF;split;rw[Ka,Ka,qB,qB];omega;simp
 obtain⟨F,o⟩:∃F,jF p=F:=⟨_,rfl⟩
 rw[o]at h;have HR0:=yA (fun h1 h2 h3 h B x=>O ▸ @uy ⟨fs,c,k,cr,fl,dn⟩ B ⟨lf,ll,ls⟩ p F d x o h1 h2 h3 h);have G:((iJ ⟨lf,ll,ls⟩=cA\/iJ ⟨lf,ll,ls⟩=dA/\wB d 1 1000000000=cA)/\R=(⟨fs,c,k,cr,fl,dn⟩,⟨lf,ll,ls⟩,21)\/iJ ⟨lf,ll,ls⟩=dA/\wB d 1 1000000000=dA/\F.toList.isEmpty=dA/\R=(⟨fs,c,k,cr,fl,dn⟩,⟨lf,ll,ls⟩,22))\/
  iJ ⟨lf,ll,ls⟩=dA/\wB d 1 1000000000=dA/\F.toList.isEmpty=cA/\¬(iJ ⟨lf,ll,ls⟩ &&wB d 1 1000000000)=cA/\¬jF p=kA/\((ls≠0/\d<ls+F.size)->ll=999999->R=(⟨fs,c,k,cr,fl,dn⟩,⟨lf,ll,ls⟩,23))/\(¬(ls≠0/\d<ls+F.size)->R=xH ⟨fs,c,k,cr,fl,dn⟩ ⟨lf,ll,ls⟩ F):=by
  rw[<-O];unfold rE;rw[o];cases hlb:iJ ⟨lf,ll,ls⟩<;>cases hmb:wB d 1 1000000000<;>simp
  by_cases B:F=kA
  .exact Ca ⟨by simpa using aCk.2 B,by simp[B]⟩
  exact La ⟨by simpa using BE.2 B,B,fun h1 h2 h3=>by simp[B,h1,h2,h3],fun h=>by rw[Ja B,Ja (by intro x;have:=h x.1;omega)]⟩
 have J:=yA G;clear Q m G O;go_enter func61,ntmps61;go_wp2_with fail;apply aC (WW p _ U.o);intro w1 Q;rw[o]at *;obtain⟨Y,hL,U,G,m⟩:=YP Q;obtain⟨a1,j,W2,o,W,n,Z⟩:=lz w1 a cap fs (HF.o.z m) I;have B:=yA o;have O:=yA W;have A:=yA (LA.z ⟨Y,hL,U,G,HF.o.z m,m⟩ n);obtain⟨x0,-⟩:=Y.c6;have f:=zA G;have hn3:w.1.size<w1.1.size:=by omega
 clear Q Y hL U G m o W n Z;obtain⟨⟨I,-⟩,-,-,-,o,-⟩:=A.o.cells;go_upto_region 2 with fail;go_cut [11] (fun m wx=>m=nA F/\∃a1 j,LA w wx w.1.size a1 j fs c k cr fl dn lf ll ls)
 case first=>
  go_wp2_with(at_builtin;refine Lib.wpList_append_run _ rfl _ _ _ _ rfl _ _ rfl rfl _ _ B.o ?_);go_meet;have m:tD w.1.size W2 (W2.setCell ⟨w.1.size,0,aA⟩ (oA a1 (vA fs) j)):=(tD.refl _ _).setCell 0 _;have h0:=A.o.D.set 0 (oA a1 (vA fs) j);exact⟨rfl,a1,j,by simpa using h0,A.o.L.but m (by omega),A.o.RD.but m (by omega),A.o.RL.but m (by omega),O.o.apart (gX O.o A.o.D) m,A.o.B.setCell (Ia _) _⟩
 clear A I o x0 f hn3 B O;obtain⟨rfl,a1,j,hA⟩:=hcut;rename eA=>w2;have A:=yA hA;clear hA;obtain⟨⟨I,N,O,S,T,U⟩,⟨X,Y,Z⟩,⟨q,r,s,t,u,y⟩,⟨z,C,G⟩,B,Q,W,yx,f⟩:=A.o.cells;rcases J.o with m|⟨hlb,hmb,o,o,hNE,h23,hT⟩
 .rcases m with⟨h1|⟨h1,h2⟩,E⟩|⟨h1,h2,h3,E⟩
  all_goals
   have E:=yA E;clear HR0 J;go_wp2_with(first
    |(go_at_call 66;refine aC (px (L:=⟨lf,ll,ls⟩) (by assumption) _) ?_;intro w3 i;replace A:=yA (A.o.z i);clear i I N O S T U X Y Z q r s t u y z C G B Q W yx f;obtain⟨⟨I,N,O,S,T,U⟩,⟨X,Y,Z⟩,⟨q,r,s,t,u,y⟩,⟨z,C,G⟩,B,Q,W,yx,f⟩:=A.o.cells)
    |(go_at_call 48;refine lK (bE (by assumption) _) ?_))
   go_region
   go_wp2;refine bodyPost_ret (v:=?_) (by simp[results,results61,go_sem,q,r,s,t,u,y,z,C,G];rfl) rfl ?_;rw[E.o];refine⟨a1,j,rfl,A.o.ret ?_⟩;repeat (first|with_reducible exact bB.refl _ _|with_reducible refine bB.drew ?_|with_reducible refine bB.setCell ?_ (Ca (by simp)) _ _)
 have HN:=yA (⟨o,hNE,h23,hT⟩:_/\_/\_/\_);have m:=hlb;simp only[iJ,wB,Sa,Ab]at m;obtain⟨⟨⟨hl1,hl2⟩,-⟩,hl3,hl4⟩:=m;obtain⟨m,m⟩:1<=d/\d<=1000000000:=by simpa[wB]using hmb
 clear J o hNE h23 hT;go_upto_region 7 with(first
  |(go_at_call 66;refine aC (px (L:=⟨lf,ll,ls⟩) (by assumption) _) ?_;intro w3 i;replace A:=yA (A.o.z i);clear I N O S T U X Y Z q r s t u y z C G B Q W yx f i;obtain⟨⟨I,N,O,S,T,U⟩,⟨X,Y,Z⟩,⟨q,r,s,t,u,y⟩,⟨z,C,G⟩,B,Q,W,yx,f⟩:=A.o.cells)
  |(go_at_call 48;refine lK (bE (by assumption) _) ?_))
 go_cut [48] (fun m wx=>m=pA (decide (ls≠0/\d<ls+F.size))/\wx=w3)
 case first=>
  have h3:(ls==0)=dA/\(ls != 0)=cA/\decide (ls≠0/\d<ls+F.size)=cA\/(ls==0)=cA/\(ls != 0)=dA/\(d<ls+F.size/\decide (ls≠0/\d<ls+F.size)=dA\/¬d<ls+F.size/\decide (ls≠0/\d<ls+F.size)=cA):=by
   by_cases h0:ls=0
   .left;simp[h0]
   right;by_cases m:d<ls+F.size<;>simp[h0,m]
  rcases h3 with⟨x1,x2,m⟩|⟨x1,x2,⟨x3,m⟩|⟨x3,m⟩⟩
  all_goals
   have m:=yA m;go_wp2;go_meet;exact⟨by rw[m.o],rfl⟩
 obtain⟨rfl,m⟩:=hcut;subst m;rename eA=>w3;clear I N O S T U X Y Z q r s t u y z C G B Q W yx f;go_upto_if 48 with fail;go_cut [12,13] (fun _ _ wx=>∃(fs9:List cB)(c9 k9 cr9 fl9:Int)(dn9:Bool)(g o:Int)(a9:iC)(cap9:Nat),LA w wx w.1.size a9 cap9 fs9 c9 k9 cr9 fl9 dn9 lf g o/\CO fs9/\1<=g/\g<=999999/\0<=o/\o<=1000000000/\xA (R=xH ⟨fs9,c9,k9,cr9,fl9,dn9⟩ ⟨lf,g,o⟩ F))
 case first=>
  by_cases hb:ls≠0/\d<ls+F.size
  .have HBT:=yA hb;rw[Ac hb];clear hb;obtain⟨⟨I,N,O,S,T,U⟩,⟨X,Y,Z⟩,⟨q,r,s,t,u,y⟩,⟨z,C,G⟩,B,Q,W,yx,f⟩:=A.o.cells;by_cases J:ll=999999
   .have E:=yA (HN.o.2.2.1 HBT.o J);have m:(ll==999999)=dA:=by simpa using J
    clear J;go_wp2_with fail;go_region
    go_wp2;refine bodyPost_ret (v:=?_) (by simp[results,results61,go_sem,q,r,s,t,u,y,z,C,G];rfl) rfl ?_;rw[E.o];refine⟨_,_,rfl,A.o.ret ?_⟩;repeat (first|with_reducible exact bB.refl _ _|with_reducible refine bB.drew ?_|with_reducible refine bB.setCell ?_ (Ca (by simp)) _ _)
   have m:(ll==999999)=cA:=by simpa using J
   have hl5:ll+1<=999999:=by omega
   have m:IntKind.i64.wrap (ll+1)=ll+1:=by rw[IntKind.wrap_i64];omega
   obtain⟨fs1,c1,k1,cr1,fl1,dn1,H,hst,m,hs1⟩:=ir (D:=⟨fs,c,k,cr,fl,dn⟩) (op:=tJ (ll+1)) HFIT.o (by have:=cT (ll+1);unfold maxLen;show(jN (ll+1)).size<=_;omega) (by show(0:Nat)<=_;omega) (by show(0:Nat)<=_;omega);have EN:=yA (HR0.o HN.o.1 HN.o.2.1 HBT.o J _ _ hst);have HFIT1:=yA m;have HST1:xA (KE _ ⟨1,jN (ll+1),⟨#[]⟩,⟨#[]⟩,0⟩ _ _):=hs1;clear hst m hs1 J I N O S T U X Y Z q r s t u y z C G B Q W yx f;obtain⟨⟨I,N,O,S,T,U⟩,⟨X,Y,Z⟩,⟨q,r,s,t,u,y⟩,⟨z,C,G⟩,B,Q,W,yx,f⟩:=A.o.cells;clear q r s t u y z C G W yx;go_upto_region 10 with fail;go_cut [12,13] (fun sa sb wx=>∃P,sa=.pointer (bA ⟨P,0,aA⟩)/\sb=lA mA (H:Nat)/\PX w3 P fs1 c1 k1 cr1 fl1 dn1 wx)
   case first=>
    have K:=yA (fun l(h:kB w3 l)=>(⟨(A.o.D.z h).c6,(A.o.L.z h).c3⟩:_/\_));go_region_held3 (fun l=>(l.cell? ⟨w.1.size,0,aA⟩=bA (oA a1 (vA fs) j)/\l.cell? ⟨w.1.size,1,aA⟩=bA (lA mA c)/\l.cell? ⟨w.1.size,2,aA⟩=bA (lA mA k)/\l.cell? ⟨w.1.size,3,aA⟩=bA (lA mA cr)/\l.cell? ⟨w.1.size,4,aA⟩=bA (lA mA fl)/\l.cell? ⟨w.1.size,5,aA⟩=bA (pA dn))/\l.cell? ⟨w.1.size+1,0,aA⟩=bA (lA mA lf)/\l.cell? ⟨w.1.size+1,1,aA⟩=bA (lA mA ll)/\l.cell? ⟨w.1.size+1,2,aA⟩=bA (lA mA ls))
     (first|go_keep|with_reducible exact K.o _ (aPx m (Ia _))|with_reducible exact K.o _ (aPx m V.size)|with_reducible exact K.o _ m|with_reducible exact K.o _ V|with_reducible exact K.o _ (oB V vB)|with_reducible exact K.o _ (vB.drew)|with_reducible exact K.o _ (oB m vB))
     (first
     |(go_at_call 69;apply aC (gV _ _);intro v2 n;have V:kB w3 v2:=(by first|with_reducible exact oB eD.drew n|with_reducible exact oB (vB.drew) n);have c2:=K.o _ V;(first|(have hz:=vU n)|skip))
     |(go_at_call 70;refine(HST1.o _ _ _ (A.o.F.z (by first|with_reducible exact V|with_reducible exact oB V vB))).mono ?_;rintro e v3 ⟨a2,cap2,rfl,how,i⟩;have J:=yA how;have m:kB w3 v3:=(by first|with_reducible exact oB V i|with_reducible exact oB (oB V vB) i);have c3:=K.o _ m;(first|(have hz:=hz.z i)|(have hz:iB _ v2.1.size _ _:=GJ i)|skip);(try (obtain⟨q0,q1,q2,q3,q4,q5⟩:=hz.c6;have b:=hz.free))))
    all_goals(go_wp2_with fail;go_meet)
    all_goals first
     |with_reducible exact⟨_,rfl,rfl,aLo J.o m⟩
     |exact⟨_,rfl,rfl,aLp J.o m (by first|exact Ia _|exact V.size) hz⟩
   obtain⟨P,rfl,rfl,a2,cap2,hP,hPB,hf2,hb4⟩:=hcut;rename eA=>w4;replace A:=yA (A.o.z hb4);have hN3:w.1.size+1+1+1<P:=by omega
   have F4:=yA hf2;clear I N O S T U X Y Z B Q f;obtain⟨⟨I,N,O,S,T,U⟩,⟨X,Y,Z⟩,⟨q,r,s,t,u,y⟩,⟨z,C,G⟩,B,Q,W,yx,f⟩:=A.o.cells;obtain⟨x0,x1,x2,x3,x4,x5⟩:=hPB.c6;clear hPB hf2 hb4;go_upto_region 11 with fail;go_cut [] (fun wx=>LA w wx w.1.size a2 cap2 fs1 c1 k1 cr1 fl1 dn1 lf ll ls)
   case first=>
    go_wp2_with fail;go_meet;exact A.o.put F4.o
   rename eA=>w5;replace A:=yA hcut;clear hcut x0 x1 x2 x3 x4 x5 F4 I N O S T U X Y Z q r s t u y z C G B Q W yx f;obtain⟨⟨I,N,O,S,T,U⟩,⟨X,Y,Z⟩,⟨q,r,s,t,u,y⟩,⟨z,C,G⟩,B,Q,W,yx,f⟩:=A.o.cells;by_cases hc:H=0
   .have hcb:((H:Int) != 0)=cA:=by simp[hc]
    have E:xA (R=xH ⟨fs1,c1,k1,cr1,fl1,dn1⟩ ⟨lf,ll+1,0⟩ F):=by show _=_;rw[EN.o,Ja (by simp[hc])]
    clear hc;go_wp2_with fail;go_meet;have hLn:=(A.o.L.set 1 (lA mA (ll+1))).set 2 (lA mA 0);exact⟨fs1,c1,k1,cr1,fl1,dn1,ll+1,0,a2,cap2,A.o.log (by omega) (((tD.refl _ _).setCell 1 _).setCell 2 _) (by simpa using hLn),HFIT1.o,by omega,hl5,by omega,by omega,E⟩
   have hcb:((H:Int) != 0)=dA:=by simpa using hc
   have E:xA (R=(⟨fs1,c1,k1,cr1,fl1,dn1⟩,⟨lf,ll,ls⟩,H)):=by show _=_;rw[EN.o,Ma hc]
   clear hc;go_wp2_with fail;go_region
   go_wp2;refine bodyPost_ret (v:=?_) (by simp[results,results61,go_sem,q,r,s,t,u,y,z,C,G];rfl) rfl ?_;rw[E.o];refine⟨_,_,rfl,A.o.ret ?_⟩;repeat (first|with_reducible exact bB.refl _ _|with_reducible refine bB.drew ?_|with_reducible refine bB.setCell ?_ (Ca (by simp)) _ _)
  have E:=yA (HN.o.2.2.2 hb);rw[Ub hb];clear hb;go_wp2_with fail;go_meet;exact⟨fs,c,k,cr,fl,dn,ll,ls,a1,j,A.o,HFIT.o,hl1,hl2,hl3,hl4,E⟩
 clear A HFIT;obtain⟨fs9,c9,k9,cr9,fl9,dn9,g,o,a9,cap9,hA,hfit9,h91,h92,h93,h94,E9⟩:=hcut;rename eA=>w9;have A:=yA hA;obtain⟨fs6,c6,k6,cr6,fl6,dn6,M,hst,hfit6,hs6⟩:=ir (D:=⟨fs9,c9,k9,cr9,fl9,dn9⟩) (op:=oI g F) hfit9 (by have:=cT (g);unfold maxLen;show(jN (g)).size<=_;omega) (by show(0:Nat)<=_;omega) (by show F.size<=_;omega);have HST6:xA (KE _ ⟨2,jN g,⟨#[]⟩,F,0⟩ _ _):=hs6;have HS6:=yA hst;have HFIT6:=yA hfit6;clear hst hfit6 hs6 hA hfit9 HR0 HN;obtain⟨⟨I,N,O,S,T,U⟩,⟨X,Y,Z⟩,⟨q,r,s,t,u,y⟩,⟨z,C,G⟩,B,Q,W,yx,f⟩:=A.o.cells;clear q r s t u y z C G W yx;go_upto_region 16 with fail;go_cut [14,15] (fun sa sb wx=>∃P,sa=.pointer (bA ⟨P,0,aA⟩)/\sb=lA mA (M:Nat)/\PX w9 P fs6 c6 k6 cr6 fl6 dn6 wx)
 case first=>
  have K:=yA (fun l(h:kB w9 l)=>(⟨(A.o.D.z h).c6,(A.o.L.z h).c3⟩:_/\_));go_region_held3 (fun l=>(l.cell? ⟨w.1.size,0,aA⟩=bA (oA a9 (vA fs9) cap9)/\l.cell? ⟨w.1.size,1,aA⟩=bA (lA mA c9)/\l.cell? ⟨w.1.size,2,aA⟩=bA (lA mA k9)/\l.cell? ⟨w.1.size,3,aA⟩=bA (lA mA cr9)/\l.cell? ⟨w.1.size,4,aA⟩=bA (lA mA fl9)/\l.cell? ⟨w.1.size,5,aA⟩=bA (pA dn9))/\l.cell? ⟨w.1.size+1,0,aA⟩=bA (lA mA lf)/\l.cell? ⟨w.1.size+1,1,aA⟩=bA (lA mA g)/\l.cell? ⟨w.1.size+1,2,aA⟩=bA (lA mA o))
   (first|go_keep|with_reducible exact K.o _ (aPx m (Ia _))|with_reducible exact K.o _ (aPx m V.size)|with_reducible exact K.o _ m|with_reducible exact K.o _ V|with_reducible exact K.o _ (oB V vB)|with_reducible exact K.o _ (vB.drew)|with_reducible exact K.o _ (oB m vB))
   (first
   |(go_at_call 69;apply aC (gV _ _);intro v2 n;have V:kB w9 v2:=(by first|with_reducible exact oB eD.drew n|with_reducible exact oB (vB.drew) n);have c2:=K.o _ V;(first|(have hz:=vU n)|skip))
   |(go_at_call 70;refine(HST6.o _ _ _ (A.o.F.z (by first|with_reducible exact V|with_reducible exact oB V vB))).mono ?_;rintro e v3 ⟨a2,cap2,rfl,how,i⟩;have J:=yA how;have m:kB w9 v3:=(by first|with_reducible exact oB V i|with_reducible exact oB (oB V vB) i);have c3:=K.o _ m;(first|(have hz:=hz.z i)|(have hz:iB _ v2.1.size _ _:=GJ i)|skip);(try (obtain⟨q0,q1,q2,q3,q4,q5⟩:=hz.c6;have b:=hz.free))))
  all_goals(go_wp2_with fail;go_meet)
  all_goals first
   |with_reducible exact⟨_,rfl,rfl,aLo J.o m⟩
   |exact⟨_,rfl,rfl,aLp J.o m (by first|exact Ia _|exact V.size) hz⟩
 obtain⟨P,rfl,rfl,a6,m,hP,hPB,hf6,h⟩:=hcut;rename eA=>w10;have hN3:w.1.size+1+1+1<P:=by omega
 have hA:LA w w10 P a6 m fs6 c6 k6 cr6 fl6 dn6 lf g o:=⟨hPB,A.o.L.z h,A.o.RD.z h,A.o.RL.z h,hf6,oB A.o.B h⟩
 replace A:=yA hA;clear hA hPB hf6 h I N O S T U X Y Z B Q f;obtain⟨⟨I,N,O,S,T,U⟩,⟨X,Y,Z⟩,⟨q,r,s,t,u,y⟩,⟨z,C,G⟩,B,Q,W,yx,f⟩:=A.o.cells;by_cases hc:M=0
 .have hcb:((M:Int) != 0)=cA:=by simp[hc]
  obtain⟨fs7,c7,k7,cr7,fl7,dn7,m,hst,-,h⟩:=ir (D:=⟨fs6,c6,k6,cr6,fl6,dn6⟩) (op:=yT g) HFIT6.o (by have:=cT (g);unfold maxLen;show(jN (g)).size<=_;omega) (by show(0:Nat)<=_;omega) (by show(0:Nat)<=_;omega);have HST7:xA (KE _ ⟨3,jN g,⟨#[]⟩,⟨#[]⟩,0⟩ _ _):=h;have ET:=yA (E9.o.trans (jX HS6.o hc hst));clear hc hst h;go_upto_region 19 with fail;go_cut [15] (fun sb wx=>sb=lA mA (m:Nat)/\∃a7 h,LA w wx P a7 h fs7 c7 k7 cr7 fl7 dn7 lf g o)
  case first=>
   go_region_with (first
    |(go_at_call 69;apply aC (gV _ _);intro v2 n;have A2:=yA (A.o.z (oB eD.drew n));obtain⟨⟨x0,x1,x2,x3,x4,x5⟩,-⟩:=A2.o.cells)
    |(go_at_call 70;refine(HST7.o _ _ _ A2.o.F).mono ?_;rintro e v3 ⟨a7,h,rfl,how,i⟩;have J:=yA how;have A3:=yA (A2.o.z i);obtain⟨⟨q0,q1,q2,q3,q4,q5⟩,-,-,-,b,-⟩:=A3.o.cells))
   all_goals
    go_wp2_with fail;go_meet;exact⟨rfl,a7,h,A3.o.putP (by omega) J.o⟩
  obtain⟨rfl,a7,h,hA⟩:=hcut;rename eA=>J;replace A:=yA hA;clear hA I N O S T U X Y Z q r s t u y z C G B Q W yx f;obtain⟨⟨I,N,O,S,T,U⟩,⟨X,Y,Z⟩,⟨q,r,s,t,u,y⟩,⟨z,C,G⟩,B,Q,W,yx,f⟩:=A.o.cells;by_cases J:m=0
  .have hcb7:((m:Int)==0)=dA:=by simp[J]
   have E:xA (R=(⟨fs7,c7,k7,cr7,fl7,dn7⟩,⟨lf,g,o+F.size⟩,m)):=by show _=_;rw[ET.o,Ja (by simp[J]),J]
   clear J;go_upto_region 21 with fail;go_cut [] (fun wx=>LA w wx P a7 h fs7 c7 k7 cr7 fl7 dn7 lf g (o+F.size))
   case first=>
    go_wp2_with fail;go_meet;have hLn:=A.o.L.set 2 (lA mA (o+F.size));exact A.o.log (by omega) ((tD.refl _ _).setCell 2 _) (by simpa using hLn)
   rename eA=>h;replace A:=yA hcut;clear hcut I N O S T U X Y Z q r s t u y z C G B Q W yx f;obtain⟨⟨I,N,O,S,T,U⟩,⟨X,Y,Z⟩,⟨q,r,s,t,u,y⟩,⟨z,C,G⟩,B,Q,W,yx,f⟩:=A.o.cells;go_wp2_with fail;go_region
   go_wp2;refine bodyPost_ret (v:=?_) (by simp[results,results61,go_sem,q,r,s,t,u,y,z,C,G];rfl) rfl ?_;rw[E.o];refine⟨_,_,rfl,A.o.ret ?_⟩;repeat (first|with_reducible exact bB.refl _ _|with_reducible refine bB.drew ?_|with_reducible refine bB.setCell ?_ (Ca (by simp)) _ _)
  have hcb7:((m:Int)==0)=cA:=by simpa using J
  have E:xA (R=(⟨fs7,c7,k7,cr7,fl7,dn7⟩,⟨lf,g,o⟩,m)):=by show _=_;rw[ET.o,Ma J]
  clear J;go_wp2_with fail;go_region
  go_wp2;refine bodyPost_ret (v:=?_) (by simp[results,results61,go_sem,q,r,s,t,u,y,z,C,G];rfl) rfl ?_;rw[E.o];refine⟨_,_,rfl,A.o.ret ?_⟩;repeat (first|with_reducible exact bB.refl _ _|with_reducible refine bB.drew ?_|with_reducible refine bB.setCell ?_ (Ca (by simp)) _ _)
 have hcb:((M:Int) != 0)=dA:=by simpa using hc
 have E:=yA (E9.o.trans (iX HS6.o hc));clear hc;go_wp2_with fail;go_region
 go_wp2;refine bodyPost_ret (v:=?_) (by simp[results,results61,go_sem,q,r,s,t,u,y,z,C,G];rfl) rfl ?_;rw[E.o];refine⟨_,_,rfl,A.o.ret ?_⟩;repeat (first|with_reducible exact bB.refl _ _|with_reducible refine bB.drew ?_|with_reducible refine bB.setCell ?_ (Ca (by simp)) _ _)
section
open Go.ChangeShapes Go.WideShapes Go.ChangeAt
def aDf:prog.cellsOf 23=6:=by kernel_rfl
def vk:prog.cellsOf 3=1:=by kernel_rfl
def qq{H:Type}{f:TypeId×iA->H}{W:eA}{r:Reach}{z:Nat}{v:iA}{d:DataW H}{p:List MemPlace}(B:iA.okWide prog W r z 23 v)(h:DataW.Trod f prog W 0 (fun _=>dA) dA 23 v d p):
 ∃c:lC,v=oF c:=by
 obtain⟨cs,rfl,b⟩:=okWide_struct underlying23 B;obtain⟨q,A⟩:=h;obtain⟨J,n,_,_,_,e,a⟩:=DataW.trod_struct underlying23 A;rw[aDf]at b;obtain⟨l⟩:=cs;simp at b;match l,b with
 |[K,L,M,N,O,P],_=>
  match J,e with
  |[Q,R,S,T,U,V],_=>
   have s:=a 0 _ rfl;have t:=a 1 _ rfl;have u:=a 2 _ rfl;have w:=a 3 _ rfl;have x:=a 4 _ rfl;have y:=a 5 _ rfl;simp[iA.cells,vk]at s t u w x y;obtain⟨C,g,_,_⟩:=DataW.trod_int underlying3 s;obtain⟨D,i,_,_⟩:=DataW.trod_int underlying3 t;obtain⟨E,j,_,_⟩:=DataW.trod_int underlying3 u;obtain⟨F,k,_,_⟩:=DataW.trod_int underlying3 w;obtain⟨G,m,_,_⟩:=DataW.trod_int underlying3 x;obtain⟨I,o,_,_⟩:=DataW.trod_int underlying3 y;simp at g i j k m o;exact⟨⟨C,D,E,F,G,I⟩,by simp[oF,g,i,j,k,m,o]⟩
end
