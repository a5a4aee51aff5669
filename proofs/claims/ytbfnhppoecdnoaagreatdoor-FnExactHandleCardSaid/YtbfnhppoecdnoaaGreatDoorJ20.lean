import Derived.Test.YtbfnhppoecdnoaaGreatDoorJ17
set_option maxRecDepth 100000
set_option maxHeartbeats 4000000
set_option linter.defProp false
open Option renaming some->bA,none->aA
open ByteArray renaming empty->kA
open Bool renaming true->dA
open List renaming length->vA
namespace Go.Proofs.YtbfnhppoecdnoaaGreatDoor
open Go renaming World->eA,Calls->gA,Value->iA
open Value renaming agg->rA,string->nA,int->lA,slice->oA,bool->pA,pointer->qA,tuple->uA
open IntKind renaming i64->mA
open Ending renaming returned->sA
open Obj renaming cells->tA
open Go.RowKit Tryz
def jm(f:aB)(j i:iC)(m k:Nat)(w:eA)(E:yB w j f.M)(F:yB w i f.Z)(K:vA f.M<=1048576)(L:vA f.Z<=1048576):
 gA prog 114 #[rA #[nA f.N,lA mA f.L,oA j (vA f.M) m,oA i (vA f.Z) k]] w fun e t=>∃o r,e=sA (rA #[nA f.N,lA mA f.L,oA (bA ⟨o,0,aA⟩) (vA f.M) (vA f.M),oA (bA ⟨r,0,aA⟩) (vA f.Z) (vA f.Z)])/\
  w.1.size<=o/\o<r/\mC t w.1.size (bA ⟨o,0,aA⟩) f.M/\mC t w.1.size (bA ⟨r,0,aA⟩) f.Z/\kB w t:=by
 have y:=yA (fun(W:eA)(s:kB w W)=>ui (p:=160) (.inl rfl) j m f.M W (E.z s) K);have I:=yA (fun(W:eA)(s:kB w W)=>ui (p:=161) (.inr rfl) i k f.Z W (F.z s) L);clear E F;go_enter func114,ntmps114;go_wp2_with fail;apply aC (y.o _ (oB (oB vB vB) vB));rintro d ⟨C,b,G⟩;have x:xA _:=oB (oB (oB vB vB) vB) b;have A:xA (iB d w.1.size #[nA f.N,lA mA f.L,oA j (vA f.M) m,oA i (vA f.Z) k] 175):=(((iB.new _ _ _).alloc _).alloc _).z b;have B:xA (iB d (w.1.size+1) #[nA kA,lA mA 0,oA aA 0 0,oA aA 0 0] 85):=by have:=((iB.new (w.alloc (tA #[nA f.N,lA mA f.L,oA j (vA f.M) m,oA i (vA f.Z) k] 175)) #[nA kA,lA mA 0,oA aA 0 0,oA aA 0 0] 85).alloc (tA #[nA f.N,lA mA f.L,oA aA 0 0,oA aA 0 0] 85)).z b;exact yA (by simpa using this)
 have n:xA (iB d (w.1.size+1+1) #[nA f.N,lA mA f.L,oA aA 0 0,oA aA 0 0] 85):=by have:=(iB.new ((w.alloc (tA #[nA f.N,lA mA f.L,oA j (vA f.M) m,oA i (vA f.Z) k] 175)).alloc (tA #[nA kA,lA mA 0,oA aA 0 0,oA aA 0 0] 85)) #[nA f.N,lA mA f.L,oA aA 0 0,oA aA 0 0] 85).z b;exact yA (by simpa using this)
 have z:xA (mC d (w.1.size+1+1+1) (bA ⟨w.1.size+1+1+1,0,aA⟩) f.M):=by show mC _ _ _ _;simpa using C
 have u:w.1.size+1+1+1<d.1.size:=by simpa using G
 have M:cC d w.1.size 3 (oA i (vA f.Z) k):=A.o.cell 3;have N:cC d (w.1.size+1+1) 2 (oA aA 0 0):=n.o.cell 2;have O:=n.o.free 2;clear C G b A y;go_wp2_with fail;have h:xA (kB w (d.setCell ⟨w.1.size+1+1,2,aA⟩ (oA (bA ⟨w.1.size+1+1+1,0,aA⟩) (vA f.M) (vA f.M)))):=x.o.setCell (by simp;omega) _;apply aC (I.o _ h.o);rintro a ⟨D,c,T⟩;have H:xA _:=oB h.o c;have q:xA (mC a (w.1.size+1+1+1) (bA ⟨w.1.size+1+1+1,0,aA⟩) f.M):=(z.o.but ((tD.refl _ _).setCell _ _) (by omega)).z c;have J:xA (mC a d.1.size (bA ⟨d.1.size,0,aA⟩) f.Z):=by show mC _ _ _ _;simpa using D
 have l:xA (iB a (w.1.size+1+1) #[nA f.N,lA mA f.L,oA (bA ⟨w.1.size+1+1+1,0,aA⟩) (vA f.M) (vA f.M),oA aA 0 0] 85):=(n.o.set 2 _).z c;have g:xA (iB a (w.1.size+1) #[nA kA,lA mA 0,oA aA 0 0,oA aA 0 0] 85):=(B.o.but ((tD.refl _ _).setCell _ _) (by omega)).z c;have U:cC a (w.1.size+1+1) 0 (nA f.N):=l.o.cell 0;have V:cC a (w.1.size+1+1) 1 (lA mA f.L):=l.o.cell 1;have X:cC a (w.1.size+1+1) 2 (oA (bA ⟨w.1.size+1+1+1,0,aA⟩) (vA f.M) (vA f.M)):=l.o.cell 2;have Y:cC a (w.1.size+1+1) 3 (oA aA 0 0):=l.o.cell 3;have Z:=l.o.free 3;have P:cC a (w.1.size+1) 0 (nA kA):=g.o.cell 0;have Q:cC a (w.1.size+1) 1 (lA mA 0):=g.o.cell 1;have R:cC a (w.1.size+1) 2 (oA aA 0 0):=g.o.cell 2;have S:cC a (w.1.size+1) 3 (oA aA 0 0):=g.o.cell 3;have u0:=g.o.free 0;have u1:=g.o.free 1;have u2:=g.o.free 2;have u3:=g.o.free 3;clear D T x h z c M N O n B;go_wp2;refine bodyPost_ret (v:=rA #[nA f.N,lA mA f.L,oA (bA ⟨w.1.size+1+1+1,0,aA⟩) (vA f.M) (vA f.M),oA (bA ⟨d.1.size,0,aA⟩) (vA f.Z) (vA f.Z)]) (by simp[results,results114,go_sem,P,Q,R,S]) rfl ⟨_,_,rfl,by omega,u,?_,?_,?_⟩
 .exact ((((((q.o.but ((tD.refl _ _).setCell _ _) (by omega)).but ((tD.refl _ _).setCell _ _) (by omega)).but ((tD.refl _ _).setCell _ _) (by omega)).but ((tD.refl _ _).setCell _ _) (by omega)).but ((tD.refl _ _).setCell _ _) (by omega))).mono (by omega)
 .exact ((((((J.o.but ((tD.refl _ _).setCell _ _) (by omega)).but ((tD.refl _ _).setCell _ _) (by omega)).but ((tD.refl _ _).setCell _ _) (by omega)).but ((tD.refl _ _).setCell _ _) (by omega)).but ((tD.refl _ _).setCell _ _) (by omega))).mono (by omega)
 exact ((((H.o.setCell (by simp;omega) _).setCell (by simp) _).setCell (by simp) _).setCell (by simp) _).setCell (by simp) _
def pO:(prog.info? 85).map (fun i=>(i.zero,i.size,i.bytes))=bA (bA (rA #[nA kA,lA mA 0,oA aA 0 0,oA aA 0 0]),4,72):=by kernel_rfl
def ft(n:Nat)(g:n<=1048576)(w:eA):
 (Instr.makeSlice 39 (lA mA (n:Int)) (lA mA (n:Int))).run prog w=.ok (oA (bA ⟨w.1.size,0,aA⟩) n n) (w.alloc (tA (madeCells #[nA kA,lA mA 0,oA aA 0 0,oA aA 0 0] (n*4)) 85)):=by
 obtain⟨i,d,a⟩:=Wb.1 pO;simp only[Dc]at a;obtain⟨f,e,c⟩:=a;have b:=run_make (P:=prog) w 39 85 i _ underlying39 d f .i64 mA n n (by omega) (Xd _) (by rw[c];omega) (by omega);simp only[Hd,e]at b;exact b
def fW(w:eA)(g n:Nat)(b:List aB)(k:Nat):Prop:=∃(a:Array iA)(T:Nat->Nat),iB w g a 85/\a.size=n*4/\T g=0/\∀i(h:i<vA b),i<k->eQ w g T i g (0+i*4) b[i]
def fW.z{w f:eA}{g n k:Nat}{e:List aB}(h:fW w g n e k)(b:kB w f):fW f g n e k:=by
 obtain⟨a,T,d,m,o,p⟩:=h;exact⟨a,T,d.z b,m,o,fun i q r=>(p i q r).keep (fun j _=>eA.cell?_of_block (b.block g (zA d))) fun l c _ _=>⟨b.block l c,rfl⟩⟩
def fW.cells{w:eA}{g n k:Nat}{c:List aB}(h:fW w g n c k){j:Nat}(e:j<n*4):(∃v,w.cell? ⟨g,j,aA⟩=bA v)/\w.frozen? ⟨g,j,aA⟩=false:=by
 obtain⟨b,T,a,d,_⟩:=h;exact⟨a.there (by omega),a.free j⟩
def fW.step{w l:eA}{g n k b d:Nat}{a:List aB}(h:fW w g n a k)(M:k<vA a)(N:vA a<=n)(q:kB w l)(F:w.1.size<=b)(G:b<d)
(J:mC l w.1.size (bA ⟨b,0,aA⟩) a[k].M)(K:mC l w.1.size (bA ⟨d,0,aA⟩) a[k].Z)(s t:Nat):
 fW ((((l.setCell ⟨g,k*4,aA⟩ (nA a[k].N)).setCell ⟨g,k*4+1,aA⟩ (lA mA a[k].L)).setCell ⟨g,k*4+2,aA⟩ (.slice (bA ⟨b,0,aA⟩) (vA a[k].M) s)).setCell ⟨g,k*4+3,aA⟩ (.slice (bA ⟨d,0,aA⟩) (vA a[k].Z) t)) g n a (k+1):=by
 obtain⟨B,T,u,C,z,D⟩:=h;have v:=zA u;have m:=(((((u.z q).set (k*4) (nA a[k].N)).set (k*4+1) (lA mA a[k].L)).set (k*4+2) (.slice (bA ⟨b,0,aA⟩) (vA a[k].M) s)).set (k*4+3) (.slice (bA ⟨d,0,aA⟩) (vA a[k].Z) t))
 have f:tD g l ((((l.setCell ⟨g,k*4,aA⟩ (nA a[k].N)).setCell ⟨g,k*4+1,aA⟩ (lA mA a[k].L)).setCell ⟨g,k*4+2,aA⟩ (.slice (bA ⟨b,0,aA⟩) (vA a[k].M) s)).setCell ⟨g,k*4+3,aA⟩ (.slice (bA ⟨d,0,aA⟩) (vA a[k].Z) t)):=
  ((((tD.refl _ _).setCell _ _).setCell _ _).setCell _ _).setCell _ _
 generalize ((((l.setCell ⟨g,k*4,aA⟩ (nA a[k].N)).setCell ⟨g,k*4+1,aA⟩ (lA mA a[k].L)).setCell ⟨g,k*4+2,aA⟩ (.slice (bA ⟨b,0,aA⟩) (vA a[k].M) s)).setCell ⟨g,k*4+3,aA⟩ (.slice (bA ⟨d,0,aA⟩) (vA a[k].Z) t))=O at *;refine⟨_,fun x=>if x=b then 2*k+1 else if x=d then 2*k+2 else T x,m,by simp[C],?_,fun i H A=>?_⟩;show (if g=b then _ else if g=d then _ else T g)=0;rw[Ja (by omega),Ja (by omega)];exact z
 by_cases e:i=k
 .subst e;refine⟨bA ⟨b,0,aA⟩,s,bA ⟨d,0,aA⟩,t,?_,?_,?_,?_,?_,?_⟩
  .rw[m.cell];simp[Eb];omega
  .rw[m.cell];simp[Eb];omega
  .rw[m.cell];simp[Eb];omega
  .rw[m.cell];simp[Eb];omega
  .refine ((J.but f (by omega)).mono (by omega)).tag fun c I o=>?_;simp only[Qa,Addr.mk.injEq,Cc]at o;show(if c=b then _ else _)=_;rw[Ma o.1.symm]
  refine ((K.but f (by omega)).mono (by omega)).tag fun c I o=>?_;simp only[Qa,Addr.mk.injEq,Cc]at o;show(if c=b then _ else if c=d then _ else _)=_;rw[Ja (by omega),Ma o.1.symm]
 refine (D i H (by omega)).keep (fun j L=>?_) fun c r _ E=>?_
 .rw[m.cell,<-(q.cell (p:=⟨g,0+i*4+j,aA⟩) v),(u.z q).cell];rw[Ea (by omega),Ea (by omega),Ea (by omega),Ea (by omega)]
 have y:c≠g:=fun e=>by rw[e,z]at E;omega
 refine⟨(f.block c (Bb r q.size) y).trans (q.block c r),?_⟩;show(if c=b then _ else if c=d then _ else T c)=T c;rw[Ja (by omega),Ja (by omega)]
def fW.done{w:eA}{g B:Nat}{c:List aB}(h:fW w g (vA c) c (vA c))(v:B<=g):vC w B (bA ⟨g,0,aA⟩) c:=by
 obtain⟨d,T,s,H,t,u⟩:=h;refine La ⟨g,0,d,_,T,rfl,v,s,t,fun i j=>?_⟩;obtain⟨k,o,l,p,y,z,A,C,D,E⟩:=u i j j;have m:∀{n a f},gD w g T n a f->gD w B T n a f:=fun{n a f} h=>by
  rcases h with h|⟨q,F,b,G,e,x,r⟩;exact Ca h;exact La ⟨q,F,b,G,e,by omega,r⟩
 exact⟨k,o,l,p,y,z,A,C,m D,m E⟩
def KC(a:List aB):Prop:=∀i(h:i<vA a),vA a[i].M<=1048576/\vA a[i].Z<=1048576
def XF(a:iC)(B:Nat)(l:List aB)(w:eA)(J:nC w a l)(y:vA l<=1048576)(z:KC l):
 gA prog 73 #[oA a (vA l) B] w fun e t=>e=sA (oA (bA ⟨w.1.size,0,aA⟩) (vA l) (vA l))/\vC t w.1.size (bA ⟨w.1.size,0,aA⟩) l/\kB w t/\w.1.size<t.1.size:=by
 have Q:xA (nC w a l):=J;have v:xA (KC l):=z;clear J z;have E:=ft (vA l) y;go_enter func73,ntmps73;go_wp2;go_loopw [4] (fun i wr=>∃k:Nat,k<=vA l/\i=lA mA k/\fW wr w.1.size (vA l) l k/\kB w wr/\w.1.size<wr.1.size) (fun i _=>vA l-(intOf i).toNat)
 case atStart=>exact⟨0,Oa _,rfl,⟨_,fun _=>0,iB.new _ _ _,size_madeCells _ _,rfl,fun i _ h=>absurd h (by omega)⟩,eD.alloc (Ia _) _,by simp⟩
 case round=>
  obtain⟨k,hk,rfl,q,n,F⟩:=hrel;have m:xA (fW wr w.1.size (vA l) l k):=q;clear q E;by_cases s:k<vA l
  .obtain ⟨b,o,H,O,I,P,rfl,Z,R,S,T,U,M,N⟩:=(Q.o.z n).at s;have G:xA (gA prog 114 #[rA #[nA l[k].N,lA mA l[k].L,.slice H (vA l[k].M) O,.slice I (vA l[k].Z) P]] wr fun e t=>∃u x,e=sA (rA #[nA l[k].N,lA mA l[k].L,.slice (bA ⟨u,0,aA⟩) (vA l[k].M) (vA l[k].M),.slice (bA ⟨x,0,aA⟩) (vA l[k].Z) (vA l[k].Z)])/\
    wr.1.size<=u/\u<x/\mC t wr.1.size (bA ⟨u,0,aA⟩) l[k].M/\mC t wr.1.size (bA ⟨x,0,aA⟩) l[k].Z/\kB wr t):=jm l[k] H I O P wr M N (v.o k s).1 (v.o k s).2
   clear M N;go_wp2_with fail;refine G.o.mono ?_;rintro e t ⟨u,x,rfl,C,D,K,L,r⟩;have p:=m.o.z r;obtain⟨⟨v0,V⟩,c⟩:=p.cells (j:=k*4) (by omega);obtain⟨⟨v1,W⟩,d⟩:=p.cells (j:=k*4+1) (by omega);obtain⟨⟨v2,X⟩,f⟩:=p.cells (j:=k*4+2) (by omega);obtain⟨⟨v3,Y⟩,g⟩:=p.cells (j:=k*4+3) (by omega);have A:xA (fW ((((t.setCell ⟨w.1.size,k*4,aA⟩ (nA l[k].N)).setCell ⟨w.1.size,k*4+1,aA⟩ (lA mA l[k].L)).setCell ⟨w.1.size,k*4+2,aA⟩ (.slice (bA ⟨u,0,aA⟩) (vA l[k].M) (vA l[k].M))).setCell ⟨w.1.size,k*4+3,aA⟩ (.slice (bA ⟨x,0,aA⟩) (vA l[k].Z) (vA l[k].Z))) w.1.size (vA l) l (k+1)):=
    m.o.step s (Ia _) r C D K L _ _
   clear p G m K L R S T U;go_wp2;exact⟨⟨k+1,by omega,by go_num,A.o,((((n.trans (r.mono n.size)).setCell (Ia _) _).setCell (Ia _) _).setCell (Ia _) _).setCell (Ia _) _,by have:=r.size;simp;omega⟩,by simp[intOf];omega⟩
  go_wp2;go_ret;have e:k=vA l:=by omega
  exact⟨rfl,by have:=m.o;rw[e]at this;exact this.done (Ia _),n,F⟩
def vC.but{g B:Nat}{w l:eA}{a:iC}{k:List aB}(h:vC w B a k)(e:tD g w l)(u:g<B):vC l B a k:=by
 rcases h with h|⟨d,o,c,t,T,rfl,m,b,p,h⟩;exact Ca h;have f:=e.block d (zA b) (by omega);exact La ⟨d,o,c,t,T,rfl,m,f.trans b,p,fun i r=>(h i r).keep (fun j _=>eA.cell?_of_block f) fun q s n _=>⟨e.block q s (by omega),rfl⟩⟩
def vC.mono{B B':Nat}{w:eA}{a:iC}{k:List aB}(h:vC w B a k)(f:B'<=B):vC w B' a k:=by
 rcases h with h|⟨d,o,c,t,T,rfl,G,g,u,h⟩;exact Ca h;have m:∀{n a j},gD w B T n a j->gD w B' T n a j:=fun{n a j} h=>by
  rcases h with h|⟨d,E,b,F,e,f,r⟩;exact Ca h;exact La ⟨d,E,b,F,e,by omega,r⟩
 refine La ⟨d,o,c,t,T,rfl,by omega,g,u,fun i v=>?_⟩;obtain⟨l,q,p,s,x,y,z,A,C,D⟩:=h i v;exact⟨l,q,p,s,x,y,z,A,m C,m D⟩
def uj(b:Int)(a:iC)(d:Nat)(c:List aB)(w:eA)(p:nC w a c)(j:vA c<=1048576)(k:KC c):
 gA prog 32 #[rA #[lA mA b,oA a (vA c) d]] w fun e h=>∃g,e=sA (rA #[lA mA b,oA (bA ⟨g,0,aA⟩) (vA c) (vA c)])/\w.1.size<=g/\g<h.1.size/\vC h w.1.size (bA ⟨g,0,aA⟩) c/\kB w h:=by
 have o:xA (∀W,kB w W->gA prog 73 #[oA a (vA c) d] W fun e h=>e=sA (oA (bA ⟨W.1.size,0,aA⟩) (vA c) (vA c))/\vC h W.1.size (bA ⟨W.1.size,0,aA⟩) c/\kB W h/\W.1.size<h.1.size):=
  fun W u=>XF a d c W (p.z u) j k
 clear p k;go_enter func32,ntmps32;go_wp2_with fail;apply aC (o.o _ (oB (oB vB vB) vB));rintro i ⟨q,f,r⟩;have s:xA _:=oB (oB (oB vB vB) vB) f;have l:xA (iB i (w.1.size+1) #[lA mA 0,oA aA 0 0] 41):=by have:=((iB.new (w.alloc (tA #[lA mA b,oA a (vA c) d] 31)) #[lA mA 0,oA aA 0 0] 41).alloc (tA #[lA mA b,oA aA 0 0] 41)).z f;exact yA (by simpa using this)
 have m:xA (iB i (w.1.size+1+1) #[lA mA b,oA aA 0 0] 41):=by have:=(iB.new ((w.alloc (tA #[lA mA b,oA a (vA c) d] 31)).alloc (tA #[lA mA 0,oA aA 0 0] 41)) #[lA mA b,oA aA 0 0] 41).z f;exact yA (by simpa using this)
 have t:xA _:=yA (by simpa using q);have n:w.1.size+1+1+1<i.1.size:=by simpa using r
 have z:cC i (w.1.size+1+1) 0 (lA mA b):=m.o.cell 0;have A:cC i (w.1.size+1+1) 1 (oA aA 0 0):=m.o.cell 1;have B:=m.o.free 1;have x:cC i (w.1.size+1) 0 (lA mA 0):=l.o.cell 0;have y:cC i (w.1.size+1) 1 (oA aA 0 0):=l.o.cell 1;have C:=l.o.free 0;have D:=l.o.free 1;clear q r f o;go_wp2;refine bodyPost_ret (v:=rA #[lA mA b,oA (bA ⟨w.1.size+1+1+1,0,aA⟩) (vA c) (vA c)]) (by simp[results,results32,go_sem,x,y]) rfl ⟨_,rfl,by omega,by simpa using n,?_,?_⟩
 .exact (((t.o.but ((tD.refl _ _).setCell _ _) (by omega)).but ((tD.refl _ _).setCell _ _) (by omega)).but ((tD.refl _ _).setCell _ _) (by omega)).mono (by omega)
 exact ((s.o.setCell (by simp;omega) _).setCell (by simp) _).setCell (by simp) _
def WD(f:aB)(h d i g:iC)(o j p k:Nat)(w:eA)(r:yB w h f.M)(s:yB w d f.Z)(t:yB w i f.M)(u:yB w g f.Z)(A:vA f.M<=maxLen)(B:vA f.Z<=maxLen):
 qD 148 #[rA #[nA f.N,lA mA f.L,oA h (vA f.M) o,oA d (vA f.Z) j],rA #[nA f.N,lA mA f.L,oA i (vA f.M) p,oA g (vA f.Z) k]] w (pA dA):=by
 have y:xA (∀W,kB w W->qD 193 #[oA h (vA f.M) o,oA i (vA f.M) p] W (pA dA)):=
  fun W l=>CT h i o p f.M W (r.z l) (t.z l) A
 have z:xA (∀W,kB w W->qD 194 #[oA d (vA f.Z) j,oA g (vA f.Z) k] W (pA dA)):=
  fun W l=>RU d g j k f.Z W (s.z l) (u.z l) B
 clear r s t u;go_enter func148,ntmps148;go_wp2_with fail;apply aC (y.o _ (oB vB vB));intro v c;have q:xA _:=oB (oB vB vB) c;have a:cC v w.1.size 3 (oA d (vA f.Z) j):=(((iB.new w _ _).alloc _).z c).cell 3;have b:cC v (w.1.size+1) 3 (oA g (vA f.Z) k):=by
  have:=((iB.new (w.alloc (tA #[nA f.N,lA mA f.L,oA h (vA f.M) o,oA d (vA f.Z) j] 85)) #[nA f.N,lA mA f.L,oA i (vA f.M) p,oA g (vA f.Z) k] 85).z c).cell 3;simpa using this
 clear c;go_wp2_with fail;apply aC (z.o _ q.o);intro C m;have x:xA _:=oB q.o m;clear m;go_wp2;go_ret;exact⟨rfl,x.o⟩
def aCt(a:List aB):Prop:=∀i(h:i<vA a),vA a[i].M<=maxLen/\vA a[i].Z<=maxLen
def RW(a n:iC)(p g:Nat)(c:List aB)(w:eA)(C:nC w a c)(j:nC w n c)(l:vA c<=maxLen)(D:aCt c):
 qD 92 #[oA a (vA c) p,oA n (vA c) g] w (pA dA):=by
 unfold maxLen at l;have J:xA (nC w a c):=C;have m:xA (nC w n c):=j;have r:xA (aCt c):=D;clear C j D;go_enter func92,ntmps92;go_wp2;go_loopw [5] (fun i wr=>∃k:Nat,k<=vA c/\i=lA mA k/\kB w wr) (fun i _=>vA c-(intOf i).toNat)
 case atStart=>exact⟨0,Oa _,rfl,eD⟩
 case round=>
  obtain⟨k,hk,rfl,d⟩:=hrel;by_cases f:k<vA c
  .obtain ⟨b,o,K,Q,L,R,rfl,hb,s,t,u,v,E,F⟩:=(J.o.z d).at f;obtain⟨U,o',M,S,N,T,rfl,O,y,z,A,B,G,H⟩:=(m.o.z d).at f;have V:=tB.cells s;have W:=tB.cells t;have X:=tB.cells u;have Y:=tB.cells v;have Z:=tB.cells y;have g1:=tB.cells z;have g2:=tB.cells A;have g3:=tB.cells B;have I:xA (∀x:tB wr,qD 148 #[rA #[nA c[k].N,lA mA c[k].L,.slice K (vA c[k].M) Q,.slice L (vA c[k].Z) R],rA #[nA c[k].N,lA mA c[k].L,.slice M (vA c[k].M) S,.slice N (vA c[k].Z) T]] x.w' (pA dA)):=
    fun x=>WD c[k] _ _ _ _ _ _ _ _ x.w' (E.z x.h) (F.z x.h) (G.z x.h) (H.z x.h) (r.o k f).1 (r.o k f).2
   clear s t u v y z A B E F G H;have P:=tB.there wr;go_wp2_with fail;refine jB (by kernel_rfl) (by kernel_rfl) ?_;repeat (go_big_quiet_step (exact xB (I.o _)))
   refine wpQuiet_nil ?_;rintro _ ⟨x,rfl⟩;go_wp2;exact⟨⟨k+1,by omega,by go_num,d.trans (x.h.mono d.size)⟩,by simp[intOf];omega⟩
  .go_wp2;go_ret;exact⟨rfl,d⟩
def ds(i:Int)(a j:iC)(d b:Nat)(c:List aB)(w:eA)(m:nC w a c)(g:nC w j c)(h:vA c<=maxLen)(n:aCt c):
 qD 40 #[rA #[lA mA i,oA a (vA c) d],rA #[lA mA i,oA j (vA c) b]] w (pA dA):=by
 have p:xA (∀W,kB w W->qD 92 #[oA a (vA c) d,oA j (vA c) b] W (pA dA)):=
  fun W l=>RW a j d b c W (m.z l) (g.z l) h n
 clear m g n;go_enter func40,ntmps40;go_wp2_with fail;apply aC (p.o _ (oB vB vB));intro q f;have o:xA _:=oB (oB vB vB) f;clear f;go_wp2;go_ret;exact⟨rfl,o.o⟩
def aUr(a:Array iA)(c:List tI):Prop:=∀k,k<vA c->a[k*2]?=bA (qA (bA ⟨(oD c k).b,0,aA⟩))/\a[k*2+1]?=bA (lA mA (oD c k).t)
def qH(w:eA)(g a:Nat)(hs:List tI):Prop:=∃b,iB w g b 271/\b.size=a*2/\vA hs<=a/\a<=maxLen/\aUr b hs
def qH.cells{w:eA}{g d k:Nat}{c:List tI}(h:qH w g d c)(f:k<vA c):
 w.cell? ⟨g,k*2,aA⟩=bA (qA (bA ⟨(oD c k).b,0,aA⟩))/\w.cell? ⟨g,k*2+1,aA⟩=bA (lA mA (oD c k).t)/\w.frozen? ⟨g,k*2,aA⟩=false/\w.frozen? ⟨g,k*2+1,aA⟩=false:=by
 obtain⟨i,a,_,_,_,e⟩:=h;rw[a.cell,a.cell];exact⟨(e k f).1,(e k f).2,a.free _,a.free _⟩
def qH.z{w d:eA}{g a:Nat}{c:List tI}(h:qH w g a c)(i:kB w d):qH d g a c:=by
 obtain⟨b,e,f⟩:=h;exact⟨b,e.z i,f⟩
def qH.lt{w:eA}{g a:Nat}{d:List tI}(h:qH w g a d):g<w.1.size:=by
 obtain⟨b,c,e⟩:=h;exact zA c
def tD.drew{g:Nat}{a w:eA}(h:tD g a w):tD g a w.drew:=⟨h.os,h.tape,h.output,h.size,h.block⟩
def qH.swap{w:eA}{g c i j:Nat}{a:List tI}(h:qH w g c a)(u:i<vA a)(v:j<vA a):
 qH ((((w.setCell ⟨g,i*2,aA⟩ (qA (bA ⟨(oD a j).b,0,aA⟩))).setCell ⟨g,i*2+1,aA⟩ (lA mA (oD a j).t)).setCell ⟨g,j*2,aA⟩ (qA (bA ⟨(oD a i).b,0,aA⟩))).setCell ⟨g,j*2+1,aA⟩ (lA mA (oD a i).t)) g c (sG a i j):=by
 obtain⟨o,p,d,q,r,s⟩:=h;refine⟨_,(((p.set _ _).set _ _).set _ _).set _ _,by simp[d],by rw[rD];exact q,r,fun k l=>?_⟩;rw[rD]at l;rw[zI u v];by_cases e:k=j
 .subst e;rw[Ma rfl];constructor<;>simp[Eb,d]<;>omega
 rw[Ja e];by_cases f:k=i
 .subst f;rw[Ma rfl];constructor
  .rw[Ea (by omega),Ea (by omega),Ea (by omega)];simp[Eb,d];omega
  rw[Ea (by omega),Ea (by omega)];simp[Eb,d];omega
 rw[Ja f];obtain⟨m,n⟩:=s k l;constructor;rw[Ea (by omega),Ea (by omega),Ea (by omega),Ea (by omega)];exact m;rw[Ea (by omega),Ea (by omega),Ea (by omega),Ea (by omega)];exact n
def VH(x o g n h i j:Nat)(f:List tI)(w:eA)(N:w.cell? ⟨x,o,aA⟩=bA (oA (bA ⟨g,0,aA⟩) n h))(y:n=vA f)(l:qH w g h f)(L:i<n)(M:j<n):
 gA prog 237 #[qA (bA ⟨x,o,aA⟩),lA mA i,lA mA j] w fun e r=>e=sA (uA #[])/\qH r g h (sG f i j)/\tD g w r:=by
 have p:xA (qH ((((w.setCell ⟨g,i*2,aA⟩ (qA (bA ⟨(oD f j).b,0,aA⟩))).setCell ⟨g,i*2+1,aA⟩ (lA mA (oD f j).t)).setCell ⟨g,j*2,aA⟩ (qA (bA ⟨(oD f i).b,0,aA⟩))).setCell ⟨g,j*2+1,aA⟩ (lA mA (oD f i).t)) g h (sG f i j)):=l.swap (by omega) (by omega);obtain⟨z,B,c,d⟩:=l.cells (k:=i) (by omega);obtain⟨D,E,O,P⟩:=l.cells (k:=j) (by omega);have q:∀(a b:iA),(∃v,((w.setCell ⟨g,i*2,aA⟩ a).setCell ⟨g,i*2+1,aA⟩ b).cell? ⟨g,j*2,aA⟩=bA v)/\(∃v,((w.setCell ⟨g,i*2,aA⟩ a).setCell ⟨g,i*2+1,aA⟩ b).cell? ⟨g,j*2+1,aA⟩=bA v)/\
  ((w.setCell ⟨g,i*2,aA⟩ a).setCell ⟨g,i*2+1,aA⟩ b).frozen? ⟨g,j*2,aA⟩=false/\((w.setCell ⟨g,i*2,aA⟩ a).setCell ⟨g,i*2+1,aA⟩ b).frozen? ⟨g,j*2+1,aA⟩=false:=fun a b=>by
  obtain⟨s,u,J,K,_⟩:=l;have m:=(u.set (i*2) a).set (i*2+1) b;exact⟨m.there (by simp;omega),m.there (by simp;omega),m.free _,m.free _⟩
 obtain⟨⟨Q,F⟩,⟨S,G⟩,H,I⟩:=q (qA (bA ⟨(oD f j).b,0,aA⟩)) (lA mA (oD f j).t);clear y l q;generalize oD f i=A at *;generalize oD f j=C at *;generalize sG f i j=R at *;clear f;go_enter func237,ntmps237;go_wp2_with fail;go_region
 go_wp2;go_end0;exact⟨rfl,p.o,(((((tD.refl g w).setCell _ _).setCell _ _).setCell _ _).setCell _ _).drew⟩
def oK(a:List tI):List iA:=a.flatMap fun x=>[qA (bA ⟨x.b,0,aA⟩),lA mA x.t]
def dz(a b:List tI):oK (a++b)=oK a++oK b:=by simp[oK]
def IC(a:List tI):vA (oK a)=vA a*2:=by
 induction a with
 |nil=>rfl
 |cons x r b=>simp[oK]at b |-;omega
def KU:∀(a:List tI)(k:Nat),k<vA a->(oK a)[k*2]?=bA (qA (bA ⟨(oD a k).b,0,aA⟩))/\(oK a)[k*2+1]?=bA (lA mA (oD a k).t)
 |[],k,h=>absurd h (by simp)
 |x::r,0,_=>⟨rfl,rfl⟩
 |x::r,k+1,h=>by
  have c:=KU r k (by simpa using h);have e:oK (x::r)=qA (bA ⟨x.b,0,aA⟩):: lA mA x.t::oK r:=rfl;rw[e,show(k+1)*2=k*2+1+1 by omega,Ga,Ga,Ga,Ga];exact c
def IF{w:eA}{B g n a:Nat}{c:List tI}(h:w.ownsRow B 271 2 (oA (bA ⟨g,0,aA⟩) n a) n (oK c))(u:n=vA c):qH w g a c/\B<=g:=by
 rcases h.2 with⟨e,_⟩|⟨s,d,b,e,o,p,t,i,l,m⟩;simp at e;simp only[iA.slice.injEq,Qa,Addr.mk.injEq,Cc,true_and]at e;obtain⟨rfl,rfl⟩:=e;refine⟨⟨b,p,l,by omega,i,fun k r=>?_⟩,o⟩;have f:∀j,j<n*2->b[j]?=(oK c)[j]?:=fun j q=>by rw[<-m,Jb q,Yd]
 rw[f _ (by omega),f _ (by omega)];exact KU c k r
def oY{w:eA}{B g a:Nat}{b:List tI}(h:qH w g a b)(m:B<=g):w.ownsRow B 271 2 (oA (bA ⟨g,0,aA⟩) (vA b) a) (vA b) (oK b):=by
 obtain⟨c,d,f,i,k,l⟩:=h;refine⟨IC b,La ⟨g,a,c,rfl,m,d,i,k,f,?_⟩⟩;apply List.ext_getElem?;intro j;by_cases n:j<vA b*2
 .rw[Jb n,Yd];obtain⟨o,p⟩:=l (j / 2) (by omega);obtain⟨q,r⟩:=KU b (j / 2) (by omega);rcases Nat.mod_two_eq_zero_or_one j with e|e
  .have:j=j / 2*2:=by omega
   rw[this,o,q]
  have:j=j / 2*2+1:=by omega
  rw[this,p,r]
 rw[Fd (by simp;omega),Fd (by rw[IC];omega)]
def xm:(prog.info? 271).map (fun i=>(i.zero,i.size,i.bytes))=bA (bA (rA #[qA aA,lA mA 0]),2,16):=by kernel_rfl
def DZ(p q:iA)(s t:Int)(w:eA):qD 358 #[rA #[p,lA mA s],rA #[q,lA mA t]] w (pA (decide (s<t))):=by
 go_enter func358,ntmps358;go_wp2;go_ret;exact⟨rfl,oB vB vB⟩
def cY(x y : Value)(w : World) : (invoke (.fn (.method "loop.example/s02176/impl.before") #[]) #[.iface 271 x, y]).run prog w = .ok (.enter 358 #[x, y]) w := by kernel_rfl
def cW{P:Program}{c:Array Oper}{C:eA->Prop}{Q:Act->Prop}{a:Act}{o:Oper}{b:List Oper}{f:FuncId}{args:Array iA}{v:iA}(hw:Region.wanted o (yielded c a.tmps)=dA)
(j:∀w,(execOp a.eval o).run P w=.ok (.enter f args) w)(i:∀w,C w->gA P f args w (fun e d=>e=sA v/\C d))(h:wpQuiet P c C Q b (a.put o.dst v)):wpQuiet P c C Q (o::b) a:=
 BigFrame.wpQuiet_want hw fun K g=>⟨v,fun w hw=>by unfold Oper.quietAt;rw[j];exact⟨rfl,i w hw⟩,g _ h⟩
def xZ{P:Program}(ρ:Operand->iA)(o:Oper)(r y:Operand)(name:String)(d:Array TypeId)(a:o.op=.call { callee:=.invoke r name,args:=#[y],argTypes:=d}){u z:iA}(b:ρ r=u)(c:ρ y=z){n:Next}{w:eA}
(h:(invoke (.fn (.method name) #[]) #[u,z]).run P w=.ok n w):(execOp ρ o).run P w=.ok n w:=by
 unfold execOp;simp only[a,resolve];simp[b,c,h]
def rg(x o B:Nat)(v:iA)(j:List tI)(s:tI)(w:eA)(G:Array iA)(M:TypeId)(hX:iB w x G M)(ho:G[o]?=bA v)(O:w.ownsRow B 271 2 v (vA j) (oK j))(E:v.ownBlock≠bA x)(hB:B<=w.1.size)(hn:vA j<=1000000000):
 gA prog 202 #[qA (bA ⟨x,o,aA⟩),rA #[qA (bA ⟨s.b,0,aA⟩),lA mA s.t]] w fun e w'=>e=sA (uA #[])/\∃g f,iB w' x (G.setIfInBounds o (oA (bA ⟨g,0,aA⟩) (vA j+1) f)) M/\
  w'.ownsRow B 271 2 (oA (bA ⟨g,0,aA⟩) (vA j+1) f) (vA j+1) (oK (aS j s))/\(v.ownBlock=bA g\/w.1.size<=g)/\bB (fun k=>k=x\/v.ownBlock=bA k) w w':=by
 obtain⟨i0,hi,hz0,hz1,hz2⟩:=info_parts xm;have c0:w.cell? ⟨x,o,aA⟩=bA v:=by rw[hX.cell];exact ho
 have hxl:=zA hX;have HX:xA (iB w x G M):=hX;clear hX;have OWN:xA (((w.alloc (tA #[qA (bA ⟨s.b,0,aA⟩),lA mA s.t] 271)).alloc (tA #[qA (bA ⟨s.b,0,aA⟩),lA mA s.t] 271)).ownsRow B 271 2 v (vA j) (oK j)):=yA ((O.alloc _).alloc _);have NEW:xA (((w.alloc (tA #[qA (bA ⟨s.b,0,aA⟩),lA mA s.t] 271)).alloc (tA #[qA (bA ⟨s.b,0,aA⟩),lA mA s.t] 271)).heap[w.1.size+1]?=bA (tA #[qA (bA ⟨s.b,0,aA⟩),lA mA s.t] 271 (0,0))):=yA (by have:=heap_alloc_new (w.alloc (tA #[qA (bA ⟨s.b,0,aA⟩),lA mA s.t] 271)) (tA #[qA (bA ⟨s.b,0,aA⟩),lA mA s.t] 271);simpa using this);have N:xA (∀p:eA,((w.alloc (tA #[qA (bA ⟨s.b,0,aA⟩),lA mA s.t] 271)).alloc (tA #[qA (bA ⟨s.b,0,aA⟩),lA mA s.t] 271)).grownBy p v.ownBlock->iB p x G M/\bB (fun k=>v.ownBlock=bA k) w p):=fun p h=>by
  have ht:=(bB.of (S:=fun k=>v.ownBlock=bA k) (oB (yG w _) vB)).trans' (bB.grown h);exact⟨ht.blk HX.o E,ht⟩
 clear O;go_enter func202,ntmps202;go_upto_region 1 with fail;go_cut [13] (fun _ wx=>∃g f,iB wx x (G.setIfInBounds o (oA (bA ⟨g,0,aA⟩) (vA j+1) f)) M/\qH wx g f (j++[s])/\B<=g/\(v.ownBlock=bA g\/w.1.size<=g)/\g≠x/\bB (fun k=>k=x\/v.ownBlock=bA k) w wx)
 case first=>
  go_region_law (refine step_append_lies _ rfl (.tmp 10) (.tmp 12) 228 rfl B 271 i0 (rA #[qA aA,lA mA 0]) 2 16 underlying228 hi hz0 hz1 hz2 rfl (by decide) v (vA j) (oK j) (by simp[Act.eval]) (by exact OWN.o) ⟨w.1.size+1,0,aA⟩ 1 1 [qA (bA ⟨s.b,0,aA⟩),lA mA s.t] (by simp[Act.eval]) rfl (eA.news_of_block (cs:=#[qA (bA ⟨s.b,0,aA⟩),lA mA s.t]) (by exact NEW.o)) (by intro u hu;simp at hu;rcases hu with rfl|rfl<;>rfl) (by omega) (by unfold maxLen;omega) (by omega) (by simp;omega) (w.1.size+1+1) (by simp) ?_;intro g f p hrow D m hlt;obtain⟨n,L⟩:=N.o p ⟨D.os,D.tape,D.output,D.size,D.block⟩;have c1:p.cell? ⟨x,o,aA⟩=bA v:=(by rw[n.cell];exact ho);have d:=n.free o)
  all_goals(go_wp2_with fail;go_meet)
  all_goals
   have hr2:p.ownsRow B 271 2 (oA (bA ⟨g,0,aA⟩) (vA j+1) f) (vA j+1) (oK (j++[s])):=by rw[dz];exact hrow
   obtain⟨hM,I⟩:=IF hr2 (by simp);have K:g≠x:=by
    rcases m with h|h
    .exact fun e=>E (by rw[<-e];exact h)
    omega
   obtain⟨cur,m1,m2⟩:=hM;exact⟨g,f,n.set o _,⟨cur,m1.but ((tD.refl _ _).setCell _ _) K,m2⟩,I,by rcases m with h|h;exact Ca h;exact La (by omega),K,bB.setCell (S:=fun k=>k=x\/v.ownBlock=bA k) (L.mono fun k _ hk=>La hk) (Ca (Ca rfl)) _ _⟩
 obtain⟨g,f,n,hM1,I,m,K,L⟩:=hcut;rename eA=>p;have R:xA (iB p x (G.setIfInBounds o (oA (bA ⟨g,0,aA⟩) (vA j+1) f)) M):=n;have HM1:xA (qH p g f (j++[s])):=hM1;have HT1:xA _:=L;have r:xA _:=m;have hoc:=(Vb.1 ho).1;have J:(G.setIfInBounds o (oA (bA ⟨g,0,aA⟩) (vA j+1) f))[o]?=bA (oA (bA ⟨g,0,aA⟩) (vA j+1) f):=by simp[hoc]
 obtain⟨T,V⟩:∃c,c=G.setIfInBounds o (oA (bA ⟨g,0,aA⟩) (vA j+1) f):=⟨_,rfl⟩
 rw[<-V]at J R;have HCD:xA _:=V;clear V;have k0:p.cell? ⟨x,o,aA⟩=bA (oA (bA ⟨g,0,aA⟩) (vA j+1) f):=by rw[R.o.cell];exact J
 clear n hM1 L m OWN NEW N HX c0 ho hi hz0 hz1 hz2 E;go_wp2;go_loopw [4] (fun a wr=>∃(k:Nat)(l:List tI),a=lA mA k/\k<vA l/\vA l=vA j+1/\iB wr x T M/\qH wr g f l/\xA (aS j s=wR l k)/\bB (fun k=>k=x\/v.ownBlock=bA k) w wr) (fun a _=>(intOf a).toNat)
 case atStart=>exact⟨vA j,j++[s],by go_num,by simp,by simp,R.o,HM1.o,rfl,HT1.o⟩
 case round=>
  obtain⟨k,l,rfl,hk,hl,Y,hM2,HS,ht2⟩:=hrel;have F:xA (iB wr x T M):=Y;have z:xA (qH wr g f l):=hM2;have Q:xA _:=ht2;have k1:wr.cell? ⟨x,o,aA⟩=bA (oA (bA ⟨g,0,aA⟩) (vA j+1) f):=by rw[Y.cell];exact J
  clear Y hM2 ht2 k0;by_cases h0:0<k
  .have X:=NT (l:=l) h0;obtain⟨q,hqd⟩:∃q,q=(k-1) / 2:=⟨_,rfl⟩
   rw[<-hqd]at X;have hq:((k:Int)-1) / 2=(q:Nat):=by omega
   have hp:q<vA l:=by omega
   obtain⟨a0,a1,_,_⟩:=z.o.cells hk;obtain⟨b0,b1,_,_⟩:=z.o.cells hp;have HST:xA _:=X;have HSW:xA (∀W,kB wr W->gA prog 237 #[qA (bA ⟨x,o,aA⟩),lA mA k,lA mA (((k:Int)-1) / 2)] W fun e w'=>e=sA (uA #[])/\qH w' g f (sG l k q)/\tD g W w'):=
    fun W hW=>by rw[hq];exact VH x o g (vA j+1) f k q l W (by rw[(F.o.z hW).cell];exact J) hl.symm (z.o.z hW) (by omega) (by omega)
   have HL:xA _:=hl;have hkn:k<vA j+1:=by omega
   have hqn:q<vA j+1:=by omega
   clear X hqd hl;have d0:=tB.cells k1;have d1:=tB.cells a0;have d2:=tB.cells a1;have d3:=tB.cells b0;have d4:=tB.cells b1;have hnel:=tB.there wr;clear a0 a1 b0 b1 k1;generalize oD l k=A at *;generalize oD l q=C at *;go_wp2_with fail;refine jB (by kernel_rfl) (by kernel_rfl) ?_;repeat (go_big_quiet_step (fail))
   refine cW (by rfl) (fun W=>xZ _ _ _ _ _ _ rfl rfl rfl (cY _ _ W)) (by rintro _ ⟨x,rfl⟩;exact xB (DZ _ _ _ _ _)) ?_;simp only[Act.put,Ud,Jd,Ze];repeat (go_big_quiet_step (fail))
   refine wpQuiet_nil ?_;rintro _ ⟨y,rfl⟩;have Z:xA _:=y.h;have HE:xA _:=hq;clear d0 d1 d2 d3 d4 hnel hq;generalize y.w'=W2 at *;clear y;by_cases H:A.t<C.t
   .have hd:decide (A.t<C.t)=dA:=by simpa using H
    rw[hd];have P:xA (aS j s=wR (sG l k q) q):=by show _=_;rw[HS.o,HST.o,Ma H]
    go_wp2_with fail;apply aC (HSW.o _ Z.o);rintro w3 ⟨hM3,U⟩;have HM3:xA (qH w3 g f (sG l k q)):=hM3;have HX3:xA (iB w3 x T M):=(F.o.z Z.o).but U K.symm;have HT3:xA (bB (fun k=>k=x\/v.ownBlock=bA k) w w3):=by
     refine(Q.o.trans' (bB.of Z.o)).trans ((bB.but U).mono fun i _ e=>?_);subst e;rcases r.o with h|h;exact Ca (La h);exact La h
    clear hM3 U HSW;go_wp2;exact⟨⟨q,sG l k q,by rw[HE.o],by rw[rD];exact hp,by rw[rD];exact HL.o,HX3.o,HM3.o,P.o,HT3.o⟩,by simp[intOf];omega⟩
   have hd:decide (A.t<C.t)=false:=by simpa using H
   rw[hd];have P:xA (aS j s=l):=by show _=_;rw[HS.o,HST.o,Ja H]
   go_wp2;refine bodyPost_ret (v:=uA #[]) (by simp[results,results202,go_sem]) rfl ⟨rfl,g,f,HCD.o ▸ F.o.z Z.o,?_,r.o,Q.o.trans' (bB.of Z.o)⟩;rw[P.o,<-HL.o];exact oY (z.o.z Z.o) I
  go_wp2;go_end0;obtain rfl:k=0:=by omega
  rw[HS.o,NV];refine⟨rfl,g,f,HCD.o ▸ F.o,?_,r.o,Q.o⟩;rw[<-hl];exact oY z.o I
def cZ(s:gB)(p n:Nat):Nat:=rS (eL s p n)
def pI(s:gB)(p n:Nat):Option (gB×Nat):=if p+n<=s.size/\p+n+cZ s p n<=s.size then bA (s.extract (p+n) (p+n+cZ s p n),p+n+cZ s p n) else aA
def aLx{t u:gB}{a b:Int}(c:t=u)(d:a=b):Ending.returned (uA #[nA t,lA mA a])=sA (uA #[nA u,lA mA b]):=by rw[c,d]
def JL(s:gB)(n:Nat)(w:eA):
 dI 53 #[nA s,lA mA (-1),lA mA (n:Nat)] w (uA #[nA kA,lA mA (-1)]):=by
 go_enter func53,ntmps53;go_wp2;go_ret2;exact⟨rfl,rfl⟩
def yV(s:gB)(p n:Nat)(w:eA)(k:s.size<=1000000000)(j:p<=1000000000)(g:n<=2)(h:pI s p n=aA):
 dI 53 #[nA s,lA mA (p:Nat),lA mA (n:Nat)] w (uA #[nA kA,lA mA (-1)]):=by
 by_cases a:p+n<=s.size
 .have d:xA (∀W,dI 102 #[nA s,lA mA (p:Nat),lA mA (n:Nat)] W (lA mA (cZ s p n:Nat))):=fun W=>OC s p n W (by unfold maxLen;omega) a (by omega);have c:¬p+n+cZ s p n<=s.size:=fun c=>by
   unfold pI at h;rw[Ma ⟨a,c⟩]at h;exact absurd h (by simp)
  have l:cZ s p n<65536:=by
   have f:=DY (eL s p n);rw[nP a]at f;have i:256 ^ n<=256 ^ 2:=Sc (by omega) g;unfold cZ;omega
  clear h;generalize cZ s p n=Z at *;go_enter func53,ntmps53;go_wp2_with fail;apply lK (d.o _);go_wp2;go_ret2;exact⟨rfl,rfl⟩
 .clear h;go_enter func53,ntmps53;go_wp2;go_ret2;exact⟨rfl,rfl⟩
def bR(s:gB)(p n:Nat)(t:gB)(q:Nat)(w:eA)(j:s.size<=1000000000)(i:n<=2)(h:pI s p n=bA (t,q)):
 dI 53 #[nA s,lA mA (p:Nat),lA mA (n:Nat)] w (uA #[nA t,lA mA (q:Nat)]):=by
 unfold pI at h;split at h
 .rename_i f;obtain⟨d,g⟩:=f;simp only[Qa,Dc]at h;have c:xA (∀W,dI 102 #[nA s,lA mA (p:Nat),lA mA (n:Nat)] W (lA mA (cZ s p n:Nat))):=fun W=>OC s p n W (by unfold maxLen;omega) d (by omega);have b:xA _:=h;clear h;generalize cZ s p n=Z at *;go_enter func53,ntmps53;go_wp2_with fail;apply lK (c.o _);go_wp2;go_ret2;exact⟨aLx b.o.1 (by rw[<-b.o.2];go_num),rfl⟩
 exact absurd h (by simp)
def aBz{s t:gB}{n p:Nat}{pre post:List UInt8}(h:s.data.toList=pre++((pB n (t.size:Nat)).data.toList++(t.data.toList++post)))(a:vA pre=p)(b:t.size<256 ^ n):pI s p n=bA (t,p+n+t.size):=by grind [pB,pI,cZ,eL,aQ,qB,kX,iZ,sN]
def PM{s:gB}{p n:Nat}{t:gB}{q:Nat}(h:pI s p n=bA (t,q)):q<=s.size/\t.size<=s.size/\p+n<=q:=by
 unfold pI at h;split at h
 .rename_i a;simp only[Qa,Dc]at h;obtain⟨rfl,rfl⟩:=h;refine⟨a.2,?_,by omega⟩;simp;omega
 exact absurd h (by simp)
def jF(p:gB):gB:=if 1<=p.size/\p.size<=60000 then pB 4 p.size++pB 4 (wL p:Nat)++p else kA
def AG{p:gB}(h:1<=p.size/\p.size<=60000):(jF p).size=8+p.size:=by grind [jF,qB]
def lF:List gB->gB
 |[]=>kA
 |x::r=>x++lF r
def zF:∀(a b:List gB),lF (a++b)=lF a++lF b
 |[],b=>by simp[lF]
 |x::r,b=>by
  show x++lF (r++b)=x++lF r++lF b;rw[zF r b,Wa]
def aIr(a:List gB):(lF a).data.toList=(a.map (·.data.toList)).flatten:=by
 induction a with
 |nil=>rfl
 |cons x r b=>simp[lF,b]
def pa(a:List gB):Lib.join (a.map (·.data.toList)) ByteArray.empty.data.toList=(lF a).data.toList:=by
 have e:ByteArray.empty.data.toList=[]:=rfl;rw[aIr,e];cases a with
 |nil=>rfl
 |cons x r=>
  rw[Fc,Lib.join_cons,Lib.joinTail];simp;rfl
def aNj(a:List gB):(⟨(Lib.join (a.map (·.data.toList)) ByteArray.empty.data.toList).toArray⟩:gB)=lF a:=by
 rw[pa]
def wF:List gB->Nat
 |[]=>0
 |x::r=>x.size+wF r
def KQ:∀(a:List gB),(lF a).size=wF a
 |[]=>rfl
 |x::r=>by rw[lF,Ka,KQ r,wF]
def nH:∀(a b:List gB),wF (a++b)=wF a+wF b
 |[],b=>by simp[wF]
 |x::r,b=>by show x.size+wF (r++b)=x.size+wF r+wF b;rw[nH r b];omega
def EP(n:Nat)(w:eA):qD 35 #[lA mA (n:Nat)] w (nA (pB 1 (n:Nat))):=by
 have d:xA (∀W,qD 79 #[lA mA (n:Nat),lA mA 1] W (nA (pB 1 (n:Nat)))):=fun W=>aH 1 (n:Nat) W (by omega);generalize pB 1 (n:Nat)=N at *;go_enter func35,ntmps35;go_wp2_with fail;apply aC (d.o _);intro f a;have c:xA _:=a;clear a;go_wp2;go_ret;exact⟨rfl,c.o⟩
def lI(g n b:Nat)(a:List gB)(w:eA)(p:n=vA a)(i:∀(j:Nat) x,a[j]?=bA x->w.cell? ⟨g,0+j,aA⟩=bA (nA x))(o:g<w.1.size)(d:vA a<=b)(q:vA a<=1000000000)(k:wF a<=140737488355328):
 qD 137 #[oA (bA ⟨g,0,aA⟩) n b] w (nA (lF a)):=by
 subst p;have m:xA (qD 178 #[oA (bA ⟨g,0,aA⟩) (vA a) b,nA kA] w (nA (lF a))):=by
  have h:=strings_Join g 0 b a kA w i o (by omega) d (by rw[pa,<-Lib.size_eq,KQ];exact k);rw[aNj]at h;exact h
 clear i k;generalize lF a=C at *;generalize vA a=n at *;go_enter func137,ntmps137;go_wp2_with fail;apply aC m.o;intro r c;have l:xA _:=c;clear c;go_wp2;go_ret;exact⟨rfl,l.o⟩
def bf{W:eA}{x y:gB}{t:TypeId}:∀(j:Nat) z,[x,y][j]?=bA z->(W.alloc (tA #[nA x,nA y] t)).cell? ⟨W.1.size,0+j,aA⟩=bA (nA z):=by
 intro j z h;rw[cell_of_row _ W.1.size _ _ _ _ (heap_alloc_new _ _),Ya];match j,h with
 |0,h=>simp at h;simp[h]
 |1,h=>simp at h;simp[h]
 |j+2,h=>simp at h
def pT(s:gB)(w:eA)(j:s.size<=1000000000):qD 171 #[nA s] w (nA (kO s)):=by
 have i:xA _:=fun W=>EP s.size W;have k:=qB 1 (s.size:Nat);unfold kO;generalize pB 1 (s.size:Nat)=N at *;have g:xA (∀W:eA,qD 137 #[oA (bA ⟨W.1.size,0,aA⟩) 2 2] (W.alloc (tA #[nA N,nA s] 9)) (nA (N++s))):=fun W=>by
  have h:=lI W.1.size 2 2 [N,s] (W.alloc (tA #[nA N,nA s] 9)) rfl bf (by simp) (by simp) (by simp) (by simp[wF];omega);have e:lF [N,s]=N++s:=by simp[lF]
  rw[e]at h;exact h
 go_enter func171,ntmps171;go_wp2_with fail;apply aC (i.o _);intro l a;have f:xA _:=a;clear a;go_wp2_with fail;apply aC (g.o _);intro m b;have c:xA _:=oB (oB f.o vB) b;clear b;go_wp2;go_ret;exact⟨rfl,c.o⟩
def yL(s:gB)(w:eA)(j:s.size<=1000000000):qD 146 #[nA s] w (nA (qF s)):=by
 have i:xA (∀W,qD 79 #[lA mA (s.size:Nat),lA mA 2] W (nA (pB 2 (s.size:Nat)))):=fun W=>aH 2 (s.size:Nat) W (by omega);have k:=qB 2 (s.size:Nat);unfold qF;generalize pB 2 (s.size:Nat)=N at *;have g:xA (∀W:eA,qD 137 #[oA (bA ⟨W.1.size,0,aA⟩) 2 2] (W.alloc (tA #[nA N,nA s] 9)) (nA (N++s))):=fun W=>by
  have h:=lI W.1.size 2 2 [N,s] (W.alloc (tA #[nA N,nA s] 9)) rfl bf (by simp) (by simp) (by simp) (by simp[wF];omega);have e:lF [N,s]=N++s:=by simp[lF]
  rw[e]at h;exact h
 go_enter func146,ntmps146;go_wp2_with fail;apply aC (i.o _);intro l a;have f:xA _:=a;clear a;go_wp2_with fail;apply aC (g.o _);intro m b;have d:xA _:=oB (oB f.o vB) b;clear b;go_wp2;go_ret;exact⟨rfl,d.o⟩
