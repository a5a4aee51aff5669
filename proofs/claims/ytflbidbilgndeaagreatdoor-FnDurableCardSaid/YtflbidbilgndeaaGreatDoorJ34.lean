import Derived.Test.YtflbidbilgndeaaGreatDoorJ33
import Derived.Test.YtflbidbilgndeaaGreatDoorJ32
set_option maxRecDepth 100000
set_option maxHeartbeats 8000000
set_option linter.defProp false
open Bool renaming true->dA,false->cA
open ByteArray renaming empty->kA
open Option renaming some->bA,none->aA
namespace Go.Proofs.YtflbidbilgndeaaGreatDoor
open Go renaming Value->iA,World->eA
open Ending renaming returned->uA
open Value renaming slice->pA,string->oA
open Obj renaming cells->vA
open Go.RowKit Tryz
def vn{M:wC}{x:Int}{a:jB}:nN M x a=if mU M x=0 then a else pB 1 (mU M x):=by
 unfold nN mU;repeat' split
 all_goals first|rfl|simp_all
def rh{M:wC}{x:Int}:nN M x (pB 1 0)=pB 1 (mU M x):=by
 rw[vn];split<;>simp_all
def aNl{c:iC}{N:wC}{rs:List xD}(d:nC c N.now N.ts=dA)(b:N.deg=cA)(e:N.up=dA)(h:(vF c N.now N.ts rs).2.2=cA):eG c N rs=(N,62):=by
 have a:=(gH d).1;unfold eG;rw[Ja (by simp[a]),Ja (by simp[ee,b,e]),Ma (Ca h)]
def xw{c:iC}{a:Int}{b:List fB}{x:xD}(d:nC c a b=dA):(vF c a b [x]).2.2=(pE c a b x).2.2:=by
 unfold vF;simp[d,nF];split<;>simp_all
def aDj{c:iC}{N:wC}{r:gG}{x:xD}(b:nC c N.now N.ts=dA)(d:N.deg=cA)(g:N.up=dA)(i:r.K=2/\x=⟨2,kA,kA,r.U⟩\/r.K=3/\bD r.T=dA/\x=⟨3,r.T,r.R,r.U⟩):xP c N r=((eG c N [x]).1,pB 1 (mU (eG c N [x]).1 (eG c N [x]).2)):=by
 have a:=λh=>aNl (rs:=[x]) b d g ((xw (x:=x) b).trans h);unfold xP;obtain⟨e,rfl⟩|⟨e,f,rfl⟩:=i
 .rw[nk b];simp only[d,e,Bd,false_and,Cf,ne_eq,not_true_eq_false,Td,Int.reduceEq];simp only[pE,Int.reduceEq,Cf,Td]at a;split
  .rename_i h;rw[a h];rfl
  rw[rh]
 rw[wj b];simp only[d,e,f,Bd,false_and,Cf,Bool.true_eq_false,and_false,Int.reduceEq,Td];simp only[pE,Int.reduceEq,Cf,Td]at a;split
 .rename_i h;rw[a h];rfl
 rw[rh]
def aOz{c:iC}{N:wC}{r:gG}(a:N.deg=cA)(b:r.K=4):xP c N r=((NA c N).1,pB 1 (mU (NA c N).1 (NA c N).2)):=by
 unfold xP;simp[a,b,rh]
def aPa{c:iC}{N:wC}{r:gG}(b:nC c N.now N.ts=dA)(a:r.K=5)(d:bD r.T=dA)(e:0<=(qE c (aC N.ts r.T) r.R).1):xP c N r=if (r.R.toList.isEmpty||bF r.R)=dA then(N,pB 1 0++pB 8 (qE c (aC N.ts r.T) r.R).1++pB 8 (qE c (aC N.ts r.T) r.R).2) else(N,pB 1 2):=by
 unfold xP oH;cases hm:(r.R.toList.isEmpty||bF r.R)
 .simp[a,d,b]
 simp[a,d,b];omega
def aPb{c:iC}{N:wC}{r:gG}(a:r.K=6)(b:bD r.T=dA):xP c N r=(N,pB 1 0++pB 8 N.now++pB 4 ((aC N.ts r.T).Z.length:Nat)++mE (aC N.ts r.T).Z):=by
 unfold xP;simp[a,b]
def aOy{c:iC}{N:wC}{r:gG}(a:N.deg=cA)(b:r.K=1)(d:bD r.T=dA):xP c N r=if (jL c N.now r.T N.ts r.P).2.2=[] then(N,pB 1 0++pB 2 (r.P.length:Nat)++(jL c N.now r.T N.ts r.P).2.1)
 else((eG c N (jL c N.now r.T N.ts r.P).2.2).1,if mU (eG c N (jL c N.now r.T N.ts r.P).2.2).1 (eG c N (jL c N.now r.T N.ts r.P).2.2).2=0 then pB 1 0++pB 2 (r.P.length:Nat)++(jL c N.now r.T N.ts r.P).2.1 else pB 1 (mU (eG c N (jL c N.now r.T N.ts r.P).2.2).1 (eG c N (jL c N.now r.T N.ts r.P).2.2).2)):=by
 unfold xP;simp[a,b,d,vn]
def NaV(M:wC)(x:iA)(w:eA)(e:Ending)(c:eA):Prop:=
 ∃a d b f,e=uA (.tuple #[.agg (sC a d b f M),x])/\wJ c (λx=>w.1.size<=x/\x<c.1.size) a b M/\uB w c
def eu(V:wC×Int)(w:eA)(e:Ending)(a:eA):Prop:=NaV V.1 (zA V.2) w e a
def vt{l:Func}{t:Act}{w W:eA}{c:iC}{cs:Array iA}{M:wC}{x:iA}{a b:mC}{d f H i j:Nat}(h:l.results=#[.cell i 42,.tmp j])(m:t.tmps.getD i undef=.pointer (yB (w.1.size+1+1)))(n:t.tmps.getD j undef=x)(p:t.defers=[])(P:NP w W c cs)(o:wJ W (λx=>w.1.size+1+1<x/\x<H) a b M)(s:H<=W.1.size):bodyPost prog l (λe r=>NaV M x w e r) .ret t (W.setRow (w.1.size+1+1) (sC a d b f M)):=by
 have g:=cH W (w.1.size+1+1) (sC a d b f M);have v:=g.size;exact bodyPost_ret (ub h m n P.R.row (xH _ _ _ _ _)) p ⟨a,d,b,f,rfl,(o.turned g (λx q _ e=>by omega)).mono (λx q=>by omega),P.B.trans (g.below P.B.size (λk u e=>by omega))⟩
def bh{f:Func}{t:Act}{w W:eA}{c:iC}{cs:Array iA}{V:wC×Int}{M:wC}{d:Int}{a b:mC}{ca cb H i j:Nat}(h:f.results=#[.cell i 42,.tmp j])(g:t.tmps.getD i undef=.pointer (yB (w.1.size+1+1)))(k:t.tmps.getD j undef=zA d)(n:t.defers=[])(P:NP w W c cs)(E:V=(M,d))(l:wJ W (λx=>w.1.size+1+1<x/\x<H) a b M)(m:H<=W.1.size):bodyPost prog f (λe o=>eu V w e o) .ret t (W.setRow (w.1.size+1+1) (sC a ca b cb M)):=by
 subst E;exact vt h g k n P l m
section
open Go.Maps
def pf:ByteArray.empty.toList.isEmpty=dA:=by simp
def yg(b:List dC):(xB b).2.1=0\/40<=(xB b).2.1:=by
 have d:∀(l:List dC)(i c j:Nat),jD l i=bA (c,j)->40<=c:=by
  intro l;induction l with
  |nil=>intro i c j h;cases h
  |cons x r e=>
   intro i c j h;rw[jD]at h;split at h;exact e _ _ _ h
   cases h
   rename_i a;unfold yR qP UJ at a |-
   revert a;repeat' split
   all_goals simp
 unfold xB;split;simp;split
 .rename_i h;exact La (d _ _ _ _ h)
 split;simp;split<;>simp
def aDu{a:List dC}(h:(xB a).2.1=0):(xB a).1.length<=16:=by
 have:=BN (ls:=a);by_cases b:16<a.length
 .unfold xB at h;rw[Ma b]at h;cases h
 omega
def aIa{c:iC}{a:Int}{b:List fB}{d k:jB}(h:(nL c a b d k).2≠1/\(nL c a b d k).2≠2):(nL c a b d k).1=b:=by
 unfold nL at h |-
 revert h;repeat' split
 all_goals simp
def aJg{c:iC}{a:Int}{b:List fB}{te:jB}{x:sF}(h:nC c a b=dA):
 (xB x.B).2.1≠0/\vI c a b te x=((xB x.B).2.1,b,kA)\/(xB x.B).2.1=0/\(AL x.bits=dA/\vI c a b te x=(6,b,kA)\/AL x.bits=cA/\(vI c a b te x).1=(nL c a b te (uH (xB x.B).1)).2/\(vI c a b te x).2.1=(nL c a b te (uH (xB x.B).1)).1/\((vI c a b te x).2.2.toList.isEmpty=cA->uH (xB x.B).1=(vI c a b te x).2.2)):=by
 unfold vI;by_cases d:(xB x.B).2.1=0
 .refine La ⟨d,?_⟩;rw[Ja (by simp[d]),(gz d).1,ZG h];cases AL x.bits
  .refine La ⟨rfl,?_⟩;rw[Ja (by simp)];dsimp only;split
   .exact ⟨rfl,rfl,λ_=>rfl⟩
   rename_i f;exact⟨rfl,(aIa ⟨λe=>f (Ca e),λe=>f (La e)⟩).symm,λh=>by simp at h⟩
  exact Ca ⟨rfl,Ma rfl⟩
 exact Ca ⟨d,Ma d⟩
def aJf{c:iC}{now:Int}{ts:List fB}{te:jB}{x:sF}:((vI c now ts te x).1=1\/(vI c now ts te x).1=2)/\(vI c now ts te x).2.2.toList.isEmpty=cA\/¬((vI c now ts te x).1=1\/(vI c now ts te x).1=2)/\(vI c now ts te x).2.2.toList.isEmpty=dA:=by
 have:=yg x.B;unfold vI;by_cases b:(xB x.B).2.1=0
 .rw[Ja (by simp[b])];split
  .exact La ⟨by simp,pf⟩
  split
  .rename_i a;refine Ca ⟨a,?_⟩;rw[(gz b).1];exact nP.2 λe=>by have:=Kd ByteArray.size e;rw[uH,Ka,gB]at this;simp at this
  rename_i a;exact La ⟨a,pf⟩
 rw[Ma b];exact La ⟨by dsimp only;omega,pf⟩
def aAs{D l m:Nat}{r:gG}{G a b:mC}{I ca cb:Nat}{c:iC}{N:wC}{k:Int}{n:List fB}{M:Nat}{B:Nat->Prop}{w:eA}(x:sF)(E:mC)(F:Nat)
(h:nB w D (NJ r G I c a ca b cb N l) 87)(H:jE w B l m c k n M)(G:∀g,w.1.size<=g->B g)(O:sD w E x.B)(C:x.B.length<=F)(I:uG w)(hn:r.T.size<=1048576)(hx:tJ x<=300000)(o:wU x.bits)(s:nC c k n=dA)(J:n.length+cC n<=1900000)(hM:1<=M)(z:M<=1000000000):
 Calls prog 157 #[.pointer (yB D),.agg #[pA E x.B.length F,zA x.bits]] w λe w'=>∃K,e=uA (.tuple #[zA ((vI c k n r.T x).1:Nat),oA K])/\((vI c k n r.T x).2.2.toList.isEmpty=cA->K=(vI c k n r.T x).2.2)/\jE w' B l m c k (vI c k n r.T x).2.1 (M+1)/\eB B w w':=by
 have L:tJ x=x.B.length+bE x.B:=rfl;have q:sU x.B:=λi o=>by have:=qx x.B i o;exact⟨by omega,by omega⟩
 have A:sU (xB x.B).1:=λi o=>by
  obtain⟨j,U,e⟩:=Ib (VL _ (Gb o));rw[<-e];exact q j U
 have hz:(uH (xB x.B).1).size<=1048576:=by have:=DV x.B;have:=BN (ls:=x.B);rw[uH,Ka,gB,lQ];omega
 have HV:=bB (aJg (te:=r.T) (x:=x) s);have U:=bB (λW(p:uB w W)=>CW E F x.B W (O.z p) q (by omega) C (I.z p));have HN:=bB (λW=>az x.bits W o.1 o.2);have Y:=bB (λW Z k3(h:sD W Z (xB x.B).1)(hq:(xB x.B).2.1=0)=>aAw Z k3 (xB x.B).1 W h A (aDu hq));obtain⟨_,_,_,_,ht⟩:=gH s;have s1:∀t∈n,t.Z.length<=1000000000:=λt Q=>by
  obtain⟨i,o,rfl⟩:=Ib Q;have:=mY n i o;unfold jF at this;omega
 have T:=bB (λW(p:uB w W)=>RM l m r.T (uH (xB x.B).1) c k B n M W (H.z p) (λg Z=>G g (by have:=p.size;omega)) (I.z p) (by omega) (by omega) hM z s1 (λt Q y Z=>(CE (dK (nJ ht t Q)).2.2.1 y Z).2.2) (by omega));have Z:=bB (λW(p:uB w W)=>(H.z p).mono (Gf M));have W:=bB h;clear h H G O C I hn hx o s J hM z L q A hz s1 ht;generalize vI c k n r.T x=V at *;generalize uH (xB x.B).1=I at *;generalize AL x.bits=h at *;generalize x.bits=bi at *;generalize xB x.B=h at *;generalize x.B=R at *;obtain⟨G,G,G⟩:=h;obtain⟨v1,v2,v3⟩:=V;dsimp only at *;have P:=bB (wF w (vA #[pA E R.length F,zA bi] 111));have X:=bB (nB.new w #[pA E R.length F,zA bi] 111);go_enter func157,ntmps157;go_wp2_with fail;refine(U.o _ P.o).mono ?_;rintro e w1 ⟨a1,J,rfl,O,h,u⟩;have L1:=bB h.B;replace X:=bB (X.o.z u);replace P:=bB (vB P.o u);clear u h U O;have h:=X.o.c2;obtain⟨G,v⟩|⟨rfl,⟨rfl,v⟩|⟨rfl,v,O,G⟩⟩:=HV.o
 .obtain ⟨rfl,rfl,rfl⟩:=v;clear HV Y T;go_wp2;go_ret2;exact⟨_,rfl,λ_=>rfl,Z.o _ P.o,eB.of P.o⟩
 .obtain ⟨rfl,rfl,rfl⟩:=v;go_wp2_with(first|(go_at_call 222;apply dR (HN.o _)));go_ret2;exact⟨_,rfl,λ_=>rfl,Z.o _ P.o,eB.of P.o⟩
 subst v O;replace G:=bB G;go_upto_region 7 with(first
  |(go_at_call 222;apply dR (HN.o _))
  |(go_at_call 219;refine lC (Y.o _ a1 J L1.o (by first|rfl|trivial)) ?_;intro w2 u;replace P:=bB (vB P.o u);clear u h))
 have h:=oI (W.o.z P.o);go_region_law (refine eE (f:=223) (args:=#[.pointer (yB l),oA r.T,oA I]) rfl (by go_simp) ?_;apply lC (T.o _ P.o.drew);rintro h ⟨h,d⟩;have S:=bB (Vc h d);clear h d;refine⟨_,rfl,?_⟩)
 all_goals
  go_wp2;go_ret2;exact⟨_,rfl,G.o,S.o.1,(eB.of P.o.drew).trans' S.o.2⟩
end
section
open Go.Maps
attribute [local go_sem] jH xH xN nB.drewI qN.drewI qN.new qN.alloc qN.alloc2
def dk1:yD:=⟨[⟨zE 1,⟨#[]⟩,0⟩],1000000,1,0,0,cA⟩
def nd1:wC:=⟨dk1,⟨1,1,0⟩,0,[],0,cA,dA⟩
def tr:gF ⟨[],1000000,0,0,0,cA⟩ (aH 1)=(dk1,0):=by kernel_rfl
def bm{c:iC}(a:lH c=dA):NdI c 0 nd1:=
 ⟨by have:=oT (D:=⟨[],1000000,0,0,0,cA⟩) (op:=aH 1) tQ (by have:=bL 1;unfold maxLen;show(zE 1).size<=_;omega) (Oa _);rw[tr]at this;exact this,sO a (by show bC 0 0 1000000000000=dA;decide) (by simp[nd1]) rfl,Ia _,⟨Xd _,by show(0:Int)<=1000000000000000;decide⟩⟩
structure O0(w W:World)(c:iC)(v0 v1 v2 v3 v4 v5:Value):Prop where
 C:nB W w.1.size #[zA c.w,zA c.tl,zA c.ml,zA c.sh,zA c.ha,zA c.sg] 24
 D:nB W (w.1.size+1) #[v0,v1,v2,v3,v4,v5] 35
 R:nB W (w.1.size+1+1) (sC aA 0 aA 0 uP) 42
 B:uB w W
section
variable {w W W':eA} {c:iC} {v0 v1 v2 v3 v4 v5 u0 u1 u2 u3 u4 u5:iA}
theorem O0.new:O0 w (((w.alloc (vA #[zA c.w,zA c.tl,zA c.ml,zA c.sh,zA c.ha,zA c.sg] 24)).alloc (vA #[v0,v1,v2,v3,v4,v5] 35)).alloc (vA (sC aA 0 aA 0 uP) 42)) c v0 v1 v2 v3 v4 v5:=
 ⟨((nB.new _ _ _).alloc _).alloc _,by have:=(nB.new (w.alloc (vA #[zA c.w,zA c.tl,zA c.ml,zA c.sh,zA c.ha,zA c.sg] 24)) #[v0,v1,v2,v3,v4,v5] 35).alloc (vA (sC aA 0 aA 0 uP) 42);simpa using this,
   by have:=nB.new ((w.alloc (vA #[zA c.w,zA c.tl,zA c.ml,zA c.sh,zA c.ha,zA c.sg] 24)).alloc (vA #[v0,v1,v2,v3,v4,v5] 35)) (sC aA 0 aA 0 uP) 42;simpa using this,vB (vB zB zB) zB⟩
theorem O0.z(h:O0 w W c v0 v1 v2 v3 v4 v5)(a:uB W W'):O0 w W' c v0 v1 v2 v3 v4 v5:=⟨h.C.z a,h.D.z a,h.R.z a,vB h.B a⟩
theorem O0.lt(h:O0 w W c v0 v1 v2 v3 v4 v5):w.1.size+1+1<W.1.size:=aB h.R
theorem O0.cells(h:O0 w W c v0 v1 v2 v3 v4 v5):W.cell? (dB w.1.size 0)=bA (zA c.w)/\W.cell? (dB w.1.size 1)=bA (zA c.tl)/\W.cell? (dB w.1.size 2)=bA (zA c.ml)/\W.cell? (dB w.1.size 3)=bA (zA c.sh)/\W.cell? (dB w.1.size 4)=bA (zA c.ha)/\W.cell? (dB w.1.size 5)=bA (zA c.sg)/\W.cell? (dB (w.1.size+1) 0)=bA v0/\W.cell? (dB (w.1.size+1) 1)=bA v1/\W.cell? (dB (w.1.size+1) 2)=bA v2/\W.cell? (dB (w.1.size+1) 3)=bA v3/\W.cell? (dB (w.1.size+1) 4)=bA v4/\W.cell? (dB (w.1.size+1) 5)=bA v5/\qN W (w.1.size+1+1)/\w.1.size<W.1.size/\w.1.size+1<W.1.size/\w.1.size+1+1<W.1.size/\¬w.1.size=W.1.size/\¬w.1.size+1=W.1.size/\¬w.1.size+1+1=W.1.size:=
 have:=h.lt
 ⟨h.C.cell 0,h.C.cell 1,h.C.cell 2,h.C.cell 3,h.C.cell 4,h.C.cell 5,h.D.cell 0,h.D.cell 1,h.D.cell 2,h.D.cell 3,h.D.cell 4,h.D.cell 5,h.R.box rfl,by omega,by omega,this,by omega,by omega,by omega⟩
theorem aMi{C:eA->Prop}(h:O0 w W c v0 v1 v2 v3 v4 v5)(k:∀X,O0 w X c u0 u1 u2 u3 u4 u5->C X):C ((((((W.setCell (dB (w.1.size+1) 0) u0).setCell (dB (w.1.size+1) 1) u1).setCell (dB (w.1.size+1) 2) u2).setCell (dB (w.1.size+1) 3) u3).setCell (dB (w.1.size+1) 4) u4).setCell (dB (w.1.size+1) 5) u5):=by
 have a:eB (·=w.1.size+1) W ((((((W.setCell (dB (w.1.size+1) 0) u0).setCell (dB (w.1.size+1) 1) u1).setCell (dB (w.1.size+1) 2) u2).setCell (dB (w.1.size+1) 3) u3).setCell (dB (w.1.size+1) 4) u4).setCell (dB (w.1.size+1) 5) u5):=((((((eB.refl (·=w.1.size+1) W).setCell (Ca rfl) 0 _).setCell (Ca rfl) 1 _).setCell (Ca rfl) 2 _).setCell (Ca rfl) 3 _).setCell (Ca rfl) 4 _).setCell (Ca rfl) 5 _;exact k _ ⟨a.blk h.C (by omega),by have:=(((((h.D.set 0 u0).set 1 u1).set 2 u2).set 3 u3).set 4 u4).set 5 u5;simpa using this,a.blk h.R (by omega),h.B.trans (a.below h.B.size λk b e=>by omega)⟩
end
def RZ{l:Func}{t:Act}{w W:eA}{c:iC}{v0 v1 v2 v3 v4 v5:iA}{f g:mC}{a b i j:Nat}{M:wC}{x:iA}(h:l.results=#[.cell i 42,.tmp j])(m:t.tmps.getD i undef=.pointer (yB (w.1.size+1+1)))(n:t.tmps.getD j undef=x)(q:t.defers=[])(P:O0 w W c v0 v1 v2 v3 v4 v5)(o:tB W f M.d.fs)(p:xC W g M.ts):bodyPost prog l (λe r=>TY M x w e r) .ret t (W.setRow (w.1.size+1+1) (sC f a g b M)):=
 bodyPost_ret (ub h m n P.R.row (xH _ _ _ _ _)) q ⟨f,a,g,b,rfl,o.store P.R (zG _ _ _ _ _) (cH _ _ _),p.store P.R (zG _ _ _ _ _) (cH _ _ _),P.B.trans ((cH _ _ _).below P.B.size λk s e=>by omega)⟩
def aNv(b:Bool)(t:jB):wN [] b cA t=(kA,cA):=by
 unfold wN;cases b<;>simp[nE]
def dh(c:iC)(w:eA)(d:lH c=dA):
 Calls prog 15 #[rE c,.agg #[pA aA 0 0,zA 1000000,zA 0,zA 0,zA 0,.bool cA]] w λe w'=>TY nd1 (zA 0) w e w':=by
 have I:=bB (λW=>qR c W);rw[d]at I;have M:eF [] 1000000 0 0 0=dA:=by decide
 have E:=bB (λW=>yV aA 0 [] 1000000 0 0 0 cA W (Ca rfl) tQ.H (by simp) tQ.sum);rw[M]at E;have J:=bB (λW=>RH aA 0 ⟨[],1000000,0,0,0,cA⟩ W (Ca rfl) (by simp));have G:=bB (λO Q t W=>aY O Q [] 1000000 0 0 0 cA t W (Ca rfl) (by simp));have H:=bB (λO Q t W=>dp O Q [] 1000000 0 0 0 cA t W (Ca rfl) tQ.H (by simp) tQ.sum);have U:=bB (λO Q W=>VB O Q 1000000 0 0 0 W M dk1 tr);unfold aDd at U;simp only[List.length_nil]at E J G H;simp only[aNv]at H;simp only[nE]at G;rw[show nd1=⟨dk1,⟨1,1,0⟩,0,[],0,cA,dA⟩ from rfl];generalize dk1=K at *;unfold rE at *;have h:=vN;go_enter func15,ntmps15;go_wp2_with fail;apply lC (I.o _);intro w1 a;have P:=bB ((O0.new (w:=w) (c:=c) (v0:=pA aA 0 0) (v1:=zA 1000000) (v2:=zA 0) (v3:=zA 0) (v4:=zA 0) (v5:=.bool cA)).z a);have b:=P.o.cells;go_wp2_with fail;apply lC (E.o _);intro w2 a;replace P:=bB (P.o.z a);have b:=P.o.cells;go_wp2_with fail;refine(J.o _).mono ?_;rintro e d ⟨O,Q,rfl,d,a⟩;replace P:=bB (P.o.z a);have d:=P.o.D.free 0;have d:=P.o.D.free 1;have d:=P.o.D.free 2;have d:=P.o.D.free 3;have d:=P.o.D.free 4;have d:=P.o.D.free 5;have b:=P.o.cells;go_upto_region 6 with fail;refine aMi (C:=λW=>Code.wp prog _ _ _ W) P.o ?_;intro w4 R;replace P:=bB R;have b:=P.o.cells;go_wp2_with fail;apply lC (G.o _ _ _ _);intro d a;replace P:=bB (P.o.z a);have b:=P.o.cells;go_upto_region 15 with fail;refine eI (C:=λW=>Code.wp prog _ _ _ W) ?_;intro f a f N;replace P:=bB (P.o.z a);have S:=bB f;have f:=P.o.lt;generalize d.1.size=Y at *;have b:=P.o.cells;go_wp2_with fail;apply lC (H.o _ _ _ _);intro d a;replace P:=bB (P.o.z a);replace S:=bB (S.o.z a);have b:=P.o.cells;go_wp2_with fail;refine(U.o _ _ _).mono ?_;rintro e d ⟨X,f,g,g,rfl,T,a⟩;replace P:=bB (P.o.z a);replace S:=bB (S.o.z a);have F:=bB T;have g:=P.o.lt;have g:=aB S.o;go_upto_region 23 with fail;refine eI (C:=λW=>Code.wp prog _ _ _ (W.alloc _)) ?_;intro g a j k;refine eI (C:=λW=>Code.wp prog _ _ _ W) ?_;intro A L g N;rw[k]at g;replace a:=vB a L;replace P:=bB (P.o.z a);replace S:=bB (S.o.z a);replace F:=bB (F.o.z a);have B:=bB (j.z L);have V:=bB g;generalize d.1.size=Z at *;have d:tC A Z 0 (pA X K.fs.length f):=B.o.cell 0;have g:tC A Z 1 (zA K.c):=B.o.cell 1;have j:tC A Z 2 (zA K.k):=B.o.cell 2;have k:tC A Z 3 (zA K.cr):=B.o.cell 3;have l:tC A Z 4 (zA K.fl):=B.o.cell 4;have m:tC A Z 5 (.bool K.dn):=B.o.cell 5;have b:=P.o.cells;go_upto_region 25 with fail;go_wp2_with fail;go_loopw [8,20,21,22,23,24,88] (λn _ _ _ _ _ i wr=>i=zA 0/\n=zA 0/\wr=A) (λ_ _ _ _ _ _ i _=>0-(intOf i).toNat)
 case atStart=>exact⟨rfl,rfl,rfl⟩
 case round=>
  obtain⟨rfl,rfl,rfl⟩:=hrel;have n:=qF X f aA 0 ⟨K,⟨1,1,0⟩,0,[],0,cA,dA⟩;dsimp only[List.length_nil]at n;have d:tC wr Z 0 (pA X K.fs.length f):=B.o.cell 0;have g:tC wr Z 1 (zA K.c):=B.o.cell 1;have j:tC wr Z 2 (zA K.k):=B.o.cell 2;have k:tC wr Z 3 (zA K.cr):=B.o.cell 3;have l:tC wr Z 4 (zA K.fl):=B.o.cell 4;have m:tC wr Z 5 (.bool K.dn):=B.o.cell 5;have d:tC wr (Z+1) 0 (zA 1):=V.o.cell 0;have d:tC wr (Z+1) 1 (zA 1):=V.o.cell 1;have d:tC wr (Z+1) 2 (zA 0):=V.o.cell 2;have d:tC wr Y 0 (zA 0):=S.o.cell 0;have d:tC wr Y 1 (pA aA 0 0):=S.o.cell 1;have b:=P.o.cells;clear h;go_wp2;exact RZ rfl rfl rfl rfl P.o F.o (Ca rfl)
end
section
open Go.Maps
structure qV(Lo:Nat)(w0 w:World)(D:Nat)(r:gG)(sa:mC)(sc:Nat)(c:iC)(a:mC)(ca:Nat)(b:mC)(cb:Nat)(N:wC)(l m M:Nat)(B A:Nat→Prop):Prop where
 dsk:nB w D (NJ r sa sc c a ca b cb N l) 87
 led:jE w B l m c N.now N.ts M
 new:∀g,w.1.size≤g→B g
 off:¬B D
 old:∀g,B g∨g=D→w0.1.size≤g
 node:wJ w A a b N
 apart:∀g,A g→(¬B g∧g≠D)∧Lo≤g∧g<w.1.size
 lo:Lo≤w0.1.size
 base:uB w0 w
 utab:uG w0
 pow:sI w0
 fit:JH N.d.fs
 bulk:N.ts.length+cC N.ts≤1048576
 rng:TW N.ts
 lsn:wU N.lsn
 now:wU N.now
 st:nC c N.now N.ts=dA
 gd:GdH c N r
 req:sn r∧(sK r).size≤60000∧wU r.U
 bit:∀x∈r.P,wU x.bits
 smp:∀W,eB (λg=>B g∨g=D) w W→pJ W sa r.P
 hM:1≤M∧M≤900000000
def FK(V:wC×jB)(D:Nat)(r:gG)(sa:mC)(sc:Nat)(c:iC)(l Lo:Nat)(w0:eA)(e:Ending)(d:eA):Prop:=
 ∃a ca b cb,e=uA (oA V.2)/\nB d D (NJ r sa sc c a ca b cb V.1 l) 87/\wJ d (λx=>Lo<=x/\x<d.1.size) a b V.1/\uB w0 d
section
variable {w0 w W:eA} {D Lo:Nat} {r:gG} {sa:mC} {sc:Nat} {c:iC} {a:mC} {ca:Nat} {b:mC} {cb:Nat} {N:wC} {l m M:Nat} {B A:Nat→Prop}
theorem qV.same(h:qV Lo w0 w D r sa sc c a ca b cb N l m M B A)(d:eB B w W){s:jB}:FK (N,s) D r sa sc c l Lo w0 (uA (oA s)) W:=
 ⟨a,ca,b,cb,rfl,d.blk h.dsk h.off,(h.node.turned d λg f _=>(h.apart g f).1.1).mono λg f=>⟨(h.apart g f).2.1,Bb (h.apart g f).2.2 d.size⟩,h.base.trans (d.below h.base.size λk i e=>by have:=h.old k (Ca e);omega)⟩
end
end
section
open Go.Maps
attribute [local go_sem] jH xH xN nB.drewI qN.drewI qN.new qN.alloc qN.alloc2
def qh(c:iC)(a b:mC)(j k:Nat)(N:wC)(G:mC)(capr:Nat)(o:List xD)(w:eA)(h:aHw w a b N G o)(d:uG w)(E:sI w)(Q:lH c=dA)(S:ee N=dA)(l:uj c N o):
 Calls prog 224 #[rE c,.agg (sC a j b k N),pA G o.length capr] w λe F=>eu (eG c N o) w e F:=by
 have g:=h.bulk;have O:=bB (aLx Q S l);have s:=bB (λW=>aV c W);have u:cB (∀W,uB w W->Calls prog 24 #[.agg (sC a j b k N)] W λe F=>∃a j b k,e=uA (.agg (sC a j b k N))/\wJ F (λx=>W.1.size<=x/\x<F.1.size) a b N/\uB W F):=λW q=>mX a b j k N W (h.files.z q) h.fit.len (h.tens.z q) (by omega) (CH (by omega));have t:=bB (λW a j b k=>pZ a b j k N W);have r:=bB (λW b k(q:uB w W)(B:xC W b N.ts)=>UL c N.now b k N.ts G capr o W B (h.recs.z q) (by omega) g (d.z q));have v:=bB (λW=>zF N.lsn 999999999999999 W);have M:=bB (λW(q:uB w W)=>LO (N.lsn+1) G capr o W (h.recs.z q) (fj (by omega)) (by omega));have n:=bB (λB W a j(q:uB w W)(G:tB W a N.d.fs)=>qf a j N.d N.l (lJ (N.lsn+1) o) c.sg W (E.z q) G h.fit B);rw[Q]at s;rw[show(N.up&&!N.deg)=dA from S]at t;unfold xU at r;unfold aId at n;clear h d E g Q S l;unfold rE at *;generalize eG c N o=V at *;generalize vF c N.now N.ts o=A at *;generalize lJ (N.lsn+1) o=d at *;generalize dI N.d N.l d c.sg=R at *;obtain⟨B,f,d⟩:=A;have G:=vN;dsimp only at r O;go_enter func224,ntmps224;go_wp2_with fail;apply lC (s.o _);intro w1 g;have P:=bB ((NP.new (w:=w) (c:=c) (cs:=sC a j b k N)).z g);clear g s;have m:=P.o.cells rfl;have d:=yG a j b k N 42;have Z:=qF a j b k N;go_wp2_with fail;refine(u.o _ P.o.B).mono ?_;rintro e w2 ⟨T,X,U,Y,rfl,i,g⟩;have l:=P.o.lt;replace P:=bB (P.o.z g);replace i:=bB i;clear g d Z m u;have m:=P.o.cells rfl;go_upto_region 4 with fail;refine DP (C:=λW=>Code.wp prog _ _ _ W) P.o.N ?_;intro l l I;replace P:=bB (P.o.put l I);replace i:=bB ((i.o.turned I (λx J _ e=>by omega)).mono (A':=λx=>w.1.size+1+1<x/\x<w2.1.size) (λx J=>by omega));have p:=I.size;clear l I m;have m:=P.o.cells rfl;have d:=yG T X U Y N 42;have Z:=qF T X U Y N;obtain⟨rfl,rfl⟩|⟨rfl,d,l,K,L,rfl,rfl⟩:=O.o
 all_goals
  (try (replace n:=bB (n.o rfl);dsimp only at n));clear O;(try (have l:=xJ d;obtain⟨I,I⟩:=l;rw[d]at v));go_wp2_with(first
   |(go_at_call 226;apply lC (t.o _ _ _ _ _);intro w4 g;replace P:=bB (P.o.z g);replace i:=bB (i.o.z g);replace p:=Ua p g.size;clear g m;have m:=P.o.cells rfl)
   |(go_at_call 272;refine(r.o _ _ _ P.o.B i.o.tens).mono ?_;rintro e d ⟨l,I,rfl,D,g⟩;have y:=bB (D.toA (Ia _));have O:=P.o.lt;replace P:=bB (P.o.z g);replace i:=bB (i.o.z g);replace p:=Ua p g.size;have O:=aB P.o.R;clear D g m;have m:=P.o.cells rfl)
   |(go_at_call 64;apply lC (v.o _);rintro O rfl)
   |(go_at_call 201;apply lC (M.o _ (P.o.z zB).B);intro O g;have z:=(nB.new d _ _).z g;replace g:=vB zB g;replace P:=bB (P.o.z g);replace i:=bB (i.o.z g);replace p:=Ua p g.size;replace y:=bB (y.o.z g);have d:=g.size;clear g m;have m:=P.o.cells rfl)
   |(go_at_call 273;refine(n.o _ _ _ P.o.B i.o.files).mono ?_;rintro e d ⟨O,U,rfl,D,g⟩;have W:=bB (D.toA (Ia _));have Y:=p;replace P:=bB (P.o.z g);replace i:=bB (i.o.z g);replace p:=Ua p g.size;replace y:=bB (y.o.z g);have Y:=g.size;replace z:=z.z g;obtain⟨Y,Y⟩:=z.c2;have Y:=aB z;have Z:=Nat.ne_of_lt Y;have Y:=qF O U l I ⟨K,L,B,f,N.lsn+1,cA,dA⟩;dsimp only at Y;clear G D g z m;have m:=P.o.cells rfl))
 .exact bh rfl rfl rfl rfl (P.o.z zB) rfl (i.o.z zB) (by simp only[eA.size_alloc];omega)
 exact bh (H:=d.1.size) rfl rfl rfl rfl ((P.o.z zB).z zB) rfl ⟨⟨_,_,(W.o.z zB).z zB,(y.o.z zB).z zB,λx J=>by omega,λx J=>by omega,λx J h=>by omega⟩⟩ (by simp only[eA.size_alloc];omega)
end
