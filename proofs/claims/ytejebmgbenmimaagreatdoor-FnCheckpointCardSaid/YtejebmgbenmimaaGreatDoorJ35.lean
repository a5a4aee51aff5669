import Derived.RangeFuncBox
import Derived.Test.YtejebmgbenmimaaGreatDoorJ41
set_option maxRecDepth 100000
set_option maxHeartbeats 8000000
set_option linter.defProp false
open Bool renaming true->iA,false->gA
open ByteArray renaming empty->pA
open Option renaming some->fA,none->eA
namespace Go.Proofs.YtejebmgbenmimaaGreatDoor
open Go renaming Value->mA,World->jA,Calls->lA,TypeId->oA
open Ending renaming returned->zA
open Value renaming tuple->bB,slice->uA,string->tA,bool->vA
open Obj renaming cells->aB
open Go.RowKit Tryz
def pp{M:vC}{x:Int}{a:vB}:cN M x a=if iT M x=0 then a else uB 1 (iT M x):=by
 unfold cN iT;repeat' split
 all_goals first|rfl|simp_all
def md{M:vC}{x:Int}:cN M x (uB 1 0)=uB 1 (iT M x):=by
 rw[pp];split<;>simp_all
def aJm{c:kC}{N:vC}{rs:List tE}(d:pC c N.now N.ts=iA)(b:N.deg=gA)(e:N.up=iA)(h:(oF c N.now N.ts rs).2.2=gA):fG c N rs=(N,62):=by
 have a:=(dH d).1;unfold fG;rw[Ja (by simp[a]),Ja (by simp[ZQ,b,e]),Ma (Ca h)]
def rk{c:kC}{a:Int}{b:List kB}{x:tE}(d:pC c a b=iA):(oF c a b [x]).2.2=(pE c a b x).2.2:=by
 unfold oF;simp[d,aG];split<;>simp_all
def yv{c:kC}{N:vC}{r:fH}{x:tE}(b:pC c N.now N.ts=iA)(d:N.deg=gA)(g:N.up=iA)(i:r.K=2/\x=⟨2,pA,pA,r.U⟩\/r.K=3/\xC r.T=iA/\x=⟨3,r.T,r.R,r.U⟩):lJ c N r=((fG c N [x]).1,uB 1 (iT (fG c N [x]).1 (fG c N [x]).2)):=by
 have a:=λh=>aJm (rs:=[x]) b d g ((rk (x:=x) b).trans h);unfold lJ;obtain⟨e,rfl⟩|⟨e,f,rfl⟩:=i
 .rw[QI b];simp only[d,e,Bd,false_and,Cf,ne_eq,not_true_eq_false,Td,Int.reduceEq];simp only[pE,Int.reduceEq,Cf,Td]at a;split
  .rename_i h;rw[a h];rfl
  rw[md]
 rw[qi b];simp only[d,e,f,Bd,false_and,Cf,Bool.true_eq_false,and_false,Int.reduceEq,Td];simp only[pE,Int.reduceEq,Cf,Td]at a;split
 .rename_i h;rw[a h];rfl
 rw[md]
def aKu{c:kC}{N:vC}{r:fH}(a:N.deg=gA)(b:r.K=4):lJ c N r=((IV c N).1,uB 1 (iT (IV c N).1 (IV c N).2)):=by
 unfold lJ;simp[a,b,md]
def aKv{c:kC}{N:vC}{r:fH}(b:pC c N.now N.ts=iA)(a:r.K=5)(d:xC r.T=iA)(e:0<=(uE c (eC N.ts r.T) r.R).1):lJ c N r=if (r.R.toList.isEmpty||dF r.R)=iA then(N,uB 1 0++uB 8 (uE c (eC N.ts r.T) r.R).1++uB 8 (uE c (eC N.ts r.T) r.R).2) else(N,uB 1 2):=by
 unfold lJ sH;cases hm:(r.R.toList.isEmpty||dF r.R)
 .simp[a,d,b]
 simp[a,d,b];omega
def aKw{c:kC}{N:vC}{r:fH}(a:r.K=6)(b:xC r.T=iA):lJ c N r=(N,uB 1 0++uB 8 N.now++uB 4 ((eC N.ts r.T).Z.length:Nat)++nE (eC N.ts r.T).Z):=by
 unfold lJ;simp[a,b]
def aKt{c:kC}{N:vC}{r:fH}(a:N.deg=gA)(b:r.K=1)(d:xC r.T=iA):lJ c N r=if (wK c N.now r.T N.ts r.P).2.2=[] then(N,uB 1 0++uB 2 (r.P.length:Nat)++(wK c N.now r.T N.ts r.P).2.1)
 else((fG c N (wK c N.now r.T N.ts r.P).2.2).1,if iT (fG c N (wK c N.now r.T N.ts r.P).2.2).1 (fG c N (wK c N.now r.T N.ts r.P).2.2).2=0 then uB 1 0++uB 2 (r.P.length:Nat)++(wK c N.now r.T N.ts r.P).2.1 else uB 1 (iT (fG c N (wK c N.now r.T N.ts r.P).2.2).1 (fG c N (wK c N.now r.T N.ts r.P).2.2).2)):=by
 unfold lJ;simp[a,b,d,pp]
def NaV(M:vC)(x:mA)(w:jA)(e:Ending)(c:jA):Prop:=
 ∃a d b f,e=zA (bB #[.agg (sC a d b f M),x])/\pJ c (λx=>w.1.size<=x/\x<c.1.size) a b M/\zB w c
def MF(V:vC×Int)(w:jA)(e:Ending)(a:jA):Prop:=NaV V.1 (dB V.2) w e a
def py{l:Func}{t:Act}{w W:jA}{c:kC}{cs:Array mA}{M:vC}{x:mA}{a b:nC}{d f H i j:Nat}(h:l.results=#[.cell i 42,.tmp j])(m:t.tmps.getD i undef=.pointer (cC (w.1.size+1+1)))(n:t.tmps.getD j undef=x)(p:t.defers=[])(P:NP w W c cs)(o:pJ W (λx=>w.1.size+1+1<x/\x<H) a b M)(s:H<=W.1.size):bodyPost prog l (λe r=>NaV M x w e r) .ret t (W.setRow (w.1.size+1+1) (sC a d b f M)):=by
 have g:=eH W (w.1.size+1+1) (sC a d b f M);have v:=g.size;exact bodyPost_ret (nz h m n P.R.row (jH _ _ _ _ _)) p ⟨a,d,b,f,rfl,(o.turned g (λx q _ e=>by omega)).mono (λx q=>by omega),P.B.trans (g.below P.B.size (λk u e=>by omega))⟩
def XY{f:Func}{t:Act}{w W:jA}{c:kC}{cs:Array mA}{V:vC×Int}{M:vC}{d:Int}{a b:nC}{ca cb H i j:Nat}(h:f.results=#[.cell i 42,.tmp j])(g:t.tmps.getD i undef=.pointer (cC (w.1.size+1+1)))(k:t.tmps.getD j undef=dB d)(n:t.defers=[])(P:NP w W c cs)(E:V=(M,d))(l:pJ W (λx=>w.1.size+1+1<x/\x<H) a b M)(m:H<=W.1.size):bodyPost prog f (λe o=>MF V w e o) .ret t (W.setRow (w.1.size+1+1) (sC a ca b cb M)):=by
 subst E;exact py h g k n P l m
section
open Go.Maps
def jt:ByteArray.empty.toList.isEmpty=iA:=by simp
def rt(b:List hC):(yB b).2.1=0\/40<=(yB b).2.1:=by
 have d:∀(l:List hC)(i c j:Nat),lD l i=fA (c,j)->40<=c:=by
  intro l;induction l with
  |nil=>intro i c j h;cases h
  |cons x r e=>
   intro i c j h;rw[lD]at h;split at h;exact e _ _ _ h
   cases h
   rename_i a;unfold pQ zO QT at a |-
   revert a;repeat' split
   all_goals simp
 unfold yB;split;simp;split
 .rename_i h;exact La (d _ _ _ _ h)
 split;simp;split<;>simp
def zi{a:List hC}(h:(yB a).2.1=0):(yB a).1.length<=16:=by
 have:=wZ (ls:=a);by_cases b:16<a.length
 .unfold yB at h;rw[Ma b]at h;cases h
 omega
def aEa{c:kC}{a:Int}{b:List kB}{d k:vB}(h:(zK c a b d k).2≠1/\(zK c a b d k).2≠2):(zK c a b d k).1=b:=by
 unfold zK at h |-
 revert h;repeat' split
 all_goals simp
def aFe{c:kC}{a:Int}{b:List kB}{te:vB}{x:wF}(h:pC c a b=iA):
 (yB x.B).2.1≠0/\nI c a b te x=((yB x.B).2.1,b,pA)\/(yB x.B).2.1=0/\(cZ x.bits=iA/\nI c a b te x=(6,b,pA)\/cZ x.bits=gA/\(nI c a b te x).1=(zK c a b te (bI (yB x.B).1)).2/\(nI c a b te x).2.1=(zK c a b te (bI (yB x.B).1)).1/\((nI c a b te x).2.2.toList.isEmpty=gA->bI (yB x.B).1=(nI c a b te x).2.2)):=by
 unfold nI;by_cases d:(yB x.B).2.1=0
 .refine La ⟨d,?_⟩;rw[Ja (by simp[d]),(bu d).1,VX h];cases cZ x.bits
  .refine La ⟨rfl,?_⟩;rw[Ja (by simp)];dsimp only;split
   .exact ⟨rfl,rfl,λ_=>rfl⟩
   rename_i f;exact⟨rfl,(aEa ⟨λe=>f (Ca e),λe=>f (La e)⟩).symm,λh=>by simp at h⟩
  exact Ca ⟨rfl,Ma rfl⟩
 exact Ca ⟨d,Ma d⟩
def aFd{c:kC}{now:Int}{ts:List kB}{te:vB}{x:wF}:((nI c now ts te x).1=1\/(nI c now ts te x).1=2)/\(nI c now ts te x).2.2.toList.isEmpty=gA\/¬((nI c now ts te x).1=1\/(nI c now ts te x).1=2)/\(nI c now ts te x).2.2.toList.isEmpty=iA:=by
 have:=rt x.B;unfold nI;by_cases b:(yB x.B).2.1=0
 .rw[Ja (by simp[b])];split
  .exact La ⟨by simp,jt⟩
  split
  .rename_i a;refine Ca ⟨a,?_⟩;rw[(bu b).1];exact vO.2 λe=>by have:=Kd ByteArray.size e;rw[bI,Ka,oB]at this;simp at this
  rename_i a;exact La ⟨a,jt⟩
 rw[Ma b];exact La ⟨by dsimp only;omega,jt⟩
def ux{D l m:Nat}{r:fH}{o a b:nC}{G ca cb:Nat}{c:kC}{N:vC}{k:Int}{n:List kB}{M:Nat}{B:Nat->Prop}{w:jA}(x:wF)(E:nC)(F:Nat)
(h:rB w D (KW r o G c a ca b cb N l) 93)(H:jE w B l m c k n M)(G:∀g,w.1.size<=g->B g)(O:vD w E x.B)(C:x.B.length<=F)(I:iH w)(hn:r.T.size<=1048576)(hx:mJ x<=300000)(o:VP x.bits)(s:pC c k n=iA)(J:n.length+fC n<=1900000)(hM:1<=M)(z:M<=1000000000):
 lA prog 177 #[.pointer (cC D),.agg #[uA E x.B.length F,dB x.bits]] w λe w'=>∃K,e=zA (bB #[dB ((nI c k n r.T x).1:Nat),tA K])/\((nI c k n r.T x).2.2.toList.isEmpty=gA->K=(nI c k n r.T x).2.2)/\jE w' B l m c k (nI c k n r.T x).2.1 (M+1)/\jB B w w':=by
 have L:mJ x=x.B.length+bE x.B:=rfl;have q:VM x.B:=λi o=>by have:=lx x.B i o;exact⟨by omega,by omega⟩
 have A:VM (yB x.B).1:=λi o=>by
  obtain⟨j,U,e⟩:=Ib (SD _ (Gb o));rw[<-e];exact q j U
 have hz:(bI (yB x.B).1).size<=1048576:=by have:=BP x.B;have:=wZ (ls:=x.B);rw[bI,Ka,oB,uP];omega
 have HV:=gB (aFe (te:=r.T) (x:=x) s);have U:=gB (λW(p:zB w W)=>AY E F x.B W (O.z p) q (by omega) C (I.z p));have HN:=gB (λW=>XS x.bits W o.1 o.2);have Y:=gB (λW Z k3(h:vD W Z (yB x.B).1)(hq:(yB x.B).2.1=0)=>ve Z k3 (yB x.B).1 W h A (zi hq));obtain⟨_,_,_,_,ht⟩:=dH s;have s1:∀t∈n,t.Z.length<=1000000000:=λt Q=>by
  obtain⟨i,o,rfl⟩:=Ib Q;have:=gX n i o;unfold lF at this;omega
 have T:=gB (λW(p:zB w W)=>OQ l m r.T (bI (yB x.B).1) c k B n M W (H.z p) (λg m=>G g (by have:=p.size;omega)) (I.z p) (by omega) (by omega) hM z s1 (λt Q y m=>(AJ (tJ (dJ ht t Q)).2.2.1 y m).2.2) (by omega));have Z:=gB (λW(p:zB w W)=>(H.z p).mono (Gf M));have m:=gB h;clear h H G O C I hn hx o s J hM z L q A hz s1 ht;generalize nI c k n r.T x=V at *;generalize bI (yB x.B).1=o at *;generalize cZ x.bits=h at *;generalize x.bits=bi at *;generalize yB x.B=h at *;generalize x.B=R at *;obtain⟨G,G,G⟩:=h;obtain⟨v1,v2,v3⟩:=V;dsimp only at *;have P:=gB (uF w (aB #[uA E R.length F,dB bi] 132));have X:=gB (rB.new w #[uA E R.length F,dB bi] 132);go_enter func177,ntmps177;go_wp2_with fail;refine(U.o _ P.o).mono ?_;rintro e w1 ⟨a1,I,rfl,O,h,u⟩;have J:=gB h.B;replace X:=gB (X.o.z u);replace P:=gB (xB P.o u);clear u h U O;have h:=X.o.c2;obtain⟨G,v⟩|⟨rfl,⟨rfl,v⟩|⟨rfl,v,O,G⟩⟩:=HV.o
 .obtain ⟨rfl,rfl,rfl⟩:=v;clear HV Y T;go_wp2;go_ret2;exact⟨_,rfl,λ_=>rfl,Z.o _ P.o,jB.of P.o⟩
 .obtain ⟨rfl,rfl,rfl⟩:=v;go_wp2_with(first|(go_at_call 239;apply dR (HN.o _)));go_ret2;exact⟨_,rfl,λ_=>rfl,Z.o _ P.o,jB.of P.o⟩
 subst v O;replace G:=gB G;go_upto_region 7 with(first
  |(go_at_call 239;apply dR (HN.o _))
  |(go_at_call 236;refine oC (Y.o _ a1 I J.o (by first|rfl|trivial)) ?_;intro w2 u;replace P:=gB (xB P.o u);clear u h))
 have h:=iI (m.o.z P.o);go_region_law (refine jF (f:=240) (args:=#[.pointer (cC l),tA r.T,tA o]) rfl (by go_simp) ?_;apply oC (T.o _ P.o.drew);rintro h ⟨h,d⟩;have S:=gB (Vc h d);clear h d;refine⟨_,rfl,?_⟩)
 all_goals
  go_wp2;go_ret2;exact⟨_,rfl,G.o,S.o.1,(jB.of P.o.drew).trans' S.o.2⟩
end
section
open Go.Maps
attribute [local go_sem] lG jH uK rB.drewI dL.drewI dL.new dL.alloc dL.alloc2
def dk1:eE:=⟨[⟨tF 1,⟨#[]⟩,0⟩],1000000,1,0,0,gA⟩
def nd1:vC:=⟨dk1,⟨1,1,0⟩,0,[],0,gA,iA⟩
def np:fF ⟨[],1000000,0,0,0,gA⟩ (pI 1)=(dk1,0):=by kernel_rfl
def pt{c:kC}(a:mH c=iA):rb c 0 nd1:=
 ⟨by have:=nQ (D:=⟨[],1000000,0,0,0,gA⟩) (op:=pI 1) bQ (by have:=pK 1;unfold maxLen;show(tF 1).size<=_;omega) (Oa _);rw[np]at this;exact this,tP a (by show dC 0 0 1000000000000=iA;decide) (by simp[nd1]) rfl,Ia _,⟨Xd _,by show(0:Int)<=1000000000000000;decide⟩⟩
structure O0(w W:World)(c:kC)(v0 v1 v2 v3 v4 v5:Value):Prop where
 C:rB W w.1.size #[dB c.w,dB c.tl,dB c.ml,dB c.sh,dB c.ha,dB c.sg] 24
 D:rB W (w.1.size+1) #[v0,v1,v2,v3,v4,v5] 35
 R:rB W (w.1.size+1+1) (sC eA 0 eA 0 yN) 42
 B:zB w W
section
variable {w W W':jA} {c:kC} {v0 v1 v2 v3 v4 v5 u0 u1 u2 u3 u4 u5:mA}
theorem O0.new:O0 w (((w.alloc (aB #[dB c.w,dB c.tl,dB c.ml,dB c.sh,dB c.ha,dB c.sg] 24)).alloc (aB #[v0,v1,v2,v3,v4,v5] 35)).alloc (aB (sC eA 0 eA 0 yN) 42)) c v0 v1 v2 v3 v4 v5:=
 ⟨((rB.new _ _ _).alloc _).alloc _,by have:=(rB.new (w.alloc (aB #[dB c.w,dB c.tl,dB c.ml,dB c.sh,dB c.ha,dB c.sg] 24)) #[v0,v1,v2,v3,v4,v5] 35).alloc (aB (sC eA 0 eA 0 yN) 42);simpa using this,
   by have:=rB.new ((w.alloc (aB #[dB c.w,dB c.tl,dB c.ml,dB c.sh,dB c.ha,dB c.sg] 24)).alloc (aB #[v0,v1,v2,v3,v4,v5] 35)) (sC eA 0 eA 0 yN) 42;simpa using this,xB (xB aC aC) aC⟩
theorem O0.z(h:O0 w W c v0 v1 v2 v3 v4 v5)(a:zB W W'):O0 w W' c v0 v1 v2 v3 v4 v5:=⟨h.C.z a,h.D.z a,h.R.z a,xB h.B a⟩
theorem O0.lt(h:O0 w W c v0 v1 v2 v3 v4 v5):w.1.size+1+1<W.1.size:=eB h.R
theorem O0.cells(h:O0 w W c v0 v1 v2 v3 v4 v5):W.cell? (iB w.1.size 0)=fA (dB c.w)/\W.cell? (iB w.1.size 1)=fA (dB c.tl)/\W.cell? (iB w.1.size 2)=fA (dB c.ml)/\W.cell? (iB w.1.size 3)=fA (dB c.sh)/\W.cell? (iB w.1.size 4)=fA (dB c.ha)/\W.cell? (iB w.1.size 5)=fA (dB c.sg)/\W.cell? (iB (w.1.size+1) 0)=fA v0/\W.cell? (iB (w.1.size+1) 1)=fA v1/\W.cell? (iB (w.1.size+1) 2)=fA v2/\W.cell? (iB (w.1.size+1) 3)=fA v3/\W.cell? (iB (w.1.size+1) 4)=fA v4/\W.cell? (iB (w.1.size+1) 5)=fA v5/\dL W (w.1.size+1+1)/\w.1.size<W.1.size/\w.1.size+1<W.1.size/\w.1.size+1+1<W.1.size/\¬w.1.size=W.1.size/\¬w.1.size+1=W.1.size/\¬w.1.size+1+1=W.1.size:=
 have:=h.lt
 ⟨h.C.cell 0,h.C.cell 1,h.C.cell 2,h.C.cell 3,h.C.cell 4,h.C.cell 5,h.D.cell 0,h.D.cell 1,h.D.cell 2,h.D.cell 3,h.D.cell 4,h.D.cell 5,h.R.box rfl,by omega,by omega,this,by omega,by omega,by omega⟩
theorem aIf{C:jA->Prop}(h:O0 w W c v0 v1 v2 v3 v4 v5)(k:∀X,O0 w X c u0 u1 u2 u3 u4 u5->C X):C ((((((W.setCell (iB (w.1.size+1) 0) u0).setCell (iB (w.1.size+1) 1) u1).setCell (iB (w.1.size+1) 2) u2).setCell (iB (w.1.size+1) 3) u3).setCell (iB (w.1.size+1) 4) u4).setCell (iB (w.1.size+1) 5) u5):=by
 have a:jB (·=w.1.size+1) W ((((((W.setCell (iB (w.1.size+1) 0) u0).setCell (iB (w.1.size+1) 1) u1).setCell (iB (w.1.size+1) 2) u2).setCell (iB (w.1.size+1) 3) u3).setCell (iB (w.1.size+1) 4) u4).setCell (iB (w.1.size+1) 5) u5):=((((((jB.refl (·=w.1.size+1) W).setCell (Ca rfl) 0 _).setCell (Ca rfl) 1 _).setCell (Ca rfl) 2 _).setCell (Ca rfl) 3 _).setCell (Ca rfl) 4 _).setCell (Ca rfl) 5 _;exact k _ ⟨a.blk h.C (by omega),by have:=(((((h.D.set 0 u0).set 1 u1).set 2 u2).set 3 u3).set 4 u4).set 5 u5;simpa using this,a.blk h.R (by omega),h.B.trans (a.below h.B.size λk b e=>by omega)⟩
theorem jb{C:jA->Prop}{w:jA}{cs:Array mA}{t:oA}(k:∀W,zB w W->rB W w.1.size cs t->W.1.size=w.1.size+1->C W):C (w.alloc (aB cs t)):=k _ aC (rB.new w _ _) (by simp)
end
def PA{l:Func}{t:Act}{w W:jA}{c:kC}{v0 v1 v2 v3 v4 v5:mA}{f g:nC}{a b i j:Nat}{M:vC}{x:mA}(h:l.results=#[.cell i 42,.tmp j])(m:t.tmps.getD i undef=.pointer (cC (w.1.size+1+1)))(n:t.tmps.getD j undef=x)(q:t.defers=[])(P:O0 w W c v0 v1 v2 v3 v4 v5)(o:wB W f M.d.fs)(p:uC W g M.ts):bodyPost prog l (λe r=>MJ M x w e r) .ret t (W.setRow (w.1.size+1+1) (sC f a g b M)):=
 bodyPost_ret (nz h m n P.R.row (jH _ _ _ _ _)) q ⟨f,a,g,b,rfl,o.store P.R (dG _ _ _ _ _) (eH _ _ _),p.store P.R (dG _ _ _ _ _) (eH _ _ _),P.B.trans ((eH _ _ _).below P.B.size λk s e=>by omega)⟩
def aJw(b:Bool)(t:vB):kN [] b gA t=(pA,gA):=by
 unfold kN;cases b<;>simp[lE]
def YY(c:kC)(w:jA)(h:mH c=iA):
 lA prog 17 #[oE c,.agg #[uA eA 0 0,dB 1000000,dB 0,dB 0,dB 0,vA gA]] w λe w'=>MJ nd1 (dB 0) w e w':=by
 have I:=gB (λW=>xL c W);rw[h]at I;have M:rE [] 1000000 0 0 0=iA:=by decide
 have E:=gB (λW=>rU eA 0 [] 1000000 0 0 0 gA W (Ca rfl) bQ.H (by simp) bQ.sum);rw[M]at E;have J:=gB (λW=>ON eA 0 ⟨[],1000000,0,0,0,gA⟩ W (Ca rfl) (by simp));have G:=gB (λO Q t W=>tW O Q [] 1000000 0 0 0 gA t W (Ca rfl) (by simp));have H:=gB (λO Q t W=>ZA O Q [] 1000000 0 0 0 gA t W (Ca rfl) bQ.H (by simp) bQ.sum);have U:=gB (λO Q W=>RK O Q 1000000 0 0 0 W M dk1 np);unfold ym at U;simp only[List.length_nil]at E J G H;simp only[aJw]at H;simp only[lE]at G;clear h M;rw[show nd1=⟨dk1,⟨1,1,0⟩,0,[],0,gA,iA⟩ from rfl];generalize dk1=K at *;unfold oE at *;have fz:=cK;go_enter func17,ntmps17;go_wp2_with fail;apply oC (I.o _);intro w1 a;have P:=gB ((O0.new (w:=w) (c:=c) (v0:=uA eA 0 0) (v1:=dB 1000000) (v2:=dB 0) (v3:=dB 0) (v4:=dB 0) (v5:=vA gA)).z a);clear a I;obtain⟨b,d,f,g,h,j,l,m,n,o,p,q,r,s,u,v,x,y,z⟩:=P.o.cells;go_wp2_with fail;apply oC (E.o _);intro w2 a;replace P:=gB (P.o.z a);clear a E b d f g h j l m n o p q r s u v x y z;obtain⟨b,d,f,g,h,j,l,m,n,o,p,q,r,s,u,v,x,y,z⟩:=P.o.cells;go_wp2_with fail;refine(J.o _).mono ?_;rintro e k ⟨O,Q,rfl,k,a⟩;replace P:=gB (P.o.z a);have D:=P.o.D.free 0;have I:=P.o.D.free 1;have O:=P.o.D.free 2;have Y:=P.o.D.free 3;have Z:=P.o.D.free 4;have d5:=P.o.D.free 5;clear k a J b d f g h j l m n o p q r s u v x y z;obtain⟨b,d,f,g,h,j,l,m,n,o,p,q,r,s,u,v,x,y,z⟩:=P.o.cells;go_upto_region 6 with fail;refine aIf (C:=λW=>Code.wp prog _ _ _ W) P.o ?_;intro w4 R;replace P:=gB R;clear R D I O Y Z d5 b d f g h j l m n o p q r s u v x y z;obtain⟨b,d,f,g,h,j,l,m,n,o,p,q,r,s,u,v,x,y,z⟩:=P.o.cells;go_wp2_with fail;apply oC (G.o _ _ _ _);intro D a;replace P:=gB (P.o.z a);clear a G b d f g h j l m n o p q r s u v x y z;obtain⟨b,d,f,g,h,j,l,m,n,o,p,q,r,s,u,v,x,y,z⟩:=P.o.cells;go_upto_region 15 with fail;refine jb (C:=λW=>Code.wp prog _ _ _ W) ?_;intro k a k N;clear N;replace P:=gB (P.o.z a);have S:=gB k;have G:=P.o.lt;clear a k b d f g h j l m n o p q r s u v x y z;generalize D.1.size=Y at *;obtain⟨b,d,f,g,h,j,l,m,n,o,p,q,r,s,u,v,x,y,z⟩:=P.o.cells;go_wp2_with fail;apply oC (H.o _ _ _ _);intro k a;replace P:=gB (P.o.z a);replace S:=gB (S.o.z a);clear a H b d f g h j l m n o p q r s u v x y z;obtain⟨b,d,f,g,h,j,l,m,n,o,p,q,r,s,u,v,x,y,z⟩:=P.o.cells;go_wp2_with fail;refine(U.o _ _ _).mono ?_;rintro e k ⟨X,D,G,G,rfl,T,a⟩;replace P:=gB (P.o.z a);replace S:=gB (S.o.z a);have F:=gB T;have G:=P.o.lt;have G:=eB S.o;clear a T U b d f g h j l m n o p q r s u v x y z;go_upto_region 23 with fail;refine jb (C:=λW=>Code.wp prog _ _ _ (W.alloc _)) ?_;intro G a I J;refine jb (C:=λW=>Code.wp prog _ _ _ W) ?_;intro A L G N;clear N;rw[J]at G;replace a:=xB a L;replace P:=gB (P.o.z a);replace S:=gB (S.o.z a);replace F:=gB (F.o.z a);have B:=gB (I.z L);have V:=gB G;clear a L I G J;generalize k.1.size=Z at *;have k:gD A Z 0 (uA X K.fs.length D):=B.o.cell 0;have G:gD A Z 1 (dB K.c):=B.o.cell 1;have I:gD A Z 2 (dB K.k):=B.o.cell 2;have J:gD A Z 3 (dB K.cr):=B.o.cell 3;have O:gD A Z 4 (dB K.fl):=B.o.cell 4;have U:gD A Z 5 (vA K.dn):=B.o.cell 5;obtain⟨b,d,f,g,h,j,l,m,n,o,p,q,r,s,u,v,x,y,z⟩:=P.o.cells;clear b d f g h j l m n o p q r s u v x y z k G I J O U;go_upto_region 25 with fail;go_wp2_with fail;go_loopw [8,20,21,22,23,24,88] (λl8 _ _ _ _ _ i wr=>i=dB 0/\l8=dB 0/\wr=A) (λ_ _ _ _ _ _ i _=>0-(intOf i).toNat)
 case atStart=>exact⟨rfl,rfl,rfl⟩
 case round=>
  obtain⟨rfl,rfl,rfl⟩:=hrel;have fM:=vE X D eA 0 ⟨K,⟨1,1,0⟩,0,[],0,gA,iA⟩;dsimp only[List.length_nil]at fM;have k:gD wr Z 0 (uA X K.fs.length D):=B.o.cell 0;have G:gD wr Z 1 (dB K.c):=B.o.cell 1;have I:gD wr Z 2 (dB K.k):=B.o.cell 2;have J:gD wr Z 3 (dB K.cr):=B.o.cell 3;have O:gD wr Z 4 (dB K.fl):=B.o.cell 4;have U:gD wr Z 5 (vA K.dn):=B.o.cell 5;have k:gD wr (Z+1) 0 (dB 1):=V.o.cell 0;have k:gD wr (Z+1) 1 (dB 1):=V.o.cell 1;have k:gD wr (Z+1) 2 (dB 0):=V.o.cell 2;have k:gD wr Y 0 (dB 0):=S.o.cell 0;have k:gD wr Y 1 (uA eA 0 0):=S.o.cell 1;obtain⟨b,d,f,g,h,j,l,m,n,o,p,q,r,s,u,v,x,y,z⟩:=P.o.cells;clear fz;go_wp2;exact PA rfl rfl rfl rfl P.o F.o (Ca rfl)
end
section
attribute [local go_sem] Oper.semAt_some
def aGf(v:mA)(w:jA):bM 294 #[tA pA,v] w (bB #[tA pA,vA gA]):=by
 go_enter func294,ntmps294;go_wp2;go_ret2;exact⟨rfl,rfl⟩
def VW{β:Type}{N:Nat}{J:β->jA->Prop}(h:AbidesFrom N J){s:β}{A B:jA}(c:J s A)(a:zB A B):J s B:=h s A B eA c ⟨a.os,a.tape,a.output,a.size,λk b _=>a.block k b⟩ (λ_ e=>by cases e)
def aIl(_:Unit):Array mA:=#[tA pA,dB 0]
def ui(n D:Nat)(r:1<=n)(w:jA)(j:rB w D #[tA pA] 9):
 SeqStopsK Fence.wide n prog 293 #[.pointer (cC D)] aIl (λ_ _=>True) (λo=>o=[]) (λ_=>True) 0 w:=λl J p W m k _ _ f=>by
 have d:=j.z m;refine callsIn_of_wp func293 rfl trivial ?_ rfl;simp only[ntmps293,List.size_toArray,Zb,List.length_nil,Nat.reduceAdd,Nat.reduceSub,Array.replicate_succ,Array.replicate_zero,List.push_toArray,List.append_toArray,Mb,Sd];gi_wp2_with fail;refine⟨trivial,(callsIn_wide.2 (JX _)).mono ?_⟩;rintro e g ⟨b,i,rfl,-,-,-,a⟩;have q:gD g D 0 (tA pA):=(d.z a).cell 0;have h:=gB (VW k f a);clear a f;gi_wp2;gi_loopw [4,5,6] (λc _ _ wr=>c=dB 0/\wr=g) (λ_ _ _ _=>0)
 case atStart=>exact⟨rfl,rfl⟩
 case round=>
  obtain⟨rfl,rfl⟩:=hrel;gi_wp2_with fail;refine⟨trivial,(callsIn_wide.2 (aGf _ _)).mono ?_⟩;rintro e s ⟨rfl,m⟩;replace m:=m.symm;subst m;gi_wp2;refine bodyPost_ret (results_none rfl _ _ _) rfl ?_;exact⟨⟨_,rfl⟩,.inl ⟨[],rfl,h.o⟩⟩
def aAm(n:Nat)(w:jA):
 CallsIn Fence.wide n prog 258 #[tA pA] w λe a=>e=zA (.func (.func 293) #[] #[.pointer (cC w.1.size)])/\a=w.alloc (aB #[tA pA] 9):=by
 refine callsIn_of_wp func258 rfl trivial ?_ rfl;simp only[ntmps258,List.size_toArray,Zb,List.length_nil,Nat.reduceAdd,Nat.reduceSub,Array.replicate_succ,Array.replicate_zero,List.push_toArray,List.append_toArray,Mb,Sd];gi_wp2;go_ret;exact⟨rfl,rfl⟩
def MO{β:Type}(N B:Nat)(t:oA)(f:β->mA):OwnFrom N (λs W=>Boxed W B t (f s)):=λs A C h b d g=>b.kept d (λe=>by
 obtain⟨_,o,a,c⟩:=g B e.symm;rw[show A.heap[B]?=_ from b]at a;cases a
 cases c)
theorem co(F:Fence)(n:Nat)(k:fB (F=Fence.wide))(c:F.fn 219)(m:F.fn 258)(d:F.fn 293)(g:F.round=none)(G:3<=n)(w:World):
 CallsIn F n prog 219 #[.string ByteArray.empty] w λe j=>e=.returned (.tuple #[.slice none 0 0,.int .i64 0])/\Below w.1.size w j:=by
 have u:1<=n:=by omega
 have a:fB (∀W,CallsIn F (n-1) prog 258 #[.string ByteArray.empty] W λe j=>e=.returned (.func (.func 293) #[] #[.pointer (some ⟨W.1.size,0,none⟩)])/\j=W.alloc (.cells #[.string ByteArray.empty] 9)):=by have e:=k.o;subst e;exact aAm _
 have b:fB (∀D W,rB W D #[.string ByteArray.empty] 9->SeqStopsK F (n-1) prog 293 #[.pointer (some ⟨D,0,none⟩)] aIl (λ_ _=>True) (λs=>s=[]) (λ_=>True) 0 W):=by have e:=k.o;subst e;exact λD W=>ui _ D (by omega) W
 refine callsIn_of_wp_marks func219 rfl c ?_ g;simp only[ntmps219,List.size_toArray,Zb,List.length_nil,Nat.reduceAdd,Nat.reduceSub,Array.replicate_succ,Array.replicate_zero,List.push_toArray,List.append_toArray,Mb,Sd];gi_wp2_with (gi_at_call 258;refine(a.o _).mono ?_;rintro e j ⟨rfl,rfl⟩);have q:Boxed (((w.alloc (.cells #[.slice none 0 0] 30)).alloc (.cells #[.int .i64 0] 3)).alloc (.cells #[.string ByteArray.empty] 9)) w.1.size 30 (.slice none 0 0):=((Boxed.new w _ _).alloc _).alloc _;have r:Boxed (((w.alloc (.cells #[.slice none 0 0] 30)).alloc (.cells #[.int .i64 0] 3)).alloc (.cells #[.string ByteArray.empty] 9)) (w.1.size+1) 3 (.int .i64 0):=by
  have h:=(Boxed.new (w.alloc (.cells #[.slice none 0 0] 30)) 3 (.int .i64 0)).alloc (.cells #[.string ByteArray.empty] 9);rwa [World.size_alloc]at h
 have p:rB (((w.alloc (.cells #[.slice none 0 0] 30)).alloc (.cells #[.int .i64 0] 3)).alloc (.cells #[.string ByteArray.empty] 9)) (w.1.size+1+1) #[.string ByteArray.empty] 9:=by
  have h:=Boxed.new ((w.alloc (.cells #[.slice none 0 0] 30)).alloc (.cells #[.int .i64 0] 3)) 9 (.string ByteArray.empty);rwa [World.size_alloc,World.size_alloc]at h
 have f:Below w.1.size w (((w.alloc (.cells #[.slice none 0 0] 30)).alloc (.cells #[.int .i64 0] 3)).alloc (.cells #[.string ByteArray.empty] 9)):=xB (xB aC aC) aC;have A:(((w.alloc (.cells #[.slice none 0 0] 30)).alloc (.cells #[.int .i64 0] 3)).alloc (.cells #[.string ByteArray.empty] 9)).1.size=w.1.size+3:=by simp
 generalize (((w.alloc (.cells #[.slice none 0 0] 30)).alloc (.cells #[.int .i64 0] 3)).alloc (.cells #[.string ByteArray.empty] 9))=t at *;refine wpIn_rangeFunc_ownF g u (gf:=293) (lb:=#[.pointer (some ⟨w.1.size+1+1,0,none⟩)]) rfl d (enters_of func293 (by kernel_rfl) rfl)
  (b.o (w.1.size+1+1) t p) (λ_ _=>trivial) (λ_ _ _ _ _ _ _ _=>trivial) jD ?ps
  (λ_ W=>Boxed W w.1.size 30 (.slice none 0 0)/\Boxed W (w.1.size+1) 3 (.int .i64 0)/\Below w.1.size w W)
  (λ_ _ _=>False)
  (OwnFrom.and (MO _ _ _ _) (OwnFrom.and (MO _ _ _ _) (ownFrom_below (Ia _) (by omega))))
  (λ_ _ _ _ _ z _ _=>z) ⟨q,r,f⟩
  (λ_=>{ tmps:=#[.string ByteArray.empty,undef,.slice none 0 0,.int .i64 0,.pointer (some ⟨w.1.size,0,none⟩),.pointer (some ⟨w.1.size+1,0,none⟩),.string ByteArray.empty,.int .i64 0,.string ByteArray.empty,.func (.func 293) #[] #[.pointer (some ⟨w.1.size+1+1,0,none⟩)],.string ByteArray.empty,.int .i64 0,undef,undef,undef,undef,undef,undef,undef],defers:=[] }) ?assign (λ_ _ _ _ _ h=>absurd h (Nat.not_lt_zero _)) ?done (λ_ _ _ _ _ _ h _=>h.elim)
 case ps=>exact λ_=>rfl
 case assign=>
  intro l x W K i;simp only[aIl];gi_wp2;exact i
 case done=>
  rintro D s W C rfl ⟨B,o,v⟩ i;have E:=B.cell;have y:=o.cell;clear q r p f a b d m c k;gi_wp2;gi_region;all_goals gi_wp2
  all_goals refine⟨by simp,.inl ⟨_,_,rfl,run_takeDeferred (show W.drew.heap[D]?=_ from i),?_⟩⟩
  all_goals exact⟨.tuple #[.slice none 0 0,.int .i64 0],by simp[results,results219,go_sem],rfl,(v.drew).trans (belowK_b (w:=w) (Ia _) W.drew D _ _ (by omega) (show W.drew.heap[D]?=_ from i) rfl rfl)⟩
def kt(w:jA):gF 219 #[tA pA] w (bB #[uA eA 0 0,dB 0]):=
 (callsIn_wide (n:=5)).1 (co Fence.wide 5 rfl trivial trivial trivial rfl (by omega) w)
end
section
open Go.Maps
def nDk(w:jA)(g:Nat):Prop:=∀cur t,w.heap[g]?=fA (aB cur t (0,0))->t≠115/\t≠113/\t≠73
def iQ(w w':jA):Prop:=∀(b:Nat)(o:Obj),w.heap[b]?=fA o->nDk w b->w'.heap[b]?=fA o
section
variable {w w':jA} {b:Nat} {cur:Array mA} {t:oA}
theorem oJ.kw(k:oJ w w'):iQ w w':=λb o h a=>k b o h λcur t e=>⟨(a cur t (h.trans (Kd fA e))).1,(a cur t (h.trans (Kd fA e))).2.1⟩
theorem iQ.of(h:zB w w'):iQ w w':=(oJ.of h).kw
theorem iQ.trans{a:jA}(h:iQ a w)(k:iQ w w'):iQ a w':=λx o d c=>k x o (h x o d c) λcur t e=>c cur t (d.trans ((h x o d c).symm.trans e))
theorem iQ.p{P D:Nat}{L:aI}(k:jB (·=P) w w')(h:bY w P D L):iQ w w':=λb _ a c=>(k.block b (CL a) λe=>by subst e;exact(c _ _ h).2.2 rfl).trans a
theorem aFq(h:rB w b cur t)(d:t≠115/\t≠113/\t≠73):nDk w b:=λa f c=>by
 have e:=Lc ((show w.heap[b]?=_ from h).symm.trans c);cases e;exact d
theorem aFr{H:Type}{P:Program}{k:oA}{R:mA->Option (DataW H×List MemPlace)}{m n:Nat}{D:DataW H}(h:w.ownsMap P k R m n D):nDk w m:=λcur t c=>by
 obtain⟨e,a,d,r⟩:=h;rw[d]at c;cases c
theorem iQ.blk(k:iQ w w')(h:rB w b cur t)(a:t≠115/\t≠113/\t≠73):rB w' b cur t:=k b _ h (aFq h a)
theorem iQ.map{H:Type}(e:iQ w w'){P:Program}{k:oA}{R:mA->Option (DataW H×List MemPlace)}{m n:Nat}{D:DataW H}(h:w.ownsMap P k R m n D):w'.ownsMap P k R m n D:=by
 obtain⟨c,a,d,r⟩:=id h;exact⟨c,a,e m _ d (aFr h),r⟩
theorem jE.apart{B:Nat->Prop}{l m:Nat}{c:kC}{a:Int}{M:Nat}(h:jE w B l m c a [] M)(k:iQ w w'):jE w' B l m c a [] M:=by
 obtain⟨T,L,h,e⟩:=h;obtain rfl:L=[]:=by cases L with
  |nil=>rfl
  |cons p r=>cases e
 exact⟨T,[],{ h with blk:=k.blk h.blk (by decide),ten:=k.map h.ten,idx:=λp d=>by cases d},e⟩
end
def aKe(P D:Nat)(a:nC)(c:Nat)(w:jA)(g:w.cell? (iB P 0)=fA (.pointer (cC D)))(f:w.cell? (iB D 4)=fA (uA a 0 c)):
 bM 149 #[.pointer (cC P)] w (uA eA 0 0):=by
 go_enter func149,ntmps149;go_wp2;go_loopw [3,16] (λd i wr=>i=dB 0/\d=uA eA 0 0/\wr=w) (λ_ i _=>0-(intOf i).toNat)
 case atStart=>exact⟨rfl,rfl,rfl⟩
 case round=>
  obtain⟨rfl,rfl,rfl⟩:=hrel;go_wp2;go_ret;exact⟨rfl,rfl⟩
def lg0:aI:=⟨0,0,0⟩
def dk0:eE:=⟨[],1000000,0,0,0,gA⟩
def aHf{d w:jA}{B P D:Nat}(h:xO d w B P D dk0 lg0):
 lA prog 82 #[.pointer (cC P)] w λe w'=>e=zA (bB #[uA eA 0 0,.nilIface])/\xO d w' B P D dk1 ⟨1,1,0⟩/\iQ w w':=by
 obtain⟨v,k⟩:=h.drive;obtain⟨a,n,rfl,I⟩:=k.files;have m:=gB h;have f:=gB (aKe P D a n w h.wr.cells.1 k.cell4);obtain⟨x,C,E,F⟩:=h.wr.cells;have G:gD w D 3 (vA gA):=k.blk.cell 3;have o:=rB.free h.wr 1;have q:=rB.free h.wr 2;have r:=rB.free h.wr 3;clear h k I;go_enter func82,ntmps82;go_wp2_with fail;apply dR f.o;go_upto_region 6 with fail;have c:fB (xO d (((w.setCell (iB P 1) (dB 1)).setCell (iB P 2) (dB 1)).setCell (iB P 3) (dB 0)) B P D dk0 ⟨1,1,0⟩):=((m.o.set (L':=⟨1,0,0⟩) 1 _ (by simp[lg0])).set (L':=⟨1,1,0⟩) 2 _ (by simp)).set (L':=⟨1,1,0⟩) 3 _ (by simp);have A:=gB (iQ.p ((((jB.refl (·=P) w).setCell (Ca rfl) 1 (dB 1)).setCell (Ca rfl) 2 (dB 1)).setCell (Ca rfl) 3 (dB 0)) m.o.wr);clear x C E F G o q r m f;generalize ((w.setCell (iB P 1) (dB 1)).setCell (iB P 2) (dB 1)).setCell (iB P 3) (dB 0)=L at *;obtain⟨x,_,_,_⟩:=c.o.wr.cells;have l:fB (∀W,xO d W B P D dk0 ⟨1,1,0⟩->lA prog 111 #[.pointer (cC D),.agg #[dB 1,tA (tF 1),tA ⟨#[]⟩,tA ⟨#[]⟩,dB 0]] W λe w'=>e=zA .nilIface/\xO d w' B P D dk1 ⟨1,1,0⟩/\oJ W w'):=λW H=>PV (pI 1) H (YG (by omega) (by omega) (by omega)) np;go_region_held3 (λw'=>w'.cell? (iB P 0)=fA (.pointer (cC D)))
  (first|exact i.o.wr.cells.1|exact g.o.wr.cells.1|exact(c.o.z jD.drew).wr.cells.1)
  (first
  |(go_at_call 110;apply oC (lL 1 _ (c.o.z jD.drew).tab);intro J j;have y:=gB (A.o.trans (iQ.of (xB jD.drew j)));have g:fB (xO d J B P D dk0 ⟨1,1,0⟩):=(c.o.z jD.drew).z j)
  |(go_at_call 111;apply oC (l.o _ g.o);rintro K ⟨u,s⟩;have z:=gB (y.o.trans s.kw);have i:fB (xO d K B P D dk1 ⟨1,1,0⟩):=u))
 all_goals
  go_wp2;go_ret2;exact⟨rfl,i.o,z.o⟩
def CkX(c:kC)(lsn a:Int)(d:List kB)(w:jA)(e:Ending)(w':jA):Prop:=
 ∃h l m,e=zA (bB #[.pointer (cC h),.nilIface])/\w.1.size<=h/\rB w' h #[.pointer (cC l),dB lsn] 84/\jE w' (λg=>w.1.size<=g/\g≠h) l m c a d 1900000/\zB w w'
def pd{w W d:jA}{c:kC}{lsn a:Int}{i:List kB}{l m:Nat}(e:zB w W)(f:zB W d)(h:jE d (W.1.size<=·) l m c a i 1900000):
 CkX c lsn a i w (zA (bB #[.pointer (cC d.1.size),.nilIface])) (d.alloc (aB #[.pointer (cC l),dB lsn] 84)):=by
 have j:=e.size;have o:=f.size;exact⟨_,l,m,rfl,by omega,rB.new _ _ _,h.re λg k n=>⟨aC.block g k,Ua j n,by omega⟩,xB (xB e f) aC⟩
def aLb{J w:jA}{B P D:Nat}{L:aI}(c:kC)(h:xO J w B P D dk0 L)(u:mH c=iA)(r:iH w):
 lA prog 81 #[.pointer (cC P),oE c] w λe w'=>CkX c 0 0 [] w e w':=by
 obtain⟨v,o⟩:=h.drive;obtain⟨a,q,rfl,j⟩:=o.files;have n:=gB (λW=>uN a q [] FZ W (Ca rfl) (kS rfl) (by simp));have d:=gB (λW(H:zB w W)=>fZ c 0 eA 0 [] 1900000 W (Ca rfl) (nO (ts:=[]) (by decide)).1 (by simp) (r.z H));have k:pC c 0 []=iA:=tP u (by decide) (by simp) rfl;unfold sZ at d;rw[k]at d;rw[show tH [] FZ (gC FZ [])=gA from rfl]at n;simp only[List.length_nil]at n d;have E:gD w D 4 (uA a 0 q):=o.cell4;have F:=eB o.blk;obtain⟨C,_,_,_⟩:=h.wr.cells;have G:=eB h.wr;clear o j h u r k;unfold oE at *;have g:=gB (show rB ((w.alloc (aB #[dB c.w,dB c.tl,dB c.ml,dB c.sh,dB c.ha,dB c.sg] 24)).alloc (aB #[dB 0,uA eA 0 0] 40)) w.1.size #[dB c.w,dB c.tl,dB c.ml,dB c.sh,dB c.ha,dB c.sg] 24/\rB ((w.alloc (aB #[dB c.w,dB c.tl,dB c.ml,dB c.sh,dB c.ha,dB c.sg] 24)).alloc (aB #[dB 0,uA eA 0 0] 40)) (w.1.size+1) #[dB 0,uA eA 0 0] 40 from⟨(rB.new _ _ _).alloc _,by have:=rB.new (w.alloc (aB #[dB c.w,dB c.tl,dB c.ml,dB c.sh,dB c.ha,dB c.sg] 24)) #[dB 0,uA eA 0 0] 40;simpa using this⟩);have i:=gB (xB (uF w (aB #[dB c.w,dB c.tl,dB c.ml,dB c.sh,dB c.ha,dB c.sg] 24)) (uF _ (aB #[dB 0,uA eA 0 0] 40)));go_enter func81,ntmps81;go_wp2_with fail;apply oC (n.o _);intro y f;have p:=gB (xB i.o f);obtain⟨K,M,N,O,Q,R⟩:=(g.o.1.z f).c6;have S:gD y (w.1.size+1) 0 (dB 0):=(g.o.2.z f).cell 0;have T:gD y (w.1.size+1) 1 (uA eA 0 0):=(g.o.2.z f).cell 1;clear f n C E g i;go_wp2_with fail;refine(d.o _ p.o).mono ?_;rintro e U I;obtain⟨e,_⟩|⟨_,l,m,rfl,_,x,s⟩:=I
 .cases e
 have A:=gB x;have z:=gB s;clear x s d K M N O Q R S T;go_wp2;go_ret2;exact pd p.o z.o A.o
end
section
open Go.Maps
structure fU(Lo:Nat)(w0 w:World)(D:Nat)(r:fH)(sa:nC)(sc:Nat)(c:kC)(a:nC)(ca:Nat)(b:nC)(cb:Nat)(N:vC)(l m M:Nat)(B A:Nat→Prop):Prop where
 dsk:rB w D (KW r sa sc c a ca b cb N l) 93
 led:jE w B l m c N.now N.ts M
 new:∀g,w.1.size≤g→B g
 off:¬B D
 old:∀g,B g∨g=D→w0.1.size≤g
 node:pJ w A a b N
 apart:∀g,A g→(¬B g∧g≠D)∧Lo≤g∧g<w.1.size
 lo:Lo≤w0.1.size
 base:zB w0 w
 utab:iH w0
 pow:kI w0
 fit:DG N.d.fs
 bulk:N.ts.length+fC N.ts≤1048576
 rng:MI N.ts
 lsn:xV N.lsn
 now:xV N.now
 st:pC c N.now N.ts=iA
 gd:yi c N r
 req:na r∧(oK r).size≤60000∧VP r.U
 bit:∀x∈r.P,VP x.bits
 smp:∀W,jB (λg=>B g∨g=D) w W→gJ W sa r.P
 hM:1≤M∧M≤900000000
def DI(V:vC×vB)(D:Nat)(r:fH)(sa:nC)(sc:Nat)(c:kC)(l Lo:Nat)(w0:jA)(e:Ending)(d:jA):Prop:=
 ∃a ca b cb,e=zA (tA V.2)/\rB d D (KW r sa sc c a ca b cb V.1 l) 93/\pJ d (λx=>Lo<=x/\x<d.1.size) a b V.1/\zB w0 d
section
variable {w0 w W:jA} {D Lo:Nat} {r:fH} {sa:nC} {sc:Nat} {c:kC} {a:nC} {ca:Nat} {b:nC} {cb:Nat} {N:vC} {l m M:Nat} {B A:Nat→Prop}
theorem fU.same(h:fU Lo w0 w D r sa sc c a ca b cb N l m M B A)(d:jB B w W){s:vB}:DI (N,s) D r sa sc c l Lo w0 (zA (tA s)) W:=
 ⟨a,ca,b,cb,rfl,d.blk h.dsk h.off,(h.node.turned d λg f _=>(h.apart g f).1.1).mono λg f=>⟨(h.apart g f).2.1,Bb (h.apart g f).2.2 d.size⟩,h.base.trans (d.below h.base.size λk i e=>by have:=h.old k (Ca e);omega)⟩
end
end
section
open Go.Maps
attribute [local go_sem] lG jH uK rB.drewI dL.drewI dL.new dL.alloc dL.alloc2
def OE(c:kC)(a b:nC)(j k:Nat)(N:vC)(G:nC)(capr:Nat)(o:List tE)(w:jA)(h:aDx w a b N G o)(d:iH w)(E:kI w)(Q:mH c=iA)(S:ZQ N=iA)(l:iw c N o):
 lA prog 12 #[oE c,.agg (sC a j b k N),uA G o.length capr] w λe F=>MF (fG c N o) w e F:=by
 have g:=h.bulk;have O:=gB (aBw Q S l);have s:=gB (λW=>sT c W);have u:fB (∀W,zB w W->lA prog 26 #[.agg (sC a j b k N)] W λe F=>∃a j b k,e=zA (.agg (sC a j b k N))/\pJ F (λx=>W.1.size<=x/\x<F.1.size) a b N/\zB W F):=λW q=>fW a b j k N W (h.files.z q) h.fit.len (h.tens.z q) (by omega) (cU (by omega));have t:=gB (λW a j b k=>kY a b j k N W);have r:=gB (λW b k(q:zB w W)(m:uC W b N.ts)=>QU c N.now b k N.ts G capr o W m (h.recs.z q) (by omega) g (d.z q));have v:=gB (λW=>zF N.lsn 999999999999999 W);have M:=gB (λW(q:zB w W)=>ch (N.lsn+1) G capr o W (h.recs.z q) (ai (by omega)) (by omega));have n:=gB (λm W a j(q:zB w W)(B:wB W a N.d.fs)=>ko a j N.d N.l (aN (N.lsn+1) o) c.sg W (E.z q) B h.fit m);rw[Q]at s;rw[show(N.up&&!N.deg)=iA from S]at t;unfold iS at r;unfold aEd at n;clear h d E g Q S l;unfold oE at *;generalize fG c N o=V at *;generalize oF c N.now N.ts o=A at *;generalize aN (N.lsn+1) o=d at *;generalize zH N.d N.l d c.sg=R at *;obtain⟨o,f,d⟩:=A;have B:=cK;dsimp only at r O;go_enter func12,ntmps12;go_wp2_with fail;apply oC (s.o _);intro w1 g;have P:=gB ((NP.new (w:=w) (c:=c) (cs:=sC a j b k N)).z g);clear g s;have m:=P.o.cells rfl;have d:=rF a j b k N 42;have Z:=vE a j b k N;go_wp2_with fail;refine(u.o _ P.o.B).mono ?_;rintro e w2 ⟨T,X,U,Y,rfl,i,g⟩;have l:=P.o.lt;replace P:=gB (P.o.z g);replace i:=gB i;clear g d Z m u;have m:=P.o.cells rfl;go_upto_region 4 with fail;refine bW (C:=λW=>Code.wp prog _ _ _ W) P.o.N ?_;intro l l I;replace P:=gB (P.o.put l I);replace i:=gB ((i.o.turned I (λx J _ e=>by omega)).mono (A':=λx=>w.1.size+1+1<x/\x<w2.1.size) (λx J=>by omega));have p:=I.size;clear l I m;have m:=P.o.cells rfl;have d:=rF T X U Y N 42;have Z:=vE T X U Y N;obtain⟨rfl,rfl⟩|⟨rfl,d,l,K,L,rfl,rfl⟩:=O.o
 all_goals
  (try (replace n:=gB (n.o rfl);dsimp only at n));clear O;(try (have l:=jd d;obtain⟨G,G⟩:=l;rw[d]at v));go_wp2_with(first
   |(go_at_call 32;apply oC (t.o _ _ _ _ _);intro w4 g;replace P:=gB (P.o.z g);replace i:=gB (i.o.z g);replace p:=Ua p g.size;clear g m;have m:=P.o.cells rfl)
   |(go_at_call 40;refine(r.o _ _ _ P.o.B i.o.tens).mono ?_;rintro e d ⟨l,G,rfl,D,g⟩;have y:=gB (D.toA (Ia _));have I:=P.o.lt;replace P:=gB (P.o.z g);replace i:=gB (i.o.z g);replace p:=Ua p g.size;have I:=eB P.o.R;clear D g m;have m:=P.o.cells rfl)
   |(go_at_call 41;apply oC (v.o _);rintro I rfl)
   |(go_at_call 42;apply oC (M.o _ (P.o.z aC).B);intro I g;have z:=(rB.new d _ _).z g;replace g:=xB aC g;replace P:=gB (P.o.z g);replace i:=gB (i.o.z g);replace p:=Ua p g.size;replace y:=gB (y.o.z g);have d:=g.size;clear g m;have m:=P.o.cells rfl)
   |(go_at_call 43;refine(n.o _ _ _ P.o.B i.o.files).mono ?_;rintro e d ⟨I,O,rfl,D,g⟩;have U:=gB (D.toA (Ia _));have W:=p;replace P:=gB (P.o.z g);replace i:=gB (i.o.z g);replace p:=Ua p g.size;replace y:=gB (y.o.z g);have W:=g.size;replace z:=z.z g;obtain⟨W,W⟩:=z.c2;have W:=eB z;have Y:=Nat.ne_of_lt W;have W:=vE I O l G ⟨K,L,o,f,N.lsn+1,gA,iA⟩;dsimp only at W;clear B D g z m;have m:=P.o.cells rfl))
 .exact XY rfl rfl rfl rfl (P.o.z aC) rfl (i.o.z aC) (by simp only[jA.size_alloc];omega)
 exact XY (H:=d.1.size) rfl rfl rfl rfl ((P.o.z aC).z aC) rfl ⟨⟨_,_,(U.o.z aC).z aC,(y.o.z aC).z aC,λx J=>by omega,λx J=>by omega,λx J h=>by omega⟩⟩ (by simp only[jA.size_alloc];omega)
end
