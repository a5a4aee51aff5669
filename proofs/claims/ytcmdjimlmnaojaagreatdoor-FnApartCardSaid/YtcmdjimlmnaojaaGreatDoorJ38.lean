import Derived.Test.YtcmdjimlmnaojaaGreatDoorJ36
import Derived.Test.YtcmdjimlmnaojaaGreatDoorJ37
import Derived.Test.YtcmdjimlmnaojaaGreatDoorJ35
set_option maxRecDepth 100000
set_option maxHeartbeats 8000000
set_option linter.defProp false
open Bool renaming true->eA,false->dA
open ByteArray renaming empty->lA
open Option renaming none->aA,some->cA
open List renaming length->zA
namespace Go.Proofs.YtcmdjimlmnaojaaGreatDoor
open Go renaming World->fA,Value->jA,TypeId->kA,Calls->iA
open Obj renaming cells->xA
open Value renaming string->pA,agg->uA,slice->qA,tuple->yA,bool->sA
open Ending renaming returned->vA
open RowKit renaming Below->gA
open Go.RowKit Tryz
section
open Go.Maps
attribute [local go_sem] fG dH lK jB.drewI sK.drewI sK.new sK.alloc sK.alloc2
structure rQ(w:World)(a b:nC)(N:sC):Prop where
 files:uB w a N.d.fs
 fit:JK N.d.fs
 tens:aD w b N.ts
 bulk:zA N.ts+eC N.ts≤1048576
 rng:um N.ts
 lsn:GN N.lsn
 now:GN N.now
def rQ.z{w W:fA}{a b:nC}{N:sC}(h:rQ w a b N)(c:xB w W):rQ W a b N:=⟨h.files.z c,h.fit,h.tens.z c,h.bulk,h.rng,h.lsn,h.now⟩
def NP.held{w W:fA}{c:lC}{cs:Array jA}(h:NP w W c cs)(M:Array jA)(a:fA)(b:xB W a):jB a (w.1.size+1) cs 42/\jB (a.setRow (w.1.size+1+1) M) (w.1.size+1) cs 42:=
 ⟨(h.z b).N,(uG a (w.1.size+1+1) M).blk (h.z b).N (by omega)⟩
def lM{d:Func}{t:Act}{w W:fA}{i j:Nat}{c:lC}{cs:Array jA}{M:sC}{x:jA}{a b:nC}{f g:Nat}(h:d.results=#[.cell i 42,.tmp j])(k:t.tmps.getD i undef=.pointer (vB (w.1.size+1+1)))(l:t.tmps.getD j undef=x)(m:t.defers=[])(P:NP w W c cs)(I:rQ W a b M):bodyPost prog d (λe n=>RT M x w e n) .ret t (W.setRow (w.1.size+1+1) (gC a f b g M)):=
 cU h k l m P.R (rF _ _ _ _ _) (by omega) P.B I.files I.tens
def GW{C:fA->Prop}{w:fA}{a cs:Array jA}{T:kA}(k:∀W,xB w W->jB W w.1.size cs T->C W):C ((w.alloc (xA a T)).setRow w.1.size cs):=
 k _ (bC.trans ((uG _ _ _).below (by simp) λi b e=>by omega)) (jB.new _ _ _).row
def aMw{C:fA->Prop}{w:fA}{O:Nat}{f g a b:jA}{t:kA}(h:jB w O #[f,g] t)(k:∀W,jB W O #[a,b] t->fB (·=O) w W->(∀{B:Nat}{e:kA}{z:Nat}{v:jA}{n:Nat}{d:List jA},w.ownsRow B e z v n d->O<B->W.ownsRow B e z v n d)->C W):C ((w.setCell (eB O 0) a).setCell (eB O 1) b):=
 k _ (by have:=(h.set 0 a).set 1 b;simpa using this) (((fB.refl (·=O) w).setCell (Ca rfl) 0 a).setCell (Ca rfl) 1 b) λh c=>BE (BE h c _) c _
def QL{W:fA}{g:Nat}{k n:Int}{t x:pB}{T:kA}(h:jB W g #[aB k,pA t,pA x,aB n] T):yI W (vB g) [⟨k,t,x,n⟩]:=
 La ⟨g,0,rfl,bB h,λi a=>by obtain rfl:i=0:=(by simp at a;exact a);exact h.c4⟩
def YV(c:lC){a b:nC}{ca cb:Nat}{N:sC}{W:fA}(h:rQ W a b N){f:nC}{capr:Nat}{d:List nE}(i:yI W f d)(k:zA d+eD d<=240000)(g:WV d):
 iA prog 50 #[uE c,uA (gC a ca b cb N),qA f (zA d) capr] W λe j=>RT (nF c N d).1 (aB (nF c N d).2) W e j:=
 jv c a b ca cb N f capr d W ⟨h.files,h.fit,h.tens,i,by have:=h.bulk;omega,g,h.lsn⟩
def ZH{k n:Int}{t x:pB}(a:0<=k/\k<=9)(b:WU n):WV [⟨k,t,x,n⟩]:=by grind [WU,WV]
def aGn{c:lC}{d:Int}{a:List gB}(h:iC c d a=eA)(b f:pB)(j:zA a+eC a<=1900000): -1<=(pG c d a b f).1/\(pG c d a b f).1<=2000000/\-1<=(pG c d a b f).2/\(pG c d a b f).2<=1000000:=by
 obtain⟨k,_,_,_,m⟩:=bG h;obtain⟨n,i,_⟩:=dU m (name:=b);have p:zA (rB a b).Z<=1900000:=by
  rcases dM (ts:=a) (name:=b) with⟨g,_⟩|⟨e,_⟩;exact (lW j _ g).2.2.2.2;rw[e];exact Oa _
 have l:(0<=c.tl/\c.tl<=1000000)/\(0<=c.ml/\c.ml<=1000000):=by
  simp only[lG,yB,Sa,Ab]at k;omega
 have g : -1<=cH (rB a b).M f c.ml/\cH (rB a b).M f c.ml<=1000000:=by
  rw[VH (MJ i).2];cases hg:xC (·.s) f (rB a b).M with
  |none=>exact⟨by simp;omega,by simp;omega⟩
  |some q=>
   have:=((MJ i).1 q (jM hg).1).2;simp only[yB,Sa,Ab]at this;exact⟨by simp;omega,by simp;omega⟩
 have o:tI dE (rB a b).Z f<=zA (rB a b).Z:=Pc _ _;simp only[yB,Sa,Ab]at n;unfold pG pE;split
 .split
  .refine ⟨by dsimp only;omega,by dsimp only;omega,?_,?_⟩<;>(dsimp only;split<;>omega)
  exact ⟨by dsimp only;omega,by dsimp only;omega,g.1,g.2⟩
 exact ⟨by simp,by simp,by simp,by simp⟩
def YX(v:Int)(W:fA)(a : -9223372036854775808<=v)(b:v<=9223372036854775807):cF 49 #[aB 8,aB v] W (pA (tB 8 v)):=mD 8 v W (by omega) a b
def aLq(v:Int)(W:fA)(a : -9223372036854775808<=v)(b:v<=9223372036854775807):cF 49 #[aB 4,aB v] W (pA (tB 4 v)):=mD 4 v W (by omega) a b
def aLp(v:Int)(W:fA)(a : -9223372036854775808<=v)(b:v<=9223372036854775807):cF 49 #[aB 2,aB v] W (pA (tB 2 v)):=mD 2 v W (by omega) a b
def aFj{c:lC}{g:Int}{a:List gB}(h:iC c g a=eA)(b:pB)(o:zA a+eC a<=1900000):zA (rB a b).Z+fE (rB a b).Z<=1900000/\aAw (rB a b).Z:=by
 obtain⟨_,m,d,_,k⟩:=bG h;obtain⟨_,_,l⟩:=dU k (name:=b);refine⟨?_,λi f=>?_⟩
 .rcases dM (ts:=a) (name:=b) with⟨j,_⟩|⟨e,_⟩
  .obtain ⟨i,f,e⟩:=Ib j;have d:=mK a i f;have n:=yM a (i+1);rw[e]at d;unfold fF at d;omega
  rw[e];exact Oa _
 have:=((FY l).1 _ (Gb f)).2.1;simp only[yB,Sa,Ab]at this;exact⟨by omega,by omega⟩
def OJ(a b d e:jA)(W:fA):(Instr.field 131 (uA #[a,b,d,e]) 3).run prog W=.ok e W:=by kernel_rfl
def aJs{c:lC}{a:Int}{e:List gB}(h:iC c a e=eA)(d:pB)(b:List oF)(r:(iE b).size<=60000)(v:zA b<=500)(q:d.size<=255)(k:Nat)(p:k<=zA b):iC c a (yK c a d e (b.take k)).1=eA/\zA (yK c a d e (b.take k)).1+eC (yK c a d e (b.take k)).1<=zA e+eC e+190000/\(yK c a d e (b.take k)).2.1.size=k/\zA (yK c a d e (b.take k)).2.2<=k/\eD (yK c a d e (b.take k)).2.2<=190000/\WV (yK c a d e (b.take k)).2.2:=by
 obtain⟨j,s,l,m,t,n⟩:=qr h d b k p;have u:(iE (b.take k)).size<=60000:=by
  have:=eI (b.take k) (b.drop k);rw[Za]at this;rw[this,Ka]at r;omega
 have w:k*(d.size+2)<=500*257:=Hf (by omega) (by omega);have x:k*d.size<=500*255:=Hf (by omega) q;refine⟨j,by omega,l,m,by omega,λi o=>?_⟩;obtain⟨f,g⟩:=n _ (Gb o);rw[f,g];exact⟨⟨by omega,by omega⟩,⟨by omega,by omega⟩⟩
def xP(k:Int):Bool:=k != 2&&k != 4
def aKr(c:lC)(N:sC)(r:eG)(a:List Int):Prop:=lG c=eA/\N.up=eA/\iC c N.now N.ts=eA/\VR r/\r.K∈a
end
def QV.req(q:QV):eG:=⟨q.K,q.T,q.R,q.U,q.ys.map (·.x)⟩
def rx:∀{ls:List cC},jU ls->aE ls<=zA ls*323
 |[],_=>Oa _
 |l::r,h=>by
  have b:=h l (Kc ..);have c:=rx (ls:=r) λx a=>h x (Sb _ a);simp only[aE,Zb];omega
def tj:∀{ys:List XV},(∀y∈ys,aAp y.x.B y.c)->(iE (ys.map (·.x))).size<=zA ys*5883
 |[],_=>Oa _
 |y::r,h=>by
  obtain⟨e,d,a⟩:=h y (Kc ..);have f:=tj (ys:=r) λx b=>h x (Sb _ b);have g:=rx a;rw[Fc,iE,Ka,qP,Zb];omega
def TH.P{w:fA}{n d:Nat}{a:nC}{b:List XV}(h:TH cX w n d a b):oJ w a (b.map (·.x))/\(∀y∈b,aAp y.x.B y.c/\uj y.x.bits):=by
 obtain rfl|⟨g,rfl,o,p,m,h⟩:=h;exact ⟨Ca rfl,λy j=>by cases j⟩;refine ⟨La ⟨g,0,rfl,m,λi d=>?_⟩,λy j=>?_⟩
 .have f:i<zA b:=by simpa using d
  obtain⟨k,l⟩:=h i f;have e:(b.map (·.x))[i]=b[i].x:=by simp
  rw[e];exact⟨b[i].a,b[i].c,by rw[Ya];exact k 0 (by show 0<2;omega),by rw[Ya];exact k 1 (by show 1<2;omega),l.1.B,l.2.1.2.1⟩
 obtain ⟨i,d,rfl⟩:=Ib j;exact(h i d).2.2
def QV.said{w:fA}{u g:Nat}{q:QV}(h:yX.part w u g q):oJ w q.a q.req.P/\VR q.req/\(iE q.req.P).size<=29415:=by
 obtain⟨s,r,D,B,C,m,b,c,d,f⟩:=h;obtain⟨z,l⟩:=s.P;have t:(iE q.req.P).size<=29415:=Ua (tj λy m=>(l y m).1) (by omega);have k:zA q.req.P=zA q.ys:=Xa ..;have o:∀i(g:i<zA q.req.P),WU q.req.P[i].bits:=λi g=>by
  have e:q.req.P[i]=(q.ys[i]'(k ▸ g)).x:=by simp[QV.req]
  rw[e];exact(l _ (Gb _)).2
 have v:pv q.req:=⟨r,b,c,d,λe=>by show q.ys.map _=[];rw[f e];rfl,by show q.T.size<=_;omega,by show q.R.size<=_;omega,by omega,λi g=>by
  have e:q.req.P[i]=(q.ys[i]'(k ▸ g)).x:=by simp[QV.req]
  rw[e];obtain⟨⟨A,_,n⟩,_⟩:=l _ (Gb (k ▸ g));refine⟨by omega,λj p=>?_⟩;have:=n _ (Gb p);exact⟨by omega,by omega⟩⟩
 have E:(wK q.req).size<=29700/\1<=(wK q.req).size:=by
  have F:(if yU q.req.K=eA then gN q.req.T else lA).size<=17:=by
   split;rw[sF];show 1+q.T.size<=_;omega;decide
  have G:(if q.req.K=1 then tB 2 (zA q.req.P:Nat)++iE q.req.P else lA).size<=29417:=by
   split;rw[Ka,nB];omega;decide
  have H:(if xU q.req.K=eA then dG q.req.R else lA).size<=18:=by
   split;rw[eF];show 2+q.R.size<=_;omega;decide
  have I:(if kV q.req.K=eA then tB 8 q.req.U else lA).size<=8:=by
   split;rw[nB];omega;decide
  rw[wK];simp only[Ka,nB];omega
 exact⟨z,⟨v,by omega,show WU q.U from⟨by omega,by omega⟩,o⟩,t⟩
def QV.small{w:fA}{b a:Nat}{q:QV}(h:yX.part w b a q):q.T.size<=16/\q.R.size<=16/\zA q.req.P<=5:=⟨h.2.2.1,h.2.2.2.1,by show(q.ys.map _).length<=5;rw[Xa];exact h.2.2.2.2.2.1⟩
def aCe{c:lC}(h:MW c):lG c=eA:=by grind [MW,lG,yB]
section
open Go.Maps
attribute [local go_sem] fG dH lK jB.drewI sK.drewI sK.new sK.alloc sK.alloc2
def zj{r w:fA}{B P D:Nat}(c:lC)(h:jQ r w B P D dk0 lg0)(G:kH r)(H:lG c=eA):
 iA prog 17 #[.pointer (vB P),uE c] w λe A=>(∃h l m,e=vA (yA #[.pointer (vB h),.nilIface])/\jB A h #[.pointer (vB l),aB 0] 75/\lE A (λg=>w.1.size<g/\g≠h) l m c 0 [] 1900000)/\jQ r A B P D dk1 ⟨1,1,0⟩:=by
 have M:yC w D 3 (sA dA):=by obtain⟨v,y⟩:=h.drive;exact y.blk.cell 3
 have N:D<w.1.size:=by obtain⟨v,y⟩:=h.drive;exact bB y.blk
 have O:=bB h.wr;obtain⟨L,_,_,_⟩:=h.wr.cells;have n:=zF w (xA #[aB c.w,aB c.tl,aB c.ml,aB c.sh,aB c.ha,aB c.sg] 24);have f:=dB (UL (h.z n));rw[show vI dk0 (qL dk0.fs)=(dk0,0) from rfl]at f;have C:=dB (jB.new w #[aB c.w,aB c.tl,aB c.ml,aB c.sh,aB c.ha,aB c.sg] 24);have u:=dB (show kH r/\lG c=eA from⟨G,H⟩);clear h G H;unfold uE at *;go_enter func17,ntmps17;go_wp2_with fail;apply jC f.o;rintro X ⟨a,p⟩;have F:=dB a;have s:=dB (p.blk C.o (by decide) (by decide));have z:=bB s.o;have d:=dB (aMz c a u.o.2 (u.o.1.z a.below));unfold Ck0 uE at d;obtain⟨R,S,T,U,V,W⟩:=s.o.c6;rw[show nH 0=.nilIface from rfl];clear a p f L M C n;go_wp2_with fail;refine d.o.mono ?_;rintro e Y ⟨h,l,m,rfl,x,o,b,k⟩;have E:=dB (aJc (F.o.z k));have t:=dB (Vc o b);clear x o b k d R S T U V W s;go_wp2_with fail;apply jC E.o;rintro Q ⟨q,j⟩;have K:=dB q;have J:=dB (Vc (j.blk t.o.1 (by decide)) ((t.o.2.apart j).re (B':=λg=>w.1.size<g/\g≠h) λg _ I=>⟨rfl,Bb z I.1,I.2⟩));clear q j E t F u;go_wp2_with fail;go_loopw [11,45] (λ_ i wr=>i=aB 0/\wr=Q) (λ_ i _=>0-(intOf i).toNat)
 case atStart=>exact⟨rfl,rfl⟩
 case round=>
  obtain⟨rfl,rfl⟩:=hrel;go_wp2;go_ret2;exact⟨⟨h,l,m,rfl,J.o⟩,K.o⟩
def YH(c:lC)(w:fA)(h:lG c=eA)(o:kH w)(S:nJ w):
 iA prog 6 #[uE c,uA #[qA aA 0 0,aB 1000000,aB 0,aB 0,aB 0,sA dA]] w λe w'=>RT nd1 (aB 0) w e w':=by
 have x:=dB (λW=>tT c W);rw[h]at x;have G:wE [] 1000000 0 0 0=eA:=by decide
 have i:=dB (λW=>pU aA 0 [] 1000000 0 0 0 dA W (Ca rfl) vO.H (by simp) vO.sum);rw[G]at i;have y:=dB (λW=>IP aA 0 [] 1000000 0 0 0 dA W (Ca rfl) (by simp));have n:=dB (show kH w/\nJ w/\lG c=eA from⟨o,S,h⟩);simp only[List.length_nil]at i y;obtain⟨K,m⟩:∃K,K=dk1:=⟨_,rfl⟩
 rw[show nd1=⟨dk1,⟨1,1,0⟩,0,[],0,dA,eA⟩ from rfl,<-m];clear h o S;unfold uE at *;have fz:=cL;go_enter func6,ntmps6;go_wp2_with fail;apply jC (x.o _);intro w1 g;have P:=dB ((O0.new (w:=w) (c:=c) (a:=aA) (ca:=0)).z g);clear g x;obtain⟨T,U,V,Y,Z,o,B,R,y2,y3,y4,y5,z0,z1,z2,z3,z4,z5,z6⟩:=P.o.cells;go_wp2_with fail;apply jC (i.o _);intro w2 g;replace P:=dB (P.o.z g);clear g i T U V Y Z o B R y2 y3 y4 y5 z0 z1 z2 z3 z4 z5 z6;obtain⟨T,U,V,Y,Z,o,B,R,y2,y3,y4,y5,z0,z1,z2,z3,z4,z5,z6⟩:=P.o.cells;go_wp2_with fail;refine(y.o _).mono ?_;rintro e b ⟨D,v,rfl,L,g⟩;have C:=aC g (zF b (xA #[.pointer (vB D),aB 0,aB 0,aB 0] 64));have h:jQ w2 (b.alloc (xA #[.pointer (vB D),aB 0,aB 0,aB 0] 64)) w2.1.size b.1.size D dk0 lg0:=⟨n.o.2.1.z P.o.B,C,Ia _,g.size,jB.new _ _ _,⟨v,L.z bC⟩,G⟩
 have P4:=dB (P.o.z C);have I:=g.size;have k:=dB (zj c h (n.o.1.z P.o.B) n.o.2.2);unfold uE at k;rw[<-m]at k;clear m g L C y T U V Y Z o B R y2 y3 y4 y5 z0 z1 z2 z3 z4 z5 z6 h n G;obtain⟨T,U,V,Y,Z,o,B,R,y2,y3,y4,y5,z0,z1,z2,z3,z4,z5,z6⟩:=P4.o.cells;go_wp2_with fail;refine k.o.mono ?_;rintro e f ⟨⟨h,l,m,rfl,G,hL⟩,p⟩;have W5:=dB p;have J:=dB (P.o.z p.below);obtain⟨v5,H⟩:=p.drive;obtain⟨a5,c5,rfl,N⟩:=H.files;have I:=dB (λW(u:xB f W)=>eU D _ a5 _ c5 _ _ _ _ _ W (H.blk.z u));have F5:=dB N;have O:=bB G;have z:=dB (λW(u:xB f W)=>VG l m c 0 _ [] 1900000 W (hL.z u) (λt m=>by cases m) (by simp));have HH:=dB G;simp only[List.length_nil]at z;clear p H k P4 T U V Y Z o B R y2 y3 y4 y5 z0 z1 z2 z3 z4 z5 z6 G hL N;obtain⟨R,Y,Z,p3⟩:=W5.o.wr.cells;have Q:=bB W5.o.wr;have q0:yC f h 0 (.pointer (vB l)):=HH.o.cell 0;have q1:yC f h 1 (aB 0):=HH.o.cell 1;have B:h≠w.1.size+1+1:=λe=>by
  have o:=J.o.R;rw[<-e]at o;have G:=(show f.heap[h]?=_ from HH.o).symm.trans o;simp only[Qa,Obj.cells.injEq]at G;exact absurd G.2.1 (by decide)
 have d:=dB (show ∀W X,xB f W->fB (·=w.1.size+1+1) W X->yC X b.1.size 0 (.pointer (vB D))/\yC X b.1.size 1 (aB 1)/\yC X b.1.size 2 (aB 1)/\yC X b.1.size 3 (aB 0)/\yC X h 0 (.pointer (vB l))/\yC X h 1 (aB 0) from λW X u m=>by
  have o:=P.o.lt;have o:∀j,X.cell? (eB b.1.size j)=f.cell? (eB b.1.size j):=λj=>(fA.cell?_of_block (m.block _ (Bb Q u.size) (λe=>by have G:b.1.size=w.1.size+1+1:=e;omega))).trans (u.cell Q);have G:∀j,X.cell? (eB h j)=f.cell? (eB h j):=λj=>(fA.cell?_of_block (m.block _ (Bb O u.size) B)).trans (u.cell O);exact⟨(o _).trans R,(o _).trans Y,(o _).trans Z,(o _).trans p3,(G _).trans q0,(G _).trans q1⟩)
 clear fz;go_wp2_with fail;go_region_held3 (λW=>W.cell? (eB b.1.size 0)=cA (.pointer (vB D))/\W.cell? (eB b.1.size 1)=cA (aB 1)/\W.cell? (eB b.1.size 2)=cA (aB 1)/\W.cell? (eB b.1.size 3)=cA (aB 0)/\W.cell? (eB h 0)=cA (.pointer (vB l))/\W.cell? (eB h 1)=cA (aB 0))
  (first|exact d.o _ _ r (fB.refl _ _)|exact d.o _ _ s (fB.refl _ _)|exact d.o _ _ r (uG _ _ _)|exact d.o _ _ s (uG _ _ _)|exact d.o _ _ gD.drew (fB.refl _ _))
  (first
  |(go_at_call 18;(first|(have q:=r;apply jC (I.o _ r);intro h o;have s:=aC r o;have m:=(J.o.z s).R.box rfl)|(apply jC (I.o _ gD.drew);intro h o;have s:=aC gD.drew o)))
  |(go_at_call 20;(first|(have q:=s;refine(z.o _ s).mono ?_;rintro e B ⟨A,h,rfl,F,E⟩;have r:=aC s E;have m:=(J.o.z r).R.box rfl;have m:=rE a5 c5 A h ⟨K,⟨1,1,0⟩,0,[],0,dA,eA⟩;dsimp only[List.length_nil]at m)|(refine(z.o _ gD.drew).mono ?_;rintro e B ⟨A,h,rfl,F,E⟩;have r:=aC gD.drew E;have m:=rE a5 c5 A h ⟨K,⟨1,1,0⟩,0,[],0,dA,eA⟩;dsimp only[List.length_nil]at m))))
 all_goals
  go_wp2;first
  |exact QF (M:=⟨K,⟨1,1,0⟩,0,[],0,dA,eA⟩) rfl rfl rfl rfl (J.o.z r) (F5.o.z r) F.tens
  |exact QF (M:=⟨K,⟨1,1,0⟩,0,[],0,dA,eA⟩) rfl rfl rfl rfl (J.o.z s) (F5.o.z s) (F.tens.z o)
end
def sd{M:sC}{x:Int}{a:pB}:aL M x a=if dT M x=0 then a else tB 1 (dT M x):=by
 unfold aL dT;repeat' split
 all_goals first|rfl|simp_all
def ou{M:sC}{x:Int}:aL M x (tB 1 0)=tB 1 (dT M x):=by
 rw[sd];split<;>simp_all
def aLl{c:lC}{N:sC}{rs:List nE}(d:iC c N.now N.ts=eA)(b:N.deg=dA)(e:N.up=eA)(h:(vG c N.now N.ts rs).2.2=dA):nF c N rs=(N,62):=by
 have a:=(bG d).1;unfold nF;rw[Ja (by simp[a]),Ja (by simp[bf,b,e]),Ma (Ca h)]
def uw{c:lC}{a:Int}{b:List gB}{x:nE}(d:iC c a b=eA):(vG c a b [x]).2.2=(vD c a b x).2.2:=by
 unfold vG;simp[d,bF];split<;>simp_all
def aBb{c:lC}{N:sC}{r:eG}{x:nE}(b:iC c N.now N.ts=eA)(d:N.deg=dA)(g:N.up=eA)(i:r.K=2/\x=⟨2,lA,lA,r.U⟩\/r.K=3/\uC r.T=eA/\x=⟨3,r.T,r.R,r.U⟩):lI c N r=((nF c N [x]).1,tB 1 (dT (nF c N [x]).1 (nF c N [x]).2)):=by
 have a:=λh=>aLl (rs:=[x]) b d g ((uw (x:=x) b).trans h);unfold lI;obtain⟨e,rfl⟩|⟨e,f,rfl⟩:=i
 .rw[GJ b];simp only[d,e,Bd,false_and,Cf,ne_eq,not_true_eq_false,Td,Int.reduceEq];simp only[vD,Int.reduceEq,Cf,Td]at a;split
  .rename_i h;rw[a h];rfl
  rw[ou]
 rw[MN b];simp only[d,e,f,Bd,false_and,Cf,Bool.true_eq_false,and_false,Int.reduceEq,Td];simp only[vD,Int.reduceEq,Cf,Td]at a;split
 .rename_i h;rw[a h];rfl
 rw[ou]
def aMr{c:lC}{N:sC}{r:eG}(a:N.deg=dA)(b:r.K=4):lI c N r=((DJ c N).1,tB 1 (dT (DJ c N).1 (DJ c N).2)):=by
 unfold lI;simp[a,b,ou]
def aMs{c:lC}{N:sC}{r:eG}(b:iC c N.now N.ts=eA)(a:r.K=5)(d:uC r.T=eA)(e:0<=(pE c (rB N.ts r.T) r.R).1):lI c N r=if (r.R.toList.isEmpty||aF r.R)=eA then(N,tB 1 0++tB 8 (pE c (rB N.ts r.T) r.R).1++tB 8 (pE c (rB N.ts r.T) r.R).2) else(N,tB 1 2):=by
 unfold lI pG;cases hm:(r.R.toList.isEmpty||aF r.R)
 .simp[a,d,b]
 simp[a,d,b];omega
def aMt{c:lC}{N:sC}{r:eG}(a:r.K=6)(b:uC r.T=eA):lI c N r=(N,tB 1 0++tB 8 N.now++tB 4 (zA (rB N.ts r.T).Z:Nat)++xG (rB N.ts r.T).Z):=by
 unfold lI;simp[a,b]
def aMq{c:lC}{N:sC}{r:eG}(a:N.deg=dA)(b:r.K=1)(d:uC r.T=eA):lI c N r=if (yK c N.now r.T N.ts r.P).2.2=[] then(N,tB 1 0++tB 2 (zA r.P:Nat)++(yK c N.now r.T N.ts r.P).2.1)
 else((nF c N (yK c N.now r.T N.ts r.P).2.2).1,if dT (nF c N (yK c N.now r.T N.ts r.P).2.2).1 (nF c N (yK c N.now r.T N.ts r.P).2.2).2=0 then tB 1 0++tB 2 (zA r.P:Nat)++(yK c N.now r.T N.ts r.P).2.1 else tB 1 (dT (nF c N (yK c N.now r.T N.ts r.P).2.2).1 (nF c N (yK c N.now r.T N.ts r.P).2.2).2)):=by
 unfold lI;simp[a,b,d,sd]
section
open Go.Maps
structure gU(Lo:Nat)(w0 w:World)(D:Nat)(r:eG)(sa:nC)(sc:Nat)(c:lC)(a:nC)(ca:Nat)(b:nC)(cb:Nat)(N:sC)(l m M:Nat)(B A:Nat→Prop):Prop where
 dsk:jB w D (LO r sa sc c a ca b cb N l) 84
 led:lE w B l m c N.now N.ts M
 new:∀g,w.1.size≤g→B g
 off:¬B D
 old:∀g,B g∨g=D→w0.1.size≤g
 node:wJ w A a b N
 apart:∀g,A g→(¬B g∧g≠D)∧Lo≤g∧g<w.1.size
 lo:Lo≤w0.1.size
 base:xB w0 w
 utab:kH w0
 pow:nJ w0
 fit:JK N.d.fs
 bulk:zA N.ts+eC N.ts≤1048576
 rng:um N.ts
 lsn:GN N.lsn
 now:GN N.now
 st:iC c N.now N.ts=eA
 req:pv r∧(wK r).size≤60000∧WU r.U
 bit:∀x∈r.P,WU x.bits
 smp:∀W,fB (λg=>B g∨g=D) w W→oJ W sa r.P
 hM:1≤M∧M≤900000000
def DM(V:sC×pB)(D:Nat)(r:eG)(sa:nC)(sc:Nat)(c:lC)(l Lo:Nat)(w0:fA)(e:Ending)(d:fA):Prop:=
 ∃a ca b cb,e=vA (pA V.2)/\jB d D (LO r sa sc c a ca b cb V.1 l) 84/\wJ d (λx=>Lo<=x/\x<d.1.size) a b V.1/\xB w0 d
section
variable {w0 w W:fA} {D Lo:Nat} {r:eG} {sa:nC} {sc:Nat} {c:lC} {a:nC} {ca:Nat} {b:nC} {cb:Nat} {N:sC} {l m M:Nat} {B A:Nat→Prop}
theorem gU.same(h:gU Lo w0 w D r sa sc c a ca b cb N l m M B A)(d:fB B w W){s:pB}:DM (N,s) D r sa sc c l Lo w0 (vA (pA s)) W:=
 ⟨a,ca,b,cb,rfl,d.blk h.dsk h.off,(h.node.turned d λg f _=>(h.apart g f).1.1).mono λg f=>⟨(h.apart g f).2.1,Bb (h.apart g f).2.2 d.size⟩,h.base.trans (d.below h.base.size λk i e=>by have:=h.old k (Ca e);omega)⟩
end
end
def NaV(M:sC)(x:jA)(w:fA)(e:Ending)(c:fA):Prop:=
 ∃a d b f,e=vA (yA #[uA (gC a d b f M),x])/\wJ c (λx=>w.1.size<=x/\x<c.1.size) a b M/\xB w c
def bl(V:sC×Int)(w:fA)(e:Ending)(a:fA):Prop:=NaV V.1 (aB V.2) w e a
def YY{l:Func}{t:Act}{w W:fA}{c:lC}{cs:Array jA}{M:sC}{x:jA}{a b:nC}{d f H i j:Nat}(h:l.results=#[.cell i 42,.tmp j])(m:t.tmps.getD i undef=.pointer (vB (w.1.size+1+1)))(n:t.tmps.getD j undef=x)(p:t.defers=[])(P:NP w W c cs)(o:wJ W (λx=>w.1.size+1+1<x/\x<H) a b M)(s:H<=W.1.size):bodyPost prog l (λe r=>NaV M x w e r) .ret t (W.setRow (w.1.size+1+1) (gC a d b f M)):=by
 have g:=uG W (w.1.size+1+1) (gC a d b f M);have v:=g.size;exact bodyPost_ret (qm h m n P.R.row (dH _ _ _ _ _)) p ⟨a,d,b,f,rfl,(o.turned g (λx q _ e=>by omega)).mono (λx q=>by omega),P.B.trans (g.below P.B.size (λk u e=>by omega))⟩
def oN{f:Func}{t:Act}{w W:fA}{c:lC}{cs:Array jA}{V:sC×Int}{M:sC}{d:Int}{a b:nC}{ca cb H i j:Nat}(h:f.results=#[.cell i 42,.tmp j])(g:t.tmps.getD i undef=.pointer (vB (w.1.size+1+1)))(k:t.tmps.getD j undef=aB d)(n:t.defers=[])(P:NP w W c cs)(E:V=(M,d))(l:wJ W (λx=>w.1.size+1+1<x/\x<H) a b M)(m:H<=W.1.size):bodyPost prog f (λe o=>bl V w e o) .ret t (W.setRow (w.1.size+1+1) (gC a ca b cb M)):=by
 subst E;exact YY h g k n P l m
def aNy(n:Nat)(b a:fA)(K:xD)(L:jG)(s:jA):Prop:=
 ∃(P D B:Nat)(v:jA),s=.pointer (vB P)/\n+4<=P/\n+4<=B/\DR a P D L/\wC a B D K.fs K.c K.k K.cr K.fl K.dn v/\xB b a
def jB.four{w:fA}{b:Nat}{a c d e:jA}{t:kA}(h:jB w b #[a,c,d,e] t):w.cell? (eB b 0)=cA a/\w.cell? (eB b 1)=cA c/\w.cell? (eB b 2)=cA d/\w.cell? (eB b 3)=cA e:=by
 simp[h.cell]
def wC.set_low{w:fA}{B D:Nat}{f:List iB}{c k a d:Int}{b:Bool}{v:jA}(h:wC w B D f c k a d b v){P:Nat}(n:P<B)(j:Nat)(x:jA):wC (w.setCell (eB P j) x) B D f c k a d b v:=by
 have i:=(kE.refl (λk=>k=P) w).setCell (g:=P) rfl j x;have m:=h.from';refine⟨h.from',h.blk.keeps i (by omega),IV h.row i (λg l e=>?_),h.apart⟩;have:=uH h.row g l;omega
def aJd{w:fA}{P D:Nat}{L:jG}{b c d e:jA}(h:jB w P #[b,c,d,e] 64):
 DR ((((w.setCell (eB P 0) (.pointer (vB D))).setCell (eB P 1) (aB L.first)).setCell (eB P 2) (aB L.last)).setCell (eB P 3) (aB L.size)) P D L:=by
 have a:=(((h.set 0 (.pointer (vB D))).set 1 (aB L.first)).set 2 (aB L.last)).set 3 (aB L.size);show jB _ _ _ _;simpa using a
def bS{w:fA}{b g j:Nat}{a:Array jA}{t:kA}{x:jA}(h:jB w b a t)(c:b≠g):jB (w.setCell (eB g j) x) b a t:=(gA.heap_setCell _ _ _ b (λe=>c e)).trans h
def jB.setO{w:fA}{b g:Nat}{a:Array jA}{t:kA}(h:jB w b a t)(c:b≠g)(j:Nat)(x:jA):jB (w.setCell (eB g j) x) b a t:=bS h c
def KP(n P D:Nat)(a L:jG)(W:fA):Prop:=DR W P D a/\jB W (n+1) #[aB L.first,aB L.last,aB L.size] 37
def KP.z{n P D:Nat}{a L:jG}{W b:fA}(h:KP n P D a L W)(c:xB W b):KP n P D a L b:=⟨h.1.z c,h.2.z c⟩
def KP.drew{n P D:Nat}{a L:jG}{W:fA}(h:KP n P D a L W):KP n P D a L W.drew:=h.z gD.drew
def KP.set{n P D g j:Nat}{a L:jG}{W:fA}{x:jA}(h:KP n P D a L W)(b:P≠g)(c:n+1≠g):KP n P D a L (W.setCell (eB g j) x):=⟨bS h.1 b,bS h.2 c⟩
def KP.cells{n P D:Nat}{e L:jG}{W:fA}(h:KP n P D e L W):W.cell? (eB P 0)=cA (.pointer (vB D))/\W.cell? (eB P 1)=cA (aB e.first)/\W.cell? (eB P 2)=cA (aB e.last)/\W.cell? (eB P 3)=cA (aB e.size)/\W.cell? (eB (n+1) 0)=cA (aB L.first)/\W.cell? (eB (n+1) 1)=cA (aB L.last)/\W.cell? (eB (n+1) 2)=cA (aB L.size):=by
 obtain⟨a,b,c,d⟩:=h.1.cells;obtain⟨x,y,z⟩:=h.2.three;exact⟨a,b,c,d,x,y,z⟩
def uO(n:Nat)(g:fA)(a b c d e f h i j:jA):fA:=
 (((((((((g.setCell (eB (n+1+1) 0) a).setCell (eB (n+1+1) 1) b).setCell (eB (n+1+1) 2) c).setCell (eB (n+1+1) 3) d).setCell (eB (n+1+1) 4) e).setCell (eB (n+1+1) 5) f).setCell (eB (n+1+1+1) 0) h).setCell (eB (n+1+1+1) 1) i).setCell (eB (n+1+1+1) 2) j)
def IF{n:Nat}{a:fA}{j k l m o p f h i v0 v1 v2 v3 v4 v5 x0 x1 x2:jA}{t u:kA}(e:jB a (n+1+1) #[j,k,l,m,o,p] t)(d:jB a (n+1+1+1) #[f,h,i] u):
 jB (uO n a v0 v1 v2 v3 v4 v5 x0 x1 x2) (n+1+1) #[v0,v1,v2,v3,v4,v5] t/\jB (uO n a v0 v1 v2 v3 v4 v5 x0 x1 x2) (n+1+1+1) #[x0,x1,x2] u:=by
 constructor;exact bS (bS (bS (gY e) (by omega)) (by omega)) (by omega);have b:=(((((((d.setO (g:=n+1+1) (by omega) 0 v0).setO (g:=n+1+1) (by omega) 1 v1).setO (g:=n+1+1) (by omega) 2 v2).setO (g:=n+1+1) (by omega) 3 v3).setO (g:=n+1+1) (by omega) 4 v4).setO (g:=n+1+1) (by omega) 5 v5).set 0 x0).set 1 x1;have c:=b.set 2 x2;show jB (uO n a v0 v1 v2 v3 v4 v5 x0 x1 x2) _ _ _;simpa[uO]using c
def CA{n B:Nat}{w a:fA}{b c d e f g i j k:jA}(h:gA B w a)(l:B<=n):gA B w (uO n a b c d e f g i j k):=by
 unfold uO;iterate 9 (refine gA.setCell ?_ (by show B<=_;first|exact(by simp only;omega)|omega) _)
 exact h
def OM{n B:Nat}{c:fA}{a:nC}{b:List iB}{d e f g i j k l m:jA}(h:eJ c B a b)(o:n+4<=B):eJ (uO n c d e f g i j k l m) B a b:=by
 unfold uO;iterate 9 (refine eJ.set_below ?_ (by show _<B;first|exact(by simp only;omega)|omega) _)
 exact h
def ed(a:nC)(J:Nat)(K:xD)(L:jG)(p:pB)(o:Int)(w:fA)(h:nJ w)(m:uB w a K.fs)(c:JK K.fs)(hp:p.size<=1900000):
 iA prog 268 #[uA #[qA a (zA K.fs) J,aB K.c,aB K.k,aB K.cr,aB K.fl,sA K.dn],uA #[aB L.first,aB L.last,aB L.size],pA p,aB o] w λe w'=>
  ∃a' k,e=vA (yA #[uA #[.slice a' (zA (qE K L p o).1.fs) k,aB (qE K L p o).1.c,aB (qE K L p o).1.k,aB (qE K L p o).1.cr,aB (qE K L p o).1.fl,sA (qE K L p o).1.dn],uA #[aB (qE K L p o).2.1.first,aB (qE K L p o).2.1.last,aB (qE K L p o).2.1.size],aB (qE K L p o).2.2])/\
   eJ w' w.1.size a' (qE K L p o).1.fs/\xB w w':=by
 have G:cB (uB w a K.fs):=m;have k:=c.len;have HS:cB _:=c;have HPW:cB (nJ w):=h;clear m c h;go_enter func268,ntmps268;go_upto_region 1 with fail;obtain⟨hA,hL,Z,c,k⟩:=IH (w:=w) (x:=#[qA a (zA K.fs) J,aB K.c,aB K.k,aB K.cr,aB K.fl,sA K.dn]) (tx:=35) (y:=#[aB L.first,aB L.last,aB L.size]) (ty:=37) (z:=#[qA aA 0 0,aB 0,aB 0,aB 0,aB 0,sA dA]) (tz:=35) (u:=#[aB 0,aB 0,aB 0]) (tu:=37) gD;have m:((((w.alloc (xA #[qA a (zA K.fs) J,aB K.c,aB K.k,aB K.cr,aB K.fl,sA K.dn] 35)).alloc (xA #[aB L.first,aB L.last,aB L.size] 37)).alloc (xA #[qA aA 0 0,aB 0,aB 0,aB 0,aB 0,sA dA] 35)).alloc (xA #[aB 0,aB 0,aB 0] 37)).1.size=w.1.size+4:=by simp
 generalize ((((w.alloc (xA #[qA a (zA K.fs) J,aB K.c,aB K.k,aB K.cr,aB K.fl,sA K.dn] 35)).alloc (xA #[aB L.first,aB L.last,aB L.size] 37)).alloc (xA #[qA aA 0 0,aB 0,aB 0,aB 0,aB 0,sA dA] 35)).alloc (xA #[aB 0,aB 0,aB 0] 37))=N at *;have HBX:cB (∀r,xB N r->jB r w.1.size #[qA a (zA K.fs) J,aB K.c,aB K.k,aB K.cr,aB K.fl,sA K.dn] 35/\jB r (w.1.size+1) #[aB L.first,aB L.last,aB L.size] 37/\jB r (w.1.size+1+1) #[qA aA 0 0,aB 0,aB 0,aB 0,aB 0,sA dA] 35/\jB r (w.1.size+1+1+1) #[aB 0,aB 0,aB 0] 37/\xB w r):=λr h=>⟨hA.z h,hL.z h,Z.z h,c.z h,aC k h⟩
 have HK:cB (∀r,xB N r->yC r w.1.size 0 (qA a (zA K.fs) J)/\yC r w.1.size 1 (aB K.c)/\yC r w.1.size 2 (aB K.k)/\yC r w.1.size 3 (aB K.cr)/\yC r w.1.size 4 (aB K.fl)/\yC r w.1.size 5 (sA K.dn)/\yC r (w.1.size+1) 0 (aB L.first)/\yC r (w.1.size+1) 1 (aB L.last)/\yC r (w.1.size+1) 2 (aB L.size)):=λr h=>by
  obtain⟨I,a1,a2,O,T,W⟩:=(hA.z h).six;obtain⟨Y,b1,b2⟩:=(hL.z h).three;exact⟨I,a1,a2,O,T,W,Y,b1,b2⟩
 have HF4:cB _:=λr(h:xB N r)=>G.o.z (aC k h);have O:cB _:=m;clear hA hL Z c k m;go_cut [11] (λs r=>aNy w.1.size N r K L s)
 case first=>
  go_region_held3 (λr=>r.cell? (eB w.1.size 0)=cA (qA a (zA K.fs) J)/\r.cell? (eB w.1.size 1)=cA (aB K.c)/\r.cell? (eB w.1.size 2)=cA (aB K.k)/\r.cell? (eB w.1.size 3)=cA (aB K.cr)/\r.cell? (eB w.1.size 4)=cA (aB K.fl)/\r.cell? (eB w.1.size 5)=cA (sA K.dn)/\r.cell? (eB (w.1.size+1) 0)=cA (aB L.first)/\r.cell? (eB (w.1.size+1) 1)=cA (aB L.last)/\r.cell? (eB (w.1.size+1) 2)=cA (aB L.size))
   (exact HK.o _ (by repeat (first|with_reducible refine gA.setCell ?_ (by exact Ia _) _|with_reducible exact gD|with_reducible refine aC ?_ bC|with_reducible refine gA.drew ?_|exact gD.drew|refine aC ?_ (by assumption))))
   (first
   |(go_at_call 16;refine(IP a J K.fs K.c K.k K.cr K.fl K.dn _ (HF4.o _ (by repeat (first|with_reducible exact gD|with_reducible refine aC ?_ bC|with_reducible refine gA.drew ?_|exact gD.drew|refine aC ?_ (by assumption)))) (by omega)).mono ?_;rintro e k ⟨D,v,rfl,m,I⟩;(try (have C:jB k N.1.size _ _:=mL I;obtain⟨G,G,G,G⟩:=C.four;have b:=C.free 0;have d:=C.free 1;have f:=C.free 2;have g:=C.free 3))))
  all_goals(go_wp2_with fail;go_meet)
  .have W:=O.o;have G:=aC gD.drew I;have A:xB N (k.alloc (xA #[.pointer (vB D),aB L.first,aB L.last,aB L.size] 64)):=aC G bC;refine⟨k.1.size,D,N.1.size,v,rfl,?_,?_,heap_alloc_new _ _,m.z bC,A⟩
   .have:=G.size;omega
   omega
  have W:=O.o;have C:jB k N.1.size _ _:=mL I;have A:xB N ((((k.setCell (eB N.1.size 0) (.pointer (vB D))).setCell (eB N.1.size 1) (aB L.first)).setCell (eB N.1.size 2) (aB L.last)).setCell (eB N.1.size 3) (aB L.size)):=by
   iterate 4 (refine gA.setCell ?_ (by exact Ia _) _)
   exact aC (aC gD bC).drew I
  refine⟨N.1.size,D,N.1.size+1,v,rfl,by omega,by omega,aJd C,?_,A⟩;have G:wC k (N.1.size+1) D K.fs K.c K.k K.cr K.fl K.dn v:=by
   have W:=m;simpa using W
  exact(((G.set_low (by omega) 0 _).set_low (by omega) 1 _).set_low (by omega) 2 _).set_low (by omega) 3 _
 obtain⟨P,D,B,v,rfl,hP,hB,hwr,W,Y⟩:=hcut;obtain⟨hA,hL,Z,c,hbl⟩:=HBX.o _ Y;clear HK;rename fA=>W5;obtain⟨T,G,rfl,m⟩:=qH W.row;have HM:cB (wC W5 B D K.fs K.c K.k K.cr K.fl K.dn (qA T (zA K.fs) G)/\jB W5 w.1.size #[qA a (zA K.fs) J,aB K.c,aB K.k,aB K.cr,aB K.fl,sA K.dn] 35/\jB W5 (w.1.size+1+1) #[qA aA 0 0,aB 0,aB 0,aB 0,aB 0,sA dA] 35/\jB W5 (w.1.size+1+1+1) #[aB 0,aB 0,aB 0] 37/\xB w W5/\eJ W5 B T K.fs):=⟨W,hA,Z,c,hbl,m⟩
 have HKP:cB (KP w.1.size P D L L W5):=⟨hwr,hL⟩
 have HB5:cB _:=Y;clear hwr W hA hL Z c hbl m Y;go_wp2_with fail;apply jC (pn P D L p o _ HKP.o.1 hp);intro w6 S;have H6:cB (wC w6 B D K.fs K.c K.k K.cr K.fl K.dn (qA T (zA K.fs) G)/\jB w6 w.1.size #[qA a (zA K.fs) J,aB K.c,aB K.k,aB K.cr,aB K.fl,sA K.dn] 35/\jB w6 (w.1.size+1+1) #[qA aA 0 0,aB 0,aB 0,aB 0,aB 0,sA dA] 35/\jB w6 (w.1.size+1+1+1) #[aB 0,aB 0,aB 0] 37/\xB w w6/\eJ w6 B T K.fs):=⟨HM.o.1.z S,HM.o.2.1.z S,HM.o.2.2.1.z S,HM.o.2.2.2.1.z S,aC HM.o.2.2.2.2.1 S,HM.o.2.2.2.2.2.z S⟩
 have Y:cB (KP w.1.size P D L L w6):=HKP.o.z S;have HB6:cB _:=aC HB5.o S;clear S HM HKP HB5;by_cases h0:bR L p o=0
 .obtain ⟨EA,hlb,hz60,hn9⟩:=br (K:=K) h0;have E0:cB _:=EA;rw[h0];simp only[aGt,nH];obtain⟨d0,d1,d2,d3,d4,d5⟩:=H6.o.2.1.six;have hlm:zA K.fs<=maxLen:=by unfold maxLen;omega
  cases hdv:wE K.fs K.c K.k K.cr K.fl with
  |false=>
   have E:cB (qE K L p o=(⟨[],0,0,0,0,dA⟩,L,6)):=by show _=_;rw[E0.o,aAz hdv]
   have HV:cB (∀W,uB W a K.fs->cF 15 #[uA #[qA a (zA K.fs) J,aB K.c,aB K.k,aB K.cr,aB K.fl,sA K.dn]] W (sA dA)):=λW h=>EW hdv W h HS.o.H hlm HS.o.sum;clear hdv EA h0 hn9;go_wp2_with fail;apply jC (HV.o _ (HF4.o _ HB6.o));intro k I;have C:=H6.o.2.2.1.z I;have Q:=H6.o.2.2.2.1.z I;have m:cB _:=aC H6.o.2.2.2.2.1 I;obtain⟨_,_,_,_,l0,l1,l2⟩:=(Y.o.z I).cells;obtain⟨r0,r1,r2,r3,r4,r5⟩:=C.six;obtain⟨y0,y1,y2⟩:=Q.three;have b:=C.free 0;have d:=C.free 1;have f:=C.free 2;have g:=C.free 3;have i:=C.free 4;have j:=C.free 5;have g0:=Q.free 0;have g1:=Q.free 1;have g2:=Q.free 2;clear I d0 d1 d2 d3 d4 d5;go_wp2_with fail;go_region
   obtain⟨V,U⟩:=IF (v0:=qA aA 0 0) (v1:=aB 0) (v2:=aB 0) (v3:=aB 0) (v4:=aB 0) (v5:=sA dA) (x0:=aB L.first) (x1:=aB L.last) (x2:=aB L.size) C Q;have c:cB (xB w (uO w.1.size k (qA aA 0 0) (aB 0) (aB 0) (aB 0) (aB 0) (sA dA) (aB L.first) (aB L.last) (aB L.size))):=CA m.o (Ia _);obtain⟨s0,s1,s2,s3,s4,s5⟩:=V.six;obtain⟨l,m,n⟩:=U.three;clear C Q r0 r1 r2 r3 r4 r5 y0 y1 y2 b d f g i j g0 g1 g2 l0 l1 l2 V U;change Exit.then _ _ Exit.normal _ (uO w.1.size k (qA aA 0 0) (aB 0) (aB 0) (aB 0) (aB 0) (sA dA) (aB L.first) (aB L.last) (aB L.size)).drew;generalize uO w.1.size k (qA aA 0 0) (aB 0) (aB 0) (aB 0) (aB 0) (sA dA) (aB L.first) (aB L.last) (aB L.size)=W9 at *;go_wp2;refine bodyPost_ret (v:=yA #[uA #[qA aA 0 0,aB 0,aB 0,aB 0,aB 0,sA dA],uA #[aB L.first,aB L.last,aB L.size],aB 6]) (by simp[results,results268,go_sem,s0,s1,s2,s3,s4,s5,l,m,n]) rfl ?_;rw[E.o];exact⟨aA,0,rfl,Ca rfl,c.o.drew⟩
  |true=>
   have HV:cB (∀W,uB W a K.fs->cF 15 #[uA #[qA a (zA K.fs) J,aB K.c,aB K.k,aB K.cr,aB K.fl,sA K.dn]] W (sA eA)):=λW h=>EW hdv W h HS.o.H hlm HS.o.sum;have HST:cB (∀W,xB w6 W->jQ N W B P D K L):=λW J=>⟨HPW.o.z (HBX.o N gD).2.2.2.2,aC HB6.o J,by rw[O.o];exact hB,by rw[O.o];exact hP,(Y.o.z J).1,⟨_,H6.o.1.z J⟩,hdv⟩
   have HAD:cB (∀W,xB w6 W->iA prog 299 #[.pointer (vB P),pA (dF p),aB o] W λe w'=>e=vA (nH (mO K L (dF p) o).2.2)/\(mO K L (dF p) o).2.2<=6/\jQ N w' B P D (mO K L (dF p) o).1 (mO K L (dF p) o).2.1):=λW J=>by
    cases hfu:jP L (dF p).size o with
    |false=>exact ur (dF p) o (HST.o W J) hlb hz60 hfu
    |true=>exact aBa (dF p) o (HST.o W J) hlb hz60 hfu (hn9 hfu)
   have HFR:cB _:=λW=>SE p W (by unfold maxLen;omega);obtain⟨⟨q,M,O⟩,Z⟩:∃R,mO K L (dF p) o=R:=⟨_,rfl⟩
   have E:cB (qE K L p o=(q,M,O)):=by show _=_;rw[E0.o,Z]
   rw[Z]at HAD;clear Z EA h0 hn9 hdv E0 hlb hz60;generalize dF p=F at *;go_wp2_with fail;apply jC (HV.o _ (HF4.o _ HB6.o));intro k I;have HB7:cB _:=I;clear I d0 d1 d2 d3 d4 d5;go_wp2_with fail;apply jC (HFR.o _);intro X A;have HB8:cB _:=aC HB7.o A;clear A;go_wp2_with fail;apply jC (HAD.o _ HB8.o);rintro w9 ⟨hc6,I⟩;obtain⟨k,hv9⟩:=I.drive;obtain⟨Z,H,rfl,k⟩:=qH hv9.row;obtain⟨_,hL9,hR9,J,hb9⟩:=HBX.o _ I.below;have H9:cB (wC w9 B D q.fs q.c q.k q.cr q.fl q.dn (qA Z (zA q.fs) H)/\jB w9 (w.1.size+1+1) #[qA aA 0 0,aB 0,aB 0,aB 0,aB 0,sA dA] 35/\jB w9 (w.1.size+1+1+1) #[aB 0,aB 0,aB 0] 37/\xB w w9/\eJ w9 B Z q.fs):=⟨hv9,hR9,J,hb9,k⟩
   have HKP9:cB (KP w.1.size P D M L w9):=⟨I.wr,hL9⟩
   have HCD:cB _:=λW=>gJ O hc6 W;have HUN:cB _:=λW(h:wC W B D q.fs q.c q.k q.cr q.fl q.dn (qA Z (zA q.fs) H))=>eU D _ Z _ H _ _ _ _ _ W h.blk;clear I hv9 k hL9 hR9 J hb9 HAD HST HV HFR HB7 HB8;generalize nH O=k at *;go_wp2_with fail;go_region_held3 (λr=>r.cell? (eB P 0)=cA (.pointer (vB D))/\r.cell? (eB P 1)=cA (aB M.first)/\r.cell? (eB P 2)=cA (aB M.last)/\r.cell? (eB P 3)=cA (aB M.size)/\r.cell? (eB (w.1.size+1) 0)=cA (aB L.first)/\r.cell? (eB (w.1.size+1) 1)=cA (aB L.last)/\r.cell? (eB (w.1.size+1) 2)=cA (aB L.size))
    (exact KP.cells (L:=L) (by repeat (first|with_reducible refine KP.set ?_ (by omega) (by omega)|exact HKP9.o.drew|exact k.o)))
    (first
    |(go_at_call 18;apply jC (HUN.o _ (H9.o.1.z gD.drew));intro X A;have k:cB (KP w.1.size P D M L X):=HKP9.o.drew.z A;have C:=(H9.o.2.1.z gD.drew).z A;have Q:=(H9.o.2.2.1.z gD.drew).z A;obtain⟨r0,r1,r2,r3,r4,r5⟩:=C.six;obtain⟨y0,y1,y2⟩:=Q.three;have b:=C.free 0;have d:=C.free 1;have f:=C.free 2;have g:=C.free 3;have i:=C.free 4;have j:=C.free 5;have g0:=Q.free 0;have g1:=Q.free 1;have g2:=Q.free 2)
    |(go_at_call 68;apply kO (HCD.o _)))
   have H8:cB (xB w X/\eJ X B Z q.fs):=⟨aC (aC H9.o.2.2.2.1 gD.drew) A,(H9.o.2.2.2.2.z gD.drew).z A⟩
   obtain⟨V,U⟩:=IF (v0:=qA Z (zA q.fs) H) (v1:=aB q.c) (v2:=aB q.k) (v3:=aB q.cr) (v4:=aB q.fl) (v5:=sA q.dn) (x0:=aB M.first) (x1:=aB M.last) (x2:=aB M.size) C Q;have c:cB (xB w (uO w.1.size X (qA Z (zA q.fs) H) (aB q.c) (aB q.k) (aB q.cr) (aB q.fl) (sA q.dn) (aB M.first) (aB M.last) (aB M.size))):=CA H8.o.1 (Ia _);have I:cB (eJ (uO w.1.size X (qA Z (zA q.fs) H) (aB q.c) (aB q.k) (aB q.cr) (aB q.fl) (sA q.dn) (aB M.first) (aB M.last) (aB M.size)) B Z q.fs):=OM H8.o.2 hB;obtain⟨s0,s1,s2,s3,s4,s5⟩:=V.six;obtain⟨l,m,n⟩:=U.three;clear C Q r0 r1 r2 r3 r4 r5 y0 y1 y2 b d f g i j g0 g1 g2 V U;change Exit.then _ _ Exit.normal _ (uO w.1.size X (qA Z (zA q.fs) H) (aB q.c) (aB q.k) (aB q.cr) (aB q.fl) (sA q.dn) (aB M.first) (aB M.last) (aB M.size));generalize uO w.1.size X (qA Z (zA q.fs) H) (aB q.c) (aB q.k) (aB q.cr) (aB q.fl) (sA q.dn) (aB M.first) (aB M.last) (aB M.size)=W9 at *;go_wp2;refine bodyPost_ret (v:=yA #[uA #[qA Z (zA q.fs) H,aB q.c,aB q.k,aB q.cr,aB q.fl,sA q.dn],uA #[aB M.first,aB M.last,aB M.size],aB O]) (by simp[results,results268,go_sem,s0,s1,s2,s3,s4,s5,l,m,n]) rfl ?_;rw[E.o];exact⟨Z,H,rfl,I.o.mono (by omega),c.o⟩
 have E:cB (qE K L p o=(K,L,bR L p o)):=bs h0;have J:bR L p o=21\/bR L p o=22\/bR L p o=23:=by
  unfold bR at h0 |-
  split;exact Ca rfl;split;exact La (Ca rfl);split;exact La (La rfl)
  rename_i Z h2 h3;rw[Ja Z,Ja h2,Ja h3]at h0;exact absurd rfl h0
 obtain⟨t,Z⟩:∃t,aGt (bR L p o)=.iface 147 (pA t):=by
  rcases J with e|e|e<;>rw[e]<;>exact⟨_,rfl⟩
 have HCD:cB (∀W,rI 68 #[.iface 147 (pA t)] W (aB (bR L p o:Nat))):=λW=>by
  rw[<-Z];exact gf _ (La (La J)) W
 have HUN:cB _:=λW(h:wC W B D K.fs K.c K.k K.cr K.fl K.dn (qA T (zA K.fs) G))=>eU D _ T _ G _ _ _ _ _ W h.blk;rw[Z];clear Z h0 J;generalize bR L p o=O at *;go_wp2_with fail;go_region_held3 (λr=>r.cell? (eB P 0)=cA (.pointer (vB D))/\r.cell? (eB P 1)=cA (aB L.first)/\r.cell? (eB P 2)=cA (aB L.last)/\r.cell? (eB P 3)=cA (aB L.size)/\r.cell? (eB (w.1.size+1) 0)=cA (aB L.first)/\r.cell? (eB (w.1.size+1) 1)=cA (aB L.last)/\r.cell? (eB (w.1.size+1) 2)=cA (aB L.size))
  (exact KP.cells (L:=L) (by repeat (first|with_reducible refine KP.set ?_ (by omega) (by omega)|exact Y.o.drew|exact k.o)))
  (first
  |(go_at_call 18;apply jC (HUN.o _ (H6.o.1.z gD.drew));intro X A;have k:cB (KP w.1.size P D L L X):=Y.o.drew.z A;have C:=(H6.o.2.2.1.z gD.drew).z A;have Q:=(H6.o.2.2.2.1.z gD.drew).z A;obtain⟨r0,r1,r2,r3,r4,r5⟩:=C.six;obtain⟨y0,y1,y2⟩:=Q.three;have b:=C.free 0;have d:=C.free 1;have f:=C.free 2;have g:=C.free 3;have i:=C.free 4;have j:=C.free 5;have g0:=Q.free 0;have g1:=Q.free 1;have g2:=Q.free 2)
  |(go_at_call 68;apply kO (HCD.o _)))
 have H8:cB (xB w X/\eJ X B T K.fs):=⟨aC (aC H6.o.2.2.2.2.1 gD.drew) A,(H6.o.2.2.2.2.2.z gD.drew).z A⟩
 obtain⟨V,U⟩:=IF (v0:=qA T (zA K.fs) G) (v1:=aB K.c) (v2:=aB K.k) (v3:=aB K.cr) (v4:=aB K.fl) (v5:=sA K.dn) (x0:=aB L.first) (x1:=aB L.last) (x2:=aB L.size) C Q;have c:cB (xB w (uO w.1.size X (qA T (zA K.fs) G) (aB K.c) (aB K.k) (aB K.cr) (aB K.fl) (sA K.dn) (aB L.first) (aB L.last) (aB L.size))):=CA H8.o.1 (Ia _);have I:cB (eJ (uO w.1.size X (qA T (zA K.fs) G) (aB K.c) (aB K.k) (aB K.cr) (aB K.fl) (sA K.dn) (aB L.first) (aB L.last) (aB L.size)) B T K.fs):=OM H8.o.2 hB;obtain⟨s0,s1,s2,s3,s4,s5⟩:=V.six;obtain⟨l,m,n⟩:=U.three;clear C Q r0 r1 r2 r3 r4 r5 y0 y1 y2 b d f g i j g0 g1 g2 V U;change Exit.then _ _ Exit.normal _ (uO w.1.size X (qA T (zA K.fs) G) (aB K.c) (aB K.k) (aB K.cr) (aB K.fl) (sA K.dn) (aB L.first) (aB L.last) (aB L.size));generalize uO w.1.size X (qA T (zA K.fs) G) (aB K.c) (aB K.k) (aB K.cr) (aB K.fl) (sA K.dn) (aB L.first) (aB L.last) (aB L.size)=W9 at *;go_wp2;refine bodyPost_ret (v:=yA #[uA #[qA T (zA K.fs) G,aB K.c,aB K.k,aB K.cr,aB K.fl,sA K.dn],uA #[aB L.first,aB L.last,aB L.size],aB O]) (by simp[results,results268,go_sem,s0,s1,s2,s3,s4,s5,l,m,n]) rfl ?_;rw[E.o];exact⟨T,G,rfl,I.o.mono (by omega),c.o⟩
section
open Go.Maps
attribute [local go_sem] fG dH lK jB.drewI sK.drewI sK.new sK.alloc sK.alloc2
def aGh{C:fA->Prop}{w:fA}{O:Nat}{q r s u v x y z A l m n o p a b c d e f g B i:jA}{t:kA}(h:jB w O #[q,r,s,u,v,x,y,z,A,l,m,n,o,p] t)
(k:∀j,jB j O #[a,b,c,d,e,f,g,B,i,l,m,n,o,p] t->fB (·=O) w j->C j):C (((((((((w.setCell (eB O 0) a).setCell (eB O 1) b).setCell (eB O 2) c).setCell (eB O 3) d).setCell (eB O 4) e).setCell (eB O 5) f).setCell (eB O 6) g).setCell (eB O 7) B).setCell (eB O 8) i):=
 k _ (by have:=(((((((((h.set 0 a).set 1 b).set 2 c).set 3 d).set 4 e).set 5 f).set 6 g).set 7 B).set 8 i);simpa using this) ((((((((((fB.refl (·=O) w).setCell (Ca rfl) 0 a).setCell (Ca rfl) 1 b).setCell (Ca rfl) 2 c).setCell (Ca rfl) 3 d).setCell (Ca rfl) 4 e).setCell (Ca rfl) 5 f).setCell (Ca rfl) 6 g).setCell (Ca rfl) 7 B).setCell (Ca rfl) 8 i)
def wJ.disk{w:fA}{A F:Nat->Prop}{a b a2:nC}{N M:sC}(h:wJ w A a b N)(i:mJ w F a2 M.d.fs)(j:M.ts=N.ts)(g:∀x,F x->¬A x):wJ w (λx=>A x\/F x) a2 b M:=by
 obtain⟨k,T,l,f,m,e,n⟩:=h.parts;exact⟨F,T,i,by rw[j];exact f,λx c=>La c,λx c=>Ca (e x c),λx c h=>g x c (e x h)⟩
def np(c:lC)(a b:nC)(s r:Nat)(N:sC)(w:fA)(h:aMp w a b N)(Z:nJ w):
 iA prog 156 #[uE c,uA (gC a s b r N)] w λe A=>bl (DJ c N) w e A:=by
 have i:=h.bulk;have d:=dB (λW=>tT c W);have k:cB (∀W,xB w W->iA prog 21 #[uA (gC a s b r N)] W λe A=>∃a s b r,e=vA (uA (gC a s b r N))/\wJ A (λx=>W.1.size<=x/\x<A.1.size) a b N/\xB W A):=λW U=>eW a b s r N W (h.files.z U) h.fit.len (h.tens.z U) (by omega) (dP (by omega));have l:cB (∀W a s b r,cF 221 #[uA (gC a s b r N)] W (sA (bf N))):=λW a s b r=>kY a b s r N W;obtain⟨o,_,_,J⟩:=rr h.bulk;have B:=dB (λW b' cb'(U:aD W b' N.ts)=>eh N.lsn N.now b' cb' N.ts W U o (by omega) J);have HLG:=dB (λW=>VA N.l W);have HDV:=dB (λW S u(U:uB W S N.d.fs)=>pU S u N.d.fs N.d.c N.d.k N.d.cr N.d.fl N.d.dn W U h.fit.H (by have:=h.fit.len;unfold maxLen;omega) h.fit.sum);have G:=dB (λW S u(U:uB W S N.d.fs)=>IP S u N.d.fs N.d.c N.d.k N.d.cr N.d.fl N.d.dn W U h.fit.len);have z:cB (∀W a s b r S u K L,cF 223 #[uA (gC a s b r N),uA #[qA S (zA K.fs) u,aB K.c,aB K.k,aB K.cr,aB K.fl,sA K.dn],uA #[aB L.first,aB L.last,aB L.size]] W (uA (gC S u b r ⟨K,L,N.now,N.ts,N.lsn,eA,!K.dn⟩))):=λW a s b r S u K L=>OH a b S s r u N K L W;have m:=dB (λh=>aKj (c:=c) (N:=N) h);have I:=dB (λh=>aMy (c:=c) (N:=N) h);have Y:=dB Z;clear h Z i o J;unfold uE at *;generalize DJ c N=V at *;generalize yN N.lsn N.now N.ts=tx at *;have o:=cL;go_enter func156,ntmps156;go_wp2_with fail;apply jC (d.o _);intro w1 i;have P:=dB ((NP.new (w:=w) (c:=c) (cs:=gC a s b r N)).z i);clear i d;have o:=P.o.cells rfl;cases hc:lG c with
 |false=>
  have E:=dB (m.o hc);go_wp2;exact oN (H:=0) (ca:=0) (cb:=0) rfl rfl rfl rfl P.o E.o ⟨⟨λ_=>False,λ_=>False,Ca rfl,Ca rfl,λ_ h=>h.elim,λ_ h=>h.elim,λ_ h=>h.elim⟩⟩ (Oa _)
 |true=>
  replace I:=dB (I.o hc);have rN:=jF a s b r N 42;have fN:=rE a s b r N;go_wp2_with fail;refine(k.o _ P.o.B).mono ?_;rintro e w2 ⟨X,c2,J,O,rfl,j,i⟩;have d:=P.o.lt;replace P:=dB (P.o.z i);replace j:=dB j;clear i rN fN o k m hc;have o:=P.o.cells rfl;go_upto_region 4 with fail;refine kU (C:=λW=>Code.wp prog _ _ _ W) P.o.N ?_;intro d k d;replace P:=dB (P.o.put k d);replace j:=dB ((j.o.turned d (λx p _ e=>by omega)).mono (A':=λx=>w.1.size+1+1<x/\x<w2.1.size) (λx p=>by omega));have y:=d.size;clear k d o;have o:=P.o.cells rfl;have rN:=jF X c2 J O N 42;have fN:=rE X c2 J O N;go_wp2_with fail;apply jC (l.o _ _ _ _ _);intro w4 i;replace P:=dB (P.o.z i);replace j:=dB (j.o.z i);replace y:=Ua y i.size;clear i o l;have o:=P.o.cells rfl;obtain⟨hu,E⟩|⟨hu,⟨hl,E⟩|⟨hl,⟨h9,d,E⟩|⟨h9,d,⟨rfl,E⟩|⟨Z,E⟩⟩⟩⟩:=I.o
  rotate_left 4
  .replace E:=dB E;rw[hu];clear I hu;have m:N.l.last<999999:=by have:=aDr hl;omega
   clear h9;go_wp2_with fail;apply jC (B.o _ _ _ j.o.tens);intro w5 i;replace P:=dB (P.o.z i);replace j:=dB (j.o.z i);replace y:=Ua y i.size;clear i o;have o:=P.o.cells rfl;go_wp2_with fail;apply jC (HLG.o _);intro w6 i;replace P:=dB (P.o.z i);replace j:=dB (j.o.z i);replace y:=Ua y i.size;clear i o;have o:=P.o.cells rfl;rw[hl];go_wp2_with fail;apply jC (HDV.o _ _ _ j.o.files);intro k i;replace P:=dB (P.o.z i);replace j:=dB (j.o.z i);replace y:=Ua y i.size;clear i o;have o:=P.o.cells rfl;cases hdv:wE N.d.fs N.d.c N.d.k N.d.cr N.d.fl with
   |false=>
    have E2:=dB (show V=(⟨⟨[],0,0,0,0,dA⟩,N.l,N.now,N.ts,N.lsn,eA,eA⟩,6) by rw[E.o,aIp hdv];rfl);replace z:=dB (λW=>z.o W X c2 J O aA 0 ⟨[],0,0,0,0,dA⟩ N.l);clear hdv;go_wp2_with fail;apply jC (z.o _);intro q i;replace P:=dB (P.o.z i);replace j:=dB (j.o.z i);replace y:=Ua y i.size;clear i o;have o:=P.o.cells rfl;go_wp2;exact oN rfl rfl rfl rfl P.o E2.o ((j.o.disk (M:=⟨⟨[],0,0,0,0,dA⟩,N.l,N.now,N.ts,N.lsn,eA,eA⟩) (a2:=aA) (F:=λ_=>False) (Ca rfl) rfl (λ_ h=>h.elim)).mono λx p=>p.resolve_right id) y
   |true=>
    have Q:=dB (λA(i:xB k A)=>(P.o.z i).N);have Z:=dB (λA(i:xB k A)=>j.o.files.z i);go_wp2_with fail;go_region_held3 (λA=>jB A (w.1.size+1) (gC X c2 J O N) 42)
     (first|with_reducible exact Q.o _ l|with_reducible exact Q.o _ gD.drew|with_reducible exact Q.o _ (aC l bC))
     (first|(go_at_call 16;refine(G.o _ X c2 (Z.o _ gD.drew)).mono ?_;rintro e q ⟨D,v,rfl,hd8,hb8⟩;have l:xB k q:=aC gD.drew hb8))
    refine XD (C:=λW=>Exit.then _ _ _ _ W) ?_;intro h d G9;have WS:=dB (show jQ k h k.1.size q.1.size D N.d N.l from⟨Y.o.z P.o.B,aC l d,Ia _,l.size,G9,⟨v,hd8.z d⟩,hdv⟩);have h:=dB (NO tx WS.o hl m);obtain⟨⟨m,x1⟩,hR1⟩:∃R,vI N.d (zN N.d N.l tx)=R:=⟨_,rfl⟩
    have k:=dB (IW (zN N.d N.l tx) N.d);rw[hR1]at h k E;have h8:=l.size;clear hR1 hd8 hb8 d G9 WS Q Z G Y l o hdv;go_wp2_with fail;apply jC h.o;intro G Z;have ba:=Z.below;have d:=P.o.lt;replace P:=dB (P.o.z ba);have hA7:=dB (j.o.z ba);have l:=dB Z;have d:=ba.size;obtain⟨v1,d⟩:=Z.drive;obtain⟨a1,c1,rfl,Y⟩:=qH d.row;have FA:=dB (Y.toA (Ia _));have HU:=dB (λW(U:xB G W)=>eU D 146 a1 (zA m.fs) c1 m.c m.k m.cr m.fl m.dn W (d.blk.z U));clear ba Z d Y h j;by_cases p:x1=0
    .subst p;simp only[nH,ckL,Td]at l |-
     have E2:=dB (show V=(⟨m,⟨N.l.last+1,N.l.last+1,0⟩,N.now,N.ts,N.lsn,N.deg,N.up⟩,0) by rw[E.o];rfl);have Q:=dB (λn(p:fB (·=w.1.size+1) G n)=>show yC n q.1.size 0 (.pointer (vB D))/\yC n q.1.size 1 (aB (N.l.last+1))/\yC n q.1.size 2 (aB (N.l.last+1))/\yC n q.1.size 3 (aB 0) from(p.blk l.o.wr (by omega)).c4);have o:=l.o.wr.c4;go_wp2_with fail;go_region_held3 (λn=>n.cell? (eB q.1.size 0)=cA (.pointer (vB D))/\n.cell? (eB q.1.size 1)=cA (aB (N.l.last+1))/\n.cell? (eB q.1.size 2)=cA (aB (N.l.last+1))/\n.cell? (eB q.1.size 3)=cA (aB 0))
      ((refine Q.o _ ?_;first|with_reducible exact h|with_reducible exact fB.drew (fB.refl _ _)|with_reducible exact f|with_reducible exact g))
      (first|(go_at_call 18;apply jC (HU.o _ gD.drew);intro Z Y;have T:xB G Z:=aC gD.drew Y;have h:fB (·=w.1.size+1) G Z:=fB.of T;have f:=((((((h.setCell (Ca rfl) 0 (qA a1 (zA m.fs) c1)).setCell (Ca rfl) 1 (aB m.c)).setCell (Ca rfl) 2 (aB m.k)).setCell (Ca rfl) 3 (aB m.cr)).setCell (Ca rfl) 4 (aB m.fl)).setCell (Ca rfl) 5 (sA m.dn));have g:=(((f.setCell (Ca rfl) 6 (aB (N.l.last+1))).setCell (Ca rfl) 7 (aB (N.l.last+1))).setCell (Ca rfl) 8 (aB 0));have PB:=dB (P.o.z T).N;have d:=jB.n14 PB.o;have ff:=PB.o.frees))
     clear d ff f g h Q HU o Y;refine aGh (C:=λW=>Exit.then _ _ _ _ W) PB.o ?_;intro wq PQ d;have hzb:=T.size;have hzq:=d.size;have NQ:=dB ((((hA7.o.z T).turned d (λx p _ e=>by omega)).disk (M:=⟨m,⟨N.l.last+1,N.l.last+1,0⟩,N.now,N.ts,N.lsn,N.deg,N.up⟩) ((FA.o.z T).turned d (λx p _ e=>by omega)) rfl (λx p e=>by omega)).mono (A':=λx=>w.1.size+1+1<x/\x<G.1.size) (λx p=>by omega));replace P:=dB ((P.o.z T).put (show jB wq _ (gC a1 c1 J O ⟨m,⟨N.l.last+1,N.l.last+1,0⟩,N.now,N.ts,N.lsn,N.deg,N.up⟩) _ from PQ) d);have o:=P.o.cells rfl;clear PQ d PB T rN fN;have d:=jF a1 c1 J O ⟨m,⟨N.l.last+1,N.l.last+1,0⟩,N.now,N.ts,N.lsn,N.deg,N.up⟩ 42;have fM:=rE a1 c1 J O ⟨m,⟨N.l.last+1,N.l.last+1,0⟩,N.now,N.ts,N.lsn,N.deg,N.up⟩;dsimp only at d fM;go_wp2;exact oN rfl rfl rfl rfl P.o E2.o NQ.o (by omega)
    have E2:=dB (show V=(⟨m,N.l,N.now,N.ts,N.lsn,eA,!m.dn⟩,(x1:Int)) by rw[E.o];exact Ja p);obtain⟨t,ht⟩:=gK p k.o;rw[show ckL N.l (m,x1).2=N.l from Ja p]at l;have d:=dB (λW=>ct x1 k.o W);rw[ht]at d |-
    clear ht;have Q:=dB (λn(p:fB (·=w.1.size+1+1) G n)=>show jB n (w.1.size+1) (gC X c2 J O N) 42/\yC n q.1.size 0 (.pointer (vB D))/\yC n q.1.size 1 (aB N.l.first)/\yC n q.1.size 2 (aB N.l.last)/\yC n q.1.size 3 (aB N.l.size) from⟨p.blk P.o.N (by omega),(p.blk l.o.wr (by omega)).c4⟩);replace z:=dB (λW=>z.o W X c2 J O a1 c1 m N.l);have o:=l.o.wr.c4;go_wp2_with fail;go_region_held3 (λn=>jB n (w.1.size+1) (gC X c2 J O N) 42/\n.cell? (eB q.1.size 0)=cA (.pointer (vB D))/\n.cell? (eB q.1.size 1)=cA (aB N.l.first)/\n.cell? (eB q.1.size 2)=cA (aB N.l.last)/\n.cell? (eB q.1.size 3)=cA (aB N.l.size))
     ((refine Q.o _ ?_;first|with_reducible exact l|with_reducible exact h|with_reducible exact fB.drew (fB.refl _ _)|with_reducible exact tq))
     (first
     |(go_at_call 18;apply jC (HU.o _ gD.drew);intro Z Y;have T:xB G Z:=aC gD.drew Y;have h:fB (·=w.1.size+1+1) G Z:=fB.of T)
     |(go_at_call 223;apply jC (z.o _);intro W Y;have k:xB G W:=aC T Y;have l:fB (·=w.1.size+1+1) G W:=fB.of k;have tq:=l.trans' (uG W (w.1.size+1+1) (gC a1 c1 J O ⟨m,N.l,N.now,N.ts,N.lsn,eA,!m.dn⟩));have J:=(P.o.z k).R.box rfl)
     |(go_at_call 127;apply kO (d.o _)))
    have J:=k.size;have O:=dB (((hA7.o.z k).disk (M:=⟨m,N.l,N.now,N.ts,N.lsn,eA,!m.dn⟩) (FA.o.z k) rfl (λx p e=>by omega)).mono (A':=λx=>w.1.size+1+1<x/\x<G.1.size) (λx p=>by omega));clear tq h l Q HU z d;go_wp2;exact oN rfl rfl rfl rfl (P.o.z k) E2.o O.o J
  all_goals
   replace E:=dB E;rw[hu];clear I hu;(try clear h9);go_wp2_with(first
    |(go_at_call 188;apply jC (B.o _ _ _ j.o.tens);intro w5 i;replace P:=dB (P.o.z i);replace j:=dB (j.o.z i);replace y:=Ua y i.size;clear i o;have o:=P.o.cells rfl)
    |(go_at_call 222;apply jC (HLG.o _);intro w6 i;replace P:=dB (P.o.z i);replace j:=dB (j.o.z i);replace y:=Ua y i.size;clear i o;have o:=P.o.cells rfl;rw[hl]))
   exact oN rfl rfl rfl rfl P.o E.o j.o y
end
section
open Go.Maps
def mr:ByteArray.empty.toList.isEmpty=eA:=by simp
def vb(b:List cC):(wB b).2.1=0\/40<=(wB b).2.1:=by
 have d:∀(l:List cC)(i c j:Nat),fD l i=cA (c,j)->40<=c:=by
  intro l;induction l with
  |nil=>intro i c j h;cases h
  |cons x r e=>
   intro i c j h;rw[fD]at h;split at h;exact e _ _ _ h
   cases h
   rename_i a;unfold xQ fP SA at a |-
   revert a;repeat' split
   all_goals simp
 unfold wB;split;simp;split
 .rename_i h;exact La (d _ _ _ _ h)
 split;simp;split<;>simp
def aBl{a:List cC}(h:(wB a).2.1=0):zA (wB a).1<=16:=by
 have:=rZ (ls:=a);by_cases b:16<zA a
 .unfold wB at h;rw[Ma b]at h;cases h
 omega
def aFy{c:lC}{a:Int}{b:List gB}{d k:pB}(h:(fJ c a b d k).2≠1/\(fJ c a b d k).2≠2):(fJ c a b d k).1=b:=by
 unfold fJ at h |-
 revert h;repeat' split
 all_goals simp
def aHh{c:lC}{a:Int}{b:List gB}{te:pB}{x:oF}(h:iC c a b=eA):
 (wB x.B).2.1≠0/\gH c a b te x=((wB x.B).2.1,b,lA)\/(wB x.B).2.1=0/\(aZ x.bits=eA/\gH c a b te x=(6,b,lA)\/aZ x.bits=dA/\(gH c a b te x).1=(fJ c a b te (aI (wB x.B).1)).2/\(gH c a b te x).2.1=(fJ c a b te (aI (wB x.B).1)).1/\((gH c a b te x).2.2.toList.isEmpty=dA->aI (wB x.B).1=(gH c a b te x).2.2)):=by
 unfold gH;by_cases d:(wB x.B).2.1=0
 .refine La ⟨d,?_⟩;rw[Ja (by simp[d]),(du d).1,nZ h];cases aZ x.bits
  .refine La ⟨rfl,?_⟩;rw[Ja (by simp)];dsimp only;split
   .exact ⟨rfl,rfl,λ_=>rfl⟩
   rename_i f;exact⟨rfl,(aFy ⟨λe=>f (Ca e),λe=>f (La e)⟩).symm,λh=>by simp at h⟩
  exact Ca ⟨rfl,Ma rfl⟩
 exact Ca ⟨d,Ma d⟩
def aHg{c:lC}{now:Int}{ts:List gB}{te:pB}{x:oF}:((gH c now ts te x).1=1\/(gH c now ts te x).1=2)/\(gH c now ts te x).2.2.toList.isEmpty=dA\/¬((gH c now ts te x).1=1\/(gH c now ts te x).1=2)/\(gH c now ts te x).2.2.toList.isEmpty=eA:=by
 have:=vb x.B;unfold gH;by_cases b:(wB x.B).2.1=0
 .rw[Ja (by simp[b])];split
  .exact La ⟨by simp,mr⟩
  split
  .rename_i a;refine Ca ⟨a,?_⟩;rw[(du b).1];exact rV.2 λe=>by have:=Kd ByteArray.size e;rw[aI,Ka,nB]at this;simp at this
  rename_i a;exact La ⟨a,mr⟩
 rw[Ma b];exact La ⟨by dsimp only;omega,mr⟩
def xt{D l m:Nat}{r:eG}{o a b:nC}{G ca cb:Nat}{c:lC}{N:sC}{k:Int}{n:List gB}{M:Nat}{B:Nat->Prop}{w:fA}(x:oF)(E:nC)(F:Nat)
(h:jB w D (LO r o G c a ca b cb N l) 84)(H:lE w B l m c k n M)(G:∀g,w.1.size<=g->B g)(O:qD w E x.B)(C:zA x.B<=F)(I:kH w)(hn:r.T.size<=1048576)(hx:tJ x<=300000)(o:WU x.bits)(s:iC c k n=eA)(J:zA n+eC n<=1900000)(hM:1<=M)(z:M<=1000000000):
 iA prog 151 #[.pointer (vB D),uA #[qA E (zA x.B) F,aB x.bits]] w λe w'=>∃K,e=vA (yA #[aB ((gH c k n r.T x).1:Nat),pA K])/\((gH c k n r.T x).2.2.toList.isEmpty=dA->K=(gH c k n r.T x).2.2)/\lE w' B l m c k (gH c k n r.T x).2.1 (M+1)/\fB B w w':=by
 have L:tJ x=zA x.B+aE x.B:=rfl;have q:WR x.B:=λi o=>by have:=oi x.B i o;exact⟨by omega,by omega⟩
 have A:WR (wB x.B).1:=λi o=>by
  obtain⟨j,W,e⟩:=Ib (TU _ (Gb o));rw[<-e];exact q j W
 have hz:(aI (wB x.B).1).size<=1048576:=by have:=BP x.B;have:=rZ (ls:=x.B);rw[aI,Ka,nB,eQ];omega
 have HV:=dB (aHh (te:=r.T) (x:=x) s);have U:=dB (λW(p:xB w W)=>AX E F x.B W (O.z p) q (by omega) C (I.z p));have HN:=dB (λW=>YO x.bits W o.1 o.2);have Y:=dB (λW Z k3(h:qD W Z (wB x.B).1)(hq:(wB x.B).2.1=0)=>xx Z k3 (wB x.B).1 W h A (aBl hq));obtain⟨_,_,_,_,ht⟩:=bG s;have s1:∀t∈n,zA t.Z<=1000000000:=λt Q=>by
  obtain⟨i,o,rfl⟩:=Ib Q;have:=fX n i o;unfold fF at this;omega
 have T:=dB (λW(p:xB w W)=>PL l m r.T (aI (wB x.B).1) c k B n M W (H.z p) (λg m=>G g (by have:=p.size;omega)) (I.z p) (by omega) (by omega) hM z s1 (λt Q y m=>(AH (aK (kJ ht t Q)).2.2.1 y m).2.2) (by omega));have Z:=dB (λW(p:xB w W)=>(H.z p).mono (Gf M));have m:=dB h;clear h H G O C I hn hx o s J hM z L q A hz s1 ht;generalize gH c k n r.T x=V at *;generalize aI (wB x.B).1=o at *;generalize aZ x.bits=h at *;generalize x.bits=bi at *;generalize wB x.B=h at *;generalize x.B=R at *;obtain⟨G,G,G⟩:=h;obtain⟨v1,v2,v3⟩:=V;dsimp only at *;have P:=dB (zF w (xA #[qA E (zA R) F,aB bi] 93));have X:=dB (jB.new w #[qA E (zA R) F,aB bi] 93);go_enter func151,ntmps151;go_wp2_with fail;refine(U.o _ P.o).mono ?_;rintro e w1 ⟨a1,I,rfl,O,h,u⟩;have J:=dB h.B;replace X:=dB (X.o.z u);replace P:=dB (aC P.o u);clear u h U O;have h:=X.o.c2;obtain⟨G,v⟩|⟨rfl,⟨rfl,v⟩|⟨rfl,v,O,G⟩⟩:=HV.o
 .obtain ⟨rfl,rfl,rfl⟩:=v;clear HV Y T;go_wp2;go_ret2;exact⟨_,rfl,λ_=>rfl,Z.o _ P.o,fB.of P.o⟩
 .obtain ⟨rfl,rfl,rfl⟩:=v;go_wp2_with(first|(go_at_call 217;apply kO (HN.o _)));go_ret2;exact⟨_,rfl,λ_=>rfl,Z.o _ P.o,fB.of P.o⟩
 subst v O;replace G:=dB G;go_upto_region 7 with(first
  |(go_at_call 217;apply kO (HN.o _))
  |(go_at_call 214;refine jC (Y.o _ a1 I J.o (by first|rfl|trivial)) ?_;intro w2 u;replace P:=dB (aC P.o u);clear u h))
 have h:=jI (m.o.z P.o);go_region_law (refine iH (f:=218) (args:=#[.pointer (vB l),pA r.T,pA o]) rfl (by go_simp) ?_;apply jC (T.o _ P.o.drew);rintro h ⟨h,d⟩;have S:=dB (Vc h d);clear h d;refine⟨_,rfl,?_⟩)
 all_goals
  go_wp2;go_ret2;exact⟨_,rfl,G.o,S.o.1,(fB.of P.o.drew).trans' S.o.2⟩
end
section
variable {α:Type} {key:α→pB} {a:α} {l:List α}
theorem aGz(d:tC key l)(k:pB):xC key k (fC key a l)=if key a=k then cA a else xC key k l:=by
 induction l with
 |nil=>rw[fC,lF]
 |cons p r b=>
  have b:=b d.tail;rw[fC,lF];split
  .rename_i h;rw[lF,b];have:=mI h;grind
  split
  .rename_i h;rw[gE]at h;rw[lF];grind
  rw[lF,lF]
theorem aGy(j k:pB):xC key k (sE key j l)=if j=k then aA else xC key k l:=by
 split
 .rename_i h;subst h;exact qJ λx e=>(vP.1 e).2
 rename_i h;induction l with
 |nil=>rfl
 |cons p r d=>
  unfold sE at *;rw[List.filter_cons];split;rw[lF,lF,d]
  rename_i b;have b:key p=j:=toList_inj (by simpa using b);rw[lF,d,Ja (by rw[b];exact h)]
end
section
variable {c:lC} {now w:Int} {ts us:List gB} {A n:pB} {r:nE} {rs:List nE}
theorem GH(b:tC (·.N) ts)(t:gB):rB (fC (·.N) t ts) A=if t.N=A then t else rB ts A:=by
 unfold rB;rw[aGz b];split<;>rfl
theorem tw:rB (sE (·.N) n ts) A=if n=A then⟨A,-1,[],[]⟩ else rB ts A:=by
 unfold rB;rw[aGy];split<;>rfl
theorem ko(j:tC (·.N) ts):rB (kD w now ts) A=if xE (oE w now (rB ts A))=eA then⟨A,-1,[],[]⟩ else oE w now (rB ts A):=by
 induction ts with
 |nil=>rfl
 |cons p r f=>
  have f:=f j.tail;have m:=j.head;have e:kD w now (p::r)=if xE (oE w now p)=eA then kD w now r else oE w now p::kD w now r:=by
   unfold kD;rw[Fc,List.filter_cons];cases xE (oE w now p)<;>rfl
  have g:(oE w now p).N=p.N:=rfl;by_cases b:p.N=A
  .have k:xC (·.N) A (kD w now r)=aA:=qJ λq i=>by
    unfold kD at i;obtain⟨x,o,rfl⟩:=Md.1 (De.1 i).1;have:=mI (m x o);rw[b]at this;exact λh=>this h.symm
   have d:rB (p::r) A=p:=by unfold rB;rw[lF,Ma b];rfl
   rw[d,e];split;unfold rB;rw[k];rfl;unfold rB;rw[lF,Ma (g.trans b)];rfl
  .have d:rB (p::r) A=rB r A:=by unfold rB;rw[lF,Ja b]
   rw[d,e,<-f];split;rfl;unfold rB;rw[lF,Ja (by rw[g];exact b)]
theorem aJk(h:iC c now ts=eA)(b:iC c now us=eA)(e:rB ts A=rB us A)(l:zA ts<10000)(i:zA us<10000)(k:pB):(fJ c now ts A k).2=(fJ c now us A k).2/\rB (fJ c now ts A k).1 A=rB (fJ c now us A k).1 A:=by
 have f:=gL (bG h).2.2.2.2;have g:=gL (bG b).2.2.2.2;have d:(sI (rB us A) k now).N=A:=gF;unfold fJ;simp only[e,show ¬10000<=zA ts by omega,show ¬10000<=zA us by omega,decide_false,Wg,Bd,Bf];repeat' split
 all_goals simp only[e,GH f,GH g,d,Td,and_self]
theorem aFg(h:iC c now ts=eA)(b:iC c now us=eA)(e:rB ts A=rB us A)(l:zA ts<10000)(k:zA us<10000)(d:r.K=2\/r.T=A):(vD c now ts r).1=(vD c now us r).1/\(vD c now ts r).2.2=(vD c now us r).2.2/\rB (vD c now ts r).2.1 A=rB (vD c now us r).2.1 A:=by
 have f:=gL (bG h).2.2.2.2;have g:=gL (bG b).2.2.2.2;unfold vD;split;obtain rfl:=d.resolve_left (by omega);obtain⟨i,j⟩:=aJk h b e l k r.X;exact⟨rfl,by simp only[i],j⟩;split
 .unfold xI;split
  .exact ⟨rfl,rfl,e⟩
  exact ⟨rfl,rfl,by simp only[ko f,ko g,e]⟩
 split
 .obtain rfl:=d.resolve_left (by omega);have m:(pH (rB us r.T) r.X r.U).N=r.T:=by rw[sM,gF]
  unfold bQ;simp only[e,show ¬10000<=zA ts by omega,show ¬10000<=zA us by omega,decide_false,Wg,Bd,Cf];repeat' split
  all_goals simp only[e,GH f,GH g,tw,m,Td,and_self]
 exact ⟨rfl,rfl,e⟩
theorem aMg(h:iC c now ts=eA)(g:r.K≠2)(b:r.T≠A):(vD c now ts r).1=now/\rB (vD c now ts r).2.1 A=rB ts A:=by
 have f:=gL (bG h).2.2.2.2;have d:∀k,(sI (rB ts r.T) k now).N=r.T:=λ_=>gF;have e:(pH (rB ts r.T) r.X r.U).N=r.T:=by rw[sM,gF]
 unfold vD fJ bQ;repeat' split
 all_goals first|contradiction|exact⟨rfl,rfl⟩|simp only[GH f,tw,d,e,b,Cf,and_self]
theorem aDa{α:Type}{key:α->pB}{a:α}{l:List α}:zA (fC key a l)<=zA l+1:=by induction l<;>grind [fC]
theorem RE:zA (vD c now ts r).2.1<=zA ts+1:=by
 have b:∀w n,zA (kD w n ts)<=zA ts:=λw n=>by
  unfold kD;exact Ua (Pc _ _) (by rw[Xa];exact Ia _)
 have d:∀k,zA (sE (·.N) k ts)<=zA ts:=λk=>Pc _ _;have e:∀t:gB,zA (fC (·.N) t ts)<=zA ts+1:=λt=>aDa;unfold vD fJ xI bQ;repeat' split
 all_goals first|exact e _|exact Nat.le_succ_of_le (b _ _)|exact Nat.le_succ_of_le (d _)|exact Gf _
theorem aIq(rs:List nE):∀{now:Int}{ts:List gB},zA (bF c now ts rs).2.1<=zA ts+zA rs:=by
 induction rs with
 |nil=>intro _ _;exact Ia _
 |cons r rs b=>
  intro now ts;have d:=@RE c now ts r;have e:=@b (vD c now ts r).1 (vD c now ts r).2.1;rw[bF,Zb];split;omega;show zA (vD c now ts r).2.1<=_;omega
theorem aNo(rs:List nE):∀{now:Int}{ts us:List gB},iC c now ts=eA->iC c now us=eA->rB ts A=rB us A->zA ts+zA rs<10000->zA us+zA rs<10000->(∀r∈rs,r.K=2\/r.T=A)->
 (bF c now ts rs).1=(bF c now us rs).1/\(bF c now ts rs).2.2=(bF c now us rs).2.2/\rB (bF c now ts rs).2.1 A=rB (bF c now us rs).2.1 A:=by
 induction rs with
 |nil=>intro _ _ _ _ _ e _ _ _;exact⟨rfl,rfl,e⟩
 |cons r rs o=>
  intro now ts us h b e l q d;rw[Zb]at l q;obtain⟨i,j,k⟩:=aFg h b e (by omega) (by omega) (d r (Kc ..));have s:=@RE c now ts r;have t:=@RE c now us r;rw[bF,bF,<-j];split
  .rename_i f;have p:=gT h f;have g:=gT b (j ▸ f);rw[<-i]at g |-
   exact o p g k (by omega) (by omega) λx m=>d x (Sb _ m)
  exact ⟨i,rfl,k⟩
theorem aNp(rs:List nE):∀{ts:List gB},iC c now ts=eA->(∀r∈rs,r.K≠2/\r.T≠A)->(bF c now ts rs).1=now/\rB (bF c now ts rs).2.1 A=rB ts A:=by
 induction rs with
 |nil=>intro _ _ _;exact⟨rfl,rfl⟩
 |cons r rs j=>
  intro ts h b;obtain⟨e,f⟩:=aMg h (b r (Kc ..)).1 (b r (Kc ..)).2;rw[bF];split
  .rename_i g;have d:=gT h g;rw[e]at d |-
   obtain⟨k,m⟩:=j d λx i=>b x (Sb _ i);exact⟨k,m.trans f⟩
  exact ⟨e,f⟩
theorem aNf(h:iC c now ts=eA)(b:iC c now us=eA)(e:rB ts A=rB us A)(l:zA ts<10000)(g:zA us<10000)(x:oF):(gH c now ts A x).1=(gH c now us A x).1/\(gH c now ts A x).2.2=(gH c now us A x).2.2/\rB (gH c now ts A x).2.1 A=rB (gH c now us A x).2.1 A:=by
 obtain⟨d,f⟩:=aJk h b e l g (uI (wB x.B).1);unfold gH;rw[nZ h,nZ b,d];repeat' split
 all_goals exact⟨rfl,rfl,by first|exact e|exact f⟩
theorem rt(h:iC c now ts=eA)(x:oF):zA (gH c now ts A x).2.1<=zA ts+1:=by
 unfold gH;rw[nZ h];have b:∀t:gB,zA (fC (·.N) t ts)<=zA ts+1:=λt=>aDa;unfold fJ;repeat' split
 all_goals first|exact b _|exact Gf _
theorem aOy(b:List oF):∀{S U:List gB×pB×List nE},S.2=U.2->iC c now S.1=eA->iC c now U.1=eA->rB S.1 A=rB U.1 A->zA S.1+zA b<10000->zA U.1+zA b<10000->(b.foldl (wrS c now A) S).2=(b.foldl (wrS c now A) U).2:=by
 induction b with
 |nil=>intro _ _ e _ _ _ _ _;exact e
 |cons x b g=>
  intro S U e h d f l m;rw[Zb]at l m;obtain⟨i,j,k⟩:=aNf h d f (by omega) (by omega) x;have o:=rt (A:=A) h x;have p:=rt (A:=A) d x;rw[Og,Og];exact g (by simp only[wrS,e,i,j]) (PC h A x).1 (PC d A x).1 k (by show(gH c now S.1 A x).2.1.length+_<_;omega) (by show(gH c now U.1 A x).2.1.length+_<_;omega)
theorem aOz{te:pB}(d:List oF):∀{S:List gB×pB×List nE},(∀r∈S.2.2,r.T=te)->∀r∈(d.foldl (wrS c now te) S).2.2,r.T=te:=by
 induction d with
 |nil=>intro _ h;exact h
 |cons x d e=>
  intro S h;rw[Og];refine e λr b=>?_;rcases Ee.1 b with b|b
  .exact h r b
  unfold nsn at b;split at b
  .cases b
  rw[Uf.1 b]
end
structure GM(K:xD)(p r:Nat):Prop where
 v:wE K.fs K.c K.k K.cr K.fl=eA
 c:K.c=1000000
 cr:K.cr=0
 fl:K.fl=0
 dn:K.dn=dA
 k:K.k≤p
 l:zA K.fs≤p
 m:pC K.fs≤r
def LW(a:List iB)(x:pB)(n:Nat):Prop:=∃f∈a,f.N=x/\f.data.size=n
def ui(a:List iB)(x:pB):Prop:=∃n,LW a x n
def lh(F a:List iB)(x:pB)(n:Nat):Prop:=∀y j,LW F y j ↔ if y=x then j=n else LW a y j
def se{f:iB}:∀{a:List iB}{g:iB},g∈nG a f ↔ g=f\/g∈a
 |[],g=>by simp[nG]
 |x::r,g=>by
  have:=@se f r g;rw[nG];split<;>simp only[Lb,this]<;>grind
def CE{b:List iB}{t y:pB}{j:Nat}:LW (vC b t) y j ↔ y≠t/\LW b y j:=by
 unfold LW vC;constructor;rintro ⟨f,a,rfl,h⟩;obtain⟨d,c⟩:=De.1 a;exact⟨λe=>by rw[e]at c;simp at c,f,d,rfl,h⟩;rintro ⟨g,f,a,rfl,h⟩;exact⟨f,De.2 ⟨a,by rw[yD g];rfl⟩,rfl,h⟩
def XZ{b:List iB}(g:iB):lh (yG b g) b g.N g.data.size:=by
 intro y j;have:LW (yG b g) y j ↔ (g.N=y/\g.data.size=j)\/LW (vC b g.N) y j:=by
  unfold LW yG;simp only[se];grind
 rw[this,CE];split
 .rename_i h;exact⟨λa=>by obtain a|a:=a;exact a.2.symm;exact absurd h a.1,λa=>Ca ⟨h.symm,a.symm⟩⟩
 rename_i h;exact⟨λa=>by obtain a|a:=a;exact absurd a.1.symm h;exact a.2,λa=>La ⟨h,a⟩⟩
def UQ{a:List iB}{x:pB}{n:Nat}(b:lT a)(h:LW a x n):∃c:dC x a<zA a,a[dC x a].N=x/\a[dC x a].data.size=n/\yH a x (dC x a)=eA:=by
 obtain⟨f,j,rfl,rfl⟩:=h;obtain⟨i,c,rfl⟩:=Ib j;cases hb:yH a a[i].N (dC a[i].N a) with
 |false=>exact absurd rfl (II b hb i c)
 |true=>
  obtain⟨g,d⟩:=wZ hb;have e:dC a[i].N a=i:=by
   rcases Nat.lt_trichotomy (dC a[i].N a) i with q|q|q
   .have:=b _ _ q c;rw[d,gG]at this;cases this
   .exact q
   have:=b _ _ q g;rw[d,gG]at this;cases this
  exact⟨g,d,by simp only[e],rfl⟩
def aCs{a:List iB}{x:pB}(h:¬ui a x):yH a x (dC x a)=dA:=by
 cases hb:yH a x (dC x a) with
 |false=>rfl
 |true=>
  obtain⟨c,b⟩:=wZ hb;exact absurd ⟨_,_,Gb c,b,rfl⟩ h
section
variable {K:xD} {k m n:Nat} {x z:pB} {op:oK} {F:List iB}
theorem GM.asc(h:GM K k m):lT K.fs:=eY (pJ h.v).1
theorem dw(h:GM K k m)(r:k<999)(b:AN op=eA)(i:jN K.fs K.c op=(0,F)){m':Nat}(p:pC F<=m')(s:zA F<=zA K.fs+1):∃a,cE K op=(a,0)/\GM a (k+1) m'/\a.fs=F:=by
 have e:wE (wI K.fs K.c K.k K.cr K.fl K.dn op).2.1 K.c (wI K.fs K.c K.k K.cr K.fl K.dn op).2.2.1 K.cr K.fl=eA:=BU h.v b;have j:=h.k;have o:=h.l;have g:jD K.k K.cr K.fl K.dn=(0,K.k+1,dA):=by
  unfold jD;rw[Ja (by rw[h.dn];decide),Ja (by omega),Ja (λq=>q.1 h.cr),Ja (λq=>q.1 h.fl)]
 have d:wI K.fs K.c K.k K.cr K.fl K.dn op=(0,F,K.k+1,dA):=by
  unfold wI;rw[g,Ma rfl,i]
 rw[d]at e;exact⟨⟨F,K.c,K.k+1,K.cr,K.fl,dA⟩,by rw[QZ h.v b,d],⟨e,h.c,h.cr,h.fl,rfl,by show K.k+1<=_;omega,by show zA F<=_;omega,p⟩,rfl⟩
theorem nj(h:GM K k m)(j:k<999)(o:cG x=eA)(p:¬ui K.fs x):∃a,cE K ⟨1,x,⟨#[]⟩,⟨#[]⟩,0⟩=(a,0)/\GM a (k+1) m/\lh a.fs K.fs x 0:=by
 have b:=aCs p;have s:=h.l;have i:jN K.fs K.c ⟨1,x,⟨#[]⟩,⟨#[]⟩,0⟩=(0,yG K.fs ⟨x,lA,0⟩):=by
  rw[wV (f:=⟨x,lA,0⟩) h.asc b];unfold jN;simp only[b];rw[Ma trivial,Ja (by decide),Ja (by omega)]
 have r:(dC x K.fs)<=zA K.fs:=(iJ x h.asc).1;obtain⟨a,d,e,g⟩:=dw h j (by simp[AN,yB,o]) i (m':=m) (by
  rw[wV (f:=⟨x,lA,0⟩) h.asc b,eX];exact h.m) (by
  rw[wV (f:=⟨x,lA,0⟩) h.asc b,cO _ _ _ r];exact Ia _)
 exact⟨a,d,e,by rw[g];exact XZ _⟩
theorem aCn(h:GM K k m)(b:LW K.fs x n)(g:iB)(c:g.N=x):lh (K.fs.set (dC x K.fs) g) K.fs x g.data.size/\pC (K.fs.set (dC x K.fs) g)+n=pC K.fs+g.data.size/\zA (K.fs.set (dC x K.fs) g)<=zA K.fs+1:=by
 obtain⟨a,d,rfl,e⟩:=UQ h.asc b;subst c;refine⟨?_,cM _ _ _ a,by rw[Pd];omega⟩;rw[<-GK h.asc a d];exact XZ _
theorem aCl(h:GM K k m)(l:k<999)(o:cG x=eA)(b:LW K.fs x n){t:pB}(y:m+t.size<=1000000):∃a,cE K ⟨2,x,⟨#[]⟩,t,0⟩=(a,0)/\GM a (k+1) (m+t.size)/\lh a.fs K.fs x (n+t.size):=by
 obtain⟨j,e,g,i⟩:=UQ h.asc b;obtain⟨d,p,r⟩:=aCn h b ⟨x,K.fs[dC x K.fs].data++t,K.fs[dC x K.fs].Y⟩ rfl;have A:=h.m;have w:=h.c;simp only[Ka,g]at d p;obtain⟨a,s,u,v⟩:=dw (op:=⟨2,x,⟨#[]⟩,t,0⟩) h l (by simp[AN,yB,o]) (by
  unfold jN;simp only[Va j,i,e];rw[Ja (by decide),Ja (by decide),Ma trivial,Ja (by omega)]) (m':=m+t.size) (by omega) r
 exact⟨a,s,u,by rw[v];exact d⟩
theorem aCo(h:GM K k m)(j:k<999)(l:cG x=eA)(c:LW K.fs x n):∃a,cE K ⟨3,x,⟨#[]⟩,⟨#[]⟩,0⟩=(a,0)/\GM a (k+1) m/\lh a.fs K.fs x n:=by
 obtain⟨i,e,b,g⟩:=UQ h.asc c;obtain⟨d,o,p⟩:=aCn h c ⟨x,K.fs[dC x K.fs].data,(n:Nat)⟩ rfl;have u:=h.m;simp only[b]at d o;obtain⟨a,r,s,t⟩:=dw (op:=⟨3,x,⟨#[]⟩,⟨#[]⟩,0⟩) h j (by simp[AN,yB,l]) (by
  unfold jN;simp only[Va i,g,e,b];rw[Ja (by decide),Ja (by decide),Ja (by decide),Ma trivial]) (m':=m) (by omega) p
 exact⟨a,r,s,by rw[t];exact d⟩
theorem aCm(h:GM K k m)(g:LW K.fs x n):K.fs.eraseIdx (dC x K.fs)=vC K.fs x/\pC (vC K.fs x)+n=pC K.fs/\zA (vC K.fs x)<=zA K.fs:=by
 obtain⟨a,c,d,i⟩:=UQ h.asc g;have e:K.fs.eraseIdx (dC x K.fs)=vC K.fs x:=by
  have:=qQ h.asc a;rw[c]at this;exact this.symm
 have b:=mR K.fs _ a;rw[e,d]at b;exact⟨e,b,Pc _ _⟩
theorem aKq(h:GM K k m)(o:k<999)(p:cG x=eA)(s:cG z=eA)(d:LW K.fs x n):∃a,cE K ⟨5,x,z,⟨#[]⟩,0⟩=(a,0)/\GM a (k+1) m/\∀y j,LW a.fs y j ↔ if y=z then j=n else y≠x/\LW K.fs y j:=by
 obtain⟨i,B,c,e⟩:=UQ h.asc d;obtain⟨u,G,H⟩:=aCm h d;have E:=h.m;have C:=BK (λf=>!(f.N.toList==z.toList)) (vC K.fs x);have D:zA (vC (vC K.fs x) z)<=_:=Pc _ _;have b:∀(l:List iB)(f:iB),zA (nG l f)=zA l+1:=λl f=>by
  induction l with
  |nil=>rfl
  |cons g r t=>unfold nG;split<;>simp[t]
 obtain⟨a,v,w,A⟩:=dw (op:=⟨5,x,z,⟨#[]⟩,0⟩) (F:=yG (vC K.fs x) ⟨z,K.fs[dC x K.fs].data,K.fs[dC x K.fs].Y⟩) h o (by simp[AN,yB,p,s]) (by
  unfold jN;simp only[Va i,e,u];rw[Ja (by decide),Ja (by decide),Ja (by decide),Ja (by decide),Ja (by decide),Ma trivial]) (m':=m) (by
  rw[yG,GF];unfold vC at *;simp only[c];omega) (by
  rw[yG,b];dsimp only;omega)
 refine⟨a,v,w,λy j=>?_⟩;rw[A,XZ];dsimp only;rw[c,CE]
theorem aKp(h:GM K k m)(e:k<999)(g:cG x=eA)(b:ui K.fs x):∃a,cE K ⟨6,x,⟨#[]⟩,⟨#[]⟩,0⟩=(a,0)/\GM a (k+1) m/\∀y j,LW a.fs y j ↔ y≠x/\LW K.fs y j:=by
 obtain⟨n,b⟩:=b;obtain⟨d,r,s,c⟩:=UQ h.asc b;obtain⟨i,u,v⟩:=aCm h b;have t:=h.m;obtain⟨a,l,o,p⟩:=dw (op:=⟨6,x,⟨#[]⟩,⟨#[]⟩,0⟩) (F:=vC K.fs x) h e (by simp[AN,yB,g]) (by
  unfold jN;simp only[Va d,c,i];rw[Ja (by decide),Ja (by decide),Ja (by decide),Ja (by decide),Ja (by decide),Ja (by decide)]) (m':=m) (by omega) (by omega)
 exact⟨a,l,o,λy j=>by rw[p,CE]⟩
end
def FX{i j:Int}(g:1<=i/\i<=90)(l:1<=j/\j<=90)(h:sH i=sH j):i=j:=by
 rw[ZL _ g.1 (by omega),ZL _ l.1 (by omega)]at h;have a:zX i.toNat 6=zX j.toNat 6:=by
  have:=Kd (λs:pB=>s.data.toList) h;simpa[SN]using this
 simp only[zX,List.cons.injEq,Cc]at a;obtain⟨-,-,-,-,d,e⟩:=a;have b:=Kd UInt8.toNat (UInt8.add_right_inj _ |>.1 d);have c:=Kd UInt8.toNat (UInt8.add_right_inj _ |>.1 e);simp at b c;omega
def IZ(i:Int):sH i≠vg/\sH i≠aS:=by
 unfold sH;split
 .have h:∀l:List UInt8,∀b:pB,b.data.toList.head?≠cA 119->(⟨(119::l).toArray⟩:pB)≠b:=λl b a e=>by subst e;exact a rfl
  exact⟨h _ _ (by decide),h _ _ (by decide)⟩
 exact ⟨by decide,by decide⟩
structure kz(K:xD)(L:jG)(q m:Nat):Prop where
 b:1≤L.first∧L.first≤L.last∧L.last≤q
 z:0≤L.size∧L.size≤m
 lo:∀i,L.first≤i→i≤L.last→ui K.fs (sH i)
 hi:∀x,ui K.fs x→x=vg∨∃i,L.first≤i∧i≤L.last∧x=sH i
section
variable {K:xD} {L:jG} {k m q n:Nat} {f:pB}
theorem FP{F a:List iB}{x y:pB}(h:lh F a x n):ui F y ↔ y=x\/ui a y:=by
 unfold ui;simp only[h _ _];by_cases e:y=x<;>simp[e]
theorem kz.ok(h:kz K L q m)(g:q<=80)(e:m<=1000000):bJ L=eA:=by
 obtain⟨a,c,d⟩:=h.b;have:=h.z;simp[bJ,yB];omega
theorem kz.put(h:kz K L q m){c:xD}{x:pB}{j:Nat}(d:lh c.fs K.fs x j)(l:ui K.fs x):kz c L q m:=
 ⟨h.b,h.z,λi e g=>(FP d).2 (La (h.lo i e g)),λy a=>h.hi y (by rcases(FP d).1 a with rfl|a;exact l;exact a)⟩
theorem rh(h:GM K k m)(l:kz K L q m)(B:q<=80)(A:k<990)(t:m+f.size<=1000000):∃a,mH K L f=(a,⟨L.first,L.last,L.size+f.size⟩,0)/\GM a (k+2) (m+f.size)/\kz a ⟨L.first,L.last,L.size+f.size⟩ q (m+f.size):=by
 obtain⟨w,j,y⟩:=l.b;have C:=l.z;have e:=wP L.last (by omega) (by omega);obtain⟨n,d⟩:=l.lo L.last j (Xd _);obtain⟨v,o,r,c⟩:=aCl h (by omega) e d t;obtain⟨i,p,s,u⟩:=aCo r (by omega) e ((c _ _).2 (by rw[Ma rfl]));have g:=(l.put c ⟨_,d⟩).put u ((FP c).2 (Ca rfl));refine⟨i,?_,s,⟨l.b,by dsimp only;omega,g.lo,g.hi⟩⟩;unfold mH bI jR;rw[o];dsimp only;rw[p];rfl
theorem aBc(h:GM K k m)(l:kz K L q m)(V:q<80)(T:k<980){p:pB}(M:1<=p.size/\p.size<=60000)(U:m+8+p.size<=1000000){d:Int}(N:yB d 1 1000000000=eA):∃j L',qE K L p d=(j,L',0)/\GM j (k+3) (m+8+p.size)/\kz j L' (q+1) (m+8+p.size):=by
 have w:=sT M;have G:dF p≠lA:=λe=>by rw[e]at w;simp at w;omega
 obtain⟨Q,R,S⟩:=l.b;have J:=l.z;have I:=l.ok (by omega) (by omega);rw[show m+8+p.size=m+(dF p).size by omega];unfold qE;rw[Ja (by simp[I,N]),Ja G];split
 .have s:¬ui K.fs (sH (L.last+1)):=λH=>by
   rcases l.hi _ H with e|⟨i,y,O,e⟩;exact (IZ _).1 e;have:=FX (by omega) (by omega) e;omega
  obtain⟨B,C,D,A⟩:=nj h (by omega) (wP _ (by omega) (by omega)) s;have P:kz B ⟨L.first,L.last+1,0⟩ (q+1) m:=⟨by dsimp only;omega,by dsimp only;omega,λi u E=>(FP A).2 (by
   dsimp only at u E;by_cases e:i=L.last+1
   .exact Ca (by rw[e])
   .exact La (l.lo i u (by omega))),λx t=>by
   rcases(FP A).1 t with rfl|t;exact La ⟨_,by dsimp only;omega,Xd _,rfl⟩;rcases l.hi x t with e|⟨i,y,O,e⟩;exact Ca e;exact La ⟨i,y,by dsimp only;omega,e⟩⟩
  obtain⟨o,r,a,g⟩:=rh (f:=dF p) D P (by omega) (by omega) (by omega);refine⟨o,_,?_,a,g⟩;unfold sG;rw[Ja (by omega),C];dsimp only;rw[Ja (by simp),r]
 .obtain ⟨o,r,a,g⟩:=rh (f:=dF p) h l (by omega) (by omega) (by omega);exact⟨o,_,r,⟨a.v,a.c,a.cr,a.fl,a.dn,by have:=a.k;omega,by have:=a.l;omega,a.m⟩,⟨by dsimp only;omega,g.z,g.lo,g.hi⟩⟩
theorem db(s:Int)(w:1<=s):∀(n:Nat),s+n<=90->∀{K:xD}{k:Nat},GM K k m->k+n<999->(∀i:Nat,i<n->ui K.fs (sH (s+i)))->∃c,vI K (uQ s n)=(c,0)/\GM c (k+n) m/\∀y j,LW c.fs y j ↔ (∀i:Nat,i<n->y≠sH (s+i))/\LW K.fs y j
 |0,_,K,_,h,_,_=>⟨K,rfl,h,λy j=>⟨λh=>⟨λi a=>absurd a (by omega),h⟩,λh=>h.2⟩⟩
 |n+1,E,K,k,h,D,l=>by
  obtain⟨C,g,t,o⟩:=db s w n (by omega) h (by omega) λi a=>l i (by omega);obtain⟨x,A⟩:=l n (by omega);obtain⟨p,r,u,B⟩:=aKp (x:=sH (s+n)) t (by omega) (wP _ (by omega) (by omega)) ⟨x,(o _ _).2 ⟨λi a e=>by have:=FX (by omega) (by omega) e;omega,A⟩⟩;refine⟨p,?_,u,λy j=>?_⟩
  .rw[BT,nV _ (by rw[g]),g];exact r
  rw[B,o];constructor
  .rintro ⟨b,d,v⟩;exact⟨λi a=>by
    by_cases e:i=n
    .rw[e];exact b
    exact d i (by omega),v⟩
  .rintro ⟨b,d⟩;exact⟨b n (by omega),λi a=>b i (by omega),d⟩
theorem ab{x:pB}{t:Nat}:∀{b:List iB},lT b->(∀f∈b,f.N=x/\f.data.size=t\/f.data.size=0)->pC b<=t
 |[],_,_=>Oa _
 |f::r,d,h=>by
  have p:=ab d.tail λg a=>h g (Sb _ a);rw[pC];rcases h f (Kc ..) with⟨e,l⟩|e
  .have o:pC r<=0:=ab (x:=x) d.tail λg a=>by
    rcases h g (Sb _ a) with⟨c,_⟩|c
    .obtain ⟨j,i,rfl⟩:=Ib a;have:=d.head j i;rw[e,c,gG]at this;cases this
    exact La c
   omega
  .omega
theorem aGl(h:GM K k m)(l:kz K L q m)(b:q<80)(b:k<850){t:pB}(b:m+t.size<=1000000):∃w,vI K (zN K L t)=(w,0)/\GM w (k+5+q) t.size/\kz w ⟨L.last+1,L.last+1,0⟩ (q+1) t.size:=by
 obtain⟨O,c,c⟩:=l.b;have s:¬ui K.fs aS:=λB=>by
  rcases l.hi _ B with e|⟨i,_,_,e⟩;exact absurd e (by decide);exact (IZ i).2 e.symm
 have C:¬ui K.fs (sH (L.last+1)):=λB=>by
  rcases l.hi _ B with e|⟨i,c,n,e⟩;exact (IZ _).1 e;have:=FX (by omega) (by omega) e;omega
 have u:cG aS=eA:=by decide
 have o:cG vg=eA:=by decide
 obtain⟨v,P,V,D⟩:=nj h (by omega) u s;obtain⟨v,Q,W,E⟩:=aCl V (by omega) u ((D _ _).2 (by rw[Ma rfl])) b;obtain⟨b,R,X,G⟩:=aCo W (by omega) u ((E _ _).2 (by rw[Ma rfl]));obtain⟨N,S,Y,J⟩:=aKq X (by omega) u o ((G _ _).2 (by rw[Ma rfl]));have a:∀y j,LW N.fs y j ↔ if y=vg then j=0+t.size else y≠aS/\LW K.fs y j:=λy j=>by
  rw[J,G,E,D];grind
 clear J G E D;obtain⟨b,T,Z,H⟩:=nj (x:=sH (L.last+1)) Y (by omega) (wP _ (by omega) (by omega)) (fun⟨j,o⟩=>by
  rw[a,Ja (IZ _).1]at o;exact C ⟨j,o.2⟩)
 have b:((L.last+1-L.first).toNat:Int)=L.last+1-L.first:=by omega
 obtain⟨I,U,p,M⟩:=db L.first O (L.last+1-L.first).toNat (by omega) Z (by omega) λi b=>by
  obtain⟨j,o⟩:=l.lo (L.first+i) (by omega) (by omega);refine⟨j,?_⟩;rw[H,Ja λe=>by have:=FX (by omega) (by omega) e;omega,a,Ja (IZ _).1];exact⟨(IZ _).2,o⟩
 have d:∀y j,LW I.fs y j->y=vg/\j=t.size\/y=sH (L.last+1)/\j=0:=λy j o=>by
  rw[M,H]at o;obtain⟨r,g⟩:=o;split at g;exact La ⟨‹_›,g⟩;rw[a]at g;split at g;exact Ca ⟨‹_›,by omega⟩;rcases l.hi y ⟨j,g.2⟩ with e|⟨i,c,n,e⟩;exact absurd e ‹_›;exact absurd (by rw[e];congr 1;omega) (r (i-L.first).toNat (by omega))
 have A:qL K.fs=[]:=by
  unfold qL;rw[EJ h.asc (iJ aS h.asc),aCs s];rfl
 refine⟨I,?_,⟨p.v,p.c,p.cr,p.fl,p.dn,by have:=p.k;omega,by have:=p.l;omega,ab (x:=vg) p.asc λf A=>?_⟩,⟨by dsimp only;omega,by dsimp only;omega,λi r g=>?_,λx ⟨j,o⟩=>?_⟩⟩;unfold zN lX;rw[A,Mb];simp only[Sd,Mb,vI,P,Q,R,S,T,Td];exact U
 .rcases d _ _ ⟨f,A,rfl,rfl⟩ with⟨r,g⟩|⟨_,g⟩
  .exact Ca ⟨r,g⟩
  exact La g
 .obtain rfl:i=L.last+1:=by dsimp only at r g;omega
  refine⟨0,?_⟩;rw[M,H,Ma rfl];exact⟨λi b e=>by have:=FX (by omega) (by omega) e;omega,rfl⟩
 rcases d x j o with⟨e,_⟩|⟨e,_⟩;exact Ca e;exact La ⟨_,Xd _,Xd _,e⟩
end
