import Derived.Test.YtflbidbilgndeaaGreatDoorJ33
import Derived.Test.YtflbidbilgndeaaGreatDoorJ32
set_option maxRecDepth 100000
set_option maxHeartbeats 4000000
set_option linter.defProp false
open Option renaming some->bA
open List renaming length->yA
namespace Go.Proofs.YtflbidbilgndeaaGreatDoor
open Go renaming World->eA,Value->iA,TypeId->jA,Calls->gA
open Obj renaming cells->vA
open Value renaming string->oA,slice->pA
open Ending renaming returned->uA
open Go.RowKit Tryz
section
open Go.Maps
attribute [local go_sem] jH xH xN nB.drewI qN.drewI qN.new qN.alloc qN.alloc2
structure eX(w:World)(a b:mC)(N:wC):Prop where
 files:tB w a N.d.fs
 fit:JH N.d.fs
 tens:xC w b N.ts
 bulk:yA N.ts+cC N.ts≤1048576
 rng:TW N.ts
 lsn:wU N.lsn
 now:wU N.now
def eX.z{w W:eA}{a b:mC}{N:wC}(h:eX w a b N)(c:uB w W):eX W a b N:=⟨h.files.z c,h.fit,h.tens.z c,h.bulk,h.rng,h.lsn,h.now⟩
def NP.held{w W:eA}{c:iC}{cs:Array iA}(h:NP w W c cs)(M:Array iA)(a:eA)(b:uB W a):nB a (w.1.size+1) cs 42/\nB (a.setRow (w.1.size+1+1) M) (w.1.size+1) cs 42:=
 ⟨(h.z b).N,(cH a (w.1.size+1+1) M).blk (h.z b).N (by omega)⟩
def wX{d:Func}{t:Act}{w W:eA}{i j:Nat}{c:iC}{cs:Array iA}{M:wC}{x:iA}{a b:mC}{f g:Nat}(h:d.results=#[.cell i 42,.tmp j])(k:t.tmps.getD i undef=.pointer (yB (w.1.size+1+1)))(l:t.tmps.getD j undef=x)(m:t.defers=[])(P:NP w W c cs)(I:eX W a b M):bodyPost prog d (λe n=>TY M x w e n) .ret t (W.setRow (w.1.size+1+1) (sC a f b g M)):=
 lV h k l m P.R (zG _ _ _ _ _) (by omega) P.B I.files I.tens
def JO{C:eA->Prop}{w:eA}{a cs:Array iA}{T:jA}(k:∀W,uB w W->nB W w.1.size cs T->C W):C ((w.alloc (vA a T)).setRow w.1.size cs):=
 k _ (zB.trans ((cH _ _ _).below (by simp) λi b e=>by omega)) (nB.new _ _ _).row
def aPd{C:eA->Prop}{w:eA}{O:Nat}{f g a b:iA}{t:jA}(h:nB w O #[f,g] t)(k:∀W,nB W O #[a,b] t->eB (·=O) w W->(∀{B:Nat}{e:jA}{z:Nat}{v:iA}{n:Nat}{d:List iA},w.ownsRow B e z v n d->O<B->W.ownsRow B e z v n d)->C W):C ((w.setCell (dB O 0) a).setCell (dB O 1) b):=
 k _ (by have:=(h.set 0 a).set 1 b;simpa using this) (((eB.refl (·=O) w).setCell (Ca rfl) 0 a).setCell (Ca rfl) 1 b) λh c=>wQ (wQ h c _) c _
def SF{W:eA}{g:Nat}{k n:Int}{t x:jB}{T:jA}(h:nB W g #[zA k,oA t,oA x,zA n] T):tI W (yB g) [⟨k,t,x,n⟩]:=
 La ⟨g,0,rfl,aB h,λi a=>by obtain rfl:i=0:=(by simp at a;exact a);exact h.c4⟩
def bl(c:iC){a b:mC}{ca cb:Nat}{N:wC}{W:eA}(h:eX W a b N){f:mC}{capr:Nat}{d:List xD}(k:tI W f d)(n:yA d+gD d<=240000)(j:JK d)(i:lH c=true)(l:ee N=true)(g:uj c N d):
 gA prog 55 #[rE c,.agg (sC a ca b cb N),pA f (yA d) capr] W λe m=>TY (eG c N d).1 (zA (eG c N d).2) W e m:=
 tj c a b ca cb N f capr d W ⟨h.files,h.fit,h.tens,k,by have:=h.bulk;omega,j,h.lsn⟩ i l g
def cl{k n:Int}{t x:jB}(a:0<=k/\k<=9)(b:wU n):JK [⟨k,t,x,n⟩]:=by grind [wU,JK]
def aIr{c:iC}{d:Int}{a:List fB}(h:nC c d a=true)(b f:jB)(j:yA a+cC a<=1900000): -1<=(oH c d a b f).1/\(oH c d a b f).1<=2000000/\-1<=(oH c d a b f).2/\(oH c d a b f).2<=1000000:=by
 obtain⟨k,_,_,_,m⟩:=gH h;obtain⟨n,i,_⟩:=mV m (name:=b);have p:yA (aC a b).Z<=1900000:=by
  rcases kM (ts:=a) (name:=b) with⟨g,_⟩|⟨e,_⟩;exact (nS j _ g).2.2.2.2;rw[e];exact Oa _
 have l:(0<=c.tl/\c.tl<=1000000)/\(0<=c.ml/\c.ml<=1000000):=by
  simp only[lH,bC,Sa,Ab]at k;omega
 have g : -1<=xG (aC a b).M f c.ml/\xG (aC a b).M f c.ml<=1000000:=by
  rw[XI (OC i).2];cases hg:dD (·.s) f (aC a b).M with
  |none=>exact⟨by simp;omega,by simp;omega⟩
  |some q=>
   have:=((OC i).1 q (uM hg).1).2;simp only[bC,Sa,Ab]at this;exact⟨by simp;omega,by simp;omega⟩
 have o:bJ cE (aC a b).Z f<=yA (aC a b).Z:=Pc _ _;simp only[bC,Sa,Ab]at n;unfold oH qE;split
 .split
  .refine ⟨by dsimp only;omega,by dsimp only;omega,?_,?_⟩<;>(dsimp only;split<;>omega)
  exact ⟨by dsimp only;omega,by dsimp only;omega,g.1,g.2⟩
 exact ⟨by simp,by simp,by simp,by simp⟩
def bo(v:Int)(W:eA)(a : -9223372036854775808<=v)(b:v<=9223372036854775807):dF 54 #[zA 8,zA v] W (oA (pB 8 v)):=lD 8 v W (by omega) a b
def aNq(v:Int)(W:eA)(a : -9223372036854775808<=v)(b:v<=9223372036854775807):dF 54 #[zA 4,zA v] W (oA (pB 4 v)):=lD 4 v W (by omega) a b
def aNp(v:Int)(W:eA)(a : -9223372036854775808<=v)(b:v<=9223372036854775807):dF 54 #[zA 2,zA v] W (oA (pB 2 v)):=lD 2 v W (by omega) a b
def aHi{c:iC}{g:Int}{a:List fB}(h:nC c g a=true)(b:jB)(o:yA a+cC a<=1900000):yA (aC a b).Z+gE (aC a b).Z<=1900000/\ew (aC a b).Z:=by
 obtain⟨_,m,d,_,k⟩:=gH h;obtain⟨_,_,l⟩:=mV k (name:=b);refine⟨?_,λi f=>?_⟩
 .rcases kM (ts:=a) (name:=b) with⟨j,_⟩|⟨e,_⟩
  .obtain ⟨i,f,e⟩:=Ib j;have d:=oK a i f;have n:=dN a (i+1);rw[e]at d;unfold jF at d;omega
  rw[e];exact Oa _
 have:=((IQ l).1 _ (Gb f)).2.1;simp only[bC,Sa,Ab]at this;exact⟨by omega,by omega⟩
def QF(a b d e:iA)(W:eA):(Instr.field 94 (.agg #[a,b,d,e]) 3).run prog W=.ok e W:=by kernel_rfl
def aLz{c:iC}{a:Int}{e:List fB}(h:nC c a e=true)(d:jB)(b:List sF)(r:(iE b).size<=60000)(v:yA b<=500)(q:d.size<=255)(k:Nat)(p:k<=yA b):nC c a (jL c a d e (b.take k)).1=true/\yA (jL c a d e (b.take k)).1+cC (jL c a d e (b.take k)).1<=yA e+cC e+190000/\(jL c a d e (b.take k)).2.1.size=k/\yA (jL c a d e (b.take k)).2.2<=k/\gD (jL c a d e (b.take k)).2.2<=190000/\JK (jL c a d e (b.take k)).2.2:=by
 obtain⟨j,s,l,m,t,n⟩:=aHr h d b k p;have u:(iE (b.take k)).size<=60000:=by
  have:=gI (b.take k) (b.drop k);rw[Za]at this;rw[this,Ka]at r;omega
 have w:k*(d.size+2)<=500*257:=Hf (by omega) (by omega);have x:k*d.size<=500*255:=Hf (by omega) q;refine⟨j,by omega,l,m,by omega,λi o=>?_⟩;obtain⟨f,g⟩:=n _ (Gb o);rw[f,g];exact⟨⟨by omega,by omega⟩,⟨by omega,by omega⟩⟩
def bn(k:Int):Bool:=k != 2&&k != 4
end
def LN(d:Int)(a q:mC)(p g:Nat)(c:List fB)(w:eA)(e:xC w a c)(H:xC w q c)(I:yA c<=maxLen)(W:∀i(h:i<yA c),yA c[i].M<=maxLen/\yA c[i].Z<=maxLen):
 dF 9 #[.agg #[zA d,pA a (yA c) p],.agg #[zA d,pA q (yA c) g]] w (.bool true):=by
 unfold maxLen at I W;have h:cB (xC w a c):=e;have F:cB (xC w q c):=H;have G:=bB W;clear e H W;go_enter func9,ntmps9;go_wp2;have e:cB (nB ((w.alloc (vA #[zA d,pA a (yA c) p] 40)).alloc (vA #[zA d,pA q (yA c) g] 40)) w.1.size #[zA d,pA a (yA c) p] 40):=(nB.new _ _ _).alloc _;have I:cB (nB ((w.alloc (vA #[zA d,pA a (yA c) p] 40)).alloc (vA #[zA d,pA q (yA c) g] 40)) (w.1.size+1) #[zA d,pA q (yA c) g] 40):=bB (by have:=nB.new (w.alloc (vA #[zA d,pA a (yA c) p] 40)) #[zA d,pA q (yA c) g] 40;simpa using this);have W:cB (uB w ((w.alloc (vA #[zA d,pA a (yA c) p] 40)).alloc (vA #[zA d,pA q (yA c) g] 40))):=vB zB zB;have Z:cB (xC ((w.alloc (vA #[zA d,pA a (yA c) p] 40)).alloc (vA #[zA d,pA q (yA c) g] 40)) a c/\xC ((w.alloc (vA #[zA d,pA a (yA c) p] 40)).alloc (vA #[zA d,pA q (yA c) g] 40)) q c):=⟨h.o.z (vB zB zB),F.o.z (vB zB zB)⟩
 generalize ((w.alloc (vA #[zA d,pA a (yA c) p] 40)).alloc (vA #[zA d,pA q (yA c) g] 40))=L at *;clear h F;go_loopw [27] (λi wr=>∃k:Nat,k<=yA c/\i=zA (k:Nat)/\cB (uB L wr)) (λi _=>yA c-(intOf i).toNat)
 case atStart=>exact⟨0,Oa _,rfl,iD⟩
 case round=>
  obtain⟨k,h,rfl,D⟩:=hrel;by_cases E:k<yA c
  .have J:(k:Int)<(yA c:Nat):=by omega
   have R:=bB (e.o.z D.o);have S:=bB (I.o.z D.o);have U:=R.o.cell 1;have y1:=S.o.cell 1;have hx:w.1.size<wr.1.size:=aB R.o;have hy:w.1.size+1<wr.1.size:=aB S.o;obtain⟨b,o,r,y,s,z,rfl,hb,c0,c1,c2,c3,e,h⟩:=(Z.o.1.z D.o).at E;obtain⟨b',I,t,A,u,B,rfl,T,e0,e1,e2,e3,I,O⟩:=(Z.o.2.z D.o).at E;obtain⟨Y,Y⟩:=G.o k E;have G:cB (jC wr r c[k].M/\jC wr t c[k].M/\jC wr s c[k].Z/\jC wr u c[k].Z):=⟨e,I,h,O⟩
   clear e h I O;have h:¬(w.1.size=wr.1.size):=by omega
   have I:¬(w.1.size+1=wr.1.size):=by omega
   have O:¬(b'=wr.1.size):=by omega
   generalize c[k].N=n at *;generalize c[k].L=m at *;generalize c[k].M=l at *;generalize c[k].Z=e at *;go_wp2;have N:cB (nB ((wr.alloc (vA #[oA n,zA m,pA r (yA l) y,pA s (yA e) z] 94)).alloc (vA #[oA n,zA m,pA t (yA l) A,pA u (yA e) B] 94)) wr.1.size #[oA n,zA m,pA r (yA l) y,pA s (yA e) z] 94):=(nB.new _ _ _).alloc _;have Y:cB (nB ((wr.alloc (vA #[oA n,zA m,pA r (yA l) y,pA s (yA e) z] 94)).alloc (vA #[oA n,zA m,pA t (yA l) A,pA u (yA e) B] 94)) (wr.1.size+1) #[oA n,zA m,pA t (yA l) A,pA u (yA e) B] 94):=bB (by have:=nB.new (wr.alloc (vA #[oA n,zA m,pA r (yA l) y,pA s (yA e) z] 94)) #[oA n,zA m,pA t (yA l) A,pA u (yA e) B] 94;simpa using this);have Z:cB (uB L ((wr.alloc (vA #[oA n,zA m,pA r (yA l) y,pA s (yA e) z] 94)).alloc (vA #[oA n,zA m,pA t (yA l) A,pA u (yA e) B] 94))):=vB D.o (vB zB zB);have K:cB (jC ((wr.alloc (vA #[oA n,zA m,pA r (yA l) y,pA s (yA e) z] 94)).alloc (vA #[oA n,zA m,pA t (yA l) A,pA u (yA e) B] 94)) r l/\jC ((wr.alloc (vA #[oA n,zA m,pA r (yA l) y,pA s (yA e) z] 94)).alloc (vA #[oA n,zA m,pA t (yA l) A,pA u (yA e) B] 94)) t l/\jC ((wr.alloc (vA #[oA n,zA m,pA r (yA l) y,pA s (yA e) z] 94)).alloc (vA #[oA n,zA m,pA t (yA l) A,pA u (yA e) B] 94)) s e/\jC ((wr.alloc (vA #[oA n,zA m,pA r (yA l) y,pA s (yA e) z] 94)).alloc (vA #[oA n,zA m,pA t (yA l) A,pA u (yA e) B] 94)) u e):=⟨G.o.1.z (vB zB zB),G.o.2.1.z (vB zB zB),G.o.2.2.1.z (vB zB zB),G.o.2.2.2.z (vB zB zB)⟩
   generalize ((wr.alloc (vA #[oA n,zA m,pA r (yA l) y,pA s (yA e) z] 94)).alloc (vA #[oA n,zA m,pA t (yA l) A,pA u (yA e) B] 94))=M at *;generalize wr.1.size=BX at *;clear D R S U y1 G c0 c1 c2 c3 e0 e1 e2 e3 hb T hx hy h I O;clear wr;go_loopw [73] (λi wr=>∃j:Nat,j<=yA l/\i=zA (j:Nat)/\cB (uB M wr)) (λi _=>yA l-(intOf i).toNat)
   case atStart=>exact⟨0,Oa _,rfl,iD⟩
   case round=>
    obtain⟨j,h,rfl,f⟩:=hrel;by_cases v:j<yA l
    .have x:(j:Int)<(yA l:Nat):=by omega
     have O:=bB (N.o.z f.o);have P:=bB (Y.o.z f.o);have G:=O.o.cell 2;have I:=P.o.cell 2;obtain⟨g1,o1,rfl,U,d0,d1⟩:=(K.o.1.z f.o).at v;obtain⟨g2,o2,rfl,V,d2,d3⟩:=(K.o.2.1.z f.o).at v;generalize l[j]=pr at *;go_wp2_with fail;go_region
     go_wp2;exact⟨⟨j+1,by omega,by go_num,f.o.drew⟩,by simp[intOf];omega⟩
    have x:¬((j:Int)<(yA l:Nat)):=by omega
    have Q:=bB f.o;have h:=(N.o.z f.o).cell 3;clear f;go_wp2;obtain⟨h,X⟩:∃h:eA,h=wr:=⟨_,rfl⟩
    subst X;go_loopw [91] (λi wr=>∃C:Nat,C<=yA e/\i=zA (C:Nat)/\cB (uB M wr)) (λi _=>yA e-(intOf i).toNat)
    case atStart=>exact⟨0,Oa _,rfl,Q.o⟩
    case round=>
     obtain⟨C,h,rfl,f⟩:=hrel;by_cases v:C<yA e
     .have x:(C:Int)<(yA e:Nat):=by omega
      have O:=bB (N.o.z f.o);have P:=bB (Y.o.z f.o);have G:=O.o.cell 3;have I:=P.o.cell 3;obtain⟨g1,o1,rfl,U,d0,d1⟩:=(K.o.2.2.1.z f.o).at v;obtain⟨g2,o2,rfl,V,d2,d3⟩:=(K.o.2.2.2.z f.o).at v;generalize e[C]=pr at *;go_wp2_with fail;go_region
      go_wp2;exact⟨⟨C+1,by omega,by go_num,f.o.drew⟩,by simp[intOf];omega⟩
     have x:¬((C:Int)<(yA e:Nat)):=by omega
     go_wp2;exact⟨⟨k+1,by omega,by go_num,vB Z.o f.o⟩,by simp[intOf];omega⟩
  have J:¬((k:Int)<(yA c:Nat)):=by omega
  go_wp2;go_ret;exact⟨rfl,vB W.o D.o⟩
structure lL where
 k:Nat
 sd:Int
def uk(w:eA)(B P:Nat)(a:mC)(c:List Nat):Prop:=c=[]\/∃b o,a=bA (dB b o)/\b≠B/\b<P/\∀i(h:i<yA c),c[i]<256/\w.cell? (dB b (o+i))=bA (.int .u8 (c[i]:Nat))
def uk.below{w j:eA}{B P:Nat}{a:mC}{f:List Nat}(h:uk w B P a f)(k:Below P w j):uk j B P a f:=by
 obtain h|⟨b,o,e,d,c,h⟩:=h;exact Ca h;exact La ⟨b,o,e,d,c,λi g=>⟨(h i g).1,by rw[eA.cell?_of_block (k.block b c)];exact(h i g).2⟩⟩
def uk.but{w j:eA}{B P:Nat}{a:mC}{f:List Nat}(h:uk w B P a f)(l:P<=w.1.size)(k:qD B w j):uk j B P a f:=by
 obtain h|⟨b,o,e,c,d,h⟩:=h;exact Ca h;exact La ⟨b,o,e,c,d,λi g=>⟨(h i g).1,by rw[eA.cell?_of_block (k.block b (by omega) c)];exact(h i g).2⟩⟩
def kF(w:eA)(B P:Nat)(b:List Nat)(σ:lL):Prop:=∃(a:mC)(c:Nat),nB w B #[pA a (yA b) c,zA (σ.k:Nat),zA σ.sd] 57/\(0<=σ.sd/\σ.sd<2147483648)/\yA b<=1048576/\uk w B P a b/\B<P/\P<=w.1.size
def kF.up{w:eA}{B P:Nat}{b:List Nat}{σ:lL}(h:kF w B P b σ):B<P/\P<=w.1.size:=by
 obtain⟨a,c,_,_,_,_,d,e⟩:=h;exact⟨d,e⟩
def kF.lt{w:eA}{B P:Nat}{a:List Nat}{σ:lL}(h:kF w B P a σ):B<w.1.size:=Bb h.up.1 h.up.2
def kF.below{w f:eA}{B P:Nat}{d:List Nat}{σ:lL}(h:kF w B P d σ)(c:Below P w f):kF f B P d σ:=by
 obtain⟨a,b,g,i,j,k,e,l⟩:=h;exact⟨a,b,(c.block B e).trans g,i,j,k.below c,e,Ua l c.size⟩
def kF.z{w b:eA}{B P:Nat}{a:List Nat}{σ:lL}(h:kF w B P a σ)(c:uB w b):kF b B P a σ:=h.below (c.mono h.up.2)
def zO(a:List Nat)(σ:lL):Nat×lL:=
 if 200+40*yA a<σ.k+1 then(0,⟨σ.k+1,σ.sd⟩)
 else if yA a<σ.k+1 then(((σ.sd*1103515245+12345) % 2147483648 / 65536 % 256).toNat,⟨σ.k+1,(σ.sd*1103515245+12345) % 2147483648⟩)
 else(a.getD σ.k 0,⟨σ.k+1,(σ.sd*31+(a.getD σ.k 0:Nat)+7) % 2147483648⟩)
def aIn(a:List Nat)(σ:lL):(zO a σ).2.k=σ.k+1:=by
 unfold zO;split;rfl;split<;>rfl
def aMl(B:Nat)(w:eA)(a:mC)(n c k:Nat)(f:Int)(d:nB w B #[pA a n c,zA (k:Nat),zA f] 57)(r:n<=1048576)(q:k<=100000000)(i:200+40*n<k+1):
 gA prog 32 #[.pointer (yB B)] w λe g=>e=uA (zA 0)/\nB g B #[pA a n c,zA ((k+1:Nat):Int),zA f] 57/\qD B w g:=by
 have h:cB (nB w B #[pA a n c,zA (k:Nat),zA f] 57):=d;have m:=nB.cell d 0;have o:=nB.cell d 1;have p:=nB.cell d 2;simp only[Xb,Ob,Ga]at m o p;have b:=nB.free d 1;clear d;have j:(200+40*(n:Int))<(k:Int)+1:=by omega
 clear i;go_enter func32,ntmps32;go_wp2;go_region
 go_wp2;have l:((k:Int)+1)=((k+1:Nat):Int):=by omega
 go_ret;refine⟨rfl,?_,qD.drew ((qD.refl _ _).setCell _ _)⟩;have:=nB.set h.o 1 (zA ((k:Int)+1));rw[l]at this |-
 exact this
def aMm(B:Nat)(w:eA)(a:mC)(n f k:Nat)(d:Int)(g:nB w B #[pA a n f,zA (k:Nat),zA d] 57)(h:0<=d)(r:d<2147483648)(y:n<=1048576)(x:k<=100000000)(l:¬200+40*n<k+1)(o:n<k+1):
 gA prog 32 #[.pointer (yB B)] w λe i=>e=uA (zA ((((d*1103515245+12345) % 2147483648 / 65536 % 256).toNat:Nat):Int))/\nB i B #[pA a n f,zA ((k+1:Nat):Int),zA ((d*1103515245+12345) % 2147483648)] 57/\qD B w i:=by
 have j:cB (nB w B #[pA a n f,zA (k:Nat),zA d] 57):=g;have s:=nB.cell g 0;have t:=nB.cell g 1;have u:=nB.cell g 2;simp only[Xb,Ob,Ga]at s t u;have b:=nB.free g 1;have c:=nB.free g 2;clear g;have m:¬((200+40*(n:Int))<(k:Int)+1):=by omega
 have p:((n:Int))<(k:Int)+1:=by omega
 clear l o;go_enter func32,ntmps32;go_wp2;go_region
 go_wp2;go_region
 go_wp2;have q:((k:Int)+1)=((k+1:Nat):Int):=by omega
 refine bodyPost_ret (v:=zA ((d*1103515245+12345) % 2147483648 / 65536 % 256)) (by simp[results,results32,go_sem]) rfl ?_;generalize d*1103515245+12345=X;refine⟨by rw[Int.toNat_of_nonneg (by omega)],?_,qD.drew (qD.drew (((qD.refl _ _).setCell _ _).setCell _ _))⟩;have:=nB.set (nB.set j.o 1 (zA ((k:Int)+1))) 2 (zA (X % 2147483648));rw[q]at this |-
 exact this
def aMn(B:Nat)(w:eA)(b o:Nat)(n d k v:Nat)(g:Int)(f:nB w B #[pA (bA (dB b o)) n d,zA (k:Nat),zA g] 57)(h:0<=g)(t:g<2147483648)(A:n<=1048576)(z:k<=100000000)(m:¬n<k+1)(s:b≠B)(C:v<256)(r:w.cell? (dB b (o+k))=bA (.int .u8 (v:Nat))):
 gA prog 32 #[.pointer (yB B)] w λe i=>e=uA (zA (v:Nat))/\nB i B #[pA (bA (dB b o)) n d,zA ((k+1:Nat):Int),zA ((g*31+(v:Nat)+7) % 2147483648)] 57/\qD B w i:=by
 have j:cB (nB w B #[pA (bA (dB b o)) n d,zA (k:Nat),zA g] 57):=f;have u:=nB.cell f 0;have x:=nB.cell f 1;have y:=nB.cell f 2;simp only[Xb,Ob,Ga]at u x y;have a:=nB.free f 1;have c:=nB.free f 2;clear f;have l:¬((200+40*(n:Int))<(k:Int)+1):=by omega
 have p:¬((n:Int)<(k:Int)+1):=by omega
 clear m;go_enter func32,ntmps32;go_wp2;go_region
 go_wp2;go_region
 go_wp2;go_region
 go_wp2;go_region
 go_wp2;have q:((k:Int)+1)=((k+1:Nat):Int):=by omega
 refine bodyPost_ret (v:=zA (v:Nat)) (by simp[results,results32,go_sem]) rfl ?_;generalize g*31+v+7=X;refine⟨rfl,?_,qD.drew (qD.drew (qD.drew (qD.drew (((qD.refl _ _).setCell _ _).setCell _ _))))⟩;have:=nB.set (nB.set j.o 1 (zA ((k:Int)+1))) 2 (zA (X % 2147483648));rw[q]at this |-
 exact this
def ZR(B P:Nat)(c:List Nat)(σ:lL)(w:eA)(h:kF w B P c σ)(x:σ.k<=100000000):
 gA prog 32 #[.pointer (yB B)] w λe s=>e=uA (zA ((zO c σ).1:Nat))/\(zO c σ).1<256/\kF s B P c (zO c σ).2/\qD B w s:=by
 obtain⟨a,d,v,⟨j,l⟩,n,y,i,f⟩:=h;by_cases p:200+40*yA c<σ.k+1
 .refine (aMl B w a _ d σ.k σ.sd v n x p).mono ?_;have e:zO c σ=(0,⟨σ.k+1,σ.sd⟩):=by unfold zO;rw[Ma p]
  rw[e];rintro e s ⟨rfl,q,g⟩;exact⟨rfl,by simp only;omega,⟨a,d,q,⟨j,l⟩,n,y.but f g,i,Ua f g.size⟩,g⟩
 by_cases m:yA c<σ.k+1
 .refine (aMm B w a _ d σ.k σ.sd v j l n x p m).mono ?_;have e:zO c σ=(((σ.sd*1103515245+12345) % 2147483648 / 65536 % 256).toNat,⟨σ.k+1,(σ.sd*1103515245+12345) % 2147483648⟩):=by unfold zO;rw[Ja p,Ma m]
  rw[e];generalize σ.sd*1103515245+12345=X;rintro e s ⟨rfl,q,g⟩;exact⟨rfl,by simp only;omega,⟨a,d,q,⟨by simp only;omega,by simp only;omega⟩,n,y.but f g,i,Ua f g.size⟩,g⟩
 obtain A|⟨b,o,rfl,r,z,t⟩:=y;rw[A]at m;exact absurd (by simp) m;have u:σ.k<yA c:=by omega
 have C:c.getD σ.k 0=c[σ.k]:=by simp[List.getD,u]
 refine(aMn B w b o _ d σ.k c[σ.k] σ.sd v j l n x m r (t _ u).1 (t _ u).2).mono ?_;have e:zO c σ=(c[σ.k],⟨σ.k+1,(σ.sd*31+(c[σ.k]:Nat)+7) % 2147483648⟩):=by unfold zO;rw[Ja p,Ja m,C]
 rw[e];rintro e s ⟨rfl,q,g⟩;have D:=(t _ u).1;exact⟨rfl,D,⟨_,d,q,⟨by simp only;omega,by simp only;omega⟩,n,(show uk w B P (bA (dB b o)) c from La ⟨b,o,rfl,r,z,t⟩).but f g,i,Ua f g.size⟩,g⟩
def eC(a:List Nat)(σ:lL)(n:Nat):Nat×lL:=if n<=1 then(0,σ) else((zO a σ).1 % n,(zO a σ).2)
def yH(a:List Nat)(σ:lL){n:Nat}(h:1<=n):(eC a σ n).1<n:=by
 unfold eC;split;exact h;exact Nat.mod_lt _ h
def aJ(a:List Nat)(σ:lL)(n:Nat):(eC a σ n).2.k<=σ.k+1:=by
 unfold eC;split;exact Gf _;exact Nat.le_of_eq (aIn a σ)
def oF(B P:Nat)(a:List Nat)(σ:lL)(n:Nat)(w:eA)(h:kF w B P a σ)(o:σ.k<=10000000)(p:n<=256):
 gA prog 13 #[.pointer (yB B),zA (n:Nat)] w λe d=>e=uA (zA ((eC a σ n).1:Nat))/\kF d B P a (eC a σ n).2/\qD B w d:=by
 by_cases g:n<=1
 .have e:eC a σ n=(0,σ):=by unfold eC;rw[Ma g]
  rw[e];have f:cB (kF w B P a σ):=h;clear h e;have l:(n:Int)<=1:=by omega
  go_enter func13,ntmps13;go_wp2;go_ret;exact⟨rfl,f.o,qD.refl _ _⟩
 have e:eC a σ n=((zO a σ).1 % n,(zO a σ).2):=by unfold eC;rw[Ja g]
 rw[e];have f:cB (gA prog 32 #[.pointer (yB B)] w λe d=>e=uA (zA ((zO a σ).1:Nat))/\(zO a σ).1<256/\kF d B P a (zO a σ).2/\qD B w d):=ZR B P a σ w h (by omega);clear h e;generalize zO a σ=R at *;obtain⟨v,τ⟩:=R;simp only at f |-
 have l:¬((n:Int)<=1):=by omega
 have m:(n:Int)<=256:=by omega
 go_enter func13,ntmps13;go_wp2_with fail;apply lC f.o;rintro i ⟨q,c,b⟩;have j:cB (kF i B P a τ/\qD B w i):=⟨c,b⟩
 clear c b;go_wp2;go_ret;exact⟨rfl,j.o⟩
def uR(w:eA)(g:Nat)(L:List jB):Prop:=∃t,nB w g (L.map iA.string).toArray t
def uR.but{w c:eA}{g B:Nat}{L:List jB}(h:uR w g L)(d:qD B w c)(a:g≠B):uR c g L:=by
 obtain⟨t,b⟩:=h;exact⟨t,(d.block g (aB b) a).trans b⟩
def uR.z{w a:eA}{g:Nat}{L:List jB}(h:uR w g L)(c:uB w a):uR a g L:=by
 obtain⟨t,b⟩:=h;exact⟨t,b.z c⟩
def uR.below{w a:eA}{g P:Nat}{L:List jB}(h:uR w g L)(c:Below P w a)(d:g<P):uR a g L:=by
 obtain⟨t,b⟩:=h;exact⟨t,(c.block g d).trans b⟩
def uR.at{w:eA}{g:Nat}{L:List jB}(h:uR w g L){j:Nat}(b:j<yA L):w.cell? (dB g j)=bA (oA (L.getD j ⟨#[]⟩)):=by
 obtain⟨t,a⟩:=h;rw[a.cell];simp[List.getD,b]
def aU(w:eA)(L:List jB)(t:jA):uR (w.alloc (vA (L.map .string).toArray t)) w.1.size L:=⟨t,heap_alloc_new _ _⟩
def nh:List jB:=[⟨#[97,99,109,101]⟩,⟨#[98,45,50]⟩,⟨#[122,122]⟩,⟨#[97,99,109,101]⟩]
def jt:List jB:=[⟨#[117,112]⟩,⟨#[99,112,117]⟩,⟨#[109,101,109]⟩,⟨#[]⟩]
def nQ:List jB:=[⟨#[97]⟩,⟨#[98]⟩,⟨#[119,101,98]⟩,⟨#[120,32,121]⟩,⟨#[195,169]⟩,⟨#[226,130,172]⟩,⟨#[240,159,152,128]⟩,⟨#[49]⟩,⟨#[45]⟩,⟨#[122]⟩]
def JD(a:List Nat)(σ:lL):jB×lL:=(nh.getD (eC a σ 4).1 ⟨#[]⟩,(eC a σ 4).2)
def IA(a:List Nat)(σ:lL):jB×lL:=(jt.getD (eC a σ 4).1 ⟨#[]⟩,(eC a σ 4).2)
def vU(a:List Nat)(σ:lL):Nat->jB×lL
 |0=>(⟨#[]⟩,σ)
 |k+1=>((vU a σ k).1++nQ.getD (eC a (vU a σ k).2 10).1 ⟨#[]⟩,(eC a (vU a σ k).2 10).2)
def iO(a:List Nat)(σ:lL):jB×lL:=vU a (eC a σ 4).2 (eC a σ 4).1
def aHm(a:List Nat)(σ:lL)(k:Nat):(vU a σ k).2.k<=σ.k+k:=by
 induction k with
 |zero=>exact Ia _
 |succ k b=>
  rw[vU];have:=aJ a (vU a σ k).2 10;simp only;omega
def wK{L:List jB}{m:Nat}(h:(L.all λs=>decide (s.size<=m))=true)(j:Nat):(L.getD j ⟨#[]⟩).size<=m:=by
 by_cases a:j<yA L
 .have:=Ke.1 h L[j] (Gb a);simpa[List.getD,a]using this
 simp only[List.getD,Fd (Nat.le_of_not_lt a),Option.getD_none];exact Oa _
def YU(a:List Nat)(σ:lL)(k:Nat):(vU a σ k).1.size<=4*k:=by
 induction k with
 |zero=>exact Ia _
 |succ k b=>
  rw[vU];have:=wK (L:=nQ) (m:=4) (by decide) (eC a (vU a σ k).2 10).1;simp only[Ka];omega
def YX(a:List Nat)(σ:lL):(iO a σ).1.size<=16/\(iO a σ).2.k<=σ.k+4:=by
 have b:=yH a σ (n:=4) (by omega);have c:=aJ a σ 4;have d:=YU a (eC a σ 4).2 (eC a σ 4).1;have e:=aHm a (eC a σ 4).2 (eC a σ 4).1;unfold iO;omega
def NI(B P:Nat)(a:List Nat)(σ:lL)(w:eA)(h:kF w B P a σ)(y:σ.k<=1000000):
 gA prog 33 #[.pointer (yB B)] w λe f=>e=uA (oA (JD a σ).1)/\kF f B P a (JD a σ).2/\qD B w f:=by
 have m:cB (kF w B P a σ):=h;have u:=h.lt;clear h;have g:cB (∀W,kF W B P a σ->gA prog 13 #[.pointer (yB B),zA 4] W λe f=>e=uA (zA ((eC a σ 4).1:Nat))/\kF f B P a (eC a σ 4).2/\qD B W f):=λW h=>oF B P a σ 4 W h (by omega) (by omega);have p:=yH a σ (n:=4) (by omega);unfold JD;generalize eC a σ 4=R at *;obtain⟨v,τ⟩:=R;simp only at g p |-
 go_enter func33,ntmps33;go_wp2_with fail;have i:cB (uR (w.alloc (vA (nh.map iA.string).toArray 9)) w.1.size nh):=aU w nh _;simp only[nh,Fc,Ag]at i;apply lC (g.o _ (m.o.z zB));rintro q ⟨d,c⟩;have b:=(i.o.but c (by omega)).at (j:=v) (by simpa using p)
 have r:cB (kF q B P a τ/\qD B w q):=⟨d,(qD.of zB).trans c⟩
 clear d c m i g;have o:cB (([⟨#[97,99,109,101]⟩,⟨#[98,45,50]⟩,⟨#[122,122]⟩,⟨#[97,99,109,101]⟩]:List jB).getD v ⟨#[]⟩=nh.getD v ⟨#[]⟩):=bB rfl;rw[o.o]at b;clear o;obtain⟨s,l⟩:∃s,nh.getD v ⟨#[]⟩=s:=⟨_,rfl⟩
 rw[l]at b;have t:=bB l;clear l;have x:(v:Int)<4:=by omega
 go_wp2;go_ret;exact⟨by rw[t.o];rfl,r.o⟩
def NH(B P:Nat)(a:List Nat)(σ:lL)(w:eA)(h:kF w B P a σ)(y:σ.k<=1000000):
 gA prog 34 #[.pointer (yB B)] w λe f=>e=uA (oA (IA a σ).1)/\kF f B P a (IA a σ).2/\qD B w f:=by
 have m:cB (kF w B P a σ):=h;have u:=h.lt;clear h;have g:cB (∀W,kF W B P a σ->gA prog 13 #[.pointer (yB B),zA 4] W λe f=>e=uA (zA ((eC a σ 4).1:Nat))/\kF f B P a (eC a σ 4).2/\qD B W f):=λW h=>oF B P a σ 4 W h (by omega) (by omega);have p:=yH a σ (n:=4) (by omega);unfold IA;generalize eC a σ 4=R at *;obtain⟨v,τ⟩:=R;simp only at g p |-
 go_enter func34,ntmps34;go_wp2_with fail;have i:cB (uR (w.alloc (vA (jt.map iA.string).toArray 9)) w.1.size jt):=aU w jt _;simp only[jt,Fc,Ag]at i;apply lC (g.o _ (m.o.z zB));rintro q ⟨d,c⟩;have b:=(i.o.but c (by omega)).at (j:=v) (by simpa using p)
 have r:cB (kF q B P a τ/\qD B w q):=⟨d,(qD.of zB).trans c⟩
 clear d c m i g;have o:cB (([⟨#[117,112]⟩,⟨#[99,112,117]⟩,⟨#[109,101,109]⟩,⟨#[]⟩]:List jB).getD v ⟨#[]⟩=jt.getD v ⟨#[]⟩):=bB rfl;rw[o.o]at b;clear o;obtain⟨s,l⟩:∃s,jt.getD v ⟨#[]⟩=s:=⟨_,rfl⟩
 rw[l]at b;have t:=bB l;clear l;have x:(v:Int)<4:=by omega
 go_wp2;go_ret;exact⟨by rw[t.o];rfl,r.o⟩
def PT(B P:Nat)(a:List Nat)(σ:lL)(w:eA)(h:kF w B P a σ)(U:σ.k<=1000000):
 gA prog 94 #[.pointer (yB B)] w λe c=>e=uA (oA (iO a σ).1)/\kF c B P a (iO a σ).2/\qD B w c:=by
 have F:cB (kF w B P a σ):=h;have C:=h.lt;clear h;have u:cB (∀W,kF W B P a σ->gA prog 13 #[.pointer (yB B),zA 4] W λe c=>e=uA (zA ((eC a σ 4).1:Nat))/\kF c B P a (eC a σ 4).2/\qD B W c):=λW h=>oF B P a σ 4 W h (by omega) (by omega);have N:=yH a σ (n:=4) (by omega);have z:=aJ a σ 4;unfold iO;generalize eC a σ 4=R at *;obtain⟨n,τ⟩:=R;simp only at u N z |-
 go_enter func94,ntmps94;go_wp2_with fail;have b:cB (uR (w.alloc (vA (nQ.map iA.string).toArray 9)) w.1.size nQ):=aU w nQ _;simp only[nQ,Fc,Ag]at b;apply lC (u.o _ (F.o.z zB));rintro D ⟨p,l⟩;have H:cB (kF D B P a τ/\qD B w D/\uR D w.1.size nQ):=⟨p,(qD.of zB).trans l,b.o.but l (by omega)⟩
 clear p l F b u;generalize K:w.1.size=g at *;have J:cB (g≠B):=by show g≠B;omega
 clear K C;go_wp2;go_loopw [4,6] (λs i wr=>∃k:Nat,k<=n/\i=zA (k:Nat)/\s=oA (vU a τ k).1/\cB (kF wr B P a (vU a τ k).2/\qD B w wr/\uR wr g nQ)) (λ_ i _=>n-(intOf i).toNat)
 case atStart=>exact⟨0,by omega,rfl,rfl,H.o⟩
 case round=>
  obtain⟨k,V,rfl,rfl,b⟩:=hrel;by_cases M:k<n
  .have r:(k:Int)<(n:Int):=by omega
   have T:=aHm a τ k;have Q:=YU a τ k;have d:cB (∀W,kF W B P a (vU a τ k).2->gA prog 13 #[.pointer (yB B),zA 10] W λe c=>e=uA (zA ((eC a (vU a τ k).2 10).1:Nat))/\kF c B P a (eC a (vU a τ k).2 10).2/\qD B W c):=λW h=>oF B P a _ 10 W h (by omega) (by omega);have G:=yH a (vU a τ k).2 (n:=10) (by omega);have x:cB (vU a τ (k+1)=((vU a τ k).1++nQ.getD (eC a (vU a τ k).2 10).1 ⟨#[]⟩,(eC a (vU a τ k).2 10).2)):=bB rfl;generalize eC a (vU a τ k).2 10=R at *;obtain⟨v,υ⟩:=R;simp only at d G x;go_wp2_with fail;apply lC (d.o _ b.o.1);rintro E ⟨q,o⟩;have f:=b.o.2.2.but o J.o;have y:=f.at (j:=v) (by simpa[nQ]using G)
   have O:=wK (L:=nQ) (m:=4) (by decide) v;have I:cB (kF E B P a υ/\qD B w E/\uR E g nQ):=⟨q,b.o.2.1.trans o,f⟩
   clear q o f b d;generalize nQ.getD v ⟨#[]⟩=s at *;generalize (vU a τ k).1=t at *;have S:(v:Int)<10:=by omega
   go_wp2;exact⟨⟨k+1,by omega,by go_num,by rw[x.o],by rw[x.o];exact I.o⟩,by simp[intOf];omega⟩
  have r:¬((k:Int)<(n:Int)):=by omega
  have A:k=n:=by omega
  subst A;go_wp2;go_ret;exact⟨rfl,b.o.1,b.o.2.1⟩
def cL(w:eA)(B P N:Nat)(bs:List Nat)(σ:lL):Prop:=kF w B P bs σ/\σ.k<=N
section
variable {w w':eA} {B P N M n:Nat} {bs:List Nat} {σ:lL}
theorem cL.up(h:cL w B P N bs σ):B<P/\P<=w.1.size:=h.1.up
theorem cL.lt(h:cL w B P N bs σ):B<w.1.size:=h.1.lt
theorem cL.below(h:cL w B P N bs σ)(a:Below P w w'):cL w' B P N bs σ:=⟨h.1.below a,h.2⟩
theorem cL.z(h:cL w B P N bs σ)(a:uB w w'):cL w' B P N bs σ:=⟨h.1.z a,h.2⟩
theorem cL.mono(h:cL w B P N bs σ)(a:N<=M):cL w B P M bs σ:=⟨h.1,Ua h.2 a⟩
theorem fV(h:cL w B P N bs σ)(f:N<=10000000)(a:1<=n)(d:n<=256):
 gA prog 13 #[.pointer (yB B),zA (n:Nat)] w λe w'=>∃v τ,eC bs σ n=(v,τ)/\v<n/\e=uA (zA (v:Nat))/\cL w' B P (N+1) bs τ/\qD B w w':=by
 refine lC (oF B P bs σ n w h.1 (by have:=h.2;omega) d) ?_;rintro w' ⟨c,b⟩;exact⟨_,_,rfl,yH bs σ a,rfl,⟨c,by have:=aJ bs σ n;have:=h.2;show(eC bs σ n).2.k<=_;omega⟩,b⟩
end
def UE:List jB:=[⟨#[128]⟩,⟨#[192,128]⟩,⟨#[237,160,128]⟩,⟨#[244,144,128,128]⟩,⟨#[226,130]⟩,⟨#[31]⟩,⟨#[127]⟩,⟨#[194,133]⟩,⟨#[240,128,128,128]⟩,⟨#[255]⟩,⟨#[97,195]⟩,pK ⟨#[195,169]⟩ 128,pK ⟨#[195,169]⟩ 129,pK ⟨#[122]⟩ 129,⟨#[194,160]⟩,⟨#[239,191,189]⟩,⟨#[244,143,191,191]⟩,⟨#[238,128,128]⟩]
def xz(j:Nat):(UE.getD j ⟨#[]⟩).size<=258:=by
 refine wK (L:=UE) (m:=258) ?_ j;simp only[UE,List.all_cons,List.all_nil,Bool.and_true,Sa,Ab,MW];decide
def ya{B P N:Nat}{bs:List Nat}{σ:lL}{w:eA}(h:cL w B P N bs σ)(K:N<=100000):
 gA prog 96 #[.pointer (yB B)] w λe w'=>∃v τ,eC bs σ 18=(v,τ)/\e=uA (oA (UE.getD v ⟨#[]⟩))/\cL w' B P (N+1) bs τ/\qD B w w':=by
 have A:=bB h;have G:=h.lt;have t:=bB (show UE=[⟨#[128]⟩,⟨#[192,128]⟩,⟨#[237,160,128]⟩,⟨#[244,144,128,128]⟩,⟨#[226,130]⟩,⟨#[31]⟩,⟨#[127]⟩,⟨#[194,133]⟩,⟨#[240,128,128,128]⟩,⟨#[255]⟩,⟨#[97,195]⟩,pK ⟨#[195,169]⟩ 128,pK ⟨#[195,169]⟩ 129,pK ⟨#[122]⟩ 129,⟨#[194,160]⟩,⟨#[239,191,189]⟩,⟨#[244,143,191,191]⟩,⟨#[238,128,128]⟩] from rfl);go_enter func96,ntmps96;go_wp2_with fail;refine lC (qU ⟨#[195,169]⟩ 128 w (by decide) (by omega)) ?_;intro D k;have x:cB (uB w D):=k;go_wp2_with fail;refine lC (qU ⟨#[195,169]⟩ 129 D (by decide) (by omega)) ?_;intro E l;have y:cB (uB w E):=vB x.o l;go_wp2_with fail;refine lC (qU ⟨#[122]⟩ 129 E (by decide) (by omega)) ?_;intro r m;have p:cB (uB w r):=vB y.o m;generalize pK ⟨#[195,169]⟩ 128=a at *;generalize pK ⟨#[195,169]⟩ 129=b at *;generalize pK ⟨#[122]⟩ 129=c at *;go_wp2_with fail;have q:=bB (aU r UE 9);rw[t.o]at q;simp only[Fc,Ag]at q;have i:=(A.o.z p.o).z (wF r (vA #[oA ⟨#[128]⟩,oA ⟨#[192,128]⟩,oA ⟨#[237,160,128]⟩,oA ⟨#[244,144,128,128]⟩,oA ⟨#[226,130]⟩,oA ⟨#[31]⟩,oA ⟨#[127]⟩,oA ⟨#[194,133]⟩,oA ⟨#[240,128,128,128]⟩,oA ⟨#[255]⟩,oA ⟨#[97,195]⟩,oA a,oA b,oA c,oA ⟨#[194,160]⟩,oA ⟨#[239,191,189]⟩,oA ⟨#[244,143,191,191]⟩,oA ⟨#[238,128,128]⟩] 9));have J:w.1.size<=r.1.size:=p.o.size;refine(fV (n:=18) i (by omega) (by omega) (by omega)).mono ?_;rintro e L ⟨v,τ,C,H,rfl,o,f⟩;have d:=(q.o.but f (by omega)).at (j:=v) (by simpa using H)
 rw[<-t.o]at d;have z:=bB (Vc C (Vc o (((qD.of p.o).z zB).trans f)));have I:(v:Int)<18:=by omega
 obtain⟨s,u⟩:∃s,UE.getD v ⟨#[]⟩=s:=⟨_,rfl⟩
 rw[u]at d;have F:=bB u;go_wp2;go_ret;exact⟨v,τ,z.o.1,by rw[F.o];rfl,z.o.2⟩
def ke:List jB:=[⟨#[]⟩,⟨#[57,97]⟩,⟨#[97,45,98]⟩,⟨#[106,111,98]⟩,pK ⟨#[110]⟩ 64,pK ⟨#[110]⟩ 65,⟨#[195,169]⟩]
def aBl(j:Nat):(ke.getD j ⟨#[]⟩).size<=65:=by
 refine wK (L:=ke) (m:=65) ?_ j;simp only[ke,List.all_cons,List.all_nil,Bool.and_true,Sa,Ab,MW];decide
def QJ(ls:List dC):Nat->List dC
 |0=>ls
 |k+1=>QJ (ls++[⟨⟨#[110]⟩++strOfNums [97+((yA ls:Nat):Int)],⟨#[118]⟩⟩]) k
def cS(bs:List Nat)(σ:lL)(ls:List dC):List dC×lL:=
 let p:=eC bs σ (yA ls)
 let q:=eC bs p.2 7
 let l:=ls.getD p.1 ⟨⟨#[]⟩,⟨#[]⟩⟩
 if q.1=0 then(ls.set p.1 ⟨ke.getD (eC bs q.2 7).1 ⟨#[]⟩,l.V⟩,(eC bs q.2 7).2)
 else if q.1<=2 then(ls.set p.1 ⟨l.N,UE.getD (eC bs q.2 18).1 ⟨#[]⟩⟩,(eC bs q.2 18).2)
 else if q.1=3 then(ls++[⟨l.N,⟨#[119]⟩⟩],q.2)
 else if q.1=4 then(ls.set p.1 ⟨l.N,⟨#[]⟩⟩,q.2)
 else if q.1=5 then(ls.take p.1++ls.drop (p.1+1),q.2)
 else(QJ ls (16+(eC bs q.2 2).1-yA ls),(eC bs q.2 2).2)
def aDb(w w':eA)(B P N:Nat)(bs:List Nat)(R:List dC×lL)(e:Ending):Prop:=∃(g cv:Nat),e=uA (pA (yB g) (yA R.1) cv)/\yA R.1<=17/\gX R.1/\w'.ownsRow w.1.size 181 2 (pA (yB g) (yA R.1) cv) (yA R.1) (vC R.1)/\cL w' B P N bs R.2/\qD B w w'
structure TZ(w W:World)(B P N:Nat)(bs:List Nat)(σ:lL)(ls:List dC)(g cv:Nat):Prop where
 C:cL W B P N bs σ
 U:qD B w W
 R:W.ownsRow w.1.size 181 2 (pA (yB g) (yA ls) cv) (yA ls) (vC ls)
 p:P≤w.1.size
 Z:gX ls
section
variable {w W W':eA} {B P N M g cv:Nat} {bs:List Nat} {σ τ:lL} {ls ls':List dC} {R:List dC×lL}
theorem TZ.lt(h:TZ w W B P N bs σ ls g cv):B<w.1.size/\w.1.size<=W.1.size/\w.1.size<=g:=⟨by have:=h.C.up;have:=h.p;omega,h.U.size,(h.R.lt g rfl).1⟩
theorem TZ.call(h:TZ w W B P N bs σ ls g cv)(b:cL W' B P M bs τ)(a:qD B W W'):TZ w W' B P M bs τ ls g cv:=⟨b,h.U.trans a,iP h.R a h.lt.1,h.p,h.Z⟩
theorem TZ.z(h:TZ w W B P N bs σ ls g cv)(a:uB W W'):TZ w W' B P N bs σ ls g cv:=h.call (h.C.z a) (qD.of a)
theorem TZ.below(h:TZ w W B P N bs σ ls g cv){b a:Nat}(c:Below w.1.size W W')(d:W'.ownsRow w.1.size 181 2 (pA (yB b) (yA ls') a) (yA ls') (vC ls'))(e:gX ls'):TZ w W' B P N bs σ ls' b a:=⟨h.C.below (c.mono h.p),h.U.upToD c,d,h.p,e⟩
theorem TZ.set(h:TZ w W B P N bs σ ls g cv){j:Nat}{u:iA}(a:(vC ls).set j u=vC ls')(b:gX ls'):TZ w (W.setCell (dB g j) u) B P N bs σ ls' g cv:=h.below (iD.setCell h.lt.2.2 _) (aKt h.R a) b
theorem TZ.app(h:TZ w W B P N bs σ ls g cv){b a:Nat}(l:dC)(f:l.N.size<=65/\l.V.size<=258)(d:eB (λi=>w.1.size<=i/\(iA.slice (yB g) (yA ls) cv).ownBlock=bA i) W W')(c:W'.ownsRow w.1.size 181 2 (pA (yB b) (yA ls+1) a) (yA ls+1) (vC ls++[oA l.N,oA l.V])):TZ w W' B P N bs σ (ls++[l]) b a:=
 h.below (d.below h.lt.2.1 λi j e=>by omega) (by rw[cG,Kb];exact c) (YL h.Z f)
theorem TZ.done(h:TZ w W B P N bs σ ls g cv)(b:R=(ls,σ))(a:N<=M)(c:yA ls<=17):aDb w W B P M bs R (uA (pA (yB g) (yA ls) cv)):=by subst b;exact⟨g,cv,rfl,c,h.Z,h.R,h.C.mono a,h.U⟩
end
def aOn(B P N:Nat)(bs:List Nat)(σ:lL)(w:eA)(base g cv:Nat)(ls:List dC)(h:cL w B P N bs σ)(C:N<=90000)(L:w.ownsRow base 181 2 (pA (yB g) (yA ls) cv) (yA ls) (vC ls))(Y:1<=yA ls)(C:yA ls<=7)(C:gX ls):
 gA prog 36 #[.pointer (yB B),pA (yB g) (yA ls) cv] w λe w'=>aDb w w' B P (N+100) bs (cS bs σ ls) e:=by
 obtain⟨R,I⟩:∃R,cS bs σ ls=R:=⟨_,rfl⟩
 rw[I];replace I:=bB I;obtain⟨ti,G,O,W,Z⟩:=GQ;have HI:cB (prog.info? 181=bA ti):=G;have G:=h.lt;have U:=bB (Vc h C);have J:=bB L;go_enter func36,ntmps36;go_wp2_with(at_builtin;refine wpList_append_lies _ rfl _ _ _ rfl w.1.size 181 ti _ 2 32 underlying108 HI.o O W Z rfl (by omega) (pA (yB w.1.size) 0 0) 0 [] rfl (by exact eA.ownsRow_made w #[] 0 (Ia _) (by simp[maxLen]) (by simp)) (dB g 0) (yA ls) cv (vC ls) rfl (vG ls) (by exact lx (hC J.o zB)) (by exact pT ls) (by omega) (by simp[maxLen];omega) (by omega) (by simp) (w.1.size+1) (by simp) ?_;intro G f w1 l p C C);rw[Ya,Mb]at l;have S:uB w w1:=(wF w _).grown p (by simp) (λq C=>by simp[iA.ownBlock]at C;omega);have H:cB (TZ w w1 B P N bs σ ls G f):=⟨U.o.1.z S,qD.of S,l,U.o.1.up.2,U.o.2⟩
 refine(fV (n:=yA ls) H.o.C (by omega) Y (by omega)).mono ?_;rintro e w2 ⟨i,τ1,C,t,rfl,m,k⟩;replace H:=bB (H.o.call m k);go_wp2_with fail;refine(fV (n:=7) H.o.C (by omega) (by omega) (by omega)).mono ?_;rintro e w3 ⟨Y,τ2,J,U,rfl,m,k⟩;replace H:=bB (H.o.call m k);have U:(i:Int)<(yA ls:Nat):=by omega
 have E:=bB (Vc I.o (Vc C (Vc J (show ls.getD i ⟨⟨#[]⟩,⟨#[]⟩⟩=ls[i] by simp[List.getD,t]))));have r:=H.o.Z ls[i] (Gb t);have F:=bB (gx ls i t);have hsz:=H.o.lt;have T:Y=0\/(Y=1\/Y=2)\/Y=3\/Y=4\/Y=5\/Y=6:=by omega
 obtain rfl|J|rfl|rfl|rfl|rfl:=T
 .go_wp2_with fail;refine lC (qU ⟨#[110]⟩ 64 w3 (by decide) (by omega)) ?_;intro w4 k;replace H:=bB (H.o.z k);go_wp2_with fail;refine lC (qU ⟨#[110]⟩ 65 w4 (by decide) (by omega)) ?_;intro w5 k;replace H:=bB (H.o.z k);have HL:=bB (show ke=[⟨#[]⟩,⟨#[57,97]⟩,⟨#[97,45,98]⟩,⟨#[106,111,98]⟩,pK ⟨#[110]⟩ 64,pK ⟨#[110]⟩ 65,⟨#[195,169]⟩] from rfl);generalize pK ⟨#[110]⟩ 64=a at *;generalize pK ⟨#[110]⟩ 65=b at *;go_wp2_with fail;have C:=bB (aU w5 ke 9);rw[HL.o]at C;simp only[Fc,Ag]at C;have U:=H.o.lt;replace H:=bB (H.o.z (wF w5 (vA #[oA ⟨#[]⟩,oA ⟨#[57,97]⟩,oA ⟨#[97,45,98]⟩,oA ⟨#[106,111,98]⟩,oA a,oA b,oA ⟨#[195,169]⟩] 9)));refine(fV (n:=7) H.o.C (by omega) (by omega) (by omega)).mono ?_;rintro e w6 ⟨v,Q,K,Y,rfl,m,k⟩;have U:=(C.o.but k (by omega)).at (j:=v) (by simpa using Y)
  rw[<-HL.o]at U;have hs:=aBl v;replace E:=bB (show R=(ls.set i ⟨ke.getD v ⟨#[]⟩,ls[i].V⟩,Q) by obtain⟨q,y,z,C⟩:=E.o;rw[<-q];simp only[cS,y,z,K,C,Td]);generalize ke.getD v ⟨#[]⟩=s at *;replace H:=bB (H.o.call m k);obtain⟨Y,y1,U,_⟩:=IM H.o.R i t;have k0:=U (i*2);have hv':(v:Int)<7:=by omega
  go_wp2;have:=(H.o.set (F.o.2.1 s) (SS H.o.Z i ⟨hs,r.2⟩)).done (R:=R) (M:=N+100) E.o (by omega) (by rw[Pd];omega);rw[Pd]at this;exact bodyPost_ret (by simp[results,results36,go_sem]) rfl this
 .rcases J with rfl|rfl
  all_goals
   go_wp2_with fail;refine(ya H.o.C (by omega)).mono ?_;rintro e w4 ⟨v,Q,K,rfl,m,k⟩;have J:=xz v;replace E:=bB (show R=(ls.set i ⟨ls[i].N,UE.getD v ⟨#[]⟩⟩,Q) by obtain⟨q,y,z,C⟩:=E.o;rw[<-q];simp[cS,y,z,K,t]);generalize UE.getD v ⟨#[]⟩=va at *;replace H:=bB (H.o.call m k);obtain⟨Y,y1,U,_⟩:=IM H.o.R i t;have Y:=U (i*2+1);go_wp2;have:=(H.o.set (F.o.2.2 va) (SS H.o.Z i ⟨r.1,J⟩)).done (R:=R) (M:=N+100) E.o (by omega) (by rw[Pd];omega);rw[Pd]at this;exact bodyPost_ret (by simp[results,results36,go_sem]) rfl this
 .have x0:=IM H.o.R i t;have I:=H.o.R;go_wp2_with(at_builtin;refine kI rfl _ _ rfl underlying108 QU rfl (by omega) (by omega) (v:=pA (yB G) (yA ls) f) rfl I rfl rfl (cs:=#[oA ls[i].N,oA ⟨#[119]⟩]) rfl (by simp[iA.oneCell']) (by omega) (by omega) ?_;intro J U w5 U Y _);have:=(H.o.app ⟨ls[i].N,⟨#[119]⟩⟩ ⟨r.1,by show(1:Nat)<=258;omega⟩ Y.o U.o).done (R:=R) (M:=N+100) (by obtain⟨q,y,z,C⟩:=E.o;rw[<-q];simp[cS,y,z,t]) (by omega) (by simp;omega);simp only[Kb,List.length_singleton]at this;exact bodyPost_ret (by simp[results,results36,go_sem]) rfl this
 .obtain ⟨x0,x1,xf,hg1⟩:=IM H.o.R i t;have c:=xf (i*2+1);go_wp2;have:=(H.o.set (F.o.2.2 ⟨#[]⟩) (SS H.o.Z i ⟨r.1,by show(0:Nat)<=258;omega⟩)).done (R:=R) (M:=N+100) (by obtain⟨q,y,z,C⟩:=E.o;rw[<-q];simp[cS,y,z,t]) (by omega) (by rw[Pd];omega);rw[Pd]at this;exact bodyPost_ret (by simp[results,results36,go_sem]) rfl this
 .obtain ⟨hcap,hgl,_,o⟩:=aL H.o.R;obtain⟨_,_,_,_,hcm,_⟩:=cq H.o.R;have U:cB (eT w3.drew (if f=i+1 then yB G else bA (dB G ((i+1)*2))) (yA ls-(i+1)) (vC (ls.drop (i+1)))):=my (w:=w3.drew) o (i+1) hcap;have Y:cB (w3.drew.ownsRow w.1.size 181 2 (pA (yB G) i f) i (vC (ls.take i))):=aKs H.o.R i (by omega);have HL:cB (yA (vC (ls.drop (i+1)))=(yA ls-(i+1))*2):=by show _=_;rw[vG,Rc]
  have hic:i<=f:=by omega
  have hwr:IntKind.i64.wrap ((i:Int)+1)=(i:Int)+1:=by
   simp only[IntKind.wrap,IntKind.bits,IntKind.signed];simp;omega
  have hp0:(0:Int)<=(i:Int)+1:=by omega
  have hp1:(i:Int)+1<=(yA ls:Nat):=by omega
  have hp2:((i:Int)+1).toNat=i+1:=by omega
  have hcm2:(f:Int)<=9223372036854775807:=by unfold maxLen at hcm;omega
  go_wp2_with fail;go_region_law (refine iJ _ rfl (.tmp 59) (.tmp 63) 108 rfl w.1.size 181 ti _ 2 32 underlying108 HI.o O W Z rfl (by omega) G i f (vC (ls.take i)) (by simp[Act.eval,Act.put]) (by exact Y.o) (if f=i+1 then yB G else bA (dB G ((i+1)*2))) (yA ls-(i+1)) (f-(i+1)) (vC (ls.drop (i+1))) (by simp[Act.eval,Act.put]) HL.o (by exact U.o) (pT _) (by simp[maxLen];omega) (by omega) (by simpa using hsz.2.1) ?_;intro J O w5 u U _ _ _ _)
  all_goals go_wp2
  all_goals
   have O:yA (ls.take i++ls.drop (i+1))=i+(yA ls-(i+1)):=by rw[Kb,Hb,Rc];omega
   rw[<-cG,<-O]at u;have:=(H.o.below (((Below.refl _ w3).drew).trans U) u λx U=>(Ee.1 U).elim (λh=>H.o.Z x (Ce h)) λh=>H.o.Z x (Ng h)).done (R:=R) (M:=N+100) (by obtain⟨q,y,z,C⟩:=E.o;rw[<-q];simp[cS,y,z]) (by omega) (by omega);rw[O]at this;exact bodyPost_ret (by simp[results,results36,go_sem]) rfl this
 go_wp2_with fail;refine(fV (n:=2) H.o.C (by omega) (by omega) (by omega)).mono ?_;rintro e w4 ⟨O,Q,K,h,rfl,m,k⟩;replace E:=bB (show R=(QJ ls (16+O-yA ls),Q) by obtain⟨q,y,z,C⟩:=E.o;rw[<-q];simp[cS,y,z,K]);replace H:=bB (H.o.call m k);go_wp2;go_loopw [1] (λX wr=>∃(d:List dC)(J D:Nat),X=pA (yB J) (yA d) D/\yA d<=16+O/\cB (R=(QJ d (16+O-yA d),Q))/\cB (TZ w wr B P (N+3) bs Q d J D)) (λX _=>20-aFs X)
 case atStart=>exact⟨ls,G,f,rfl,by omega,E,H⟩
 case round=>
  obtain⟨d,J,D,rfl,h,E,H⟩:=hrel;by_cases h:(yA d:Int)<16+(O:Int)
  .have hal2:yA d<=16:=by omega
   obtain⟨A,V,h⟩:∃A:jB,(A.size=1/\A=strOfNums [97+((yA d:Nat):Int)])/\(convert 22 9 (pA (yB wr.1.size) 1 1)).run prog (wr.alloc (vA #[.int .u8 (97+(yA d:Nat))] 5))=.ok (oA A) (wr.alloc (vA #[.int .u8 (97+(yA d:Nat))] 5)):=
    ⟨strOfNums [97+((yA d:Nat):Int)],⟨DL _,rfl⟩,PH (B:=0) (ys:=[97+((yA d:Nat):Int)]) ⟨by simp,.inr ⟨wr.1.size,1,#[.int .u8 (97+(yA d:Nat))],rfl,Oa _,heap_alloc_new _ _,Ia _,by simp[maxLen],by simp,by simp⟩⟩⟩
   have C:cB (A.size=1):=V.1;have h:A.size<=1:=by omega
   replace E:=bB (show R=(QJ (d++[⟨⟨#[110]⟩++A,⟨#[118]⟩⟩]) (16+O-yA (d++[(⟨⟨#[110]⟩++A,⟨#[118]⟩⟩:dC)])),Q) by rw[E.o,show 16+O-yA d=16+O-yA (d++[(⟨⟨#[110]⟩++A,⟨#[118]⟩⟩:dC)])+1 by simp;omega,QJ,V.2]);have G:=bB (H.o.z (wF wr (vA #[.int .u8 (97+((yA d:Nat):Int))] 5)));have I:=G.o.R;have hs:=H.o.lt;clear V;go_wp2_with(at_builtin;refine kI rfl _ _ rfl underlying108 QU rfl (by omega) (by omega) (v:=pA (yB J) (yA d) D) rfl I rfl ?_ rfl ?_ (by omega) ?_ ?_)
   .simp
   .simp[iA.oneCell']
   .simp;omega
   intro I h w6 J U _;go_wp2;exact⟨⟨d++[⟨⟨#[110]⟩++A,⟨#[118]⟩⟩],I,h,by simp,by simp;omega,E,bB (G.o.app ⟨⟨#[110]⟩++A,⟨#[118]⟩⟩ ⟨by rw[Ka,C.o];show(2:Nat)<=65;omega,by show(1:Nat)<=258;omega⟩ U.o J.o)⟩,by simp only[aFs];omega⟩
  go_wp2;exact bodyPost_ret (by simp[results,results36,go_sem]) rfl (H.o.done (by rw[E.o,show 16+O-yA d=0 by omega,QJ]) (by omega) (by omega))
