import Derived.Test.YtejebmgbenmimaaGreatDoorJ39
import Derived.Test.YtejebmgbenmimaaGreatDoorJ33
set_option maxRecDepth 100000
set_option maxHeartbeats 4000000
set_option linter.defProp false
open List renaming length->cB
namespace Go.Proofs.YtejebmgbenmimaaGreatDoor
open Go renaming World->jA,Value->mA
open Obj renaming cells->aB
open Value renaming string->tA,slice->uA
open Go.RowKit Tryz
section
open Go.Maps
attribute [local go_sem] lG jH uK rB.drewI dL.drewI dL.new dL.alloc dL.alloc2
structure jR(w:World)(a b:nC)(N:vC):Prop where
 files:wB w a N.d.fs
 fit:DG N.d.fs
 tens:uC w b N.ts
 bulk:cB N.ts+fC N.ts≤1048576
 rng:MI N.ts
 lsn:xV N.lsn
 now:xV N.now
def jR.z{w W:jA}{a b:nC}{N:vC}(h:jR w a b N)(c:zB w W):jR W a b N:=⟨h.files.z c,h.fit,h.tens.z c,h.bulk,h.rng,h.lsn,h.now⟩
def NP.held{w W:jA}{c:kC}{cs:Array mA}(h:NP w W c cs)(M:Array mA)(a:jA)(b:zB W a):rB a (w.1.size+1) cs 42/\rB (a.setRow (w.1.size+1+1) M) (w.1.size+1) cs 42:=
 ⟨(h.z b).N,(eH a (w.1.size+1+1) M).blk (h.z b).N (by omega)⟩
def pR{d:Func}{t:Act}{w W:jA}{i j:Nat}{c:kC}{cs:Array mA}{M:vC}{x:mA}{a b:nC}{f g:Nat}(h:d.results=#[.cell i 42,.tmp j])(k:t.tmps.getD i undef=.pointer (cC (w.1.size+1+1)))(l:t.tmps.getD j undef=x)(m:t.defers=[])(P:NP w W c cs)(I:jR W a b M):bodyPost prog d (λe n=>MJ M x w e n) .ret t (W.setRow (w.1.size+1+1) (sC a f b g M)):=
 aU h k l m P.R (dG _ _ _ _ _) (by omega) P.B I.files I.tens
def dY{C:jA->Prop}{w:jA}{a cs:Array mA}{T:TypeId}(k:∀W,zB w W->rB W w.1.size cs T->C W):C ((w.alloc (aB a T)).setRow w.1.size cs):=
 k _ (aC.trans ((eH _ _ _).below (by simp) λi b e=>by omega)) (rB.new _ _ _).row
def aKy{C:jA->Prop}{w:jA}{O:Nat}{f g a b:mA}{t:TypeId}(h:rB w O #[f,g] t)(k:∀W,rB W O #[a,b] t->jB (·=O) w W->(∀{B:Nat}{e:TypeId}{z:Nat}{v:mA}{n:Nat}{d:List mA},w.ownsRow B e z v n d->O<B->W.ownsRow B e z v n d)->C W):C ((w.setCell (iB O 0) a).setCell (iB O 1) b):=
 k _ (by have:=(h.set 0 a).set 1 b;simpa using this) (((jB.refl (·=O) w).setCell (Ca rfl) 0 a).setCell (Ca rfl) 1 b) λh c=>BF (BF h c _) c _
def FE{W:jA}{g:Nat}{k n:Int}{t x:vB}{T:TypeId}(h:rB W g #[dB k,tA t,tA x,dB n] T):lI W (cC g) [⟨k,t,x,n⟩]:=
 La ⟨g,0,rfl,eB h,λi a=>by obtain rfl:i=0:=(by simp at a;exact a);exact h.c4⟩
def YA(c:kC){a b:nC}{ca cb:Nat}{N:vC}{W:jA}(h:jR W a b N){f:nC}{capr:Nat}{d:List tE}(k:lI W f d)(n:cB d+iD d<=240000)(j:VQ d)(i:mH c=true)(l:ZQ N=true)(g:iw c N d):
 Calls prog 69 #[oE c,.agg (sC a ca b cb N),uA f (cB d) capr] W λe m=>MJ (fG c N d).1 (dB (fG c N d).2) W e m:=
 nl c a b ca cb N f capr d W ⟨h.files,h.fit,h.tens,k,by have:=h.bulk;omega,j,h.lsn⟩ i l g
def LV{k n:Int}{t x:vB}(a:0<=k/\k<=9)(b:VP n):VQ [⟨k,t,x,n⟩]:=by grind [VP,VQ]
def aEp{c:kC}{d:Int}{a:List kB}(h:pC c d a=true)(b f:vB)(j:cB a+fC a<=1900000): -1<=(sH c d a b f).1/\(sH c d a b f).1<=2000000/\-1<=(sH c d a b f).2/\(sH c d a b f).2<=1000000:=by
 obtain⟨k,_,_,_,m⟩:=dH h;obtain⟨n,i,_⟩:=bU m (name:=b);have p:cB (eC a b).Z<=1900000:=by
  rcases zL (ts:=a) (name:=b) with⟨g,_⟩|⟨e,_⟩;exact (nR j _ g).2.2.2.2;rw[e];exact Oa _
 have l:(0<=c.tl/\c.tl<=1000000)/\(0<=c.ml/\c.ml<=1000000):=by
  simp only[mH,dC,Sa,Ab]at k;omega
 have g : -1<=zG (eC a b).M f c.ml/\zG (eC a b).M f c.ml<=1000000:=by
  rw[UE (LS i).2];cases hg:eD (·.s) f (eC a b).M with
  |none=>exact⟨by simp;omega,by simp;omega⟩
  |some q=>
   have:=((LS i).1 q (eM hg).1).2;simp only[dC,Sa,Ab]at this;exact⟨by simp;omega,by simp;omega⟩
 have o:sI cE (eC a b).Z f<=cB (eC a b).Z:=Pc _ _;simp only[dC,Sa,Ab]at n;unfold sH uE;split
 .split
  .refine ⟨by dsimp only;omega,by dsimp only;omega,?_,?_⟩<;>(dsimp only;split<;>omega)
  exact ⟨by dsimp only;omega,by dsimp only;omega,g.1,g.2⟩
 exact ⟨by simp,by simp,by simp,by simp⟩
def YB(v:Int)(W:jA)(a : -9223372036854775808<=v)(b:v<=9223372036854775807):gF 68 #[dB 8,dB v] W (tA (uB 8 v)):=oD 8 v W (by omega) a b
def aJr(v:Int)(W:jA)(a : -9223372036854775808<=v)(b:v<=9223372036854775807):gF 68 #[dB 4,dB v] W (tA (uB 4 v)):=oD 4 v W (by omega) a b
def aJq(v:Int)(W:jA)(a : -9223372036854775808<=v)(b:v<=9223372036854775807):gF 68 #[dB 2,dB v] W (tA (uB 2 v)):=oD 2 v W (by omega) a b
def aDj{c:kC}{g:Int}{a:List kB}(h:pC c g a=true)(b:vB)(o:cB a+fC a<=1900000):cB (eC a b).Z+dE (eC a b).Z<=1900000/\ab (eC a b).Z:=by
 obtain⟨_,m,d,_,k⟩:=dH h;obtain⟨_,_,l⟩:=bU k (name:=b);refine⟨?_,λi f=>?_⟩
 .rcases zL (ts:=a) (name:=b) with⟨j,_⟩|⟨e,_⟩
  .obtain ⟨i,f,e⟩:=Ib j;have d:=eK a i f;have n:=tM a (i+1);rw[e]at d;unfold lF at d;omega
  rw[e];exact Oa _
 have:=((FK l).1 _ (Gb f)).2.1;simp only[dC,Sa,Ab]at this;exact⟨by omega,by omega⟩
def NS(a b d e:mA)(W:jA):(Instr.field 105 (.agg #[a,b,d,e]) 3).run prog W=.ok e W:=by kernel_rfl
def aHt{c:kC}{a:Int}{e:List kB}(h:pC c a e=true)(d:vB)(b:List wF)(r:(kE b).size<=60000)(v:cB b<=500)(q:d.size<=255)(k:Nat)(p:k<=cB b):pC c a (wK c a d e (b.take k)).1=true/\cB (wK c a d e (b.take k)).1+fC (wK c a d e (b.take k)).1<=cB e+fC e+190000/\(wK c a d e (b.take k)).2.1.size=k/\cB (wK c a d e (b.take k)).2.2<=k/\iD (wK c a d e (b.take k)).2.2<=190000/\VQ (wK c a d e (b.take k)).2.2:=by
 obtain⟨j,s,l,m,t,n⟩:=aDs h d b k p;have u:(kE (b.take k)).size<=60000:=by
  have:=dI (b.take k) (b.drop k);rw[Za]at this;rw[this,Ka]at r;omega
 have w:k*(d.size+2)<=500*257:=Hf (by omega) (by omega);have x:k*d.size<=500*255:=Hf (by omega) q;refine⟨j,by omega,l,m,by omega,λi o=>?_⟩;obtain⟨f,g⟩:=n _ (Gb o);rw[f,g];exact⟨⟨by omega,by omega⟩,⟨by omega,by omega⟩⟩
def pP(k:Int):Bool:=k != 2&&k != 4
def aIs(c:kC)(N:vC)(r:fH)(a:List Int):Prop:=yi c N r/\pC c N.now N.ts=true/\VR r/\r.K∈a
end
def JM(d:Int)(a q:nC)(p g:Nat)(c:List kB)(w:jA)(e:uC w a c)(H:uC w q c)(I:cB c<=maxLen)(W:∀i(h:i<cB c),cB c[i].M<=maxLen/\cB c[i].Z<=maxLen):
 gF 10 #[.agg #[dB d,uA a (cB c) p],.agg #[dB d,uA q (cB c) g]] w (.bool true):=by
 unfold maxLen at I W;have h:fB (uC w a c):=e;have F:fB (uC w q c):=H;have G:=gB W;clear e H W;go_enter func10,ntmps10;go_wp2;have e:fB (rB ((w.alloc (aB #[dB d,uA a (cB c) p] 40)).alloc (aB #[dB d,uA q (cB c) g] 40)) w.1.size #[dB d,uA a (cB c) p] 40):=(rB.new _ _ _).alloc _;have m:fB (rB ((w.alloc (aB #[dB d,uA a (cB c) p] 40)).alloc (aB #[dB d,uA q (cB c) g] 40)) (w.1.size+1) #[dB d,uA q (cB c) g] 40):=gB (by have:=rB.new (w.alloc (aB #[dB d,uA a (cB c) p] 40)) #[dB d,uA q (cB c) g] 40;simpa using this);have I:fB (zB w ((w.alloc (aB #[dB d,uA a (cB c) p] 40)).alloc (aB #[dB d,uA q (cB c) g] 40))):=xB aC aC;have Z:fB (uC ((w.alloc (aB #[dB d,uA a (cB c) p] 40)).alloc (aB #[dB d,uA q (cB c) g] 40)) a c/\uC ((w.alloc (aB #[dB d,uA a (cB c) p] 40)).alloc (aB #[dB d,uA q (cB c) g] 40)) q c):=⟨h.o.z (xB aC aC),F.o.z (xB aC aC)⟩
 generalize ((w.alloc (aB #[dB d,uA a (cB c) p] 40)).alloc (aB #[dB d,uA q (cB c) g] 40))=L at *;clear h F;go_loopw [27] (λi wr=>∃k:Nat,k<=cB c/\i=dB (k:Nat)/\fB (zB L wr)) (λi _=>cB c-(intOf i).toNat)
 case atStart=>exact⟨0,Oa _,rfl,jD⟩
 case round=>
  obtain⟨k,h,rfl,D⟩:=hrel;by_cases E:k<cB c
  .have J:(k:Int)<(cB c:Nat):=by omega
   have R:=gB (e.o.z D.o);have S:=gB (m.o.z D.o);have O:=R.o.cell 1;have U:=S.o.cell 1;have W:w.1.size<wr.1.size:=eB R.o;have hy:w.1.size+1<wr.1.size:=eB S.o;obtain⟨b,o,r,y,s,z,rfl,hb,c0,c1,c2,c3,e,h⟩:=(Z.o.1.z D.o).at E;obtain⟨b',m,t,A,u,B,rfl,T,e0,e1,e2,e3,m,o⟩:=(Z.o.2.z D.o).at E;obtain⟨Y,Y⟩:=G.o k E;have G:fB (jC wr r c[k].M/\jC wr t c[k].M/\jC wr s c[k].Z/\jC wr u c[k].Z):=⟨e,m,h,o⟩
   clear e h m o;have h:¬(w.1.size=wr.1.size):=by omega
   have o:¬(w.1.size+1=wr.1.size):=by omega
   have Z:¬(b'=wr.1.size):=by omega
   generalize c[k].N=n at *;generalize c[k].L=m at *;generalize c[k].M=l at *;generalize c[k].Z=e at *;go_wp2;have N:fB (rB ((wr.alloc (aB #[tA n,dB m,uA r (cB l) y,uA s (cB e) z] 105)).alloc (aB #[tA n,dB m,uA t (cB l) A,uA u (cB e) B] 105)) wr.1.size #[tA n,dB m,uA r (cB l) y,uA s (cB e) z] 105):=(rB.new _ _ _).alloc _;have Y:fB (rB ((wr.alloc (aB #[tA n,dB m,uA r (cB l) y,uA s (cB e) z] 105)).alloc (aB #[tA n,dB m,uA t (cB l) A,uA u (cB e) B] 105)) (wr.1.size+1) #[tA n,dB m,uA t (cB l) A,uA u (cB e) B] 105):=gB (by have:=rB.new (wr.alloc (aB #[tA n,dB m,uA r (cB l) y,uA s (cB e) z] 105)) #[tA n,dB m,uA t (cB l) A,uA u (cB e) B] 105;simpa using this);have WB:fB (zB L ((wr.alloc (aB #[tA n,dB m,uA r (cB l) y,uA s (cB e) z] 105)).alloc (aB #[tA n,dB m,uA t (cB l) A,uA u (cB e) B] 105))):=xB D.o (xB aC aC);have K:fB (jC ((wr.alloc (aB #[tA n,dB m,uA r (cB l) y,uA s (cB e) z] 105)).alloc (aB #[tA n,dB m,uA t (cB l) A,uA u (cB e) B] 105)) r l/\jC ((wr.alloc (aB #[tA n,dB m,uA r (cB l) y,uA s (cB e) z] 105)).alloc (aB #[tA n,dB m,uA t (cB l) A,uA u (cB e) B] 105)) t l/\jC ((wr.alloc (aB #[tA n,dB m,uA r (cB l) y,uA s (cB e) z] 105)).alloc (aB #[tA n,dB m,uA t (cB l) A,uA u (cB e) B] 105)) s e/\jC ((wr.alloc (aB #[tA n,dB m,uA r (cB l) y,uA s (cB e) z] 105)).alloc (aB #[tA n,dB m,uA t (cB l) A,uA u (cB e) B] 105)) u e):=⟨G.o.1.z (xB aC aC),G.o.2.1.z (xB aC aC),G.o.2.2.1.z (xB aC aC),G.o.2.2.2.z (xB aC aC)⟩
   generalize ((wr.alloc (aB #[tA n,dB m,uA r (cB l) y,uA s (cB e) z] 105)).alloc (aB #[tA n,dB m,uA t (cB l) A,uA u (cB e) B] 105))=M at *;generalize wr.1.size=m at *;clear D R S O U G c0 c1 c2 c3 e0 e1 e2 e3 hb T W hy h o Z;clear wr;go_loopw [73] (λi wr=>∃j:Nat,j<=cB l/\i=dB (j:Nat)/\fB (zB M wr)) (λi _=>cB l-(intOf i).toNat)
   case atStart=>exact⟨0,Oa _,rfl,jD⟩
   case round=>
    obtain⟨j,h,rfl,f⟩:=hrel;by_cases v:j<cB l
    .have x:(j:Int)<(cB l:Nat):=by omega
     have O:=gB (N.o.z f.o);have P:=gB (Y.o.z f.o);have m:=O.o.cell 2;have o:=P.o.cell 2;obtain⟨G,W,rfl,U,Z,d1⟩:=(K.o.1.z f.o).at v;obtain⟨g2,o2,rfl,V,d2,d3⟩:=(K.o.2.1.z f.o).at v;generalize l[j]=pr at *;go_wp2_with fail;go_region
     go_wp2;exact⟨⟨j+1,by omega,by go_num,f.o.drew⟩,by simp[intOf];omega⟩
    have x:¬((j:Int)<(cB l:Nat)):=by omega
    have Q:=gB f.o;have h:=(N.o.z f.o).cell 3;clear f;go_wp2;obtain⟨h,X⟩:∃h:jA,h=wr:=⟨_,rfl⟩
    subst X;go_loopw [91] (λi wr=>∃C:Nat,C<=cB e/\i=dB (C:Nat)/\fB (zB M wr)) (λi _=>cB e-(intOf i).toNat)
    case atStart=>exact⟨0,Oa _,rfl,Q.o⟩
    case round=>
     obtain⟨C,h,rfl,f⟩:=hrel;by_cases v:C<cB e
     .have x:(C:Int)<(cB e:Nat):=by omega
      have O:=gB (N.o.z f.o);have P:=gB (Y.o.z f.o);have m:=O.o.cell 3;have o:=P.o.cell 3;obtain⟨G,W,rfl,U,Z,d1⟩:=(K.o.2.2.1.z f.o).at v;obtain⟨g2,o2,rfl,V,d2,d3⟩:=(K.o.2.2.2.z f.o).at v;generalize e[C]=pr at *;go_wp2_with fail;go_region
      go_wp2;exact⟨⟨C+1,by omega,by go_num,f.o.drew⟩,by simp[intOf];omega⟩
     have x:¬((C:Int)<(cB e:Nat)):=by omega
     go_wp2;exact⟨⟨k+1,by omega,by go_num,xB WB.o f.o⟩,by simp[intOf];omega⟩
  have J:¬((k:Int)<(cB c:Nat)):=by omega
  go_wp2;go_ret;exact⟨rfl,xB I.o D.o⟩
