import Derived.Test.YtbfnhppoecdnoaaGreatDoorJ24
import Derived.Test.YtbfnhppoecdnoaaGreatDoorJ23
import Derived.Deep.WholeRow
set_option maxRecDepth 100000
set_option maxHeartbeats 4000000
set_option linter.defProp false
open Bool renaming true->dA,false->cA
open Option renaming none->aA,some->bA
open ByteArray renaming empty->kA
open List renaming length->vA
namespace Go.Proofs.YtbfnhppoecdnoaaGreatDoor
open Go renaming World->eA,Value->iA,TypeId->jA
open Value renaming agg->rA,int->lA,bool->pA,slice->oA,string->nA
open IntKind renaming i64->mA
open Go.RowKit Tryz
def aHq(a b c:Int)(w:eA):
 qD 31 #[rA #[lA mA a,lA mA b,lA mA c]] w (rA #[lA mA a,lA mA b,lA mA c]):=by
 go_enter func31,ntmps31;go_wp2;refine bodyPost_ret (v:=rA #[lA mA a,lA mA b,lA mA c]) (by simp[results,results31,go_sem]) rfl ⟨rfl,?_⟩;first
  |exact oB (oB vB vB) vB
  |(repeat (first|with_reducible refine Below.setCell ?_ (by first|(simp;done)|(simp;omega)) _)
    exact oB (oB vB vB) vB)
def szN(N:oC):Int:=if oR 1048576 N.d.fs<0 then -1 else xJ (oR 1048576 N.d.fs) N.ts
def aQe(a:List cB):oR 1048576 a<=1048576:=by unfold oR;split<;>omega
def aAh(a b:iC)(z A:Nat)(N:oC)(w:eA)(p:eB w a N.d.fs)(t:pL N.d.fs)(F:vA N.d.fs<=maxLen)(u:nC w b N.ts)(g:DW N.ts)(s:vA N.ts<=maxLen):
 qD 4 #[rA (dC a z b A N),lA mA 1048576] w (lA mA (szN N)):=by
 unfold dC;have m:=yA (fun W(o:kB w W)=>aAg a z N.d.fs N.d.c N.d.k N.d.cr N.d.fl N.d.dn 1048576 W (by omega) (by omega) (p.z o) t F);have q:=aQe N.d.fs;have i:=yA (show szN N=if oR 1048576 N.d.fs<0 then -1 else xJ (oR 1048576 N.d.fs) N.ts from rfl);by_cases y:oR 1048576 N.d.fs<0
 .rw[Ma y]at i;generalize oR 1048576 N.d.fs=left at *;clear p u t g;go_enter func4,ntmps4;go_wp2_with fail;apply aC (m.o _ vB);intro I f;have l:=yA (oB vB f);clear f;go_wp2;go_ret;exact⟨fD i.o.symm,l.o⟩
 have B:=yA (fun W(o:kB w W)=>tw b A N.ts N.now (oR 1048576 N.d.fs) W (by omega) q (u.z o) g s);rw[Ja y]at i;have v:xJ (oR 1048576 N.d.fs) N.ts<0->xJ (oR 1048576 N.d.fs) N.ts = -1:=fun h=>by unfold xJ at h |-;split at h<;>omega
 generalize G:xJ (oR 1048576 N.d.fs) N.ts=r at *;generalize oR 1048576 N.d.fs=left at *;clear p u t g G;go_enter func4,ntmps4;go_wp2_with fail;apply aC (m.o _ vB);intro I f;have l:=yA (oB vB f);obtain⟨_,_,_,_,_,_,_,_,_,E,n,_,_,_⟩:=(iB.z (iB.new w _ _) f).n14;clear f m;go_wp2_with fail;apply aC (B.o _ l.o);intro J j;have x:=yA (oB l.o j);clear j E n;by_cases D:r<0
 .have C:=yA (v D);clear v;go_wp2;go_ret;exact⟨fD (by rw[i.o,C.o]),x.o⟩
 clear v;go_wp2;go_ret;exact⟨fD i.o.symm,x.o⟩
def MO(a u b v:iC)(G i H j:Nat)(N:oC)(w:eA)(O:eB w a N.d.fs)(o:eB w u N.d.fs)(hl:vA N.d.fs<=maxLen)(P:nC w b N.ts)(p:nC w v N.ts)(B:vA N.ts<=maxLen)(M:aCt N.ts):
 qD 9 #[rA (dC a G b H N),rA (dC u i v j N)] w (pA dA):=by
 unfold dC;have D:=yA (fun W(n:kB w W)=>mq a u G i N.d.fs N.d.c N.d.k N.d.cr N.d.fl N.d.dn W (O.z n) (o.z n) hl);have E:=yA (fun W=>wt N.l.first N.l.last N.l.size W);have F:=yA (fun W(n:kB w W)=>ds N.now b v H j N.ts W (P.z n) (p.z n) B M);clear O o P p M;go_enter func9,ntmps9;go_wp2_with fail;apply aC (D.o _ (oB vB vB));intro w1 f;have Q:=yA (oB (oB vB vB) f);have q:=yA (((iB.new w _ _).alloc _).z f);have s:=yA ((iB.new (w.alloc _) _ _).z f);obtain⟨_,_,_,_,_,_,V,X,Y,_,_,_,_,_⟩:=q.o.n14;obtain⟨_,_,_,_,_,_,I,J,K,_,_,_,_,_⟩:=s.o.n14;simp only[eA.size_alloc]at I J K;clear f D;go_wp2_with fail;apply aC (E.o _);intro w2 g;have C:=yA (oB Q.o g);have r:=yA (q.o.z g);have t:=yA (s.o.z g);obtain⟨_,_,_,_,_,_,_,_,_,Z,x,_,_,_⟩:=r.o.n14;obtain⟨_,_,_,_,_,_,_,_,_,L,m,_,_,_⟩:=t.o.n14;simp only[eA.size_alloc]at L m;clear g E V X Y I J K q s;go_wp2_with fail;apply aC (F.o _ C.o);intro w3 h;have R:=yA (oB C.o h);obtain⟨_,_,_,_,_,_,_,_,_,_,_,S,T,U⟩:=(r.o.z h).n14;obtain⟨_,_,_,_,_,_,_,_,_,_,_,y,z,A⟩:=(t.o.z h).n14;simp only[eA.size_alloc]at y z A;clear h F Z x L m r t;go_wp2;go_ret;exact⟨rfl,R.o⟩
def aNm{C:eA->Prop}{w:eA}{O:Nat}{r c d e f g i j l m n o p q a:iA}{t:jA}(h:iB w O #[r,c,d,e,f,g,i,j,l,m,n,o,p,q] t)
(k:∀b,iB b O #[a,c,d,e,f,g,i,j,l,m,n,o,p,q] t->bB (·=O) w b->C b):C (w.setCell ⟨O,0,aA⟩ a):=
 k _ (by have:=h.set 0 a;simpa using this) ((bB.refl (·=O) w).setCell (Ca rfl) 0 a)
def bB.end2{C:eA->Prop}{S:Nat->Prop}(w:eA){a:eA}(h:bB S w a)(k:∀W,bB S w W->C W):C a:=k a h
structure iI(w:World)(A:Nat→Prop)(a b:iC)(N:oC):Prop where
 parts:∃F T,wG w F a N.d.fs∧nO w T b N.ts∧(∀x,F x→A x)∧(∀x,T x→A x)∧∀x,F x→¬T x
def iI.files{w:eA}{A:Nat->Prop}{a b:iC}{N:oC}(h:iI w A a b N):eB w a N.d.fs:=by
 obtain⟨F,T,c,e,_⟩:=h.parts;exact c.files
def iI.tens{w:eA}{A:Nat->Prop}{a b:iC}{N:oC}(h:iI w A a b N):nC w b N.ts:=by
 obtain⟨F,T,d,c,_⟩:=h.parts;exact c.tens
def iI.turned{S A:Nat->Prop}{w j:eA}{a b:iC}{N:oC}(h:iI w A a b N)(i:bB S w j)(f:∀g,A g->g<w.1.size->¬S g):iI j A a b N:=by
 obtain⟨F,T,k,l,d,e,m⟩:=h.parts;exact⟨F,T,k.turned i (fun g c=>f g (d g c)),l.turned i (fun g c=>f g (e g c)),d,e,m⟩
def iI.z{A:Nat->Prop}{w c:eA}{a b:iC}{N:oC}(h:iI w A a b N)(d:kB w c):iI c A a b N:=h.turned (bB.of (S:=fun _=>False) d) fun _ _ _ e=>e
def iI.mono{A A':Nat->Prop}{w:eA}{a b:iC}{N:oC}(h:iI w A a b N)(d:∀x,A x->A' x):iI w A' a b N:=by
 obtain⟨F,T,e,f,g,i,j⟩:=h.parts;exact⟨F,T,e,f,fun x c=>d x (g x c),fun x c=>d x (i x c),j⟩
def IV(a b:iC)(y z:Nat)(N:oC)(A:Nat->Prop)(w:eA)(h:iI w A a b N)(H:∀x,A x->x<w.1.size)(p:1+3*vA N.d.fs+dD N.ts<=100000000):
 Calls prog 10 #[rA (dC a y b z N),lA mA 1] w fun e r=>e=.returned (lA mA ((1+3*vA N.d.fs+dD N.ts:Nat):Int))/\bB A w r/\eB r a (zR 1 (vA N.d.fs))/\nC r b (jH (1+3*vA N.d.fs) N.ts):=by
 unfold dC;obtain⟨F,T,B,C,D,E,G⟩:=h.parts;have u:=yA (fun W(n:kB w W)=>aGa a y N.d.fs N.d.c N.d.k N.d.cr N.d.fl N.d.dn 1 F W (by omega) (by omega) (B.z n));have v:=yA (fun W(n:nO W T b N.ts)=>yt N.now b z N.ts (1+3*vA N.d.fs) T W (by omega) p n);have K:=yA C;have s:=yA D;have L:=yA E;have t:=yA G;have M:=yA H;clear h B C D E G H;go_enter func10,ntmps10;go_wp2_with fail;apply aC (u.o _ vB);rintro V ⟨f,j⟩;have U:¬F w.1.size:=fun h=>by have:=M.o _ (s.o _ h);omega
 have Q:=yA ((bB.of vB).trans' f);have I:=yA j;have O:=yA ((K.o.z vB).turned f (fun g o _ h=>t.o g h o));obtain⟨_,_,_,_,_,_,_,_,_,S,m,_,_,_⟩:=(f.blk (iB.new w _ _) U).n14;clear f j u;go_wp2_with fail;apply aC (v.o _ O.o);rintro X ⟨i,l⟩;have J:=yA (I.o.turned i (fun g o _ h=>t.o g o h));have R:=yA ((Q.o.mono (fun x _ q=>s.o x q)).trans' (i.mono (fun x _ q=>L.o x q)));have P:=yA l;clear S m i l v;go_wp2;go_ret;exact⟨rfl,R.o,J.o.files,P.o⟩
def ef(a b:iC)(s t n:Nat)(c k u x:Int)(v:Bool)(L:kG)(g o:Int)(j C:Bool)(h:List aB)(w:eA)(y:eB w a (zR 1 n))(z:nC w b (jH (1+3*n) h))(m:1+3*n+dD h<=100000000):
 qD 11 #[rA #[oA a n s,lA mA c,lA mA k,lA mA u,lA mA x,pA v,lA mA L.first,lA mA L.last,lA mA L.size,lA mA g,oA b (vA h) t,lA mA o,pA j,pA C],lA mA 1] w (lA mA ((1+3*n+dD h:Nat):Int)):=by
 have q:=yA (fun W(l:kB w W)=>ee a s c k u x v 1 n W (by omega) (by omega) (y.z l));have r:=yA (fun W(l:kB w W)=>WG g b t h (1+3*n) W (by omega) m (z.z l));clear y z;go_enter func11,ntmps11;go_wp2_with fail;apply aC (q.o _ vB);intro E d;have p:=yA (oB vB d);obtain⟨_,_,_,_,_,_,_,_,_,B,i,_,_,_⟩:=(iB.z (iB.new w _ _) d).n14;clear d q;go_wp2_with fail;apply aC (r.o _ p.o);intro F f;have A:=yA (oB p.o f);clear f r B i;go_wp2;go_ret;exact⟨rfl,A.o⟩
def aAp(a b:iC)(ca cb:Nat)(N:oC)(w:eA)(hf:eB w a N.d.fs)(hl:vA N.d.fs<=1048576)(ht:nC w b N.ts)(Q:vA N.ts<=1048576)(A:KC N.ts):
 Calls prog 7 #[rA (dC a ca b cb N)] w fun e Y=>∃g h,e=.returned (rA #[oA (bA ⟨g,0,aA⟩) (vA N.d.fs) (vA N.d.fs),lA mA N.d.c,lA mA N.d.k,lA mA N.d.cr,lA mA N.d.fl,pA N.d.dn,lA mA N.l.first,lA mA N.l.last,lA mA N.l.size,lA mA N.now,oA (bA ⟨h,0,aA⟩) (vA N.ts) (vA N.ts),lA mA N.lsn,pA N.deg,pA N.up])/\iI Y (fun x=>w.1.size<=x/\x<Y.1.size) (bA ⟨g,0,aA⟩) (bA ⟨h,0,aA⟩) N/\kB w Y:=by
 unfold dC;have HD:=yA (fun W(O:kB w W)=>aAn a ca N.d.fs N.d.c N.d.k N.d.cr N.d.fl N.d.dn W (hf.z O) hl);have HL:=yA (fun W=>aHq N.l.first N.l.last N.l.size W);have HS:=yA (fun W(O:kB w W)=>uj N.now b cb N.ts W (ht.z O) Q A);clear hf ht A;go_enter func7,ntmps7;go_wp2_with fail;refine(HD.o _ (oB (oB vB vB) vB)).mono ?_;rintro e w1 ⟨g,rfl,P,p,y,j⟩;have E:=yA ((((iB.new w _ _).alloc _).alloc _).z j);have K:=yA (((iB.new (w.alloc _) _ _).alloc _).z j);have s:=yA ((iB.new ((w.alloc _).alloc _) _ _).z j);simp only[eA.size_alloc]at K s P;have W1:=yA (show wG w1 (fun x=>x=g) (bA ⟨g,0,aA⟩) N.d.fs by
  obtain⟨u,t,m⟩:=p;rcases y with h|⟨b',o',e,_,h⟩;exact Ca h;simp only[Qa,Addr.mk.injEq]at e;obtain⟨rfl,rfl,_⟩:=e;exact La ⟨g,0,u,t,rfl,rfl,m,h⟩)
 have hgl:g<w1.1.size:=by obtain⟨u,t,m⟩:=p;exact zA m
 have G:=yA (oB (oB (oB vB vB) vB) j);have R:=j.size;simp only[eA.size_alloc]at R;have n:=s.o.n14;have o:=s.o.frees;obtain⟨_,_,_,_,_,_,a6,a7,a8,_,_,_,_,_⟩:=E.o.n14;clear j y p HD;go_wp2_with fail;refine aBc (C:=fun W=>Calls prog _ _ W _) s.o ?_;intro w2 O2 q;have Z:=yA (q.blk E.o (by omega));have R2:=yA (q.blk K.o (by omega));have W2:=yA (W1.o.turned q (fun x m _ e=>by omega));have hz2:=q.size;have B2:=yA (G.o.trans (q.below (by have:=G.o.size;omega) (fun k hk e=>by omega)));clear a6 a7 a8 s E K W1 G q n o;apply aC (HL.o _);intro w3 i;have F:=yA (Z.o.z i);have R3:=yA (R2.o.z i);have B:=yA (O2.z i);have W3:=yA (W2.o.z i);have H:=yA (oB B2.o i);have hz3:=i.size;have n:=B.o.n14;have o:=B.o.frees;obtain⟨_,_,_,_,_,_,_,_,_,a9,M,_,_,_⟩:=F.o.n14;clear i Z R2 O2 W2 B2 HL;go_wp2_with fail;refine aNn (C:=fun W=>Calls prog _ _ W _) B.o ?_;intro w4 J r;have A4:=yA (r.blk F.o (by omega));have L:=yA (r.blk R3.o (by omega));have W4:=yA (W3.o.turned r (fun x m _ e=>by omega));have hz4:=r.size;have I:=yA (H.o.trans (r.below (by have:=H.o.size;omega) (fun k hk e=>by omega)));clear a9 M B F R3 W3 H r n o;refine(HS.o _ I.o).mono ?_;rintro e w5 ⟨h,rfl,hh1,hh2,z,f⟩;have W5:=yA (W4.o.z f);have X5:=yA (z.toA (Ia _));have B5:=yA (oB I.o f);have n:=(J.z f).n14;have o:=(J.z f).frees;obtain⟨_,_,_,_,_,_,_,_,_,_,_,a11,a12,a13⟩:=(A4.o.z f).n14;obtain⟨r0,r1,r2,r3,r4,r5,r6,r7,r8,r9,T,U,V,X⟩:=(L.o.z f).n14;obtain⟨g0,g1,g2,g3,g4,g5,g6,g7,g8,g9,g10,g11,g12,g13⟩:=(L.o.z f).frees;clear f z A4 L J W4 I HS;go_wp2;refine bodyPost_ret (v:=rA #[oA (bA ⟨g,0,aA⟩) (vA N.d.fs) (vA N.d.fs),lA mA N.d.c,lA mA N.d.k,lA mA N.d.cr,lA mA N.d.fl,pA N.d.dn,lA mA N.l.first,lA mA N.l.last,lA mA N.l.size,lA mA N.now,oA (bA ⟨h,0,aA⟩) (vA N.ts) (vA N.ts),lA mA N.lsn,pA N.deg,pA N.up]) (by simp[results,results7,go_sem,r0,r1,r2,r3,r4,r5,r6,r7,r8,r9,T,U,V,X]) rfl ?_;refine bB.end2 (S:=fun x=>x=w.1.size+1+1\/x=w.1.size+1) (C:=fun W=>∃g' h',Ending.returned (rA #[oA (bA ⟨g,0,aA⟩) (vA N.d.fs) (vA N.d.fs),lA mA N.d.c,lA mA N.d.k,lA mA N.d.cr,lA mA N.d.fl,pA N.d.dn,lA mA N.l.first,lA mA N.l.last,lA mA N.l.size,lA mA N.now,oA (bA ⟨h,0,aA⟩) (vA N.ts) (vA N.ts),lA mA N.lsn,pA N.deg,pA N.up])=Ending.returned (rA #[oA (bA ⟨g',0,aA⟩) (vA N.d.fs) (vA N.d.fs),lA mA N.d.c,lA mA N.d.k,lA mA N.d.cr,lA mA N.d.fl,pA N.d.dn,lA mA N.l.first,lA mA N.l.last,lA mA N.l.size,lA mA N.now,oA (bA ⟨h',0,aA⟩) (vA N.ts) (vA N.ts),lA mA N.lsn,pA N.deg,pA N.up])/\iI W (fun x=>w.1.size<=x/\x<W.1.size) (bA ⟨g',0,aA⟩) (bA ⟨h',0,aA⟩) N/\kB w W) w5 (by
  repeat (with_reducible first|exact bB.refl _ _|refine bB.setCell ?_ (Ca (by first|exact Ca rfl|exact La rfl)) _ _)) ?_
 intro w6 D;have hz6:=D.size;exact⟨g,h,rfl,⟨_,_,W5.o.turned D (fun x m _ e=>by omega),X5.o.turned D (fun x m _ e=>by omega),fun x m=>by omega,fun x m=>by omega,fun x m e=>by omega⟩,B5.o.trans (D.below (by have:=B5.o.size;omega) (fun k hk e=>by omega))⟩
structure C14(cs:Array Value):Prop where
 size:cs.size=14
 one:cs.all (·.oneCell')=dA
def tH(a b:iC)(c d:Nat)(N:oC):C14 (dC a c b d N):=⟨rfl,by simp[dC,iA.oneCell']⟩
def fO(W:eA)(X:Nat):Prop:=∃a T,iB W X a T/\a.size=14
def iB.box{W:eA}{X:Nat}{cs:Array iA}{T:jA}(h:iB W X cs T)(a:cs.size=14):fO W X:=⟨cs,T,h,a⟩
def iF(a:iC)(e:Nat)(b:iC)(f:Nat)(N:oC):#[oA a (vA N.d.fs) e,lA mA N.d.c,lA mA N.d.k,lA mA N.d.cr,lA mA N.d.fl,pA N.d.dn,lA mA N.l.first,lA mA N.l.last,lA mA N.l.size,lA mA N.now,oA b (vA N.ts) f,lA mA N.lsn,pA N.deg,pA N.up]=dC a e b f N:=rfl
def jP:#[oA aA 0 0,lA mA 0,lA mA 0,lA mA 0,lA mA 0,pA cA,lA mA 0,lA mA 0,lA mA 0,lA mA 0,oA aA 0 0,lA mA 0,pA cA,pA cA]=dC aA 0 aA 0 qK:=rfl
def zG(a b:iC)(c d:Nat)(N:oC):(dC a c b d N).size=14:=rfl
def tF(a:iC)(e:Nat)(b:iC)(f:Nat)(N:oC)(T:jA):∀W X,iB W X (dC a e b f N) T->W.cell? ⟨X,0,aA⟩=bA (oA a (vA N.d.fs) e)/\W.cell? ⟨X,1,aA⟩=bA (lA mA N.d.c)/\W.cell? ⟨X,2,aA⟩=bA (lA mA N.d.k)/\W.cell? ⟨X,3,aA⟩=bA (lA mA N.d.cr)/\W.cell? ⟨X,4,aA⟩=bA (lA mA N.d.fl)/\W.cell? ⟨X,5,aA⟩=bA (pA N.d.dn)/\W.cell? ⟨X,6,aA⟩=bA (lA mA N.l.first)/\W.cell? ⟨X,7,aA⟩=bA (lA mA N.l.last)/\W.cell? ⟨X,8,aA⟩=bA (lA mA N.l.size)/\W.cell? ⟨X,9,aA⟩=bA (lA mA N.now)/\W.cell? ⟨X,10,aA⟩=bA (oA b (vA N.ts) f)/\W.cell? ⟨X,11,aA⟩=bA (lA mA N.lsn)/\W.cell? ⟨X,12,aA⟩=bA (pA N.deg)/\W.cell? ⟨X,13,aA⟩=bA (pA N.up):=fun _ _ h=>h.n14
def cO{W:eA}{X:Nat}{cs:Array iA}(h:fO W X)(a:C14 cs):(storeCells ⟨X,0,aA⟩ cs.toList 0).run prog W=.ok () (W.setRow X cs):=by
 obtain⟨e,T,d,b⟩:=h;have:=run_storeCells_from (P:=prog) X T cs.toList 0 e W d (by simp[b,a.size]) (fun v c=>(Array.all_eq_true_iff_forall_mem.1 a.one) v (by simpa using c));simpa using this
def iB.drewI{W:eA}{X:Nat}{cs:Array iA}{T:jA}:iB W.drew X cs T ↔ iB W X cs T:=Iff.rfl
def fO.drewI{W:eA}{X:Nat}:fO W.drew X ↔ fO W X:=Iff.rfl
def fO.new(w:eA)(a b:iC)(c d:Nat)(N:oC)(T:jA):fO (w.alloc (.cells (dC a c b d N) T)) w.1.size:=(iB.new w _ T).box rfl
def fO.alloc{W:eA}{X:Nat}(h:fO W X)(o:Obj):fO (W.alloc o) X:=by
 obtain⟨c,T,b,a⟩:=h;exact⟨c,T,b.alloc o,a⟩
def fO.alloc2{W:eA}{X:Nat}(h:fO W X)(o a:Obj):fO ((W.alloc o).alloc a) X:=(h.alloc o).alloc a
def iB.row{W:eA}{X:Nat}{a cs:Array iA}{T:jA}(h:iB W X a T):iB (W.setRow X cs) X cs T:=setRow_heap _ _ _ _ _ _ h
def sI(W:eA)(X:Nat)(cs:Array iA):bB (·=X) W (W.setRow X cs):=⟨rfl,rfl,rfl,by simp,fun k _ a=>setRow_other _ _ _ _ a⟩
def nZ{C:eA->Prop}{w:eA}{X:Nat}{a cs:Array iA}{T:jA}(h:iB w X a T)(k:∀W,iB W X cs T->bB (·=X) w W->C W):C (w.setRow X cs):=k _ h.row (sI _ _ _)
def bH(a b:iC)(c d:Nat)(N:oC):∀(j:Nat)(s:gB),(dC a c b d N)[j]?≠bA (iA.string s):=fun j s=>by
 unfold dC;match j with
 |0|1|2|3|4|5|6|7|8|9|10|11|12|13=>simp
 |j+14=>simp
section
variable {w W:eA} {P:Nat} {cs:Array iA} {t:jA}
theorem EY(g:iB w P cs t)(f:∀(j:Nat)(s:gB),cs[j]?≠bA (iA.string s))(d:bB (·=P) w W){b o:Nat}{s:gB}(c:b<w.1.size)(h:w.cell? ⟨b,o,aA⟩=bA (nA s)):b<W.1.size/\∀j,W.cell? ⟨b,j,aA⟩=w.cell? ⟨b,j,aA⟩:=by
 have a:b≠P:=fun e=>by subst e;rw[g.cell]at h;exact f _ _ h
 exact⟨Bb c d.size,fun j=>eA.cell?_of_block (d.block b c a)⟩
theorem eB.store(m:iB w P cs t)(k:∀(j:Nat)(s:gB),cs[j]?≠bA (iA.string s))(l:bB (·=P) w W){a:iC}{c:List cB}(h:eB w a c):eB W a c:=by
 rcases h with h|⟨b,o,e,d,h⟩;exact Ca h
 cases c with
 |nil=>exact Ca rfl
 |cons f r=>
  obtain⟨n,p⟩:=EY m k l d (h 0 (by simp)).1;exact La ⟨b,o,e,n,fun i g=>by simp only[p];exact h i g⟩
theorem yB.store(m:iB w P cs t)(k:∀(j:Nat)(s:gB),cs[j]?≠bA (iA.string s))(l:bB (·=P) w W){a:iC}{c:List dB}(h:yB w a c):yB W a c:=by
 rcases h with h|⟨b,o,e,d,h⟩;exact Ca h
 cases c with
 |nil=>exact Ca rfl
 |cons f r=>
  obtain⟨n,p⟩:=EY m k l d (h 0 (by simp)).1;exact La ⟨b,o,e,n,fun i g=>by simp only[p];exact h i g⟩
theorem nC.store(l:iB w P cs t)(g:∀(j:Nat)(s:gB),cs[j]?≠bA (iA.string s))(k:bB (·=P) w W){a:iC}{m:List aB}(h:nC w a m):nC W a m:=by
 rcases h with h|⟨b,o,e,B,h⟩;exact Ca h
 cases m with
 |nil=>exact Ca rfl
 |cons f r=>
  obtain⟨_,_,_,_,d,_⟩:=h 0 (by simp);obtain⟨D,c⟩:=EY l g k B d;refine La ⟨b,o,e,D,fun i C=>?_⟩;obtain⟨n,q,p,u,v,d,x,y,z,A⟩:=h i C;exact⟨n,q,p,u,(c _).trans v,(c _).trans d,(c _).trans x,(c _).trans y,z.store l g k,A.store l g k⟩
end
def bC(a:List aB)(name:gB):aB:=(zC (·.N) name a).getD ⟨name,-1,[],[]⟩
def mG(a:List dB)(m:gB)(d:Int):Int:=a.foldl (fun d p=>if p.s.toList==m.toList then p.n else d) d
def qd(a:List dB)(m:gB)(d:Int)(k:Nat)(h:k<vA a):mG (a.take (k+1)) m d=if a[k].s.toList==m.toList then a[k].n else mG (a.take k) m d:=by
 rw[Pa h,mG,Dg];rfl
def qc{a:List dB}{m:gB}(h:∀p∈a,p.s≠m)(d:Int):mG a m d=d:=by induction a<;>grind [mG,cE]
def ZJ{a:List dB}(b:wC (·.s) a)(m:gB)(d:Int):mG a m d=((zC (·.s) m a).map (·.n)).getD d:=by
 induction a generalizing d with
 |nil=>rfl
 |cons p r g=>
  rw[mG,Og,oT];by_cases e:p.s=m
  .rw[Ma ((jE _ _).2 e),Ma e];exact qc (fun q f c=>eJ (b.head q f) (e.trans c.symm)) _
  rw[Ja (by rw[cE e];simp),Ja e];exact g b.tail d
def kE(c:lC)(t:aB)(m:gB):Int×Int:=
 if m.toList.isEmpty=dA then((vA t.Z:Nat),if t.L<0 then c.tl else t.L) else((uI aE t.Z m:Nat),mG t.M m c.ml)
def fH(c:lC)(b:Int)(d:List aB)(a m:gB):Int×Int:=
 if (kC c b d&&tC a&&(m.toList.isEmpty||yE m))=dA then kE c (bC d a) m else(-1,-1)
def aDn(l:List dB)(m:gB)(k:Nat)(h:k<vA l):uI aE (l.take (k+1)) m=uI aE (l.take k) m+if (aE l[k].s).toList==m.toList then 1 else 0:=by
 rw[Pa h,uI,uI,Vf,Kb];congr 1;cases hb:(aE l[k].s).toList==m.toList<;>simp[hb]
def EO{α:Type}{key:α->gB}{l:List α}{k:gB}:∀(n:Nat),(∀j(_:j<n)(c:j<vA l),key l[j]≠k)->zC key k l=zC key k (l.drop n)
 |0,_=>by simp
 |n+1,h=>by
  rw[EO n (fun j d a=>h j (by omega) a)];by_cases b:n<vA l
  .rw[Cb b,oT,Ja (h n (by omega) b)]
  rw[Yb (by omega),Yb (by omega)]
def bF(b a:Int)(t:aB):aB:=⟨t.N,t.L,t.M,t.Z.filter fun p=>decide (a-p.n<b)⟩
def dE(b a:Int)(c:List aB):List aB:=(c.map (bF b a)).filter fun t=>!aF t
theorem pJ{b a:Int}{d:List aB}(h:mN b a d=dA):∀t∈d,yP b a t=dA:=fun t e=>by
 obtain⟨i,c,rfl⟩:=Ib e;have:=yO h c;rw[zW c,Sa]at this;exact this.2
def CG{b a:Int}{d:List dB}(h:fL b a d=dA):∀x∈d,a-x.n<b/\0<=x.n/\x.n<=a:=fun x e=>by
 obtain⟨i,c,rfl⟩:=Ib e;have:=yO h c;rw[tW c]at this;simp only[Sa,Ab,wB]at this;exact⟨this.2,this.1.2.1,this.1.2.2⟩
def yJ{b a:Int}{t:aB}(h:yP b a t=dA):tC t.N=dA/\jM t.M=dA/\fL b a t.Z=dA/\aF t=cA:=by grind [yP,tC,jM,fL,aF]
def BT{b a:Int}{t:aB}(h:∀x∈t.Z,a-x.n<b):bF b a t=t:=by
 unfold bF;rw[Jc.2 fun x c=>Ac (h x c)]
theorem pc{b a:Int}{c:List aB}(h:mN b a c=dA):dE b a c=c:=by
 have e:c.map (bF b a)=c:=by
  have:∀t∈c,bF b a t=id t:=fun t d=>BT fun x f=>(CG (yJ (pJ h t d)).2.2.1 x f).1;rw[Ge this,List.map_id]
 unfold dE;rw[e];exact Jc.2 fun t d=>by rw[(yJ (pJ h t d)).2.2.2];rfl
def TH {f d:Int} {i:List aB} (h:mN f d i=dA) (y:wC (·.N) i) {t:aB} (z:∀x∈t.Z,d-x.n<f):
 dE f d (gC (·.N) t i)=if aF t=dA then xE (·.N) t.N i else gC (·.N) t i:=by
 have v:∀q∈gC (·.N) t i,bF f d q=id q:=fun q a=>by
  rcases yK a with rfl|a
  ·exact BT z
  ·exact BT fun x A=>(CG (yJ (pJ h q a)).2.2.1 x A).1
 have s:(gC (·.N) t i).map (bF f d)=gC (·.N) t i:=by rw[List.map_congr_left v,List.map_id]
 have g:=fun q a=>(yJ (pJ h q a)).2.2.2
 unfold dE;rw[s]
 by_cases k:aF t=dA
 ·rw[if_pos k]
  clear h s v z
  induction i with
  |nil=>simp[gC,k,xE]
  |cons p r B=>
   have o:=B y.tail (fun q a=>g q (List.mem_cons_of_mem _ a));have w:=g p (List.mem_cons_self ..);have c:(r.filter fun t=>!aF t)=r:=List.filter_eq_self.2 fun q a=>by rw[g q (List.mem_cons_of_mem _ a)];rfl
   rw[gC]
   by_cases l:aK p.N t.N=dA
   ·rw[if_pos l,List.filter_cons_of_pos (by rw[w];rfl),o]
    unfold xE;rw[List.filter_cons_of_pos (by rw[cE (eJ l)];rfl)]
   ·rw[if_neg l]
    have j:∀q∈r,q.N≠t.N:=fun q a e=>by
     have u:=y.head q a;rw[e]at u;exact l u
    have b:xE (·.N) t.N r=r:=List.filter_eq_self.2 fun q a=>by rw[cE (j q a)];rfl
    by_cases m:p.N=t.N
    ·rw[if_pos ((jE _ _).2 m),List.filter_cons_of_neg (by simp[k]),c]
     unfold xE at b |-
     rw[List.filter_cons_of_neg (by simp[m]),b]
    ·rw[if_neg (by rw[cE m];simp),List.filter_cons_of_neg (by simp[k]),List.filter_cons_of_pos (by rw[w];rfl),c]
     unfold xE at b |-
     rw[List.filter_cons_of_pos (by rw[cE m];rfl),b]
 ·rw[if_neg k]
  refine List.filter_eq_self.2 fun q a=>?_
  rcases yK a with rfl|a
  ·simpa using k
  ·rw[g q a];rfl
def IK{α:Type}{key:α->gB}{a:α}{l:List α}(h:wC key l):vA (gC key a l)=if (zC key (key a) l).isSome=dA then vA l else vA l+1:=by
 induction l with
 |nil=>simp[gC,zC]
 |cons p r j=>
  have f:=j h.tail;rw[gC,oT];by_cases c:aK (key p) (key a)=dA
  .rw[Ma c,Ja (eJ c),Zb,f];split<;>simp
  rw[Ja c];by_cases d:key p=key a
  .rw[Ma ((jE _ _).2 d),Ma d];simp
  have b:zC key (key a) r=aA:=tN fun q i e=>by
   have g:=h.head q i;rw[e]at g;exact c g
  rw[Ja (by rw[cE d];simp),Ja d,b];simp
def DU(c:lC)(a:Int)(d:List aB)(b:Int):Int×List aB×Bool:=
 if kC c a d=cA then(0,[],cA) else if b<1\/1000000000000-a<b then(a,d,cA) else(a+b,dE c.w (a+b) d,dA)
def vI(t:aB)(a:gB)(b:Int):aB:=
 if a.toList.isEmpty=dA then⟨t.N,b,t.M,t.Z⟩ else⟨t.N,t.L,if b<0 then xE (·.s) a t.M else gC (·.s) ⟨a,b⟩ t.M,t.Z⟩
def pS(c:lC)(e:Int)(f:List aB)(b a:gB)(d:Int):Int×List aB×Bool:=
 if kC c e f=cA then(0,[],cA)
 else if (tC b&&(a.toList.isEmpty||yE a) &&wB d (-1) 1000000)=cA then(e,f,cA)
 else if 10000<vA (dE c.w e (gC (·.N) (vI (bC f b) a d) f)) then(e,f,cA)
 else(e,dE c.w e (gC (·.N) (vI (bC f b) a d) f),dA)
def lP(r:vE):Prop:=r.T.size<=255/\r.X.size<=65535/\((r.K=1/\r.U=0)\/(r.K=2/\r.T.size=0/\r.X.size=0)\/r.K=3)
def rcD(r:vE):Decidable (lP r):=by unfold lP;infer_instance
def jv(r:vE):Bool:=@decide (lP r) (rcD r)
theorem ZY{r:vE}(h:lP r):jv r=dA:=@Ac _ (rcD r) h
theorem DN{r:vE}(h:¬lP r):jv r=cA:=@Ub _ (rcD r) h
def dq(r:vE):gB:=pB 1 r.K++kO r.T++qF r.X++pB 8 r.U
def lN:List vE->gB
 |[]=>kA
 |r::q=>dq r++lN q
def aCx(a:List vE):Prop:=∀i(h:i<vA a),lP a[i]
def DA(a:Int)(b:List vE):Prop:=1<=a/\a<=1000000000000000/\1<=vA b/\vA b<=500/\aCx b
def PC(a:Int)(n:Nat):gB:=pB 8 a++pB 2 (n:Nat)
def aTv(a:Int)(b:List vE):Decidable (DA a b):=by unfold DA aCx lP;infer_instance
def dR(a:Int)(b:List vE):gB:=haveI:=aTv a b;if DA a b then PC a (vA b)++lN b else kA
def cf{a:Int}{b:List vE}(h:DA a b):dR a b=PC a (vA b)++lN b:=by unfold dR;rw[Ma h]
def PA{lsn:Int}{rs:List vE}(h:¬DA lsn rs):dR lsn rs=kA:=by unfold dR;rw[Ja h]
def GV:∀(a b:List vE),lN (a++b)=lN a++lN b
 |[],b=>by simp[lN]
 |r::q,b=>by
  show dq r++lN (q++b)=dq r++lN q++lN b;rw[GV q b,Wa]
def wh(a:List vE)(k:Nat)(h:k<vA a):lN (a.take (k+1))=lN (a.take k)++dq a[k]:=by
 rw[Pa h,GV];simp[lN]
def aEj(r:vE):(dq r).size=12+r.T.size+r.X.size:=by grind [dq,qB,lH,uF]
def ck(a:Int)(n:Nat):(PC a n).size=10:=by unfold PC;rw[Ka,qB,qB]
def aAy{b:List vE}{k:Nat}(d:k<vA b)(h:¬lP b[k])(a:Int):dR a b=kA:=PA fun c=>h (c.2.2.2.2 k d)
def MV(s:gB)(w:eA)(k:s.size<=maxLen):
 qD 220 #[nA s] w (lA mA (wL s:Nat)):=by
 have m:xA _:=k;clear k;go_enter func220,ntmps220;go_wp2_with fail;refine(pz _).mono ?_;rintro e l ⟨b,c,rfl,_,j,a,d⟩;have g:xA (iB l b c 351/\(∀i,i<256->c[i]?=bA (.int .u32 (vt i:Nat)))/\kB w l):=⟨j,a,d⟩
 clear j a d;go_wp2_with fail;apply aC (aAi b c s _ m.o g.o.1 g.o.2.1);intro o f;have h:xA _:=oB g.o.2.2 f;clear f;go_wp2;go_ret;exact⟨rfl,h.o⟩
def PO{a b:gB}(h:a=b):Ending.returned (nA a)=.returned (nA b):=by rw[h]
def WW(p:gB)(w:eA)(d:p.size<=maxLen):
 qD 108 #[nA p] w (nA (jF p)):=by
 by_cases h:1<=p.size/\p.size<=60000
 .have i:wB (p.size:Int) 1 60000=dA:=by unfold wB;simp;omega
  have E:xA (jF p=pB 4 p.size++pB 4 (wL p:Nat)++p):=Ma h;have k:=qB 4 (p.size:Int);have l:=qB 4 ((wL p:Nat):Int);have m:=aBj p;have n:=h.2;have g:xA (p.size<=maxLen):=d;clear d h;go_enter func108,ntmps108;go_wp2_with(go_at_call 48;apply lK (vD _ _ _ _));refine aC (lD 4 (p.size:Int) _ (by omega) (by omega) (by omega)) ?_;intro o a;go_wp2_with fail;apply lK (NZ p _ g.o);go_wp2_with fail;refine aC (lD 4 ((wL p:Nat):Int) _ (by omega) (by omega) (by omega)) ?_;intro j b;generalize pB 4 (p.size:Int)=A at *;generalize pB 4 ((wL p:Nat):Int)=B at *;have f:xA (kB w j):=oB a b;clear a b;go_wp2;go_ret;exact⟨PO E.o.symm,f.o⟩
 have i:wB (p.size:Int) 1 60000=cA:=by unfold wB;simp;omega
 have E:xA (jF p=kA):=Ja h;go_enter func108,ntmps108;go_wp2_with(go_at_call 48;apply lK (vD _ _ _ _));go_ret;exact⟨PO E.o.symm,eD⟩
def lL{α:Type}(g:Option Nat->α×Option Nat)(p0:Option Nat):Nat->List α×Option Nat
 |0=>([],p0)
 |k+1=>match (lL g p0 k).2 with
  |none=>lL g p0 k
  |some p=>((lL g p0 k).1++[(g (bA p)).1],(g (bA p)).2)
section
variable {α:Type} {g:Option Nat→α×Option Nat} {p0:Option Nat} {k p:Nat} {s:gB}
theorem IM(h:(lL g p0 k).2=aA):lL g p0 (k+1)=lL g p0 k:=by rw[lL,h]
theorem fY(h:(lL g p0 k).2=bA p):lL g p0 (k+1)=((lL g p0 k).1++[(g (bA p)).1],(g (bA p)).2):=by rw[lL,h]
theorem aOm(h:(lL g p0 k).2=aA){m:Nat}(b:k<=m):lL g p0 m=lL g p0 k:=by
 induction b with
 |refl=>rfl
 |step _ a=>rw[IM (by rw[a];exact h),a]
theorem ZB(k:Nat):vA (lL g p0 k).1<=k:=by induction k<;>grind [lL,IM,fY]
theorem aRv{P:α->Prop}(a:∀p,P (g p).1)(k:Nat):∀i(h:i<vA (lL g p0 k).1),P (lL g p0 k).1[i]:=by induction k<;>grind [lL,IM,fY]
theorem aQy{f:Rd->α×Rd}(a:∀r:Rd,r.H=dA->(f r).2.H=dA)(b:∀(r:Rd) p,LY s r p->(f r).2.H=cA->∃q,g (bA p)=((f r).1,bA q)/\LY s (f r).2 q){r:Rd}(h:LY s r p)(k:Nat)(c:(rh f r k).2.H=cA):∃q,lL g (bA p) k=((rh f r k).1,bA q)/\LY s (rh f r k).2 q:=by induction k<;>grind [LY,rh,lL,LH,fY]
theorem yf{z:α->Nat}{sz:List α->Nat}{n:Nat}(d:sz []=0)(e:∀c x,sz (c++[x])=sz c+z x)(f:∀p q,(g p).2=bA q->∃a,p=bA a/\a+z (g p).1=q/\q<=n)(k:Nat):∀q,(lL g p0 k).2=bA q->∃a,p0=bA a/\a+sz (lL g p0 k).1=q/\((∀b,p0=bA b->b<=n)->q<=n):=by induction k<;>grind [lL,IM,fY]
theorem aBm{z:α->Nat}{sz:List α->Nat}{n m:Nat}(c:sz []=0)(d:∀e x,sz (e++[x])=sz e+z x)(i:∀p q,(g p).2=bA q->∃a,p=bA a/\a+z (g p).1=q/\q<=n)(h:∀p,z (g p).1<=m)(j:∀b,p0=bA b->b<=n)(k:Nat):sz (lL g p0 k).1<=n+m:=by
 induction k with
 |zero=>rw[lL];simp[c]
 |succ k l=>
  cases hh:(lL g p0 k).2 with
  |none=>rw[IM hh];exact l
  |some p=>
   obtain⟨a,r,o,f⟩:=yf c d i k p hh;have:=f j;have:=h (bA p);rw[fY hh];simp only[d];omega
end
def fg(s:gB)(p:Option Nat):eC×Option Nat:=(⟨(lJ s 1 p).1,(lJ s 2 (lJ s 1 p).2).1⟩,(lJ s 2 (lJ s 1 p).2).2)
def GB(s:gB)(a:Option Nat)(k:Nat):List eC×Option Nat:=lL (fg s) a k
def OM(s:gB)(p:Option Nat):Nat×Option Nat:=gY s 1 p
def yh(s:gB)(p:Option Nat):List eC×Option Nat:=GB s (OM s p).2 (OM s p).1
def yg(s:gB)(p:Option Nat):Nat×Option Nat:=gY s 8 (yh s p).2
def lSm(s:gB)(p:Option Nat):cF×Option Nat:=(⟨(yh s p).1,nF (yg s p).1⟩,(yg s p).2)
def WL(s:gB)(a:Option Nat)(k:Nat):List cF×Option Nat:=lL (lSm s) a k
def aPk{s:gB}{r:Rd}{p:Nat}(h:LY s r p)(a:(uR r).2.H=cA):∃q,fg s (bA p)=((uR r).1,bA q)/\LY s (uR r).2 q:=by
 rw[CA]at a |-
 simp only at a;have f:(sC 1 r).2.H=cA:=jk a;obtain⟨i,b,c⟩:=UP h f;obtain⟨g,d,e⟩:=UP c a;refine⟨g,?_,e⟩;rw[fg,b];simp only;rw[d]
def aSn{s:gB}{r:Rd}{p:Nat}(h:LY s r p)(k:Nat)(a:(tM r k).2.H=cA):∃q,GB s (bA p) k=((tM r k).1,bA q)/\LY s (tM r k).2 q:=by
 rw[aLr]at *;exact aQy (fun _=>ZD) (fun _ _=>aPk) h k a
def aSo{s:gB}{r:Rd}{p:Nat}(h:LY s r p)(a:(sY r).2.H=cA):∃q,lSm s (bA p)=((sY r).1,bA q)/\LY s (sY r).2 q:=by
 rw[jU]at a;have b:(vW r).2.H=cA:=by rw[NW]at a;exact yz a
 have i:(JK r).2.H=cA:=by
  cases e:(JK r).2.H with
  |false=>rfl
  |true=>rw[vW,ZZ e]at b;exact b
 have d:OM s (bA p)=((JK r).1,bA (p+1))/\LY s (JK r).2 (p+1):=by
  rw[OM];rw[JK]at i |-
  exact CE h i
 obtain⟨c,f,k⟩:∃q,yh s (bA p)=((vW r).1,bA q)/\LY s (vW r).2 q:=by
  rw[yh,d.1];rw[vW]at b |-
  obtain⟨_,j⟩:=d;generalize (JK r).2=Z at *;generalize (JK r).1=Y at *;exact aSn j _ b
 have g:yg s (bA p)=((NW r).1,bA (c+8))/\LY s (NW r).2 (c+8):=by
  rw[yg,f];rw[NW]at a |-
  generalize (vW r).2=Z at *;exact CE k a
 have l:lSm s (bA p)=(⟨(yh s (bA p)).1,nF (yg s (bA p)).1⟩,(yg s (bA p)).2):=by rw[lSm]
 rw[l,f,g.1,VA,jU];exact⟨c+8,rfl,g.2⟩
def aSp{s:gB}{r:Rd}{p:Nat}(h:LY s r p)(k:Nat)(a:(dG r k).2.H=cA):∃q,WL s (bA p) k=((dG r k).1,bA q)/\LY s (dG r k).2 q:=aQy (fun _=>ao) (fun _ _=>aSo) h k a
def CU(s:gB):Nat×Option Nat:=gY s 1 (bA 0)
def IQ(s:gB):gB×Option Nat:=if qU ((CU s).1:Nat)=dA then lJ s 1 (CU s).2 else(kA,(CU s).2)
def CW(s:gB):gB×Option Nat:=if oU ((CU s).1:Nat)=dA then lJ s 2 (IQ s).2 else(kA,(IQ s).2)
def JX(s:gB):Int×Option Nat:=if zU ((CU s).1:Nat)=dA then(nF (gY s 8 (CW s).2).1,(gY s 8 (CW s).2).2) else(0,(CW s).2)
def lqC(s:gB):Nat×Option Nat:=gY s 2 (JX s).2
def fp(s:gB):List cF×Option Nat:=if (CU s).1=1 then WL s (lqC s).2 (lqC s).1 else([],(JX s).2)
def lRq(s:gB):xG:=⟨((CU s).1:Nat),(IQ s).1,(CW s).1,(JX s).1,(fp s).1⟩
def aUg{s:gB}(h:(uM s).2.H=cA):CU s=((uM s).1,bA 1)/\LY s (uM s).2 1:=by grind [uM,CU,LY,CE]
def aCd{s:gB}{r:Rd}{p n:Nat}{b:Bool}(h:LY s r p)(a:(if b=dA then sC n r else(kA,r)).2.H=cA):∃q,(if b=dA then lJ s n (bA p) else(kA,bA p))=((if b=dA then sC n r else(kA,r)).1,bA q)/\LY s (if b=dA then sC n r else(kA,r)).2 q:=by
 cases b
 .exact ⟨p,rfl,h⟩
 exact UP h a
def aKd{s:gB}(c:(bS s).2.H=cA):lRq s=af s:=by
 have f:(gU s).2.H=cA:=by rw[bS]at c;split at c;exact yz c;exact c
 have a:(qR s).2.H=cA:=by rw[gU]at f;split at f;exact jk f;exact f
 have g:(mU s).2.H=cA:=by
  rw[qR]at a;split at a
  .cases e:(mU s).2.H
   .rfl
   rw[dU (k:=0) (by rw[iN,uu];exact aT e) _ (Oa _)]at a;exact a
  exact a
 have A:(uM s).2.H=cA:=by rw[mU]at g;split at g;exact jk g;exact g
 obtain⟨d,u⟩:=aUg A;have j:(CU s).1=(uM s).1:=by rw[d]
 obtain⟨E,i,n⟩:∃q,IQ s=((mU s).1,bA q)/\LY s (mU s).2 q:=by rw[IQ,d];rw[mU]at g |-;exact aCd u g
 have y:(IQ s).1=(mU s).1:=by rw[i]
 have l:(CW s).1=(gU s).1/\(JX s).1=(bS s).1/\(fp s).1=(qR s).1:=by
  by_cases b:(uM s).1=1
  .have B:gU s=(kA,(qR s).2):=by rw[gU,b];rfl
   have C:bS s=(0,(gU s).2):=by rw[bS,b];rfl
   have p:CW s=(kA,(IQ s).2):=by rw[CW,d,b];rfl
   have r:JX s=(0,(CW s).2):=by rw[JX,d,b];rfl
   refine⟨by rw[B,p],by rw[C,r],?_⟩;rw[fp,j,Ma b,lqC,r,p,i];rw[qR,Ma b]at a |-
   have o:(uu s).2.H=cA:=by
    cases e:(uu s).2.H
    .rfl
    rw[dU (k:=0) (by rw[iN];exact e) _ (Oa _)]at a;exact a
   rw[uu]at o a |-
   obtain⟨w,x⟩:=CE n o;rw[w];obtain⟨q,z,_⟩:=aSp x _ a;rw[z]
  have t:qR s=([],(mU s).2):=by rw[qR,Ja b]
  obtain⟨D,m,v⟩:∃q,CW s=((gU s).1,bA q)/\LY s (gU s).2 q:=by rw[CW,d,i];rw[gU,t]at f |-;exact aCd n f
  refine⟨by rw[m],?_,by rw[fp,j,Ja b,t]⟩;rw[JX,d,m];rw[bS]at c |-
  split
  .rename_i h;rw[Ma h]at c;rw[(CE v c).1]
  rfl
 rw[lRq,af,j,y,l.1,l.2.1,l.2.2]
def PJ(s:gB):GA (lRq s).U/\∀i(h:i<vA (lRq s).P),GA (lRq s).P[i].bits:=by
 constructor
 .show GA (JX s).1;rw[JX];split
  .exact CM _
  exact ⟨by simp only;omega,by simp only;omega⟩
 show ∀i(h:i<vA (fp s).1),GA (fp s).1[i].bits;rw[fp];split;exact aRv (P:=fun x:cF=>GA x.bits) (fun p=>CM _) _;exact fun i h=>absurd h (by simp)
def yn{s:gB}(a:s.size≠0)(h:vN (lRq s)=s):aG s=(lRq s,dA):=aNz a h (PJ s).1 (PJ s).2
def aFw{s:gB}(h:¬(s.size≠0/\vN (lRq s)=s)):aG s=(⟨0,kA,kA,0,[]⟩,cA):=by
 refine df fun⟨c,a,b⟩=>h ⟨fun d=>?_,by rw[aKd a];exact b⟩;have:(uM s).1=0:=by
  rw[uM,kD,iD,Ma (by show s.size<1;omega)];rfl
 omega
