import Derived.Test.YtejebmgbenmimaaGreatDoorJ19
import Derived.Test.YtejebmgbenmimaaGreatDoorJ23
import Derived.Deep.RegionHeldLaw
set_option maxRecDepth 100000
set_option maxHeartbeats 8000000
set_option linter.defProp false
open Option renaming some->fA,none->eA
open Bool renaming true->iA,false->gA
open ByteArray renaming empty->pA
open List renaming length->cB
namespace Go.Proofs.YtejebmgbenmimaaGreatDoor
open Go renaming World->jA,Value->mA,TypeId->oA
open Value renaming slice->uA,agg->yA,bool->vA,string->tA,int->qA
open Obj renaming cells->aB
open Ending renaming returned->zA
open RowKit renaming Below->kA
open IntKind renaming i64->sA
open Go.RowKit Tryz
def MY(W:jA)(a:nC)(l:Nat)(d:List nB)(v:wB W a d)(x:cB d<=1048576):
 ∃g c s,(Builtin.append_ #[33,33] 33 #[uA (cC W.1.size) 0 0,uA a (cB d) l]).run prog (W.alloc (aB #[] 115))=.ok (uA g (cB d) c) s/\
  wB s g d/\zB W s/\∀b o,g=fA (iB b o)->W.1.size<=b:=by
 obtain⟨i,w,p,q,r⟩:=mL;cases a with
 |none=>
  have y:d=[]:=by
   obtain h|⟨b,o,e,_⟩:=v;exact h;exact absurd e (by simp)
  subst y;refine⟨cC W.1.size,0,W.alloc (aB #[] 115),?_,Ca rfl,aC,λb o e=>by simp at e;omega⟩;simp[Builtin.append_,run_underlying underlying33,sizeOf,typeInfo,w,Builtin.lenOf,Builtin.firstCells,storeCells]
 |some t=>
  have m:(W.alloc (aB #[] 115)).ownsRow W.1.size 115 3 (uA (cC W.1.size) 0 0) 0 []:=
   ⟨rfl,La ⟨W.1.size,0,#[],rfl,Ia _,heap_alloc_new _ _,Ia _,Oa _,rfl,rfl⟩⟩
  have f:∀j u,(flat d)[j]?=fA u->(W.alloc (aB #[] 115)).cell? (t.add j)=fA u:=by
   rcases v.z (uF W (aB #[] 115)) with rfl|⟨b,o,e,_,h⟩;intro j u h;simp[flat]at h;simp only[Qa]at e;subst e;exact jO h
  obtain⟨E,D,C,n,z,_,_⟩:=run_append_own_at (P:=prog) (W.alloc (aB #[] 115)) W.1.size 33 33 115 i _ 3 40 underlying33 w p q r rfl (by omega) (uA (cC W.1.size) 0 0) 0 [] m t (cB d) l (flat d) (zE d) f (uG d) (by simp[maxLen];omega) (by omega) (by simp);simp only[Ya,Mb]at n;obtain⟨g,c,rfl,B⟩:=pH n;refine⟨g,c,D,C,B.files,aC.grown z (by simp) (λk A=>?_),λb o e=>qI n b (by rw[e];rfl)⟩;simp[mA.ownBlock]at A;omega
def RT(w:jA)(a:nC)(f:Nat)(j:List nB)(c k g i:Int)(h:Bool)(b:yK):Prop:=
 Calls prog 57 #[yA #[uA a (cB j) f,dB c,dB k,dB g,dB i,vA h],yA #[dB b.K,tA b.N,tA b.tq,tA b.data,dB b.size]] w λe m=>
  ∃l d,e=zA (aMh (yQ j c k g i h b) l d)/\wB m l (yQ j c k g i h b).2.1/\zB w m
structure yj(w:World)(a:nC)(fs:List nB)(op:yK):Prop where
 files:wB w a fs
 H:gO fs
 len:cB fs≤1048576
 sum:tC fs≤1000000000
 N:op.N.size≤maxLen
 tq:op.tq.size≤maxLen
 data:op.data.size≤200000000
def GM{w:jA}{a:nC}{d:List nB}(h:wB w a d){p:Addr}(k:∀b o,a=fA (iB b o)->p.block<b)(v:mA):wB (w.setCell p v) a d:=by
 obtain h|⟨b,o,rfl,c,h⟩:=h;exact Ca h;have e:=kA.heap_setCell w p v b (by have:=k b o rfl;omega);have g:∀j,(w.setCell p v).cell? (iB b j)=w.cell? (iB b j):=λj=>jA.cell?_of_block e;exact La ⟨b,o,rfl,by simpa[jA.setCell]using c,λi f=>by simp only[g];exact h i f⟩
def ey{f:List nB}{c k d e:Int}{g:Bool}{i:yK}{a:Nat}{h:Int}{b:Bool}(n:rE f c k d e=iA)(m:GZ i=iA)(l:mD k d e g=(a,h,b))(j:a≠0):yQ f c k d e g i=(a,f,c,h,d,e,b):=by grind [rE,GZ,mD,yQ,tI]
def aCf{e:List nB}{c k b d:Int}{g:Bool}{f:yK}{h:Int}{a:Bool}(l:rE e c k b d=iA)(j:GZ f=iA)(i:mD k b d g=(0,h,a)):yQ e c k b d g f=((iN e c f).1,(iN e c f).2,c,h,b,d,a):=by grind [rE,GZ,mD,yQ,iN,tI]
def aJo(a:nC)(n b:Nat)(c k d f:Int)(e:Bool)(j:Nat)(s:vB):(#[uA a n b,dB c,dB k,dB d,dB f,vA e]:Array mA)[j]?≠fA (tA s):=by
 rcases j with _|_|_|_|_|_|j<;>simp
def SZ{w:jA}{D:Nat}{a:nC}{i:List nB}(h:wB w a i){p:nC}{n f:Nat}{c k q s:Int}{r:Bool}(t:yg w D p n f c k q s r):i=[]\/∀b o,a=fA (iB b o)->b≠D:=by
 by_cases m:i=[]
 .exact Ca m
 right;intro b o e j;have d:=Tg.2 m;obtain⟨u,v,g,_,l,_,_⟩:=h.at d;rw[e]at g;simp only[Qa,Addr.mk.injEq,Cc]at g;obtain⟨rfl,rfl⟩:=g;subst j;rw[rB.cell t]at l;exact aJo _ _ _ _ _ _ _ _ _ _ l
def jz{w:jA}{a:nC}{d:List nB}(h:wB w a d){p:Addr}(c:d=[]\/∀b o,a=fA (iB b o)->b≠p.block)(v:mA):wB (w.setCell p v) a d:=by
 obtain h|⟨b,o,rfl,e,h⟩:=h;exact Ca h;obtain c|c:=c;exact Ca c;have f:=kA.heap_setCell w p v b (c b o rfl);have k:∀j,(w.setCell p v).cell? (iB b j)=w.cell? (iB b j):=λj=>jA.cell?_of_block f;exact La ⟨b,o,rfl,by simpa[jA.setCell]using e,λi g=>by simp only[k];exact h i g⟩
theorem aMq(w:jA)(a:nC)(p:Nat)(b:List nB)(c k f g:Int)(y:Bool)(n:yK)(h:yj w a b n)(i:(rE b c k f g&&GZ n)=gA):RT w a p b c k f g y n:=by
 have B:fB (yQ b c k f g y n=(6,[],0,0,0,0,gA)):=by show _=_;unfold yQ;rw[Ja (by rw[i];simp)]
 unfold RT;obtain⟨o,x,Q,E,Y⟩:=n;obtain⟨z,H,S,m,G,I,-⟩:=h;have D:=gB z;have t:cB b<=maxLen:=by simp[maxLen];omega
 have F:rE b c k f g=gA\/rE b c k f g=iA/\(dC o 1 6=gA\/dC o 1 6=iA/\(gG x=gA\/gG x=iA/\o=5/\gG Q=gA)):=by
  simp only[GZ]at i;cases e1:rE b c k f g<;>cases e2:dC o 1 6<;>cases e3:gG x<;>simp_all
 clear i z;dsimp only at G I |-
 obtain A|⟨A,i|⟨i,u|⟨u,rfl,J⟩⟩⟩:=F
 all_goals
  go_enter func57,ntmps57;go_wp2_with fail;apply oC (qM A _ (((D.o.z aC).z aC).z aC) H t m);intro Z j;obtain⟨s,l,r,d⟩:=KQ j;have C:=gB d;obtain⟨T,U,V,W,X⟩:=l.c5;obtain⟨K,L,M,N,O,P⟩:=r.c6;have q:=r.free;clear s l r d j;go_wp2_with(first
   |(go_at_call 103;refine oC (gE (by assumption) _) ?_;rintro R rfl)
   |(go_at_call 129;refine oC (jJ (by assumption) _ (by assumption)) ?_;rintro R rfl))
  refine bodyPost_ret (v:=.tuple #[yA #[uA eA 0 0,dB 0,dB 0,dB 0,dB 0,vA gA],dB 6]) (by simp[results,results57,go_sem,K,L,M,N,O,P]) rfl ?_;rw[B.o];refine⟨eA,0,rfl,Ca rfl,?_⟩;have h:=C.o;iterate 6 (refine kA.setCell ?_ (by first|(simp;done)|(simp;omega)) _)
  exact h
theorem aLt(w:jA)(a:nC)(P:Nat)(f:List nB)(c k d g:Int)(l:Bool)(i:yK)(h:yj w a f i)(o:rE f c k d g=iA)(H:GZ i=iA):RT w a P f c k d g l i:=by
 obtain⟨Z,x,-,s,m,G,G,-⟩:=nH o;have Y:l=iA/\yQ f c k d g l i=(1,f,c,k,d,g,iA)\/l=gA/\(k=1000000000000000/\yQ f c k d g l i=(2,f,c,k,d,g,gA)\/(k==1000000000000000)=gA/\
  (d=k+1/\decide (k+1=0)=gA/\yQ f c k d g l i=(1,f,c,k+1,d,g,iA)\/(d=0\/decide (d=0)=gA/\(k+1==d)=gA)/\
   (g=k+1/\decide (k+1=0)=gA/\yQ f c k d g l i=(2,f,c,k+1,d,g,gA)\/(g=0\/decide (g=0)=gA/\(k+1==g)=gA)/\yQ f c k d g l i=((iN f c i).1,(iN f c i).2,c,k+1,d,g,gA)))):=by
  have K:k+1≠0:=by omega
  have G:=λO I J=>@ey f c k d g l i O I J o H;have O:=λI J=>@aCf f c k d g l i I J o H;cases l
  .refine La ⟨rfl,?_⟩;by_cases J:k=1000000000000000
   .exact Ca ⟨J,G _ _ _ (by simp[mD,J]) (by decide)⟩
   refine La ⟨by simpa using J,?_⟩;by_cases T:k+1=d
   .exact Ca ⟨T.symm,by simpa using K,G _ _ _ (by subst T;simp[mD,J,K]) (by decide)⟩
   have I:d=0\/decide (d=0)=gA/\(k+1==d)=gA:=by by_cases h:d=0<;>simp[h,T]
   refine La ⟨I,?_⟩;by_cases I:k+1=g
   .exact Ca ⟨I.symm,by simpa using K,G _ _ _ (by subst I;simp[mD,J,T,K]) (by decide)⟩
   exact La ⟨by by_cases h:g=0<;>simp[h,I],O _ _ (by simp[mD,J,T,I])⟩
  exact Ca ⟨rfl,G _ _ _ (by simp[mD]) (by decide)⟩
 unfold RT;have p:=h.data;have A:=kS Z;obtain⟨O,hs,hl,G,I,J,-⟩:=h;have U:dC i.K 1 6=iA/\gG i.N=iA/\(i.K=5/\gG i.tq=iA\/(i.K==5)=gA):=by
  simp only[GZ,Sa,Fe,Ab]at H;exact⟨H.1.1,H.1.2,(Decidable.em (i.K=5)).elim (λh=>Ca ⟨h,H.2.resolve_left (λe=>e h)⟩) λh=>La (by simpa using h)⟩
 obtain⟨kd,nm,tq,S,sz⟩:=i;dsimp only at I J p U |-
 obtain⟨hb,I,U⟩:=U;have HF:=gB O;have M:=gB Y;have I:cB f<=maxLen:=by simp[maxLen];omega
 have J:IntKind.i64.wrap (k+1)=k+1:=by rw[IntKind.wrap_i64];omega
 have J:=gB (λW b(hF:wB W b f)=>(⟨hF,A,x,m,s,p⟩:RR W b f c ⟨kd,nm,tq,S,sz⟩));clear O Y H Z A s m p;obtain⟨rfl,m⟩|U:=U
 all_goals
  go_enter func57,ntmps57;go_wp2_with fail;apply oC (qM o _ (((HF.o.z aC).z aC).z aC) hs I G);intro w1 X;obtain⟨G,I,U,n⟩:=KQ X;obtain⟨o0,o1,o2,o3,o4⟩:=I.c5;obtain⟨x0,-,-,-,-,-⟩:=G.c6;have m:=eB U;have m:w.1.size<w1.1.size:=by omega
  have m:¬w.1.size=w1.1.size:=by omega
  obtain⟨a1,j,W2,B,a0,m,V⟩:=MY w1 a P f (HF.o.z n) hl;have O:=gB B;have N:=gB a0;have D:=gB V;have E:=gB (G.z m);have F:=gB (U.z m);have L:=gB (xB n m);obtain⟨d0,d1,d2,d3,d4,d5⟩:=E.o.c6;obtain⟨z0,z1,z2,z3,z4⟩:=(I.z m).c5;have y:=E.o.free;obtain⟨W,Y,Z,r3,r4,r5⟩:=F.o.c6;have q:=F.o.free;clear X G I U n B a0 m V;go_upto_region 4 with(first
   |(go_at_call 103;refine oC (gE (by assumption) _) ?_;rintro m rfl)
   |(go_at_call 129;refine oC (jJ (by assumption) _ (by assumption)) ?_;rintro m rfl)
   |(at_builtin;refine Lib.wpList_append_run _ rfl _ _ _ _ rfl _ _ rfl rfl _ _ O.o ?_))
  clear o0 o1 o2 o3 o4 x0 o;obtain⟨rfl,C⟩|⟨rfl,⟨rfl,C⟩|⟨m,⟨rfl,K,C⟩|⟨rfl|⟨s,m⟩,⟨rfl,K,C⟩|⟨rfl|⟨m,o⟩,C⟩⟩⟩⟩:=M.o
  all_goals
   have C:=gB C;clear M;try have o:(d != 0)=iA:=by simpa using s
   try have o:(g != 0)=iA:=by simpa using m
   go_wp2_with(go_at_call 130;refine Calls.mono (aBg _ a1 j f c (k+1) _ _ gA ⟨_,nm,tq,S,sz⟩ (J.o _ _ (GM (GM N.o (λb o e=>by have:=D.o b o e;show w.1.size<b;omega) _) (λb o e=>by have:=D.o b o e;show w.1.size<b;omega) _)) hb) ?_;rintro e m ⟨O,Q,rfl,u,r⟩;have t:=((E.o.set 0 (uA a1 (cB f) j)).set 2 (dB (k+1))).z r;have z:=(F.o.but (((uD.refl w.1.size W2).setCell 0 (uA a1 (cB f) j)).setCell 2 (dB (k+1))) (by omega)).z r;have m:=gB (SZ u (by simpa[yg]using t));have G:=gB (SZ u z);have I:=gB u;have J:=gB (xB ((L.o.setCell (by simp) _).setCell (by simp) _) r);clear d0 d1 d2 d3 d4 d5 y z0 z1 z2 z3 z4 W Y Z r3 r4 r5 q u r;obtain⟨d0,d1,d2,d3,d4,d5⟩:=rB.c6 (by simpa using t);obtain⟨W,Y,Z,r3,r4,r5⟩:=z.c6;have y:=t.free;have q:=z.free;clear t z;generalize iN f c _=R at *;obtain⟨code,U⟩:=R);refine bodyPost_ret (v:=?_) (by simp[results,results57,go_sem,W,Y,Z,r3,r4,r5];rfl) rfl ?_;rw[C.o];first
    |refine⟨O,Q,rfl,?_,?_⟩
     .have h:=I.o
      repeat (refine jz ?_ (by first|exact G.o|exact m.o) _)
      exact h
     have h:=J.o
     repeat (refine kA.setCell ?_ (by first|(simp;done)|(simp;omega)) _)
     exact h
    |refine⟨a1,j,rfl,?_,?_⟩
     .have h:=N.o
      repeat (refine GM ?_ (λb o e=>by have:=D.o b o e;simp;omega) _)
      exact h
     have h:=L.o
     repeat (refine kA.setCell ?_ (by first|(simp;done)|(simp;omega)) _)
     exact h
def ZD(w:jA)(a:nC)(b:Nat)(d:List nB)(c k f i:Int)(g:Bool)(e:yK)(h:yj w a d e):RT w a b d c k f i g e:=by grind [RT,rE,GZ,aLt,aMq]
def iU(D:eE)(g:yK)(b:eE)(f:Nat):Prop:=
 ∀a h W,wB W a D.fs->Calls prog 57 #[yA #[uA a (cB D.fs) h,dB D.c,dB D.k,dB D.cr,dB D.fl,vA D.dn],yA #[dB g.K,tA g.N,tA g.tq,tA g.data,dB g.size]] W λe j=>
  ∃i d,e=zA (.tuple #[yA #[uA i (cB b.fs) d,dB b.c,dB b.k,dB b.cr,dB b.fl,vA b.dn],dB f])/\wB j i b.fs/\zB W j
theorem nr{D:eE}{b:yK}(h:DG D.fs)(g:b.N.size<=maxLen)(i:b.tq.size<=maxLen)(e:b.data.size<=200000000):iU D b (fF D b).1 (fF D b).2:=λa d W f=>
 ZD W a d D.fs D.c D.k D.cr D.fl D.dn b ⟨f,h.H,h.len,h.sum,g,i,e⟩
theorem IR{w:jA}{a:nC}{d:List nB}{P:Nat}{cs:Array mA}{t:oA}(h:wB w a d)(l:rB w P cs t)(k:∀(j:Nat)(s:vB),cs[j]?≠fA (mA.string s)):DH a d P:=by
 obtain h|⟨b,o,e,_,h⟩:=h;exact Ca h
 by_cases c:d=[]
 .exact Ca c
 refine La ⟨b,o,e,λg=>?_⟩;subst g;have i:0<cB d:=Tg.2 c;have f:=(h 0 i).1;rw[l.cell]at f;exact k _ _ f
def aW{w:jA}{a:nC}{c:List nB}{P:Nat}{x:nC}{n d:Nat}{e f g i:Int}{j k l m:IntKind}{b:Bool}{t:oA}(h:wB w a c)(o:rB w P #[uA x n d,.int j e,.int k f,.int l g,.int m i,vA b] t):DH a c P:=by grind [wB,rB,DH,IR]
def GG{w:jA}{a:nC}{b:List nB}{P:Nat}{c d e:Int}{f g i:IntKind}{t:oA}(h:wB w a b)(j:rB w P #[.int f c,.int g d,.int i e] t):DH a b P:=by grind [wB,rB,DH,IR]
def GO{w a:jA}{x y z u:Array mA}{tx ty tz tu:oA}(b:kA ((((w.alloc (aB x tx)).alloc (aB y ty)).alloc (aB z tz)).alloc (aB u tu)).1.size ((((w.alloc (aB x tx)).alloc (aB y ty)).alloc (aB z tz)).alloc (aB u tu)) a):
 rB a w.1.size x tx/\rB a (w.1.size+1) y ty/\rB a (w.1.size+1+1) z tz/\rB a (w.1.size+1+1+1) u tu/\zB w a:=by
 refine⟨?_,?_,?_,?_,xB (xB (xB (xB aC aC) aC) aC) b⟩;exact ((((cW w x tx).z aC).z aC).z aC).z b;have h:=(((cW (w.alloc (aB x tx)) y ty).z (uF _ (aB z tz))).z (uF _ (aB u tu))).z b;simpa using h;have h:=((cW ((w.alloc (aB x tx)).alloc (aB y ty)) z tz).z (uF _ (aB u tu))).z b;simpa using h;have h:=(cW (((w.alloc (aB x tx)).alloc (aB y ty)).alloc (aB z tz)) u tu).z b;simpa using h
section
variable {w W W':jA} {P Q:Nat} {a a':nC} {cap cap':Nat} {fs fs':List nB} {c k cr fl c' k' cr' fl':Int} {dn dn':Bool} {lf ll ls:Int}
theorem NV{S:Nat->Prop}(h:wB W a fs)(f:jB S W W')(m:∀b o,a=fA (iB b o)->S b->fs=[]):wB W' a fs:=by
 obtain h|⟨b,o,rfl,d,h⟩:=h;exact Ca h
 by_cases e:S b
 .exact Ca (m b o rfl e)
 have l:∀j,W'.cell? (iB b j)=W.cell? (iB b j):=λj=>jA.cell?_of_block (f.block b d e);exact La ⟨b,o,rfl,by have:=f.size;omega,λi g=>by simp only[l];exact h i g⟩
theorem DN(h:DH a fs P){b o:Nat}(e:a=fA (iB b o))(d:b=P):fs=[]:=by grind [DH]
def PX(b:jA)(P:Nat)(fs:List nB)(c k cr fl:Int)(dn:Bool)(d:jA):Prop:=∃a cap,b.1.size<=P/\rB d P #[uA a (cB fs) cap,dB c,dB k,dB cr,dB fl,vA dn] 35/\wB d a fs/\zB b d
theorem xg{B P:Nat}{d e f g i j:mA}(h:kA B w W)(b:B<=P):kA B w ((((((W.setCell (iB P 0) d).setCell (iB P 1) e).setCell (iB P 2) f).setCell (iB P 3) g).setCell (iB P 4) i).setCell (iB P 5) j):=(((((h.setCell b _).setCell b _).setCell b _).setCell b _).setCell b _).setCell b _
theorem mu{b:jA}(e:wB W a fs)(d:zB b W):PX b W.1.size fs c k cr fl dn (W.alloc (aB #[uA a (cB fs) cap,dB c,dB k,dB cr,dB fl,vA dn] 35)):=⟨a,cap,d.size,cW _ _ _,e.z aC,xB d aC⟩
theorem mv{b:jA}(f:wB W a fs)(d:zB b W)(h:b.1.size<=P)(g:rB W P #[uA eA 0 0,dB 0,dB 0,dB 0,dB 0,vA gA] 35):PX b P fs c k cr fl dn ((((((W.setCell (iB P 0) (uA a (cB fs) cap)).setCell (iB P 1) (dB c)).setCell (iB P 2) (dB k)).setCell (iB P 3) (dB cr)).setCell (iB P 4) (dB fl)).setCell (iB P 5) (vA dn)):=
 ⟨a,cap,h,MN g,f.apart (iz f g) (kQ _ _ _ _ _ _),d.trans ((jB.but (kQ _ _ _ _ _ _)).below d.size λi j e=>by omega)⟩
theorem aGu{D:eE}{op:yK}(h:DG D.fs)(d:op.N.size<=maxLen)(e:op.tq.size<=maxLen)(b:op.data.size<=1048576):∃fs c k cr fl dn x,fF D op=(⟨fs,c,k,cr,fl,dn⟩,x)/\DG fs/\iU D op ⟨fs,c,k,cr,fl,dn⟩ x:=by grind [fF,iU,nQ,nr]
end
section
open Go.Maps Go.Sort
def gl(g:Nat)(a:List pB)(w:jA)(h:w.ownsMap prog 9 (plainElem prog 3) g (cB a) (fE (a.map λp=>(p.s,vI p.n))))(l:zC (·.s) a)(m:cB a<=1000000000):
 Calls prog 86 #[.func (.func 225) #[] #[.pointer (cC w.1.size)]] (w.alloc (aB #[.map (fA g)] 227)) λe i=>∃v,e=zA v/\i.ownsRow w.1.size 9 1 v (cB a) (a.map λp=>tA p.s)/\zB w i:=by
 have d:Maps.size (fE (a.map λp=>(p.s,vI p.n)))=cB a:=by rw[pM]
 refine Calls.mono (callsIn_wide.1 (slices_Sorted_keys_86_158 g _ _ (plainElem prog 3) w h (by rw[d];unfold maxLen;omega) (by rw[d];omega))) ?_;rintro e o ⟨v,h,rfl,f,b,_,j⟩;have k:(strKeys (fE (a.map λp=>(p.s,vI p.n))))=a.map λp=>p.s.data.toList:=by
  rw[sU,Vd];rfl
 rw[k]at f;have c:cB h=cB a:=by rw[f.length_eq,Xa]
 rw[IL (key:=λp:pB=>p.s) l f,NQ (λp:pB=>p.s),c]at b;exact⟨v,rfl,FG b (by simp),xB aC j⟩
def oW(a:List pB):List mA:=a.flatMap λx=>[tA x.s,dB x.n]
def JK(a:List pB)(k:Nat)(h:k<cB a):oW (a.take (k+1))=oW (a.take k)++[tA a[k].s,dB a[k].n]:=by
 rw[Pa h,oW,He];rfl
def gb{W:jA}{B:Nat}{e:oA}{v:mA}{a:List pB}(h:W.ownsRow B e 1 v (cB a) (a.map λp=>tA p.s)):
 ∃k q,v=uA k (cB a) q/\(a=[]\/∃g,k=cC g/\B<=g/\g<W.1.size/\∀i(h:i<cB a),W.cell? (iB g i)=fA (tA a[i].s)):=by
 obtain⟨rfl,j⟩|⟨g,c,b,rfl,l,f,_,_,o,d⟩:=h.2;refine ⟨eA,0,by rw[j],Ca (Nb.1 j)⟩;refine ⟨_,c,rfl,La ⟨g,rfl,l,eB f,λi n=>?_⟩⟩;have m:=rB.cell (show rB W g b e from f) i;rw[m,<-Yd];have:(b.toList.take (cB a*1))[i]?=(a.map λp=>mA.string p.s)[i]?:=by rw[d]
 rw[Ye,Ma (by omega)]at this;rw[this,Se,Va n];rfl
def vk{w:jA}{d:Nat}{c:List pB}(h:w.ownsMap prog 9 (plainElem prog 3) d (cB c) (fE (c.map λp=>(p.s,vI p.n))))(f:zC (·.s) c){p:pB}(e:p∈c)(g:p.s.size<=maxLen):
 (Instr.lookup 227 (.map (fA d)) (tA p.s) gA).run prog w=.ok (dB p.n) w:=by
 obtain⟨v,b,a,_⟩:=h.lookup_int pL underlying227 underlying3 (MA _) (zM g);rw[b];rw[lS (key:=λp:pB=>p.s) (λp=>vI p.n),gM (key:=λp:pB=>p.s) f e]at a;simp[vI]at a;rw[a]
def aBt{w:jA}{S:Nat->Prop}{x:Nat}{t:kB}{M y d j:Nat}{u:mA}{Q:List (pB×Nat)}{o:List rI}{D:DataW Unit}(h:kR w S x t M y d j u Q o D)(i:Nat)(k:i<cB t.Z)(r:t.Z[i].s.size<=maxLen):
 ∃q,∀W,zB w W->W.cell? (iB x 2)=fA (.map (fA d))/\(Instr.lookup 228 (.map (fA d)) (tA t.Z[i].s) gA).run prog W=.ok (.pointer (cC q)) W/\W.cell? (iB q 0)=fA (tA t.Z[i].s)/\W.cell? (iB q 1)=fA (dB t.Z[i].n):=by
 have l:t.Z[i] ∈Q.map (·.1):=by rw[h.q1];exact Gb k
 obtain⟨q,f,e⟩:=Md.1 l;have m:zC (λq:pB×Nat=>q.1.s) Q:=by
  have:=h.rs;rw[<-h.q1]at this;exact Te.1 this
 refine⟨q.2,λW c=>?_⟩;have a:=(h.cells q f).z c;have p:=h.blk.z c;refine⟨p.cell 2,?_,?_,?_⟩;obtain ⟨v,z,b,g⟩:=jA.ownsMap.lookup ((jB.of c).map (S:=λ_=>False) h.Z (λe=>e)) pL underlying228 (show(zeroValue 236).run prog W=.ok (.pointer eA) W by kernel_rfl) (zd:=.nil) (zp:=[]) rfl (zM r);rw[b];rw[lS (key:=λq:pB×Nat=>q.1.s) (λq=>nF q.2),<-e,gM (key:=λq:pB×Nat=>q.1.s) m f]at g;rw[rQ g];rw[a.cell 0,<-e];rfl;rw[a.cell 1,<-e];rfl
def ic(x:Nat)(r:vB)(t:kB)(S:Nat->Prop)(M:Nat)(w:jA)(h:yD w S x t M)(hs1:∀i(h:i<cB t.M),t.M[i].s.size<=maxLen)(hs2:∀i(h:i<cB t.Z),t.Z[i].s.size<=maxLen)(hl1:cB t.M<=2000000)(hl2:cB t.Z<=2000000):
 Calls prog 88 #[.pointer (fA ⟨x,0,eA⟩),tA r] w λe w'=>∃I L M,e=zA (yA #[tA r,qA sA t.L,I,L])/\w'.ownsRow w.1.size 107 2 I (cB t.M) (oW t.M)/\(∀g,I.ownBlock=fA g->g<M)/\w.1.size<=M/\M<=w'.1.size/\w'.ownsRow M 109 2 L (cB t.Z) (oW t.Z)/\zB w w':=by
 have HKY:fB _:=λW G=>aBd x t S M W (h.z G) (by omega);obtain⟨lm,sm,cm,iv,Q,hs,D,h⟩:=h;have c0:gD w x 0 (qA sA t.L):=h.blk.cell 0;have c1:gD w x 1 (.map (fA lm)):=h.blk.cell 1;have hxl:=eB h.blk;have HLS:fB _:=λi hi=>aBt h i hi (hs2 i hi);have HSH:fB _:=hs1;have HSL:fB _:=λW G=>gl lm t.M W ((jB.of G).map (S:=λ_=>False) h.lims (λe=>e)) h.rm (by omega);have O:fB (∀W,zB w W->gD W x 1 (.map (fA lm))/\∀p∈t.M,p.s.size<=maxLen->(Instr.lookup 227 (.map (fA lm)) (tA p.s) gA).run prog W=.ok (qA sA p.n) W):=λW G=>⟨(G.cell hxl).trans (h.blk.cell 1),λp hp hs=>vk ((jB.of G).map (S:=λ_=>False) h.lims (λe=>e)) h.rm hp hs⟩
 have HMK:fB _:=λW=>callsIn_wide.1 (maps_Keys_158 (fA lm) W);clear h;go_enter func88,ntmps88;go_wp2_with fail;apply oC (HMK.o _);rintro w1 rfl;have B2:fB (zB w ((w.alloc (aB #[tA ⟨#[]⟩,qA sA 0,uA eA 0 0,uA eA 0 0] 105)).alloc (aB #[tA r,qA sA t.L,uA eA 0 0,uA eA 0 0] 105))):=xB aC aC;have X2:fB _:=gB (by have:=rB.new (w.alloc (aB #[tA ⟨#[]⟩,qA sA 0,uA eA 0 0,uA eA 0 0] 105)) #[tA r,qA sA t.L,uA eA 0 0,uA eA 0 0] 105;simpa using this);have Y2:fB (rB ((w.alloc (aB #[tA ⟨#[]⟩,qA sA 0,uA eA 0 0,uA eA 0 0] 105)).alloc (aB #[tA r,qA sA t.L,uA eA 0 0,uA eA 0 0] 105)) w.1.size #[tA ⟨#[]⟩,qA sA 0,uA eA 0 0,uA eA 0 0] 105):=(rB.new _ _ _).alloc _;generalize (w.alloc (aB #[tA ⟨#[]⟩,qA sA 0,uA eA 0 0,uA eA 0 0] 105)).alloc (aB #[tA r,qA sA t.L,uA eA 0 0,uA eA 0 0] 105)=w2 at *;go_wp2_with fail;refine(HSL.o _ B2.o).mono ?_;rintro e J ⟨kv,rfl,f,H⟩;obtain⟨ka,kc,rfl,y⟩:=gb f;have E:=gB y;have B3:fB _:=xB B2.o H;have X3:fB (rB J (w.1.size+1) #[tA r,qA sA t.L,uA eA 0 0,uA eA 0 0] 105):=X2.o.z H;have Y3:fB (rB J w.1.size #[tA ⟨#[]⟩,qA sA 0,uA eA 0 0,uA eA 0 0] 105):=Y2.o.z H;have HX2:fB _:=eB X2.o;clear f y H X2 Y2 B2 HSL HMK c0 c1;go_wp2;go_loopw [7,23] (λ_ i wr=>∃(k:Nat)(I:mA),k<=cB t.M/\i=qA sA k/\fB (rB wr (w.1.size+1) #[tA r,qA sA t.L,I,uA eA 0 0] 105)/\fB (wr.ownsRow J.1.size 107 2 I k (oW (t.M.take k)))/\fB (jB (·=w.1.size+1) J wr)) (λ_ i _=>cB t.M-(intOf i).toNat)
 case atStart=>exact⟨0,uA eA 0 0,Oa _,rfl,X3.o,jA.ownsRow_nil _ _ _ _,jB.refl _ _⟩
 case round=>
  obtain⟨k,I,hk,rfl,m,l,b⟩:=hrel;by_cases c:k<cB t.M
  .have z:∃g,ka=fA ⟨g,0,eA⟩/\w2.1.size<=g/\g<J.1.size/\∀i(h:i<cB t.M),gD J g i (tA t.M[i].s):=by
    obtain X|X:=E.o;rw[X]at c;exact absurd c (by simp);exact X
   obtain⟨g,rfl,hg1,d0,g0⟩:=z;have hx2:=HX2.o;have i0:g≠w.1.size+1:=by omega
   have hkey:=(jA.cell?_of_block (b.o.block g d0 i0)).trans (g0 k c);have d:fB _:=(((jB.of (S:=λi=>w.1.size<=i) B3.o).trans' (b.o.mono λi _ e=>by omega)).below (Ia _) λi hi h=>by omega)
   have HQ:fB (∀W,zB w W->gD W x 1 (.map (fA lm))/\(Instr.lookup 227 (.map (fA lm)) (tA t.M[k].s) gA).run prog W=.ok (qA sA t.M[k].n) W):=λW G=>⟨(O.o W G).1,(O.o W G).2 _ (Gb c) (HSH.o k c)⟩
   have N:fB _:=JK _ _ c;have C:=b.o.size;have hB3s:=B3.o.size;have j0:=λq B=>(l.o.lt q B).1;have A:=l.o;have v5:gD wr (w.1.size+1) 2 I:=m.o.cell 2;have ag:I.ownBlock≠fA (w.1.size+1):=λe=>by have:=j0 _ e;omega
   obtain⟨q1,q2⟩:=HQ.o wr.drew d.o.drew;generalize t.M[k]=P at *;have hXw:w.1.size+1<wr.1.size:=by omega
   go_wp2_with fail;go_region_law (refine dS (w:=wr.drew) (by rfl) _ _ (by rfl) underlying102 cV rfl (by omega) (by omega) (by rfl) A.drew (by rfl) (by rfl) (cs:=#[tA P.s,qA sA P.n]) rfl (by simp[mA.oneCell']) (by omega) (by exact C) ?_;intro gg cap w4 O4 V A4;have j:=gB (V.o.blk m.o (λe=>by have:=e.1;omega));have s5:=j.o.cell 2;have a:=j.o.free 2)
   all_goals
    obtain⟨Y,h3,h4⟩:=oR (wr:=wr.drew) m.o V.o O4.o (by omega) 2;have U:=gB Y;have R:=gB h3;have T:=gB (b.o.trans ((jB.of (kA.refl wr.1.size wr).drew).trans' (h4.mono λi _ e=>e.imp_right And.left)));clear Y h3 h4 s5 a j O4 V A4;go_wp2;exact⟨⟨k+1,_,by omega,by go_num,gB (by simpa using U.o),by rw[N.o];exact R,T.o⟩,by simp[intOf];omega⟩
  .have ek:k=cB t.M:=by omega
   have et:t.M.take k=t.M:=Ra (by omega);rw[et,ek]at l;obtain⟨ra,rc,rfl⟩:=nK l.o;have d:fB _:=(((jB.of (S:=λi=>w.1.size<=i) B3.o).trans' (b.o.mono λi _ e=>by omega)).below (Ia _) λi hi h=>by omega)
   have u:fB (rB wr w.1.size #[tA ⟨#[]⟩,qA sA 0,uA eA 0 0,uA eA 0 0] 105):=b.o.blk Y3.o (by omega);have Z:fB _:=eB X3.o;have h3r:fB _:=b.o.size;clear et E O HSH B3 X3 Y3 HX2 b;generalize hwo:wr=wo at *;clear hwo;go_wp2_with fail;refine(HKY.o _ d.o).mono ?_;rintro e K ⟨kv,rfl,f,o⟩;obtain⟨kb,kd,rfl,y⟩:=gb f;have E:=gB y;have B5:fB _:=xB d.o o;have X5:fB (rB K (w.1.size+1) #[tA r,qA sA t.L,uA ra (cB t.M) rc,uA eA 0 0] 105):=m.o.z o;have Y5:fB (rB K w.1.size #[tA ⟨#[]⟩,qA sA 0,uA eA 0 0,uA eA 0 0] 105):=u.o.z o;have O5:fB (K.ownsRow J.1.size 107 2 (uA ra (cB t.M) rc) (cB t.M) (oW t.M)):=(jB.of (S:=λ_=>False) o).row l.o (λ_ _ e=>e);have hWo:fB (J.1.size<=wo.1.size/\wo.1.size<=K.1.size):=⟨h3r.o,o.size⟩
   clear f y o m l d u HKY;go_wp2;go_loopw [9,44] (λ_ i wr=>∃(k:Nat)(L:mA),k<=cB t.Z/\i=qA sA k/\fB (rB wr (w.1.size+1) #[tA r,qA sA t.L,uA ra (cB t.M) rc,L] 105)/\fB (wr.ownsRow K.1.size 109 2 L k (oW (t.Z.take k)))/\fB (jB (·=w.1.size+1) K wr)) (λ_ i _=>cB t.Z-(intOf i).toNat)
   case atStart=>exact⟨0,uA eA 0 0,Oa _,rfl,X5.o,jA.ownsRow_nil _ _ _ _,jB.refl _ _⟩
   case round=>
    obtain⟨k,L,hk,rfl,m,l,b⟩:=hrel;have d:fB _:=(((jB.of (S:=λi=>w.1.size<=i) B5.o).trans' (b.o.mono λi _ e=>by omega)).below (Ia _) λi hi h=>by omega)
    by_cases c:k<cB t.Z
    .have z:∃g,kb=fA ⟨g,0,eA⟩/\wo.1.size<=g/\g<K.1.size/\∀i(h:i<cB t.Z),gD K g i (tA t.Z[i].s):=by
      obtain X|X:=E.o;rw[X]at c;exact absurd c (by simp);exact X
     obtain⟨g,rfl,hg1,d0,g0⟩:=z;have h31':=Z.o;have hwo':=hWo.o;have i0:g≠w.1.size+1:=by omega
     have hkey:=(jA.cell?_of_block (b.o.block g d0 i0)).trans (g0 k c);obtain⟨q,HQ0⟩:=HLS.o k c;have HQ:fB _:=HQ0;have N:fB _:=JK _ _ c;have C:=b.o.size;have j0:=λq B=>(l.o.lt q B).1;have A:=l.o;have v5:gD wr (w.1.size+1) 3 L:=m.o.cell 3;have ag:L.ownBlock≠fA (w.1.size+1):=λe=>by have:=j0 _ e;omega
     obtain⟨q1,q2,q3,q4⟩:=HQ.o wr.drew d.o.drew;generalize t.Z[k]=P at *;have hXw:w.1.size+1<wr.1.size:=by omega
     clear HQ0;go_wp2_with fail;go_region_law (refine dS (w:=wr.drew) (by rfl) _ _ (by rfl) underlying103 vY rfl (by omega) (by omega) (by rfl) A.drew (by rfl) (by rfl) (cs:=#[tA P.s,qA sA P.n]) rfl (by simp[mA.oneCell']) (by omega) (by exact C) ?_;intro gg cap w4 O4 V A4;have j:=gB (V.o.blk m.o (λe=>by have:=e.1;omega));have s5:=j.o.cell 3;have a:=j.o.free 3)
     all_goals
      obtain⟨Y,h3,h4⟩:=oR (wr:=wr.drew) m.o V.o O4.o (by omega) 3;have U:=gB Y;have R:=gB h3;have T:=gB (b.o.trans ((jB.of (kA.refl wr.1.size wr).drew).trans' (h4.mono λi _ e=>e.imp_right And.left)));clear Y h3 h4 s5 a j O4 V A4;go_wp2;exact⟨⟨k+1,_,by omega,by go_num,gB (by simpa using U.o),by rw[N.o];exact R,T.o⟩,by simp[intOf];omega⟩
    .have ek2:k=cB t.Z:=by omega
     have et:t.Z.take k=t.Z:=Ra (by omega);rw[et,ek2]at l;obtain⟨sa,sc,rfl⟩:=nK l.o;have u:fB (rB wr w.1.size #[tA ⟨#[]⟩,qA sA 0,uA eA 0 0,uA eA 0 0] 105):=b.o.blk Y5.o (by omega);have a0:gD wr (w.1.size+1) 0 (tA r):=m.o.cell 0;have a1:gD wr (w.1.size+1) 1 (qA sA t.L):=m.o.cell 1;have a2:gD wr (w.1.size+1) 2 (uA ra (cB t.M) rc):=m.o.cell 2;have a3:gD wr (w.1.size+1) 3 (uA sa (cB t.Z) sc):=m.o.cell 3;have b0:gD wr w.1.size 0 (tA ⟨#[]⟩):=u.o.cell 0;have b1:gD wr w.1.size 1 (qA sA 0):=u.o.cell 1;have b2:gD wr w.1.size 2 (uA eA 0 0):=u.o.cell 2;have b3:gD wr w.1.size 3 (uA eA 0 0):=u.o.cell 3;have e0:=u.o.free 0;have e1:=u.o.free 1;have e2:=u.o.free 2;have e3:=u.o.free 3;have HOM:fB (wr.ownsRow J.1.size 107 2 (uA ra (cB t.M) rc) (cB t.M) (oW t.M)):=b.o.row O5.o (λq B e=>by have Y:=(O5.o.lt q B).1;have h2:=Z.o;omega);go_wp2;have F:jB (·=w.1.size) wr ((((wr.setCell ⟨w.1.size,0,eA⟩ (tA r)).setCell ⟨w.1.size,1,eA⟩ (qA sA t.L)).setCell ⟨w.1.size,2,eA⟩ (uA ra (cB t.M) rc)).setCell ⟨w.1.size,3,eA⟩ (uA sa (cB t.Z) sc)):=((((jB.refl (·=w.1.size) wr).setCell (Ca rfl) 0 _).setCell (Ca rfl) 1 _).setCell (Ca rfl) 2 _).setCell (Ca rfl) 3 _;have h31':=Z.o;have hwo':=hWo.o;refine bodyPost_ret (v:=yA #[tA r,qA sA t.L,uA ra (cB t.M) rc,uA sa (cB t.Z) sc]) (by simp[results,results88,go_sem,b0,b1,b2,b3]) rfl ⟨_,_,K.1.size,rfl,FG (F.row HOM.o (λq B e=>by have:=(HOM.o.lt q B).1;omega)) (by omega),(λq B=>(O5.o.lt q B).2),by omega,by have Y:=b.o.size;have h2:=F.size;omega,F.row l.o (λq B e=>by have:=(l.o.lt q B).1;omega),((jB.of (S:=λi=>w.1.size<=i) d.o).trans' (F.mono λi _ e=>by omega)).below (Ia _) λi hi h=>by omega⟩
end
def oN{p:FuncId}{k:Nat}(f:p=28/\k=1\/p=114/\k=2\/p=105/\k=8)(v:Int)(w:jA):gF p #[dB v] w (tA (uB k v)):=by
 have b:=gB (λn d W=>oH n v W d);obtain⟨rfl,rfl⟩|⟨rfl,rfl⟩|⟨rfl,rfl⟩:=f
 .go_enter func28,ntmps28;go_wp2_with fail;refine oC (b.o 1 (by omega) _) ?_;intro c a;go_wp2;go_ret;exact⟨rfl,a⟩
 .go_enter func114,ntmps114;go_wp2_with fail;refine oC (b.o 2 (by omega) _) ?_;intro c a;go_wp2;go_ret;exact⟨rfl,a⟩
 go_enter func105,ntmps105;go_wp2_with fail;refine oC (b.o 8 (by omega) _) ?_;intro c a;go_wp2;go_ret;exact⟨rfl,a⟩
structure GE(w W:World)(fl rq:Array Value)(v:Value)(ps:List vB):Prop where
 S:rB W w.1.size fl 185
 R:rB W (w.1.size+1) rq 47
 V:W.ownsRow (w.1.size+1+1) 9 1 v (cB ps) (ps.map mA.string)
 N:zB w W
section
variable {w W W':jA} {fl rq:Array mA} {v v':mA} {ps qs:List vB}
theorem GE.z(h:GE w W fl rq v ps)(a:zB W W'):GE w W' fl rq v ps:=⟨h.S.z a,h.R.z a,lC h.V a,xB h.N a⟩
theorem GE.size(h:GE w W fl rq v ps):w.1.size+1+1<=W.1.size:=eB h.R
theorem GE.turn(h:GE w W fl rq v ps)(a:jB (λi=>w.1.size+1+1<=i/\v.ownBlock=fA i) W W')(b:W'.ownsRow (w.1.size+1+1) 9 1 v' (cB ps+cB qs) (ps.map mA.string++qs.map mA.string)):GE w W' fl rq v' (ps++qs):=
 ⟨a.blk h.S (λe=>by omega),a.blk h.R (λe=>by omega),by rw[Kb,Ld];exact b,h.N.trans (a.below h.N.size λq c e=>by omega)⟩
end
def qJ(a:List wF):List vB:=a.flatMap λx=>[bI x.B,uB 8 x.bits]
def fm(a:List wF)(k:Nat)(h:k<cB a):qJ (a.take (k+1))=qJ (a.take k)++[bI a[k].B,uB 8 a[k].bits]:=by
 unfold qJ;rw[Pa h,He];rfl
def MW:∀(a:List wF),xF (qJ a)=kE a
 |[]=>rfl
 |x::q=>by
  have e:qJ (x::q)=[bI x.B,uB 8 x.bits]++qJ q:=rfl;rw[e,oG,MW q,kE];simp[xF,jW]
def UN:∀(a:List wF),yF a<=1048576->(∀i(h:i<cB a),cB a[i].B<=255)->jG (qJ a)<=cB a*2000000
 |[],_,_=>by simp[qJ,jG]
 |x::q,d,b=>by
  have e:qJ (x::q)=[bI x.B,uB 8 x.bits]++qJ q:=rfl;have c:cB x.B<=255:=b 0 (by simp);have f:yF (x::q)=mJ x+yF q:=rfl;have k:mJ x=cB x.B+bE x.B:=rfl;have j:=UN q (by omega) (λi h=>b (i+1) (by simpa using h));have g:(bI x.B).size<=1999000:=by rw[bI,Ka,oB,uP];omega
  rw[e,vH];simp only[jG,oB,Zb];omega
def wY:(prog.info? 9).map (λi=>(i.zero,i.size,i.bytes))=fA (fA (tA pA),1,16):=by kernel_rfl
def jv(r:fH)(a:nC)(l:Nat)(w:jA)(p:gJ w a r.P)(hz:FF r<=1048576)(Z:na r):
 gF 175 #[shV r.K,yA #[qA sA r.K,tA r.T,tA r.R,qA sA r.U,uA a (cB r.P) l]] w (tA (oK r)):=by
 have u:FF r=r.T.size+r.R.size+cB r.P+yF r.P:=rfl;have h4:=Z.2.2.2.2.1;have hl:=Z.2.2.2.2.2.2.2.1;have hx:=Z.2.2.2.2.2.2.2.2;obtain⟨k,D,C,E,d⟩:=r;dsimp only at *;have HU:=gB (λW=>oN (Ca ⟨rfl,rfl⟩) k W);have A1:fB (∃Q,(wU k=iA/\(∃x,Q=[x]/\x.size<=1100000/\∀W,gF 116 #[tA D] W (tA x))\/wU k=gA/\Q=[])/\xF Q=(if wU k=iA then vM D else pA)):=by
  by_cases h:wU k=iA
  .exact ⟨[vM D],Ca ⟨by simpa using h,_,rfl,by rw[sF];omega,λW=>sS D W (by omega)⟩,by simp[xF,h]⟩
  exact ⟨[],La ⟨by simpa using h,rfl⟩,by simp[xF,h]⟩
 have A2:fB (∃Q,((k==1)=iA/\(∃x,Q=[x]/\x.size<=1100000/\∀W,gF 114 #[qA sA (cB d:Nat)] W (tA x))\/(k==1)=gA/\Q=[])/\xF Q=(if k=1 then uB 2 (cB d:Nat) else pA)):=by
  by_cases h:k=1
  .exact ⟨[uB 2 (cB d:Nat)],Ca ⟨by simpa using h,_,rfl,by rw[oB];omega,λW=>oN (La (Ca ⟨rfl,rfl⟩)) _ W⟩,by simp[xF,h]⟩
  exact ⟨[],La ⟨by simpa using h,rfl⟩,by simp[xF,h]⟩
 have A3:fB (∃Q,(vU k=iA/\(∃x,Q=[x]/\x.size<=1100000/\∀W,gF 117 #[tA C] W (tA x))\/vU k=gA/\Q=[])/\xF Q=(if vU k=iA then eG C else pA)):=by
  by_cases h:vU k=iA
  .exact ⟨[eG C],Ca ⟨by simpa using h,_,rfl,by rw[kF];omega,λW=>jL C W (by omega)⟩,by simp[xF,h]⟩
  exact ⟨[],La ⟨by simpa using h,rfl⟩,by simp[xF,h]⟩
 have A4:fB (∃Q,(iV k=iA/\(∃x,Q=[x]/\x.size<=1100000/\∀W,gF 105 #[qA sA E] W (tA x))\/iV k=gA/\Q=[])/\xF Q=(if iV k=iA then uB 8 E else pA)):=by
  by_cases h:iV k=iA
  .exact ⟨[uB 8 E],Ca ⟨by simpa using h,_,rfl,by rw[oB];omega,λW=>oN (La (La ⟨rfl,rfl⟩)) _ W⟩,by simp[xF,h]⟩
  exact ⟨[],La ⟨by simpa using h,rfl⟩,by simp[xF,h]⟩
 obtain⟨U,A1,E1⟩:=A1.o;obtain⟨Q2,A2,E2⟩:=A2.o;obtain⟨Q3,A3,E3⟩:=A3.o;obtain⟨Q4,A4,E4⟩:=A4.o;have HX:fB (xF ([uB 1 k]++U++Q2++qJ d++Q3++Q4)=oK ⟨k,D,C,E,d⟩):=by
  show _=_;unfold oK;simp only[oG,E1,E2,E3,E4,MW];by_cases h:k=1
  .simp[xF,h,Wa]
  simp[xF,h,h4 h,kE,Wa]
 have l1:cB U<=1:=by rcases A1 with⟨_,x,rfl,_⟩|⟨_,rfl⟩<;>simp
 have l2:cB Q2<=1:=by rcases A2 with⟨_,x,rfl,_⟩|⟨_,rfl⟩<;>simp
 have HF:=gB p;have HH:=gB hx;have l3:cB Q3<=1/\jG Q3<=1100000:=by rcases A3 with⟨_,x,rfl,h,_⟩|⟨_,rfl⟩<;>simp[jG]<;>omega
 have l4:cB Q4<=1/\jG Q4<=1100000:=by rcases A4 with⟨_,x,rfl,h,_⟩|⟨_,rfl⟩<;>simp[jG]<;>omega
 have l5:jG U<=1100000/\jG Q2<=1100000:=⟨by rcases A1 with⟨_,x,rfl,h,_⟩|⟨_,rfl⟩<;>simp[jG]<;>omega,by rcases A2 with⟨_,x,rfl,h,_⟩|⟨_,rfl⟩<;>simp[jG]<;>omega⟩
 have hsum:jG ([uB 1 k]++U++Q2++qJ d++Q3++Q4)<=140737488355328:=by
  have h:=UN d (by omega) (λi hi=>(hx i hi).1);have:=oB 1 k;simp only[vH,jG];omega
 replace A3:=gB A3;replace A4:=gB A4;clear E1 E2 E3 E4 h4 p hx Z;unfold shV;generalize oK ⟨k,D,C,E,d⟩=RX at *;generalize uB 1 k=T at *;generalize wU k=t at *;generalize vU k=m at *;generalize iV k=n at *;generalize (k==1||k==2||k==3||k==4)=c at *;generalize (k==1)=s at *;go_enter func175,ntmps175;go_wp2_with fail;apply oC (HU.o _);intro H u;have G:fB (GE w (H.alloc (aB #[tA T] 9)) #[vA t,vA s,vA m,vA n,vA c] #[qA sA k,tA D,tA C,qA sA E,uA a (cB d) l] (uA (fA ⟨H.1.size,0,eA⟩) 1 1) [T]):=
  ⟨((((rB.new _ _ _).alloc _).z u).alloc _),by have:=((rB.new (w.alloc (aB #[vA t,vA s,vA m,vA n,vA c] 185)) #[qA sA k,tA D,tA C,qA sA E,uA a (cB d) l] 47).z u).alloc (aB #[tA T] 9);simpa using this,⟨rfl,La ⟨H.1.size,1,_,rfl,by have:=u.size;simpa using this,heap_alloc_new _ _,Ia _,by simp[maxLen],rfl,rfl⟩⟩,xB (xB (xB aC aC) u) aC⟩
 clear u HU;go_upto_region 2 with fail;generalize H.alloc (aB #[tA T] 9)=W at *;generalize H.1.size=g at *;clear H;generalize mA.agg #[vA t,vA s,vA m,vA n,vA c]=SV;obtain⟨K,L,M,O,s4⟩:=G.o.S.c5;obtain⟨r0,r1,r2,r3,r4⟩:=G.o.R.c5;go_upto_if 13 with fail;go_cut [5] (λv wx=>∃g A,v=.slice (fA ⟨g,0,eA⟩) (cB ([T]++U)) A/\GE w wx #[vA t,vA s,vA m,vA n,vA c] #[qA sA k,tA D,tA C,qA sA E,uA a (cB d) l] v ([T]++U))
 case first=>
  obtain⟨p,x,rfl,zx,y⟩|⟨p,rfl⟩:=A1
  .rw[p]at K |-
   replace y:=gB y;go_wp2_with fail;apply oC (y.o _);intro H u;replace G:=gB (G.o.z u);go_wp2_with(at_builtin;refine yP rfl _ _ rfl underlying30 wY rfl (by omega) (by omega) (by rfl) G.o.V (by rfl) (by rfl) rfl (by simp[mA.oneCell']) (by first|omega|(simp<;>omega)) G.o.size ?_;intro g2 c2 w2 h1 h2;have G2:=gB (G.o.turn (qs:=[x]) h2.o h1.o));go_wp2;go_meet;exact⟨g2,c2,by simp,by simpa using G2.o⟩
  rw[p]at K |-
  go_wp2;go_meet;exact⟨g,_,by rw[Cd]<;>rfl,by simpa using G.o⟩
 clear K G;obtain⟨g,A,rfl,G⟩:=hcut;replace G:=gB G;rename jA=>W;obtain⟨K,L,M,O,s4⟩:=G.o.S.c5;obtain⟨r0,r1,r2,r3,r4⟩:=G.o.R.c5;go_upto_if 21 with fail;go_cut [5] (λv wx=>∃g A,v=.slice (fA ⟨g,0,eA⟩) (cB (([T]++U)++Q2)) A/\GE w wx #[vA t,vA s,vA m,vA n,vA c] #[qA sA k,tA D,tA C,qA sA E,uA a (cB d) l] v (([T]++U)++Q2))
 case first=>
  obtain⟨p,x,rfl,zx,y⟩|⟨p,rfl⟩:=A2
  .rw[p]at L |-
   replace y:=gB y;go_wp2_with fail;apply oC (y.o _);intro H u;replace G:=gB (G.o.z u);go_wp2_with(at_builtin;refine yP rfl _ _ rfl underlying30 wY rfl (by omega) (by omega) (by rfl) G.o.V (by rfl) (by rfl) rfl (by simp[mA.oneCell']) (by first|omega|(simp<;>omega)) G.o.size ?_;intro g2 c2 w2 h1 h2;have G2:=gB (G.o.turn (qs:=[x]) h2.o h1.o));go_wp2;go_meet;exact⟨g2,c2,by simp,by simpa using G2.o⟩
  rw[p]at L |-
  go_wp2;go_meet;exact⟨g,_,by rw[Cd]<;>rfl,by simpa using G.o⟩
 clear L G;obtain⟨g,A,rfl,G⟩:=hcut;replace G:=gB G;rename jA=>W;obtain⟨K,L,M,O,s4⟩:=G.o.S.c5;obtain⟨r0,r1,r2,r3,r4⟩:=G.o.R.c5;have hps:cB ([T]++U++Q2)<=3:=by simp;omega
 generalize hP:[T]++U++Q2=P at *;clear K L M O s4 A1 A2 l1 l2;go_wp2;go_loopw [5,7,32] (λout _ i wr=>∃(j g cv z:Nat),j<=cB d/\i=qA sA j/\out=uA (fA ⟨g,0,eA⟩) z cv/\z<=3+2*j/\fB (z=cB (P++qJ (d.take j)))/\fB (GE w wr #[vA t,vA s,vA m,vA n,vA c] #[qA sA k,tA D,tA C,qA sA E,uA a (cB d) l] (uA (fA ⟨g,0,eA⟩) z cv) (P++qJ (d.take j)))) (λ_ _ i _=>cB d-(intOf i).toNat)
 case atStart=>exact⟨0,g,A,cB P,Oa _,rfl,rfl,by omega,gB (by simp[qJ]),gB (by simpa[qJ]using G.o)⟩
 case round=>
  clear G r0 r1 r2 r3 r4 W g A;obtain⟨j,g,cv,z,hj,rfl,rfl,hz2,HZ,G⟩:=hrel;rename jA=>W;obtain⟨K,L,M,O,s4⟩:=G.o.S.c5;obtain⟨r0,r1,r2,r3,r4⟩:=G.o.R.c5;by_cases J:j<cB d
  .obtain ⟨b,o,a1,q1,rfl,u,c0,c1,p1⟩:=(HF.o.z G.o.N).at J;have hll:=(HH.o j J).1;have hbs:=PT d j J;have hbe:mJ d[j]=cB d[j].B+bE d[j].B:=rfl;have HK:=gB (λW'(hW:zB W W')=>lq a1 q1 d[j].B W' (p1.z hW) (λi hi=>by have:=lx d[j].B i hi;omega) hll);have HB:=gB (λW'=>oN (La (La ⟨rfl,rfl⟩)) d[j].bits W');have E2:=gB (show P++qJ (d.take (j+1))=P++qJ (d.take j)++_ by rw[fm d j J,Nd]);generalize P++qJ (d.take j)=ps at *;have hgl:=G.o.V.lt g rfl;have HV:fB (W.ownsRow (w.1.size+1+1) 9 1 (uA (fA ⟨g,0,eA⟩) z cv) z (ps.map mA.string)):=gB (by have:=G.o.V;rw[<-HZ.o]at this;exact this);clear p1 hbe hbs;generalize bI d[j].B=SK at *;generalize uB 8 d[j].bits=S8 at *;generalize cB d[j].B=ll at *;generalize d[j].bits=bi at *;have X:=gB (rB.new W #[uA a1 ll q1,qA sA bi] 132);have HW:=gB (uF W (aB #[uA a1 ll q1,qA sA bi] 132));replace G:=gB (G.o.z HW.o);replace HV:=gB (lC HV.o HW.o);go_upto_region 9 with fail;generalize W.alloc (aB #[uA a1 ll q1,qA sA bi] 132)=V at *;replace HK:=gB (λW'(h:zB V W')=>HK.o W' (xB HW.o h));have hX:=eB X.o;obtain⟨x0,x1⟩:=X.o.c2;have hw2:=G.o.size;clear X HW u c0 c1 K L M O s4 r0 r1 r2 r3 r4;generalize W.1.size=BX at *;clear W;go_region_held3 (λF=>F.cell? ⟨BX,0,eA⟩=fA (uA a1 ll q1)/\F.cell? ⟨BX,1,eA⟩=fA (qA sA bi))
    (first
     |go_keep
     |exact⟨(k5 0).trans x0,(k5 1).trans x1⟩
     |exact⟨((f.alloc f.size _).cell hX).trans x0,((f.alloc f.size _).cell hX).trans x1⟩
     |exact⟨(f.cell hX).trans x0,(f.cell hX).trans x1⟩
     |exact⟨(Y.cell hX).trans x0,(Y.cell hX).trans x1⟩)
    (first
     |(go_at_call 236;apply oC (HK.o _ (kA.refl _ V).drew);intro H hb1;have Y:zB V H:=(kA.refl _ V).drew.trans hb1)
     |(go_at_call 105;apply oC (HB.o _);intro w2 hb2;have f:zB V w2:=Y.trans (hb2.mono Y.size))
     |(refine eS (by rfl) _ _ (by rfl) underlying30 wY rfl (by omega) (by omega) (B:=w.1.size+1+1) (by rfl) (by exact lC (lC HV.o f) aC) [tA SK,tA S8] (by rfl) rfl (by exact La ⟨_,rfl,jA.news_of_block (cs:=#[tA SK,tA S8]) (heap_alloc_new _ _)⟩) (by simp[mA.oneCell']) (by omega) (by have:=f.size;simp;omega) ?_;intro g5 c5 w5 ho5 I hk5 hg5;clear hg5;have k5:∀i,w5.cell? ⟨BX,i,eA⟩=V.cell? ⟨BX,i,eA⟩:=λi=>(jA.cell?_of_block (hk5 BX (by have:=f.size;simp;omega) (by omega))).trans ((f.alloc f.size (aB #[tA SK,tA S8] 9)).cell hX);have G5:fB (GE w w5 #[vA t,vA s,vA m,vA n,vA c] #[qA sA k,tA D,tA C,qA sA E,uA (fA ⟨b,o,eA⟩) (cB d) l] (uA (fA ⟨g5,0,eA⟩) (z+2) c5) (ps++[SK,S8])):=gB ((G.o.z (xB f (uF w2 (aB #[tA SK,tA S8] 9)))).turn (qs:=[SK,S8]) ⟨I.os,I.tape,I.output,I.size,λq hq hn=>hk5 q hq λe=>hn ⟨by omega,by subst e;rfl⟩⟩ (by rw[<-HZ.o];exact ho5));clear ho5 I hk5))
   clear k5;go_wp2;exact⟨⟨j+1,g5,c5,z+2,by omega,by go_num,rfl,by omega,gB (by rw[E2.o,HZ.o];simp),gB (by rw[E2.o];exact G5.o)⟩,by simp[intOf];omega⟩
  obtain rfl:j=cB d:=by omega
  rw[Rb]at HZ G;generalize P++qJ d=ps at *;replace HZ:=HZ.o;subst HZ;clear HF HH J hj;go_upto_if 47 with fail;go_cut [5] (λv wx=>∃g A,v=.slice (fA ⟨g,0,eA⟩) (cB (ps++Q3)) A/\GE w wx #[vA t,vA s,vA m,vA n,vA c] #[qA sA k,tA D,tA C,qA sA E,uA a (cB d) l] v (ps++Q3))
  case first=>
   obtain⟨p,x,rfl,zx,y⟩|⟨p,rfl⟩:=A3.o
   .rw[p]at M |-
    replace y:=gB y;go_wp2_with fail;apply oC (y.o _);intro H u;replace G:=gB (G.o.z u);go_wp2_with(at_builtin;refine yP rfl _ _ rfl underlying30 wY rfl (by omega) (by omega) (by rfl) G.o.V (by rfl) (by rfl) rfl (by simp[mA.oneCell']) (by first|omega|(simp<;>omega)) G.o.size ?_;intro g2 c2 w2 h1 h2;have G2:=gB (G.o.turn (qs:=[x]) h2.o h1.o));go_wp2;go_meet;exact⟨g2,c2,by simp,by simpa using G2.o⟩
   rw[p]at M |-
   go_wp2;go_meet;exact⟨g,_,by rw[Cd]<;>rfl,by simpa using G.o⟩
  clear M G;obtain⟨g,A,rfl,G⟩:=hcut;replace G:=gB G;rename jA=>W;obtain⟨K,L,M,O,s4⟩:=G.o.S.c5;obtain⟨r0,r1,r2,r3,r4⟩:=G.o.R.c5;have hl3:cB (ps++Q3)<=1100:=by simp;omega
  generalize ps++Q3=p3 at *;go_upto_if 55 with fail;go_cut [5] (λv wx=>∃g A,v=.slice (fA ⟨g,0,eA⟩) (cB (p3++Q4)) A/\GE w wx #[vA t,vA s,vA m,vA n,vA c] #[qA sA k,tA D,tA C,qA sA E,uA a (cB d) l] v (p3++Q4))
  case first=>
   obtain⟨p,x,rfl,zx,y⟩|⟨p,rfl⟩:=A4.o
   .rw[p]at O |-
    replace y:=gB y;go_wp2_with fail;apply oC (y.o _);intro H u;replace G:=gB (G.o.z u);go_wp2_with(at_builtin;refine yP rfl _ _ rfl underlying30 wY rfl (by omega) (by omega) (by rfl) G.o.V (by rfl) (by rfl) rfl (by simp[mA.oneCell']) (by first|omega|(simp<;>omega)) G.o.size ?_;intro g2 c2 w2 h1 h2;have G2:=gB (G.o.turn (qs:=[x]) h2.o h1.o));go_wp2;go_meet;exact⟨g2,c2,by simp,by simpa using G2.o⟩
   rw[p]at O |-
   go_wp2;go_meet;exact⟨g,_,by rw[Cd]<;>rfl,by simpa using G.o⟩
  clear O G;obtain⟨g,A,rfl,G⟩:=hcut;replace G:=gB G;rename jA=>W;obtain⟨K,L,M,O,s4⟩:=G.o.S.c5;obtain⟨r0,r1,r2,r3,r4⟩:=G.o.R.c5;have hl4:cB (p3++Q4)<=1200:=by simp;omega
  generalize p3++Q4=p4 at *;obtain⟨hcv,hg,hcs⟩:=cH G.o.V;have HJ:=gB (mI g _ A p4 W rfl hcs hg hcv (by omega) hsum);rw[HX.o]at HJ;clear hcv hg hcs K L M O s4 r0 r1 r2 r3 r4;go_wp2_with fail;apply oC HJ.o;intro w9 hb9;have B9:=gB (xB G.o.N hb9);clear hb9;go_wp2;go_ret;exact⟨rfl,B9.o⟩
