import Derived.Test.YtiegonaogehghaaGreatDoorJ20
import Derived.Test.YtiegonaogehghaaGreatDoorJ24
import Derived.Deep.RegionHeldLaw
set_option maxRecDepth 100000
set_option maxHeartbeats 8000000
set_option linter.defProp false
open Option renaming some->bA,none->aA
open Bool renaming true->dA,false->cA
open ByteArray renaming empty->kA
open List renaming length->yA
namespace Go.Proofs.YtiegonaogehghaaGreatDoor
open Go renaming World->eA,Value->iA,TypeId->jA
open Value renaming slice->pA,agg->tA,bool->qA,string->oA,int->lA
open Obj renaming cells->vA
open Ending renaming returned->uA
open RowKit renaming Below->fA
open IntKind renaming i64->mA
open Go.RowKit Tryz
def ND(W:eA)(a:jC)(l:Nat)(d:List jB)(v:rB W a d)(x:yA d<=1048576):
 ∃g c s,(Builtin.append_ #[33,33] 33 #[pA (pB W.1.size) 0 0,pA a (yA d) l]).run prog (W.alloc (vA #[] 151))=.ok (pA g (yA d) c) s/\
  rB s g d/\tB W s/\∀b o,g=bA (dB b o)->W.1.size<=b:=by
 obtain⟨i,w,p,q,r⟩:=nL;cases a with
 |none=>
  have y:d=[]:=by
   obtain h|⟨b,o,e,_⟩:=v;exact h;exact absurd e (by simp)
  subst y;refine⟨pB W.1.size,0,W.alloc (vA #[] 151),?_,Ca rfl,yB,λb o e=>by simp at e;omega⟩;simp[Builtin.append_,run_underlying underlying33,sizeOf,typeInfo,w,Builtin.lenOf,Builtin.firstCells,storeCells]
 |some t=>
  have m:(W.alloc (vA #[] 151)).ownsRow W.1.size 151 3 (pA (pB W.1.size) 0 0) 0 []:=
   ⟨rfl,La ⟨W.1.size,0,#[],rfl,Ia _,heap_alloc_new _ _,Ia _,Oa _,rfl,rfl⟩⟩
  have f:∀j u,(flat d)[j]?=bA u->(W.alloc (vA #[] 151)).cell? (t.add j)=bA u:=by
   rcases v.z (pF W (vA #[] 151)) with rfl|⟨b,o,e,_,h⟩;intro j u h;simp[flat]at h;simp only[Qa]at e;subst e;exact kO h
  obtain⟨E,D,C,n,z,_,_⟩:=run_append_own_at (P:=prog) (W.alloc (vA #[] 151)) W.1.size 33 33 151 i _ 3 40 underlying33 w p q r rfl (by omega) (pA (pB W.1.size) 0 0) 0 [] m t (yA d) l (flat d) (tE d) f (pG d) (by simp[maxLen];omega) (by omega) (by simp);simp only[Ya,Mb]at n;obtain⟨g,c,rfl,B⟩:=gH n;refine⟨g,c,D,C,B.files,yB.grown z (by simp) (λk A=>?_),λb o e=>mH n b (by rw[e];rfl)⟩;simp[iA.ownBlock]at A;omega
def TA(w:eA)(a:jC)(f:Nat)(j:List jB)(c k g i:Int)(h:Bool)(b:pK):Prop:=
 Calls prog 42 #[tA #[pA a (yA j) f,zA c,zA k,zA g,zA i,qA h],tA #[zA b.K,oA b.N,oA b.tq,oA b.data,zA b.size]] w λe m=>
  ∃l d,e=uA (aOj (vQ j c k g i h b) l d)/\rB m l (vQ j c k g i h b).2.1/\tB w m
structure aAu(w:World)(a:jC)(fs:List jB)(op:pK):Prop where
 files:rB w a fs
 H:eP fs
 len:yA fs≤1048576
 sum:qC fs≤1000000000
 N:op.N.size≤maxLen
 tq:op.tq.size≤maxLen
 data:op.data.size≤200000000
def GW{w:eA}{a:jC}{d:List jB}(h:rB w a d){p:Addr}(k:∀b o,a=bA (dB b o)->p.block<b)(v:iA):rB (w.setCell p v) a d:=by
 obtain h|⟨b,o,rfl,c,h⟩:=h;exact Ca h;have e:=fA.heap_setCell w p v b (by have:=k b o rfl;omega);have g:∀j,(w.setCell p v).cell? (dB b j)=w.cell? (dB b j):=λj=>eA.cell?_of_block e;exact La ⟨b,o,rfl,by simpa[eA.setCell]using c,λi f=>by simp only[g];exact h i f⟩
def gz{f:List jB}{c k d e:Int}{g:Bool}{i:pK}{a:Nat}{h:Int}{b:Bool}(n:sE f c k d e=dA)(m:IJ i=dA)(l:iD k d e g=(a,h,b))(j:a≠0):vQ f c k d e g i=(a,f,c,h,d,e,b):=by grind [sE,IJ,iD,vQ,kJ]
def aEi{e:List jB}{c k b d:Int}{g:Bool}{f:pK}{h:Int}{a:Bool}(l:sE e c k b d=dA)(j:IJ f=dA)(i:iD k b d g=(0,h,a)):vQ e c k b d g f=((zO e c f).1,(zO e c f).2,c,h,b,d,a):=by grind [sE,IJ,iD,vQ,zO,kJ]
def aLp(a:jC)(n b:Nat)(c k d f:Int)(e:Bool)(j:Nat)(s:nB):(#[pA a n b,zA c,zA k,zA d,zA f,qA e]:Array iA)[j]?≠bA (oA s):=by
 rcases j with _|_|_|_|_|_|j<;>simp
def UL{w:eA}{D:Nat}{a:jC}{i:List jB}(h:rB w a i){p:jC}{n f:Nat}{c k q s:Int}{r:Bool}(t:aAt w D p n f c k q s r):i=[]\/∀b o,a=bA (dB b o)->b≠D:=by
 by_cases m:i=[]
 .exact Ca m
 right;intro b o e j;have d:=Tg.2 m;obtain⟨u,v,g,_,l,_,_⟩:=h.at d;rw[e]at g;simp only[Qa,Addr.mk.injEq,Cc]at g;obtain⟨rfl,rfl⟩:=g;subst j;rw[gB.cell t]at l;exact aLp _ _ _ _ _ _ _ _ _ _ l
def my{w:eA}{a:jC}{d:List jB}(h:rB w a d){p:Addr}(c:d=[]\/∀b o,a=bA (dB b o)->b≠p.block)(v:iA):rB (w.setCell p v) a d:=by
 obtain h|⟨b,o,rfl,e,h⟩:=h;exact Ca h;obtain c|c:=c;exact Ca c;have f:=fA.heap_setCell w p v b (c b o rfl);have k:∀j,(w.setCell p v).cell? (dB b j)=w.cell? (dB b j):=λj=>eA.cell?_of_block f;exact La ⟨b,o,rfl,by simpa[eA.setCell]using e,λi g=>by simp only[k];exact h i g⟩
theorem aOs(w:eA)(a:jC)(p:Nat)(b:List jB)(c k f g:Int)(y:Bool)(n:pK)(h:aAu w a b n)(i:(sE b c k f g&&IJ n)=cA):TA w a p b c k f g y n:=by
 have B:bB (vQ b c k f g y n=(6,[],0,0,0,0,cA)):=by show _=_;unfold vQ;rw[Ja (by rw[i];simp)]
 unfold TA;obtain⟨o,x,Q,E,Y⟩:=n;obtain⟨z,H,S,m,G,I,-⟩:=h;have D:=cB z;have t:yA b<=maxLen:=by simp[maxLen];omega
 have F:sE b c k f g=cA\/sE b c k f g=dA/\(zB o 1 6=cA\/zB o 1 6=dA/\(cH x=cA\/cH x=dA/\o=5/\cH Q=cA)):=by
  simp only[IJ]at i;cases e1:sE b c k f g<;>cases e2:zB o 1 6<;>cases e3:cH x<;>simp_all
 clear i z;dsimp only at G I |-
 obtain A|⟨A,i|⟨i,u|⟨u,rfl,J⟩⟩⟩:=F
 all_goals
  go_enter func42,ntmps42;go_wp2_with fail;apply hC (lM A _ (((D.o.z yB).z yB).z yB) H t m);intro Z j;obtain⟨s,l,r,d⟩:=LC j;have C:=cB d;obtain⟨T,U,V,W,X⟩:=l.c5;obtain⟨K,L,M,N,O,P⟩:=r.c6;have q:=r.free;clear s l r d j;go_wp2_with(first
   |(go_at_call 90;refine hC (xD (by assumption) _) ?_;rintro R rfl)
   |(go_at_call 100;refine hC (fJ (by assumption) _ (by assumption)) ?_;rintro R rfl))
  refine bodyPost_ret (v:=.tuple #[tA #[pA aA 0 0,zA 0,zA 0,zA 0,zA 0,qA cA],zA 6]) (by simp[results,results42,go_sem,K,L,M,N,O,P]) rfl ?_;rw[B.o];refine⟨aA,0,rfl,Ca rfl,?_⟩;have h:=C.o;iterate 6 (refine fA.setCell ?_ (by first|(simp;done)|(simp;omega)) _)
  exact h
theorem aNp(w:eA)(a:jC)(P:Nat)(f:List jB)(c k d g:Int)(l:Bool)(i:pK)(h:aAu w a f i)(o:sE f c k d g=dA)(H:IJ i=dA):TA w a P f c k d g l i:=by
 obtain⟨Z,x,-,s,m,G,G,-⟩:=rK o;have Y:l=dA/\vQ f c k d g l i=(1,f,c,k,d,g,dA)\/l=cA/\(k=1000000000000000/\vQ f c k d g l i=(2,f,c,k,d,g,cA)\/(k==1000000000000000)=cA/\
  (d=k+1/\decide (k+1=0)=cA/\vQ f c k d g l i=(1,f,c,k+1,d,g,dA)\/(d=0\/decide (d=0)=cA/\(k+1==d)=cA)/\
   (g=k+1/\decide (k+1=0)=cA/\vQ f c k d g l i=(2,f,c,k+1,d,g,cA)\/(g=0\/decide (g=0)=cA/\(k+1==g)=cA)/\vQ f c k d g l i=((zO f c i).1,(zO f c i).2,c,k+1,d,g,cA)))):=by
  have K:k+1≠0:=by omega
  have G:=λO I J=>@gz f c k d g l i O I J o H;have O:=λI J=>@aEi f c k d g l i I J o H;cases l
  .refine La ⟨rfl,?_⟩;by_cases J:k=1000000000000000
   .exact Ca ⟨J,G _ _ _ (by simp[iD,J]) (by decide)⟩
   refine La ⟨by simpa using J,?_⟩;by_cases T:k+1=d
   .exact Ca ⟨T.symm,by simpa using K,G _ _ _ (by subst T;simp[iD,J,K]) (by decide)⟩
   have I:d=0\/decide (d=0)=cA/\(k+1==d)=cA:=by by_cases h:d=0<;>simp[h,T]
   refine La ⟨I,?_⟩;by_cases I:k+1=g
   .exact Ca ⟨I.symm,by simpa using K,G _ _ _ (by subst I;simp[iD,J,T,K]) (by decide)⟩
   exact La ⟨by by_cases h:g=0<;>simp[h,I],O _ _ (by simp[iD,J,T,I])⟩
  exact Ca ⟨rfl,G _ _ _ (by simp[iD]) (by decide)⟩
 unfold TA;have p:=h.data;have A:=BL Z;obtain⟨O,hs,hl,G,I,J,-⟩:=h;have U:zB i.K 1 6=dA/\cH i.N=dA/\(i.K=5/\cH i.tq=dA\/(i.K==5)=cA):=by
  simp only[IJ,Sa,Fe,Ab]at H;exact⟨H.1.1,H.1.2,(Decidable.em (i.K=5)).elim (λh=>Ca ⟨h,H.2.resolve_left (λe=>e h)⟩) λh=>La (by simpa using h)⟩
 obtain⟨kd,nm,tq,S,sz⟩:=i;dsimp only at I J p U |-
 obtain⟨hb,I,U⟩:=U;have HF:=cB O;have M:=cB Y;have I:yA f<=maxLen:=by simp[maxLen];omega
 have J:IntKind.i64.wrap (k+1)=k+1:=by rw[IntKind.wrap_i64];omega
 have J:=cB (λW b(hF:rB W b f)=>(⟨hF,A,x,m,s,p⟩:SW W b f c ⟨kd,nm,tq,S,sz⟩));clear O Y H Z A s m p;obtain⟨rfl,m⟩|U:=U
 all_goals
  go_enter func42,ntmps42;go_wp2_with fail;apply hC (lM o _ (((HF.o.z yB).z yB).z yB) hs I G);intro w1 X;obtain⟨G,I,U,n⟩:=LC X;obtain⟨o0,o1,o2,o3,o4⟩:=I.c5;obtain⟨x0,-,-,-,-,-⟩:=G.c6;have m:=aB U;have m:w.1.size<w1.1.size:=by omega
  have m:¬w.1.size=w1.1.size:=by omega
  obtain⟨a1,j,W2,B,a0,m,V⟩:=ND w1 a P f (HF.o.z n) hl;have O:=cB B;have N:=cB a0;have D:=cB V;have E:=cB (G.z m);have F:=cB (U.z m);have L:=cB (vB n m);obtain⟨d0,d1,d2,d3,d4,d5⟩:=E.o.c6;obtain⟨z0,z1,z2,z3,z4⟩:=(I.z m).c5;have y:=E.o.free;obtain⟨W,Y,Z,r3,r4,r5⟩:=F.o.c6;have q:=F.o.free;clear X G I U n B a0 m V;go_upto_region 4 with(first
   |(go_at_call 90;refine hC (xD (by assumption) _) ?_;rintro m rfl)
   |(go_at_call 100;refine hC (fJ (by assumption) _ (by assumption)) ?_;rintro m rfl)
   |(at_builtin;refine Lib.wpList_append_run _ rfl _ _ _ _ rfl _ _ rfl rfl _ _ O.o ?_))
  clear o0 o1 o2 o3 o4 x0 o;obtain⟨rfl,C⟩|⟨rfl,⟨rfl,C⟩|⟨m,⟨rfl,K,C⟩|⟨rfl|⟨s,m⟩,⟨rfl,K,C⟩|⟨rfl|⟨m,o⟩,C⟩⟩⟩⟩:=M.o
  all_goals
   have C:=cB C;clear M;try have o:(d != 0)=dA:=by simpa using s
   try have o:(g != 0)=dA:=by simpa using m
   go_wp2_with(go_at_call 101;refine Calls.mono (aDj _ a1 j f c (k+1) _ _ cA ⟨_,nm,tq,S,sz⟩ (J.o _ _ (GW (GW N.o (λb o e=>by have:=D.o b o e;show w.1.size<b;omega) _) (λb o e=>by have:=D.o b o e;show w.1.size<b;omega) _)) hb) ?_;rintro e m ⟨O,Q,rfl,u,r⟩;have t:=((E.o.set 0 (pA a1 (yA f) j)).set 2 (zA (k+1))).z r;have z:=(F.o.but (((pD.refl w.1.size W2).setCell 0 (pA a1 (yA f) j)).setCell 2 (zA (k+1))) (by omega)).z r;have m:=cB (UL u (by simpa[aAt]using t));have G:=cB (UL u z);have I:=cB u;have J:=cB (vB ((L.o.setCell (by simp) _).setCell (by simp) _) r);clear d0 d1 d2 d3 d4 d5 y z0 z1 z2 z3 z4 W Y Z r3 r4 r5 q u r;obtain⟨d0,d1,d2,d3,d4,d5⟩:=gB.c6 (by simpa using t);obtain⟨W,Y,Z,r3,r4,r5⟩:=z.c6;have y:=t.free;have q:=z.free;clear t z;generalize zO f c _=R at *;obtain⟨code,U⟩:=R);refine bodyPost_ret (v:=?_) (by simp[results,results42,go_sem,W,Y,Z,r3,r4,r5];rfl) rfl ?_;rw[C.o];first
    |refine⟨O,Q,rfl,?_,?_⟩
     .have h:=I.o
      repeat (refine my ?_ (by first|exact G.o|exact m.o) _)
      exact h
     have h:=J.o
     repeat (refine fA.setCell ?_ (by first|(simp;done)|(simp;omega)) _)
     exact h
    |refine⟨a1,j,rfl,?_,?_⟩
     .have h:=N.o
      repeat (refine GW ?_ (λb o e=>by have:=D.o b o e;simp;omega) _)
      exact h
     have h:=L.o
     repeat (refine fA.setCell ?_ (by first|(simp;done)|(simp;omega)) _)
     exact h
def ZX(w:eA)(a:jC)(b:Nat)(d:List jB)(c k f i:Int)(g:Bool)(e:pK)(h:aAu w a d e):TA w a b d c k f i g e:=by grind [TA,sE,IJ,aNp,aOs]
def aY(D:gE)(g:pK)(b:gE)(f:Nat):Prop:=
 ∀a h W,rB W a D.fs->Calls prog 42 #[tA #[pA a (yA D.fs) h,zA D.c,zA D.k,zA D.cr,zA D.fl,qA D.dn],tA #[zA g.K,oA g.N,oA g.tq,oA g.data,zA g.size]] W λe j=>
  ∃i d,e=uA (.tuple #[tA #[pA i (yA b.fs) d,zA b.c,zA b.k,zA b.cr,zA b.fl,qA b.dn],zA f])/\rB j i b.fs/\tB W j
theorem aFj{D:gE}{b:pK}(h:JE D.fs)(g:b.N.size<=maxLen)(i:b.tq.size<=maxLen)(e:b.data.size<=200000000):aY D b (fE D b).1 (fE D b).2:=λa d W f=>
 ZX W a d D.fs D.c D.k D.cr D.fl D.dn b ⟨f,h.H,h.len,h.sum,g,i,e⟩
theorem JF{w:eA}{a:jC}{d:List jB}{P:Nat}{cs:Array iA}{t:jA}(h:rB w a d)(l:gB w P cs t)(k:∀(j:Nat)(s:nB),cs[j]?≠bA (iA.string s)):DG a d P:=by
 obtain h|⟨b,o,e,_,h⟩:=h;exact Ca h
 by_cases c:d=[]
 .exact Ca c
 refine La ⟨b,o,e,λg=>?_⟩;subst g;have i:0<yA d:=Tg.2 c;have f:=(h 0 i).1;rw[l.cell]at f;exact k _ _ f
def fS{w:eA}{a:jC}{c:List jB}{P:Nat}{x:jC}{n d:Nat}{e f g i:Int}{j k l m:IntKind}{b:Bool}{t:jA}(h:rB w a c)(o:gB w P #[pA x n d,.int j e,.int k f,.int l g,.int m i,qA b] t):DG a c P:=by grind [rB,gB,DG,JF]
def GM{w:eA}{a:jC}{b:List jB}{P:Nat}{c d e:Int}{f g i:IntKind}{t:jA}(h:rB w a b)(j:gB w P #[.int f c,.int g d,.int i e] t):DG a b P:=by grind [rB,gB,DG,JF]
def gB.three{w:eA}{b:Nat}{a c d:iA}{t:jA}(h:gB w b #[a,c,d] t):w.cell? (dB b 0)=bA a/\w.cell? (dB b 1)=bA c/\w.cell? (dB b 2)=bA d:=by
 simp[h.cell]
def GZ{w a:eA}{x y z u:Array iA}{tx ty tz tu:jA}(b:fA ((((w.alloc (vA x tx)).alloc (vA y ty)).alloc (vA z tz)).alloc (vA u tu)).1.size ((((w.alloc (vA x tx)).alloc (vA y ty)).alloc (vA z tz)).alloc (vA u tu)) a):
 gB a w.1.size x tx/\gB a (w.1.size+1) y ty/\gB a (w.1.size+1+1) z tz/\gB a (w.1.size+1+1+1) u tu/\tB w a:=by
 refine⟨?_,?_,?_,?_,vB (vB (vB (vB yB yB) yB) yB) b⟩;exact ((((bW w x tx).z yB).z yB).z yB).z b;have h:=(((bW (w.alloc (vA x tx)) y ty).z (pF _ (vA z tz))).z (pF _ (vA u tu))).z b;simpa using h;have h:=((bW ((w.alloc (vA x tx)).alloc (vA y ty)) z tz).z (pF _ (vA u tu))).z b;simpa using h;have h:=(bW (((w.alloc (vA x tx)).alloc (vA y ty)).alloc (vA z tz)) u tu).z b;simpa using h
section
variable {w W W':eA} {P Q:Nat} {a a':jC} {cap cap':Nat} {fs fs':List jB} {c k cr fl c' k' cr' fl':Int} {dn dn':Bool} {lf ll ls:Int}
theorem OD{S:Nat->Prop}(h:rB W a fs)(f:eB S W W')(m:∀b o,a=bA (dB b o)->S b->fs=[]):rB W' a fs:=by
 obtain h|⟨b,o,rfl,d,h⟩:=h;exact Ca h
 by_cases e:S b
 .exact Ca (m b o rfl e)
 have l:∀j,W'.cell? (dB b j)=W.cell? (dB b j):=λj=>eA.cell?_of_block (f.block b d e);exact La ⟨b,o,rfl,by have:=f.size;omega,λi g=>by simp only[l];exact h i g⟩
theorem DO(h:DG a fs P){b o:Nat}(e:a=bA (dB b o))(d:b=P):fs=[]:=by grind [DG]
def PX(b:eA)(P:Nat)(fs:List jB)(c k cr fl:Int)(dn:Bool)(d:eA):Prop:=∃a cap,b.1.size<=P/\gB d P #[pA a (yA fs) cap,zA c,zA k,zA cr,zA fl,qA dn] 35/\rB d a fs/\tB b d
theorem aAb{B P:Nat}{d e f g i j:iA}(h:fA B w W)(b:B<=P):fA B w ((((((W.setCell (dB P 0) d).setCell (dB P 1) e).setCell (dB P 2) f).setCell (dB P 3) g).setCell (dB P 4) i).setCell (dB P 5) j):=(((((h.setCell b _).setCell b _).setCell b _).setCell b _).setCell b _).setCell b _
theorem pg{b:eA}(e:rB W a fs)(d:tB b W):PX b W.1.size fs c k cr fl dn (W.alloc (vA #[pA a (yA fs) cap,zA c,zA k,zA cr,zA fl,qA dn] 35)):=⟨a,cap,d.size,bW _ _ _,e.z yB,vB d yB⟩
theorem pj{b:eA}(f:rB W a fs)(d:tB b W)(h:b.1.size<=P)(g:gB W P #[pA aA 0 0,zA 0,zA 0,zA 0,zA 0,qA cA] 35):PX b P fs c k cr fl dn ((((((W.setCell (dB P 0) (pA a (yA fs) cap)).setCell (dB P 1) (zA c)).setCell (dB P 2) (zA k)).setCell (dB P 3) (zA cr)).setCell (dB P 4) (zA fl)).setCell (dB P 5) (qA dn)):=
 ⟨a,cap,h,cY g,f.apart (lh f g) (pJ _ _ _ _ _ _),d.trans ((eB.but (pJ _ _ _ _ _ _)).below d.size λi j e=>by omega)⟩
theorem MF{D:gE}{op:pK}(h:JE D.fs)(d:op.N.size<=maxLen)(e:op.tq.size<=maxLen)(b:op.data.size<=1048576):∃fs c k cr fl dn x,fE D op=(⟨fs,c,k,cr,fl,dn⟩,x)/\JE fs/\aY D op ⟨fs,c,k,cr,fl,dn⟩ x:=by grind [fE,aY,eV,aFj]
end
section
open Go.Maps Go.Sort
def jj(g:Nat)(a:List iB)(w:eA)(h:w.ownsMap prog 9 (plainElem prog 3) g (yA a) (aE (a.map λp=>(p.s,qI p.n))))(l:sC (·.s) a)(m:yA a<=1000000000):
 Calls prog 74 #[.func (.func 208) #[] #[.pointer (pB w.1.size)]] (w.alloc (vA #[.map (bA g)] 187)) λe i=>∃v,e=uA v/\i.ownsRow w.1.size 9 1 v (yA a) (a.map λp=>oA p.s)/\tB w i:=by
 have d:Maps.size (aE (a.map λp=>(p.s,qI p.n)))=yA a:=by rw[kM]
 refine Calls.mono (callsIn_wide.1 (slices_Sorted_keys_74_139 g _ _ (plainElem prog 3) w h (by rw[d];unfold maxLen;omega) (by rw[d];omega))) ?_;rintro e o ⟨v,h,rfl,f,b,_,j⟩;have k:(strKeys (aE (a.map λp=>(p.s,qI p.n))))=a.map λp=>p.s.data.toList:=by
  rw[uU,Vd];rfl
 rw[k]at f;have c:yA h=yA a:=by rw[f.length_eq,Xa]
 rw[IY (key:=λp:iB=>p.s) l f,NY (λp:iB=>p.s),c]at b;exact⟨v,rfl,FP b (by simp),vB yB j⟩
def nW(a:List iB):List iA:=a.flatMap λx=>[oA x.s,zA x.n]
def JX(a:List iB)(k:Nat)(h:k<yA a):nW (a.take (k+1))=nW (a.take k)++[oA a[k].s,zA a[k].n]:=by
 rw[Pa h,nW,He];rfl
def ja{W:eA}{B:Nat}{e:jA}{v:iA}{a:List iB}(h:W.ownsRow B e 1 v (yA a) (a.map λp=>oA p.s)):
 ∃k q,v=pA k (yA a) q/\(a=[]\/∃g,k=pB g/\B<=g/\g<W.1.size/\∀i(h:i<yA a),W.cell? (dB g i)=bA (oA a[i].s)):=by
 obtain⟨rfl,j⟩|⟨g,c,b,rfl,l,f,_,_,o,d⟩:=h.2;refine ⟨aA,0,by rw[j],Ca (Nb.1 j)⟩;refine ⟨_,c,rfl,La ⟨g,rfl,l,aB f,λi n=>?_⟩⟩;have m:=gB.cell (show gB W g b e from f) i;rw[m,<-Yd];have:(b.toList.take (yA a*1))[i]?=(a.map λp=>iA.string p.s)[i]?:=by rw[d]
 rw[Ye,Ma (by omega)]at this;rw[this,Se,Va n];rfl
def yk{w:eA}{d:Nat}{c:List iB}(h:w.ownsMap prog 9 (plainElem prog 3) d (yA c) (aE (c.map λp=>(p.s,qI p.n))))(f:sC (·.s) c){p:iB}(e:p∈c)(g:p.s.size<=maxLen):
 (Instr.lookup 187 (.map (bA d)) (oA p.s) cA).run prog w=.ok (zA p.n) w:=by
 obtain⟨v,b,a,_⟩:=h.lookup_int qL underlying187 underlying3 (MI _) (wM g);rw[b];rw[gS (key:=λp:iB=>p.s) (λp=>qI p.n),cK (key:=λp:iB=>p.s) f e]at a;simp[qI]at a;rw[a]
def aDw{w:eA}{S:Nat->Prop}{x:Nat}{t:fB}{M y d j:Nat}{u:iA}{Q:List (iB×Nat)}{o:List mI}{D:DataW Unit}(h:nR w S x t M y d j u Q o D)(i:Nat)(k:i<yA t.Z)(r:t.Z[i].s.size<=maxLen):
 ∃q,∀W,tB w W->W.cell? (dB x 2)=bA (.map (bA d))/\(Instr.lookup 185 (.map (bA d)) (oA t.Z[i].s) cA).run prog W=.ok (.pointer (pB q)) W/\W.cell? (dB q 0)=bA (oA t.Z[i].s)/\W.cell? (dB q 1)=bA (zA t.Z[i].n):=by
 have l:t.Z[i] ∈Q.map (·.1):=by rw[h.q1];exact Gb k
 obtain⟨q,f,e⟩:=Md.1 l;have m:sC (λq:iB×Nat=>q.1.s) Q:=by
  have:=h.rs;rw[<-h.q1]at this;exact Te.1 this
 refine⟨q.2,λW c=>?_⟩;have a:=(h.cells q f).z c;have p:=h.blk.z c;refine⟨p.cell 2,?_,?_,?_⟩;obtain ⟨v,z,b,g⟩:=eA.ownsMap.lookup ((eB.of c).map (S:=λ_=>False) h.Z (λe=>e)) qL underlying185 (show(zeroValue 186).run prog W=.ok (.pointer aA) W by kernel_rfl) (zd:=.nil) (zp:=[]) rfl (wM r);rw[b];rw[gS (key:=λq:iB×Nat=>q.1.s) (λq=>fF q.2),<-e,cK (key:=λq:iB×Nat=>q.1.s) m f]at g;rw[wQ g];rw[a.cell 0,<-e];rfl;rw[a.cell 1,<-e];rfl
def kl(x:Nat)(r:nB)(t:fB)(S:Nat->Prop)(M:Nat)(w:eA)(h:mD w S x t M)(hs1:∀i(h:i<yA t.M),t.M[i].s.size<=maxLen)(hs2:∀i(h:i<yA t.Z),t.Z[i].s.size<=maxLen)(hl1:yA t.M<=2000000)(hl2:yA t.Z<=2000000):
 Calls prog 76 #[.pointer (bA ⟨x,0,aA⟩),oA r] w λe w'=>∃I L M,e=uA (tA #[oA r,lA mA t.L,I,L])/\w'.ownsRow w.1.size 203 2 I (yA t.M) (nW t.M)/\(∀g,I.ownBlock=bA g->g<M)/\w.1.size<=M/\M<=w'.1.size/\w'.ownsRow M 58 2 L (yA t.Z) (nW t.Z)/\tB w w':=by
 have HKY:bB _:=λW G=>fq x t S M W (h.z G) (by omega);obtain⟨lm,sm,cm,iv,Q,hs,D,h⟩:=h;have c0:tC w x 0 (lA mA t.L):=h.blk.cell 0;have c1:tC w x 1 (.map (bA lm)):=h.blk.cell 1;have hxl:=aB h.blk;have HLS:bB _:=λi hi=>aDw h i hi (hs2 i hi);have HSH:bB _:=hs1;have HSL:bB _:=λW G=>jj lm t.M W ((eB.of G).map (S:=λ_=>False) h.lims (λe=>e)) h.rm (by omega);have O:bB (∀W,tB w W->tC W x 1 (.map (bA lm))/\∀p∈t.M,p.s.size<=maxLen->(Instr.lookup 187 (.map (bA lm)) (oA p.s) cA).run prog W=.ok (lA mA p.n) W):=λW G=>⟨(G.cell hxl).trans (h.blk.cell 1),λp hp hs=>yk ((eB.of G).map (S:=λ_=>False) h.lims (λe=>e)) h.rm hp hs⟩
 have HMK:bB _:=λW=>callsIn_wide.1 (maps_Keys_139 (bA lm) W);clear h;go_enter func76,ntmps76;go_wp2_with fail;apply hC (HMK.o _);rintro w1 rfl;have B2:bB (tB w ((w.alloc (vA #[oA ⟨#[]⟩,lA mA 0,pA aA 0 0,pA aA 0 0] 54)).alloc (vA #[oA r,lA mA t.L,pA aA 0 0,pA aA 0 0] 54))):=vB yB yB;have X2:bB _:=cB (by have:=gB.new (w.alloc (vA #[oA ⟨#[]⟩,lA mA 0,pA aA 0 0,pA aA 0 0] 54)) #[oA r,lA mA t.L,pA aA 0 0,pA aA 0 0] 54;simpa using this);have Y2:bB (gB ((w.alloc (vA #[oA ⟨#[]⟩,lA mA 0,pA aA 0 0,pA aA 0 0] 54)).alloc (vA #[oA r,lA mA t.L,pA aA 0 0,pA aA 0 0] 54)) w.1.size #[oA ⟨#[]⟩,lA mA 0,pA aA 0 0,pA aA 0 0] 54):=(gB.new _ _ _).alloc _;generalize (w.alloc (vA #[oA ⟨#[]⟩,lA mA 0,pA aA 0 0,pA aA 0 0] 54)).alloc (vA #[oA r,lA mA t.L,pA aA 0 0,pA aA 0 0] 54)=w2 at *;go_wp2_with fail;refine(HSL.o _ B2.o).mono ?_;rintro e J ⟨kv,rfl,f,H⟩;obtain⟨ka,kc,rfl,y⟩:=ja f;have E:=cB y;have B3:bB _:=vB B2.o H;have X3:bB (gB J (w.1.size+1) #[oA r,lA mA t.L,pA aA 0 0,pA aA 0 0] 54):=X2.o.z H;have Y3:bB (gB J w.1.size #[oA ⟨#[]⟩,lA mA 0,pA aA 0 0,pA aA 0 0] 54):=Y2.o.z H;have HX2:bB _:=aB X2.o;clear f y H X2 Y2 B2 HSL HMK c0 c1;go_wp2;go_loopw [7,23] (λ_ i wr=>∃(k:Nat)(I:iA),k<=yA t.M/\i=lA mA k/\bB (gB wr (w.1.size+1) #[oA r,lA mA t.L,I,pA aA 0 0] 54)/\bB (wr.ownsRow J.1.size 203 2 I k (nW (t.M.take k)))/\bB (eB (·=w.1.size+1) J wr)) (λ_ i _=>yA t.M-(intOf i).toNat)
 case atStart=>exact⟨0,pA aA 0 0,Oa _,rfl,X3.o,eA.ownsRow_nil _ _ _ _,eB.refl _ _⟩
 case round=>
  obtain⟨k,I,hk,rfl,m,l,b⟩:=hrel;by_cases c:k<yA t.M
  .have z:∃g,ka=bA ⟨g,0,aA⟩/\w2.1.size<=g/\g<J.1.size/\∀i(h:i<yA t.M),tC J g i (oA t.M[i].s):=by
    obtain X|X:=E.o;rw[X]at c;exact absurd c (by simp);exact X
   obtain⟨g,rfl,hg1,d0,g0⟩:=z;have hx2:=HX2.o;have i0:g≠w.1.size+1:=by omega
   have hkey:=(eA.cell?_of_block (b.o.block g d0 i0)).trans (g0 k c);have d:bB _:=(((eB.of (S:=λi=>w.1.size<=i) B3.o).trans' (b.o.mono λi _ e=>by omega)).below (Ia _) λi hi h=>by omega)
   have HQ:bB (∀W,tB w W->tC W x 1 (.map (bA lm))/\(Instr.lookup 187 (.map (bA lm)) (oA t.M[k].s) cA).run prog W=.ok (lA mA t.M[k].n) W):=λW G=>⟨(O.o W G).1,(O.o W G).2 _ (Gb c) (HSH.o k c)⟩
   have N:bB _:=JX _ _ c;have C:=b.o.size;have hB3s:=B3.o.size;have j0:=λq B=>(l.o.lt q B).1;have A:=l.o;have v5:tC wr (w.1.size+1) 2 I:=m.o.cell 2;have ag:I.ownBlock≠bA (w.1.size+1):=λe=>by have:=j0 _ e;omega
   obtain⟨q1,q2⟩:=HQ.o wr.drew d.o.drew;generalize t.M[k]=P at *;have hXw:w.1.size+1<wr.1.size:=by omega
   go_wp2_with fail;go_region_law (refine IZ (w:=wr.drew) (by rfl) _ _ (by rfl) underlying51 sY rfl (by omega) (by omega) (by rfl) A.drew (by rfl) (by rfl) (cs:=#[oA P.s,lA mA P.n]) rfl (by simp[iA.oneCell']) (by omega) (by exact C) ?_;intro gg cap w4 O4 V A4;have j:=cB (V.o.blk m.o (λe=>by have:=e.1;omega));have s5:=j.o.cell 2;have a:=j.o.free 2)
   all_goals
    obtain⟨Y,h3,h4⟩:=tZ (wr:=wr.drew) m.o V.o O4.o (by omega) 2;have U:=cB Y;have R:=cB h3;have T:=cB (b.o.trans ((eB.of (fA.refl wr.1.size wr).drew).trans' (h4.mono λi _ e=>e.imp_right And.left)));clear Y h3 h4 s5 a j O4 V A4;go_wp2;exact⟨⟨k+1,_,by omega,by go_num,cB (by simpa using U.o),by rw[N.o];exact R,T.o⟩,by simp[intOf];omega⟩
  .have ek:k=yA t.M:=by omega
   have et:t.M.take k=t.M:=Ra (by omega);rw[et,ek]at l;obtain⟨ra,rc,rfl⟩:=jM l.o;have d:bB _:=(((eB.of (S:=λi=>w.1.size<=i) B3.o).trans' (b.o.mono λi _ e=>by omega)).below (Ia _) λi hi h=>by omega)
   have u:bB (gB wr w.1.size #[oA ⟨#[]⟩,lA mA 0,pA aA 0 0,pA aA 0 0] 54):=b.o.blk Y3.o (by omega);have Z:bB _:=aB X3.o;have h3r:bB _:=b.o.size;clear et E O HSH B3 X3 Y3 HX2 b;generalize hwo:wr=wo at *;clear hwo;go_wp2_with fail;refine(HKY.o _ d.o).mono ?_;rintro e K ⟨kv,rfl,f,o⟩;obtain⟨kb,kd,rfl,y⟩:=ja f;have E:=cB y;have B5:bB _:=vB d.o o;have X5:bB (gB K (w.1.size+1) #[oA r,lA mA t.L,pA ra (yA t.M) rc,pA aA 0 0] 54):=m.o.z o;have Y5:bB (gB K w.1.size #[oA ⟨#[]⟩,lA mA 0,pA aA 0 0,pA aA 0 0] 54):=u.o.z o;have O5:bB (K.ownsRow J.1.size 203 2 (pA ra (yA t.M) rc) (yA t.M) (nW t.M)):=(eB.of (S:=λ_=>False) o).row l.o (λ_ _ e=>e);have hWo:bB (J.1.size<=wo.1.size/\wo.1.size<=K.1.size):=⟨h3r.o,o.size⟩
   clear f y o m l d u HKY;go_wp2;go_loopw [9,44] (λ_ i wr=>∃(k:Nat)(L:iA),k<=yA t.Z/\i=lA mA k/\bB (gB wr (w.1.size+1) #[oA r,lA mA t.L,pA ra (yA t.M) rc,L] 54)/\bB (wr.ownsRow K.1.size 58 2 L k (nW (t.Z.take k)))/\bB (eB (·=w.1.size+1) K wr)) (λ_ i _=>yA t.Z-(intOf i).toNat)
   case atStart=>exact⟨0,pA aA 0 0,Oa _,rfl,X5.o,eA.ownsRow_nil _ _ _ _,eB.refl _ _⟩
   case round=>
    obtain⟨k,L,hk,rfl,m,l,b⟩:=hrel;have d:bB _:=(((eB.of (S:=λi=>w.1.size<=i) B5.o).trans' (b.o.mono λi _ e=>by omega)).below (Ia _) λi hi h=>by omega)
    by_cases c:k<yA t.Z
    .have z:∃g,kb=bA ⟨g,0,aA⟩/\wo.1.size<=g/\g<K.1.size/\∀i(h:i<yA t.Z),tC K g i (oA t.Z[i].s):=by
      obtain X|X:=E.o;rw[X]at c;exact absurd c (by simp);exact X
     obtain⟨g,rfl,hg1,d0,g0⟩:=z;have h31':=Z.o;have hwo':=hWo.o;have i0:g≠w.1.size+1:=by omega
     have hkey:=(eA.cell?_of_block (b.o.block g d0 i0)).trans (g0 k c);obtain⟨q,HQ0⟩:=HLS.o k c;have HQ:bB _:=HQ0;have N:bB _:=JX _ _ c;have C:=b.o.size;have j0:=λq B=>(l.o.lt q B).1;have A:=l.o;have v5:tC wr (w.1.size+1) 3 L:=m.o.cell 3;have ag:L.ownBlock≠bA (w.1.size+1):=λe=>by have:=j0 _ e;omega
     obtain⟨q1,q2,q3,q4⟩:=HQ.o wr.drew d.o.drew;generalize t.Z[k]=P at *;have hXw:w.1.size+1<wr.1.size:=by omega
     clear HQ0;go_wp2_with fail;go_region_law (refine IZ (w:=wr.drew) (by rfl) _ _ (by rfl) underlying52 ER rfl (by omega) (by omega) (by rfl) A.drew (by rfl) (by rfl) (cs:=#[oA P.s,lA mA P.n]) rfl (by simp[iA.oneCell']) (by omega) (by exact C) ?_;intro gg cap w4 O4 V A4;have j:=cB (V.o.blk m.o (λe=>by have:=e.1;omega));have s5:=j.o.cell 3;have a:=j.o.free 3)
     all_goals
      obtain⟨Y,h3,h4⟩:=tZ (wr:=wr.drew) m.o V.o O4.o (by omega) 3;have U:=cB Y;have R:=cB h3;have T:=cB (b.o.trans ((eB.of (fA.refl wr.1.size wr).drew).trans' (h4.mono λi _ e=>e.imp_right And.left)));clear Y h3 h4 s5 a j O4 V A4;go_wp2;exact⟨⟨k+1,_,by omega,by go_num,cB (by simpa using U.o),by rw[N.o];exact R,T.o⟩,by simp[intOf];omega⟩
    .have ek2:k=yA t.Z:=by omega
     have et:t.Z.take k=t.Z:=Ra (by omega);rw[et,ek2]at l;obtain⟨sa,sc,rfl⟩:=jM l.o;have u:bB (gB wr w.1.size #[oA ⟨#[]⟩,lA mA 0,pA aA 0 0,pA aA 0 0] 54):=b.o.blk Y5.o (by omega);have a0:tC wr (w.1.size+1) 0 (oA r):=m.o.cell 0;have a1:tC wr (w.1.size+1) 1 (lA mA t.L):=m.o.cell 1;have a2:tC wr (w.1.size+1) 2 (pA ra (yA t.M) rc):=m.o.cell 2;have a3:tC wr (w.1.size+1) 3 (pA sa (yA t.Z) sc):=m.o.cell 3;have b0:tC wr w.1.size 0 (oA ⟨#[]⟩):=u.o.cell 0;have b1:tC wr w.1.size 1 (lA mA 0):=u.o.cell 1;have b2:tC wr w.1.size 2 (pA aA 0 0):=u.o.cell 2;have b3:tC wr w.1.size 3 (pA aA 0 0):=u.o.cell 3;have e0:=u.o.free 0;have e1:=u.o.free 1;have e2:=u.o.free 2;have e3:=u.o.free 3;have HOM:bB (wr.ownsRow J.1.size 203 2 (pA ra (yA t.M) rc) (yA t.M) (nW t.M)):=b.o.row O5.o (λq B e=>by have Y:=(O5.o.lt q B).1;have h2:=Z.o;omega);go_wp2;have F:eB (·=w.1.size) wr ((((wr.setCell ⟨w.1.size,0,aA⟩ (oA r)).setCell ⟨w.1.size,1,aA⟩ (lA mA t.L)).setCell ⟨w.1.size,2,aA⟩ (pA ra (yA t.M) rc)).setCell ⟨w.1.size,3,aA⟩ (pA sa (yA t.Z) sc)):=((((eB.refl (·=w.1.size) wr).setCell (Ca rfl) 0 _).setCell (Ca rfl) 1 _).setCell (Ca rfl) 2 _).setCell (Ca rfl) 3 _;have h31':=Z.o;have hwo':=hWo.o;refine bodyPost_ret (v:=tA #[oA r,lA mA t.L,pA ra (yA t.M) rc,pA sa (yA t.Z) sc]) (by simp[results,results76,go_sem,b0,b1,b2,b3]) rfl ⟨_,_,K.1.size,rfl,FP (F.row HOM.o (λq B e=>by have:=(HOM.o.lt q B).1;omega)) (by omega),(λq B=>(O5.o.lt q B).2),by omega,by have Y:=b.o.size;have h2:=F.size;omega,F.row l.o (λq B e=>by have:=(l.o.lt q B).1;omega),((eB.of (S:=λi=>w.1.size<=i) d.o).trans' (F.mono λi _ e=>by omega)).below (Ia _) λi hi h=>by omega⟩
end
def oN{p:FuncId}{k:Nat}(f:p=24/\k=1\/p=155/\k=2\/p=164/\k=8)(v:Int)(w:eA):vE p #[zA v] w (oA (qB k v)):=by
 have b:=cB (λn d W=>fH n v W d);obtain⟨rfl,rfl⟩|⟨rfl,rfl⟩|⟨rfl,rfl⟩:=f
 .go_enter func24,ntmps24;go_wp2_with fail;refine hC (b.o 1 (by omega) _) ?_;intro c a;go_wp2;go_ret;exact⟨rfl,a⟩
 .go_enter func155,ntmps155;go_wp2_with fail;refine hC (b.o 2 (by omega) _) ?_;intro c a;go_wp2;go_ret;exact⟨rfl,a⟩
 go_enter func164,ntmps164;go_wp2_with fail;refine hC (b.o 8 (by omega) _) ?_;intro c a;go_wp2;go_ret;exact⟨rfl,a⟩
structure GE(w W:World)(fl rq:Array Value)(v:Value)(ps:List nB):Prop where
 S:gB W w.1.size fl 176
 R:gB W (w.1.size+1) rq 47
 V:W.ownsRow (w.1.size+1+1) 9 1 v (yA ps) (ps.map iA.string)
 N:tB w W
section
variable {w W W':eA} {fl rq:Array iA} {v v':iA} {ps qs:List nB}
theorem GE.z(h:GE w W fl rq v ps)(a:tB W W'):GE w W' fl rq v ps:=⟨h.S.z a,h.R.z a,eC h.V a,vB h.N a⟩
theorem GE.size(h:GE w W fl rq v ps):w.1.size+1+1<=W.1.size:=aB h.R
theorem GE.turn(h:GE w W fl rq v ps)(a:eB (λi=>w.1.size+1+1<=i/\v.ownBlock=bA i) W W')(b:W'.ownsRow (w.1.size+1+1) 9 1 v' (yA ps+yA qs) (ps.map iA.string++qs.map iA.string)):GE w W' fl rq v' (ps++qs):=
 ⟨a.blk h.S (λe=>by omega),a.blk h.R (λe=>by omega),by rw[Kb,Ld];exact b,h.N.trans (a.below h.N.size λq c e=>by omega)⟩
end
def rJ(a:List oF):List nB:=a.flatMap λx=>[tH x.B,qB 8 x.bits]
def il(a:List oF)(k:Nat)(h:k<yA a):rJ (a.take (k+1))=rJ (a.take k)++[tH a[k].B,qB 8 a[k].bits]:=by
 unfold rJ;rw[Pa h,He];rfl
def NA:∀(a:List oF),qF (rJ a)=cE a
 |[]=>rfl
 |x::q=>by
  have e:rJ (x::q)=[tH x.B,qB 8 x.bits]++rJ q:=rfl;rw[e,eG,NA q,cE];simp[qF,gW]
def VM:∀(a:List oF),sF a<=1048576->(∀i(h:i<yA a),yA a[i].B<=255)->yF (rJ a)<=yA a*2000000
 |[],_,_=>by simp[rJ,yF]
 |x::q,d,b=>by
  have e:rJ (x::q)=[tH x.B,qB 8 x.bits]++rJ q:=rfl;have c:yA x.B<=255:=b 0 (by simp);have f:sF (x::q)=lJ x+sF q:=rfl;have k:lJ x=yA x.B+rD x.B:=rfl;have j:=VM q (by omega) (λi h=>b (i+1) (by simpa using h));have g:(tH x.B).size<=1999000:=by rw[tH,Ka,kB,bQ];omega
  rw[e,oH];simp only[yF,kB,Zb];omega
def tY:(prog.info? 9).map (λi=>(i.zero,i.size,i.bytes))=bA (bA (oA kA),1,16):=by kernel_rfl
def mu(r:dG)(a:jC)(l:Nat)(w:eA)(p:dJ w a r.P)(hz:FO r<=1048576)(Z:pw r):
 vE 154 #[shV r.K,tA #[lA mA r.K,oA r.T,oA r.R,lA mA r.U,pA a (yA r.P) l]] w (oA (uK r)):=by
 have u:FO r=r.T.size+r.R.size+yA r.P+sF r.P:=rfl;have h4:=Z.2.2.2.2.1;have hl:=Z.2.2.2.2.2.2.2.1;have hx:=Z.2.2.2.2.2.2.2.2;obtain⟨k,D,C,E,d⟩:=r;dsimp only at *;have HU:=cB (λW=>oN (Ca ⟨rfl,rfl⟩) k W);have A1:bB (∃Q,(zU k=dA/\(∃x,Q=[x]/\x.size<=1100000/\∀W,vE 218 #[oA D] W (oA x))\/zU k=cA/\Q=[])/\qF Q=(if zU k=dA then xM D else kA)):=by
  by_cases h:zU k=dA
  .exact ⟨[xM D],Ca ⟨by simpa using h,_,rfl,by rw[lF];omega,λW=>mS D W (by omega)⟩,by simp[qF,h]⟩
  exact ⟨[],La ⟨by simpa using h,rfl⟩,by simp[qF,h]⟩
 have A2:bB (∃Q,((k==1)=dA/\(∃x,Q=[x]/\x.size<=1100000/\∀W,vE 155 #[lA mA (yA d:Nat)] W (oA x))\/(k==1)=cA/\Q=[])/\qF Q=(if k=1 then qB 2 (yA d:Nat) else kA)):=by
  by_cases h:k=1
  .exact ⟨[qB 2 (yA d:Nat)],Ca ⟨by simpa using h,_,rfl,by rw[kB];omega,λW=>oN (La (Ca ⟨rfl,rfl⟩)) _ W⟩,by simp[qF,h]⟩
  exact ⟨[],La ⟨by simpa using h,rfl⟩,by simp[qF,h]⟩
 have A3:bB (∃Q,(yU k=dA/\(∃x,Q=[x]/\x.size<=1100000/\∀W,vE 166 #[oA C] W (oA x))\/yU k=cA/\Q=[])/\qF Q=(if yU k=dA then vF C else kA)):=by
  by_cases h:yU k=dA
  .exact ⟨[vF C],Ca ⟨by simpa using h,_,rfl,by rw[bF];omega,λW=>mL C W (by omega)⟩,by simp[qF,h]⟩
  exact ⟨[],La ⟨by simpa using h,rfl⟩,by simp[qF,h]⟩
 have A4:bB (∃Q,(mV k=dA/\(∃x,Q=[x]/\x.size<=1100000/\∀W,vE 164 #[lA mA E] W (oA x))\/mV k=cA/\Q=[])/\qF Q=(if mV k=dA then qB 8 E else kA)):=by
  by_cases h:mV k=dA
  .exact ⟨[qB 8 E],Ca ⟨by simpa using h,_,rfl,by rw[kB];omega,λW=>oN (La (La ⟨rfl,rfl⟩)) _ W⟩,by simp[qF,h]⟩
  exact ⟨[],La ⟨by simpa using h,rfl⟩,by simp[qF,h]⟩
 obtain⟨U,A1,E1⟩:=A1.o;obtain⟨Q2,A2,E2⟩:=A2.o;obtain⟨Q3,A3,E3⟩:=A3.o;obtain⟨Q4,A4,E4⟩:=A4.o;have HX:bB (qF ([qB 1 k]++U++Q2++rJ d++Q3++Q4)=uK ⟨k,D,C,E,d⟩):=by
  show _=_;unfold uK;simp only[eG,E1,E2,E3,E4,NA];by_cases h:k=1
  .simp[qF,h,Wa]
  simp[qF,h,h4 h,cE,Wa]
 have l1:yA U<=1:=by rcases A1 with⟨_,x,rfl,_⟩|⟨_,rfl⟩<;>simp
 have l2:yA Q2<=1:=by rcases A2 with⟨_,x,rfl,_⟩|⟨_,rfl⟩<;>simp
 have HF:=cB p;have HH:=cB hx;have l3:yA Q3<=1/\yF Q3<=1100000:=by rcases A3 with⟨_,x,rfl,h,_⟩|⟨_,rfl⟩<;>simp[yF]<;>omega
 have l4:yA Q4<=1/\yF Q4<=1100000:=by rcases A4 with⟨_,x,rfl,h,_⟩|⟨_,rfl⟩<;>simp[yF]<;>omega
 have l5:yF U<=1100000/\yF Q2<=1100000:=⟨by rcases A1 with⟨_,x,rfl,h,_⟩|⟨_,rfl⟩<;>simp[yF]<;>omega,by rcases A2 with⟨_,x,rfl,h,_⟩|⟨_,rfl⟩<;>simp[yF]<;>omega⟩
 have hsum:yF ([qB 1 k]++U++Q2++rJ d++Q3++Q4)<=140737488355328:=by
  have h:=VM d (by omega) (λi hi=>(hx i hi).1);have:=kB 1 k;simp only[oH,yF];omega
 replace A3:=cB A3;replace A4:=cB A4;clear E1 E2 E3 E4 h4 p hx Z;unfold shV;generalize uK ⟨k,D,C,E,d⟩=RX at *;generalize qB 1 k=T at *;generalize zU k=t at *;generalize yU k=m at *;generalize mV k=n at *;generalize (k==1||k==2||k==3||k==4)=c at *;generalize (k==1)=s at *;go_enter func154,ntmps154;go_wp2_with fail;apply hC (HU.o _);intro H u;have G:bB (GE w (H.alloc (vA #[oA T] 9)) #[qA t,qA s,qA m,qA n,qA c] #[lA mA k,oA D,oA C,lA mA E,pA a (yA d) l] (pA (bA ⟨H.1.size,0,aA⟩) 1 1) [T]):=
  ⟨((((gB.new _ _ _).alloc _).z u).alloc _),by have:=((gB.new (w.alloc (vA #[qA t,qA s,qA m,qA n,qA c] 176)) #[lA mA k,oA D,oA C,lA mA E,pA a (yA d) l] 47).z u).alloc (vA #[oA T] 9);simpa using this,⟨rfl,La ⟨H.1.size,1,_,rfl,by have:=u.size;simpa using this,heap_alloc_new _ _,Ia _,by simp[maxLen],rfl,rfl⟩⟩,vB (vB (vB yB yB) u) yB⟩
 clear u HU;go_upto_region 2 with fail;generalize H.alloc (vA #[oA T] 9)=W at *;generalize H.1.size=g at *;clear H;generalize iA.agg #[qA t,qA s,qA m,qA n,qA c]=SV;obtain⟨K,L,M,O,s4⟩:=G.o.S.c5;obtain⟨r0,r1,r2,r3,r4⟩:=G.o.R.c5;go_upto_if 13 with fail;go_cut [5] (λv wx=>∃g A,v=.slice (bA ⟨g,0,aA⟩) (yA ([T]++U)) A/\GE w wx #[qA t,qA s,qA m,qA n,qA c] #[lA mA k,oA D,oA C,lA mA E,pA a (yA d) l] v ([T]++U))
 case first=>
  obtain⟨p,x,rfl,zx,y⟩|⟨p,rfl⟩:=A1
  .rw[p]at K |-
   replace y:=cB y;go_wp2_with fail;apply hC (y.o _);intro H u;replace G:=cB (G.o.z u);go_wp2_with(at_builtin;refine dQ rfl _ _ rfl underlying30 tY rfl (by omega) (by omega) (by rfl) G.o.V (by rfl) (by rfl) rfl (by simp[iA.oneCell']) (by first|omega|(simp<;>omega)) G.o.size ?_;intro g2 c2 w2 h1 h2;have G2:=cB (G.o.turn (qs:=[x]) h2.o h1.o));go_wp2;go_meet;exact⟨g2,c2,by simp,by simpa using G2.o⟩
  rw[p]at K |-
  go_wp2;go_meet;exact⟨g,_,by rw[Cd]<;>rfl,by simpa using G.o⟩
 clear K G;obtain⟨g,A,rfl,G⟩:=hcut;replace G:=cB G;rename eA=>W;obtain⟨K,L,M,O,s4⟩:=G.o.S.c5;obtain⟨r0,r1,r2,r3,r4⟩:=G.o.R.c5;go_upto_if 21 with fail;go_cut [5] (λv wx=>∃g A,v=.slice (bA ⟨g,0,aA⟩) (yA (([T]++U)++Q2)) A/\GE w wx #[qA t,qA s,qA m,qA n,qA c] #[lA mA k,oA D,oA C,lA mA E,pA a (yA d) l] v (([T]++U)++Q2))
 case first=>
  obtain⟨p,x,rfl,zx,y⟩|⟨p,rfl⟩:=A2
  .rw[p]at L |-
   replace y:=cB y;go_wp2_with fail;apply hC (y.o _);intro H u;replace G:=cB (G.o.z u);go_wp2_with(at_builtin;refine dQ rfl _ _ rfl underlying30 tY rfl (by omega) (by omega) (by rfl) G.o.V (by rfl) (by rfl) rfl (by simp[iA.oneCell']) (by first|omega|(simp<;>omega)) G.o.size ?_;intro g2 c2 w2 h1 h2;have G2:=cB (G.o.turn (qs:=[x]) h2.o h1.o));go_wp2;go_meet;exact⟨g2,c2,by simp,by simpa using G2.o⟩
  rw[p]at L |-
  go_wp2;go_meet;exact⟨g,_,by rw[Cd]<;>rfl,by simpa using G.o⟩
 clear L G;obtain⟨g,A,rfl,G⟩:=hcut;replace G:=cB G;rename eA=>W;obtain⟨K,L,M,O,s4⟩:=G.o.S.c5;obtain⟨r0,r1,r2,r3,r4⟩:=G.o.R.c5;have hps:yA ([T]++U++Q2)<=3:=by simp;omega
 generalize hP:[T]++U++Q2=P at *;clear K L M O s4 A1 A2 l1 l2;go_wp2;go_loopw [5,7,32] (λout _ i wr=>∃(j g cv z:Nat),j<=yA d/\i=lA mA j/\out=pA (bA ⟨g,0,aA⟩) z cv/\z<=3+2*j/\bB (z=yA (P++rJ (d.take j)))/\bB (GE w wr #[qA t,qA s,qA m,qA n,qA c] #[lA mA k,oA D,oA C,lA mA E,pA a (yA d) l] (pA (bA ⟨g,0,aA⟩) z cv) (P++rJ (d.take j)))) (λ_ _ i _=>yA d-(intOf i).toNat)
 case atStart=>exact⟨0,g,A,yA P,Oa _,rfl,rfl,by omega,cB (by simp[rJ]),cB (by simpa[rJ]using G.o)⟩
 case round=>
  clear G r0 r1 r2 r3 r4 W g A;obtain⟨j,g,cv,z,hj,rfl,rfl,hz2,HZ,G⟩:=hrel;rename eA=>W;obtain⟨K,L,M,O,s4⟩:=G.o.S.c5;obtain⟨r0,r1,r2,r3,r4⟩:=G.o.R.c5;by_cases J:j<yA d
  .obtain ⟨b,o,a1,q1,rfl,u,c0,c1,p1⟩:=(HF.o.z G.o.N).at J;have hll:=(HH.o j J).1;have hbs:=QQ d j J;have hbe:lJ d[j]=yA d[j].B+rD d[j].B:=rfl;have HK:=cB (λW'(hW:tB W W')=>oc a1 q1 d[j].B W' (p1.z hW) (λi hi=>by have:=oi d[j].B i hi;omega) hll);have HB:=cB (λW'=>oN (La (La ⟨rfl,rfl⟩)) d[j].bits W');have E2:=cB (show P++rJ (d.take (j+1))=P++rJ (d.take j)++_ by rw[il d j J,Nd]);generalize P++rJ (d.take j)=ps at *;have hgl:=G.o.V.lt g rfl;have HV:bB (W.ownsRow (w.1.size+1+1) 9 1 (pA (bA ⟨g,0,aA⟩) z cv) z (ps.map iA.string)):=cB (by have:=G.o.V;rw[<-HZ.o]at this;exact this);clear p1 hbe hbs;generalize tH d[j].B=SK at *;generalize qB 8 d[j].bits=S8 at *;generalize yA d[j].B=ll at *;generalize d[j].bits=bi at *;have X:=cB (gB.new W #[pA a1 ll q1,lA mA bi] 107);have HW:=cB (pF W (vA #[pA a1 ll q1,lA mA bi] 107));replace G:=cB (G.o.z HW.o);replace HV:=cB (eC HV.o HW.o);go_upto_region 9 with fail;generalize W.alloc (vA #[pA a1 ll q1,lA mA bi] 107)=V at *;replace HK:=cB (λW'(h:tB V W')=>HK.o W' (vB HW.o h));have hX:=aB X.o;obtain⟨x0,x1⟩:=X.o.c2;have hw2:=G.o.size;clear X HW u c0 c1 K L M O s4 r0 r1 r2 r3 r4;generalize W.1.size=BX at *;clear W;go_region_held3 (λF=>F.cell? ⟨BX,0,aA⟩=bA (pA a1 ll q1)/\F.cell? ⟨BX,1,aA⟩=bA (lA mA bi))
    (first
     |go_keep
     |exact⟨(k5 0).trans x0,(k5 1).trans x1⟩
     |exact⟨((f.alloc f.size _).cell hX).trans x0,((f.alloc f.size _).cell hX).trans x1⟩
     |exact⟨(f.cell hX).trans x0,(f.cell hX).trans x1⟩
     |exact⟨(Y.cell hX).trans x0,(Y.cell hX).trans x1⟩)
    (first
     |(go_at_call 219;apply hC (HK.o _ (fA.refl _ V).drew);intro H hb1;have Y:tB V H:=(fA.refl _ V).drew.trans hb1)
     |(go_at_call 164;apply hC (HB.o _);intro w2 hb2;have f:tB V w2:=Y.trans (hb2.mono Y.size))
     |(refine aS (by rfl) _ _ (by rfl) underlying30 tY rfl (by omega) (by omega) (B:=w.1.size+1+1) (by rfl) (by exact eC (eC HV.o f) yB) [oA SK,oA S8] (by rfl) rfl (by exact La ⟨_,rfl,eA.news_of_block (cs:=#[oA SK,oA S8]) (heap_alloc_new _ _)⟩) (by simp[iA.oneCell']) (by omega) (by have:=f.size;simp;omega) ?_;intro g5 c5 w5 ho5 I hk5 hg5;clear hg5;have k5:∀i,w5.cell? ⟨BX,i,aA⟩=V.cell? ⟨BX,i,aA⟩:=λi=>(eA.cell?_of_block (hk5 BX (by have:=f.size;simp;omega) (by omega))).trans ((f.alloc f.size (vA #[oA SK,oA S8] 9)).cell hX);have G5:bB (GE w w5 #[qA t,qA s,qA m,qA n,qA c] #[lA mA k,oA D,oA C,lA mA E,pA (bA ⟨b,o,aA⟩) (yA d) l] (pA (bA ⟨g5,0,aA⟩) (z+2) c5) (ps++[SK,S8])):=cB ((G.o.z (vB f (pF w2 (vA #[oA SK,oA S8] 9)))).turn (qs:=[SK,S8]) ⟨I.os,I.tape,I.output,I.size,λq hq hn=>hk5 q hq λe=>hn ⟨by omega,by subst e;rfl⟩⟩ (by rw[<-HZ.o];exact ho5));clear ho5 I hk5))
   clear k5;go_wp2;exact⟨⟨j+1,g5,c5,z+2,by omega,by go_num,rfl,by omega,cB (by rw[E2.o,HZ.o];simp),cB (by rw[E2.o];exact G5.o)⟩,by simp[intOf];omega⟩
  obtain rfl:j=yA d:=by omega
  rw[Rb]at HZ G;generalize P++rJ d=ps at *;replace HZ:=HZ.o;subst HZ;clear HF HH J hj;go_upto_if 47 with fail;go_cut [5] (λv wx=>∃g A,v=.slice (bA ⟨g,0,aA⟩) (yA (ps++Q3)) A/\GE w wx #[qA t,qA s,qA m,qA n,qA c] #[lA mA k,oA D,oA C,lA mA E,pA a (yA d) l] v (ps++Q3))
  case first=>
   obtain⟨p,x,rfl,zx,y⟩|⟨p,rfl⟩:=A3.o
   .rw[p]at M |-
    replace y:=cB y;go_wp2_with fail;apply hC (y.o _);intro H u;replace G:=cB (G.o.z u);go_wp2_with(at_builtin;refine dQ rfl _ _ rfl underlying30 tY rfl (by omega) (by omega) (by rfl) G.o.V (by rfl) (by rfl) rfl (by simp[iA.oneCell']) (by first|omega|(simp<;>omega)) G.o.size ?_;intro g2 c2 w2 h1 h2;have G2:=cB (G.o.turn (qs:=[x]) h2.o h1.o));go_wp2;go_meet;exact⟨g2,c2,by simp,by simpa using G2.o⟩
   rw[p]at M |-
   go_wp2;go_meet;exact⟨g,_,by rw[Cd]<;>rfl,by simpa using G.o⟩
  clear M G;obtain⟨g,A,rfl,G⟩:=hcut;replace G:=cB G;rename eA=>W;obtain⟨K,L,M,O,s4⟩:=G.o.S.c5;obtain⟨r0,r1,r2,r3,r4⟩:=G.o.R.c5;have hl3:yA (ps++Q3)<=1100:=by simp;omega
  generalize ps++Q3=p3 at *;go_upto_if 55 with fail;go_cut [5] (λv wx=>∃g A,v=.slice (bA ⟨g,0,aA⟩) (yA (p3++Q4)) A/\GE w wx #[qA t,qA s,qA m,qA n,qA c] #[lA mA k,oA D,oA C,lA mA E,pA a (yA d) l] v (p3++Q4))
  case first=>
   obtain⟨p,x,rfl,zx,y⟩|⟨p,rfl⟩:=A4.o
   .rw[p]at O |-
    replace y:=cB y;go_wp2_with fail;apply hC (y.o _);intro H u;replace G:=cB (G.o.z u);go_wp2_with(at_builtin;refine dQ rfl _ _ rfl underlying30 tY rfl (by omega) (by omega) (by rfl) G.o.V (by rfl) (by rfl) rfl (by simp[iA.oneCell']) (by first|omega|(simp<;>omega)) G.o.size ?_;intro g2 c2 w2 h1 h2;have G2:=cB (G.o.turn (qs:=[x]) h2.o h1.o));go_wp2;go_meet;exact⟨g2,c2,by simp,by simpa using G2.o⟩
   rw[p]at O |-
   go_wp2;go_meet;exact⟨g,_,by rw[Cd]<;>rfl,by simpa using G.o⟩
  clear O G;obtain⟨g,A,rfl,G⟩:=hcut;replace G:=cB G;rename eA=>W;obtain⟨K,L,M,O,s4⟩:=G.o.S.c5;obtain⟨r0,r1,r2,r3,r4⟩:=G.o.R.c5;have hl4:yA (p3++Q4)<=1200:=by simp;omega
  generalize p3++Q4=p4 at *;obtain⟨hcv,hg,hcs⟩:=xG G.o.V;have HJ:=cB (iI g _ A p4 W rfl hcs hg hcv (by omega) hsum);rw[HX.o]at HJ;clear hcv hg hcs K L M O s4 r0 r1 r2 r3 r4;go_wp2_with fail;apply hC HJ.o;intro w9 hb9;have B9:=cB (vB G.o.N hb9);clear hb9;go_wp2;go_ret;exact⟨rfl,B9.o⟩
