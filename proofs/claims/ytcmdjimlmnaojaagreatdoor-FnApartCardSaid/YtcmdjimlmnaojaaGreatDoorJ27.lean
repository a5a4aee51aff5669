import Derived.Test.YtcmdjimlmnaojaaGreatDoorJ20
import Derived.Test.YtcmdjimlmnaojaaGreatDoorJ24
import Derived.Deep.RegionHeldLaw
set_option maxRecDepth 100000
set_option maxHeartbeats 8000000
set_option linter.defProp false
open Option renaming some->cA,none->aA
open Bool renaming true->eA,false->dA
open ByteArray renaming empty->lA
open List renaming length->zA
namespace Go.Proofs.YtcmdjimlmnaojaaGreatDoor
open Go renaming World->fA,Value->jA,TypeId->kA
open Value renaming slice->qA,agg->uA,bool->sA,string->pA,int->mA
open Obj renaming cells->xA
open Ending renaming returned->vA
open RowKit renaming Below->gA
open IntKind renaming i64->oA
open Go.RowKit Tryz
def NS(W:fA)(a:nC)(l:Nat)(d:List iB)(v:uB W a d)(x:zA d<=1048576):
 ∃g c s,(Builtin.append_ #[33,33] 33 #[qA (vB W.1.size) 0 0,qA a (zA d) l]).run prog (W.alloc (xA #[] 144))=.ok (qA g (zA d) c) s/\
  uB s g d/\xB W s/\∀b o,g=cA (eB b o)->W.1.size<=b:=by
 obtain⟨i,w,p,q,r⟩:=sL;cases a with
 |none=>
  have y:d=[]:=by
   obtain h|⟨b,o,e,_⟩:=v;exact h;exact absurd e (by simp)
  subst y;refine⟨vB W.1.size,0,W.alloc (xA #[] 144),?_,Ca rfl,bC,λb o e=>by simp at e;omega⟩;simp[Builtin.append_,run_underlying underlying33,sizeOf,typeInfo,w,Builtin.lenOf,Builtin.firstCells,storeCells]
 |some t=>
  have m:(W.alloc (xA #[] 144)).ownsRow W.1.size 144 3 (qA (vB W.1.size) 0 0) 0 []:=
   ⟨rfl,La ⟨W.1.size,0,#[],rfl,Ia _,heap_alloc_new _ _,Ia _,Oa _,rfl,rfl⟩⟩
  have f:∀j u,(flat d)[j]?=cA u->(W.alloc (xA #[] 144)).cell? (t.add j)=cA u:=by
   rcases v.z (zF W (xA #[] 144)) with rfl|⟨b,o,e,_,h⟩;intro j u h;simp[flat]at h;simp only[Qa]at e;subst e;exact qO h
  obtain⟨E,D,C,n,z,_,_⟩:=run_append_own_at (P:=prog) (W.alloc (xA #[] 144)) W.1.size 33 33 144 i _ 3 40 underlying33 w p q r rfl (by omega) (qA (vB W.1.size) 0 0) 0 [] m t (zA d) l (flat d) (yE d) f (zG d) (by simp[maxLen];omega) (by omega) (by simp);simp only[Ya,Mb]at n;obtain⟨g,c,rfl,B⟩:=qH n;refine⟨g,c,D,C,B.files,bC.grown z (by simp) (λk A=>?_),λb o e=>uH n b (by rw[e];rfl)⟩;simp[jA.ownBlock]at A;omega
def TJ(w:fA)(a:nC)(f:Nat)(j:List iB)(c k g i:Int)(h:Bool)(b:oK):Prop:=
 Calls prog 37 #[uA #[qA a (zA j) f,aB c,aB k,aB g,aB i,sA h],uA #[aB b.K,pA b.N,pA b.tq,pA b.data,aB b.size]] w λe m=>
  ∃l d,e=vA (aOh (zQ j c k g i h b) l d)/\uB m l (zQ j c k g i h b).2.1/\xB w m
structure aAo(w:World)(a:nC)(fs:List iB)(op:oK):Prop where
 files:uB w a fs
 H:iP fs
 len:zA fs≤1048576
 sum:pC fs≤1000000000
 N:op.N.size≤maxLen
 tq:op.tq.size≤maxLen
 data:op.data.size≤200000000
def IE{w:fA}{a:nC}{d:List iB}(h:uB w a d){p:Addr}(k:∀b o,a=cA (eB b o)->p.block<b)(v:jA):uB (w.setCell p v) a d:=by
 obtain h|⟨b,o,rfl,c,h⟩:=h;exact Ca h;have e:=gA.heap_setCell w p v b (by have:=k b o rfl;omega);have g:∀j,(w.setCell p v).cell? (eB b j)=w.cell? (eB b j):=λj=>fA.cell?_of_block e;exact La ⟨b,o,rfl,by simpa[fA.setCell]using c,λi f=>by simp only[g];exact h i f⟩
def ic{f:List iB}{c k d e:Int}{g:Bool}{i:oK}{a:Nat}{h:Int}{b:Bool}(n:wE f c k d e=eA)(m:AN i=eA)(l:jD k d e g=(a,h,b))(j:a≠0):zQ f c k d e g i=(a,f,c,h,d,e,b):=by grind [wE,AN,jD,zQ,wI]
def aEf{e:List iB}{c k b d:Int}{g:Bool}{f:oK}{h:Int}{a:Bool}(l:wE e c k b d=eA)(j:AN f=eA)(i:jD k b d g=(0,h,a)):zQ e c k b d g f=((jN e c f).1,(jN e c f).2,c,h,b,d,a):=by grind [wE,AN,jD,zQ,jN,wI]
def aLn(a:nC)(n b:Nat)(c k d f:Int)(e:Bool)(j:Nat)(s:pB):(#[qA a n b,aB c,aB k,aB d,aB f,sA e]:Array jA)[j]?≠cA (pA s):=by
 rcases j with _|_|_|_|_|_|j<;>simp
def UP{w:fA}{D:Nat}{a:nC}{i:List iB}(h:uB w a i){p:nC}{n f:Nat}{c k q s:Int}{r:Bool}(t:aAn w D p n f c k q s r):i=[]\/∀b o,a=cA (eB b o)->b≠D:=by
 by_cases m:i=[]
 .exact Ca m
 right;intro b o e j;have d:=Tg.2 m;obtain⟨u,v,g,_,l,_,_⟩:=h.at d;rw[e]at g;simp only[Qa,Addr.mk.injEq,Cc]at g;obtain⟨rfl,rfl⟩:=g;subst j;rw[jB.cell t]at l;exact aLn _ _ _ _ _ _ _ _ _ _ l
def mz{w:fA}{a:nC}{d:List iB}(h:uB w a d){p:Addr}(c:d=[]\/∀b o,a=cA (eB b o)->b≠p.block)(v:jA):uB (w.setCell p v) a d:=by
 obtain h|⟨b,o,rfl,e,h⟩:=h;exact Ca h;obtain c|c:=c;exact Ca c;have f:=gA.heap_setCell w p v b (c b o rfl);have k:∀j,(w.setCell p v).cell? (eB b j)=w.cell? (eB b j):=λj=>fA.cell?_of_block f;exact La ⟨b,o,rfl,by simpa[fA.setCell]using e,λi g=>by simp only[k];exact h i g⟩
theorem aOq(w:fA)(a:nC)(p:Nat)(b:List iB)(c k f g:Int)(y:Bool)(n:oK)(h:aAo w a b n)(i:(wE b c k f g&&AN n)=dA):TJ w a p b c k f g y n:=by
 have B:cB (zQ b c k f g y n=(6,[],0,0,0,0,dA)):=by show _=_;unfold zQ;rw[Ja (by rw[i];simp)]
 unfold TJ;obtain⟨o,x,Q,E,Y⟩:=n;obtain⟨z,H,S,m,G,I,-⟩:=h;have D:=dB z;have t:zA b<=maxLen:=by simp[maxLen];omega
 have F:wE b c k f g=dA\/wE b c k f g=eA/\(yB o 1 6=dA\/yB o 1 6=eA/\(cG x=dA\/cG x=eA/\o=5/\cG Q=dA)):=by
  simp only[AN]at i;cases e1:wE b c k f g<;>cases e2:yB o 1 6<;>cases e3:cG x<;>simp_all
 clear i z;dsimp only at G I |-
 obtain A|⟨A,i|⟨i,u|⟨u,rfl,J⟩⟩⟩:=F
 all_goals
  go_enter func37,ntmps37;go_wp2_with fail;apply jC (wM A _ (((D.o.z bC).z bC).z bC) H t m);intro Z j;obtain⟨s,l,r,d⟩:=LJ j;have C:=dB d;obtain⟨T,U,V,W,X⟩:=l.c5;obtain⟨K,L,M,N,O,P⟩:=r.c6;have q:=r.free;clear s l r d j;go_wp2_with(first
   |(go_at_call 86;refine jC (eE (by assumption) _) ?_;rintro R rfl)
   |(go_at_call 92;refine jC (rJ (by assumption) _ (by assumption)) ?_;rintro R rfl))
  refine bodyPost_ret (v:=.tuple #[uA #[qA aA 0 0,aB 0,aB 0,aB 0,aB 0,sA dA],aB 6]) (by simp[results,results37,go_sem,K,L,M,N,O,P]) rfl ?_;rw[B.o];refine⟨aA,0,rfl,Ca rfl,?_⟩;have h:=C.o;iterate 6 (refine gA.setCell ?_ (by first|(simp;done)|(simp;omega)) _)
  exact h
theorem aNq(w:fA)(a:nC)(P:Nat)(f:List iB)(c k d g:Int)(l:Bool)(i:oK)(h:aAo w a f i)(o:wE f c k d g=eA)(H:AN i=eA):TJ w a P f c k d g l i:=by
 obtain⟨Z,x,-,s,m,G,G,-⟩:=pJ o;have Y:l=eA/\zQ f c k d g l i=(1,f,c,k,d,g,eA)\/l=dA/\(k=1000000000000000/\zQ f c k d g l i=(2,f,c,k,d,g,dA)\/(k==1000000000000000)=dA/\
  (d=k+1/\decide (k+1=0)=dA/\zQ f c k d g l i=(1,f,c,k+1,d,g,eA)\/(d=0\/decide (d=0)=dA/\(k+1==d)=dA)/\
   (g=k+1/\decide (k+1=0)=dA/\zQ f c k d g l i=(2,f,c,k+1,d,g,dA)\/(g=0\/decide (g=0)=dA/\(k+1==g)=dA)/\zQ f c k d g l i=((jN f c i).1,(jN f c i).2,c,k+1,d,g,dA)))):=by
  have K:k+1≠0:=by omega
  have G:=λO I J=>@ic f c k d g l i O I J o H;have O:=λI J=>@aEf f c k d g l i I J o H;cases l
  .refine La ⟨rfl,?_⟩;by_cases J:k=1000000000000000
   .exact Ca ⟨J,G _ _ _ (by simp[jD,J]) (by decide)⟩
   refine La ⟨by simpa using J,?_⟩;by_cases T:k+1=d
   .exact Ca ⟨T.symm,by simpa using K,G _ _ _ (by subst T;simp[jD,J,K]) (by decide)⟩
   have I:d=0\/decide (d=0)=dA/\(k+1==d)=dA:=by by_cases h:d=0<;>simp[h,T]
   refine La ⟨I,?_⟩;by_cases I:k+1=g
   .exact Ca ⟨I.symm,by simpa using K,G _ _ _ (by subst I;simp[jD,J,T,K]) (by decide)⟩
   exact La ⟨by by_cases h:g=0<;>simp[h,I],O _ _ (by simp[jD,J,T,I])⟩
  exact Ca ⟨rfl,G _ _ _ (by simp[jD]) (by decide)⟩
 unfold TJ;have p:=h.data;have A:=eY Z;obtain⟨O,hs,hl,G,I,J,-⟩:=h;have U:yB i.K 1 6=eA/\cG i.N=eA/\(i.K=5/\cG i.tq=eA\/(i.K==5)=dA):=by
  simp only[AN,Sa,Fe,Ab]at H;exact⟨H.1.1,H.1.2,(Decidable.em (i.K=5)).elim (λh=>Ca ⟨h,H.2.resolve_left (λe=>e h)⟩) λh=>La (by simpa using h)⟩
 obtain⟨kd,nm,tq,S,sz⟩:=i;dsimp only at I J p U |-
 obtain⟨hb,I,U⟩:=U;have HF:=dB O;have M:=dB Y;have I:zA f<=maxLen:=by simp[maxLen];omega
 have J:IntKind.i64.wrap (k+1)=k+1:=by rw[IntKind.wrap_i64];omega
 have J:=dB (λW b(hF:uB W b f)=>(⟨hF,A,x,m,s,p⟩:TF W b f c ⟨kd,nm,tq,S,sz⟩));clear O Y H Z A s m p;obtain⟨rfl,m⟩|U:=U
 all_goals
  go_enter func37,ntmps37;go_wp2_with fail;apply jC (wM o _ (((HF.o.z bC).z bC).z bC) hs I G);intro w1 X;obtain⟨G,I,W,n⟩:=LJ X;obtain⟨o0,o1,o2,o3,o4⟩:=I.c5;obtain⟨x0,-,-,-,-,-⟩:=G.c6;have m:=bB W;have m:w.1.size<w1.1.size:=by omega
  have m:¬w.1.size=w1.1.size:=by omega
  obtain⟨a1,j,W2,B,a0,m,V⟩:=NS w1 a P f (HF.o.z n) hl;have O:=dB B;have N:=dB a0;have D:=dB V;have E:=dB (G.z m);have F:=dB (W.z m);have L:=dB (aC n m);obtain⟨d0,d1,d2,d3,d4,d5⟩:=E.o.c6;obtain⟨z0,z1,z2,z3,z4⟩:=(I.z m).c5;have y:=E.o.free;obtain⟨Y,Z,r2,r3,r4,r5⟩:=F.o.c6;have q:=F.o.free;clear X G I W n B a0 m V;go_upto_region 4 with(first
   |(go_at_call 86;refine jC (eE (by assumption) _) ?_;rintro m rfl)
   |(go_at_call 92;refine jC (rJ (by assumption) _ (by assumption)) ?_;rintro m rfl)
   |(at_builtin;refine Lib.wpList_append_run _ rfl _ _ _ _ rfl _ _ rfl rfl _ _ O.o ?_))
  clear o0 o1 o2 o3 o4 x0 o;obtain⟨rfl,C⟩|⟨rfl,⟨rfl,C⟩|⟨m,⟨rfl,K,C⟩|⟨rfl|⟨s,m⟩,⟨rfl,K,C⟩|⟨rfl|⟨m,o⟩,C⟩⟩⟩⟩:=M.o
  all_goals
   have C:=dB C;clear M;try have o:(d != 0)=eA:=by simpa using s
   try have o:(g != 0)=eA:=by simpa using m
   go_wp2_with(go_at_call 93;refine Calls.mono (aDg _ a1 j f c (k+1) _ _ dA ⟨_,nm,tq,S,sz⟩ (J.o _ _ (IE (IE N.o (λb o e=>by have:=D.o b o e;show w.1.size<b;omega) _) (λb o e=>by have:=D.o b o e;show w.1.size<b;omega) _)) hb) ?_;rintro e m ⟨O,Q,rfl,u,r⟩;have t:=((E.o.set 0 (qA a1 (zA f) j)).set 2 (aB (k+1))).z r;have z:=(F.o.but (((sD.refl w.1.size W2).setCell 0 (qA a1 (zA f) j)).setCell 2 (aB (k+1))) (by omega)).z r;have m:=dB (UP u (by simpa[aAn]using t));have G:=dB (UP u z);have I:=dB u;have J:=dB (aC ((L.o.setCell (by simp) _).setCell (by simp) _) r);clear d0 d1 d2 d3 d4 d5 y z0 z1 z2 z3 z4 Y Z r2 r3 r4 r5 q u r;obtain⟨d0,d1,d2,d3,d4,d5⟩:=jB.c6 (by simpa using t);obtain⟨Y,Z,r2,r3,r4,r5⟩:=z.c6;have y:=t.free;have q:=z.free;clear t z;generalize jN f c _=R at *;obtain⟨code,W⟩:=R);refine bodyPost_ret (v:=?_) (by simp[results,results37,go_sem,Y,Z,r2,r3,r4,r5];rfl) rfl ?_;rw[C.o];first
    |refine⟨O,Q,rfl,?_,?_⟩
     .have h:=I.o
      repeat (refine mz ?_ (by first|exact G.o|exact m.o) _)
      exact h
     have h:=J.o
     repeat (refine gA.setCell ?_ (by first|(simp;done)|(simp;omega)) _)
     exact h
    |refine⟨a1,j,rfl,?_,?_⟩
     .have h:=N.o
      repeat (refine IE ?_ (λb o e=>by have:=D.o b o e;simp;omega) _)
      exact h
     have h:=L.o
     repeat (refine gA.setCell ?_ (by first|(simp;done)|(simp;omega)) _)
     exact h
def ZV(w:fA)(a:nC)(b:Nat)(d:List iB)(c k f i:Int)(g:Bool)(e:oK)(h:aAo w a d e):TJ w a b d c k f i g e:=by grind [TJ,wE,AN,aNq,aOq]
def cY(D:xD)(g:oK)(b:xD)(f:Nat):Prop:=
 ∀a h W,uB W a D.fs->Calls prog 37 #[uA #[qA a (zA D.fs) h,aB D.c,aB D.k,aB D.cr,aB D.fl,sA D.dn],uA #[aB g.K,pA g.N,pA g.tq,pA g.data,aB g.size]] W λe j=>
  ∃i d,e=vA (.tuple #[uA #[qA i (zA b.fs) d,aB b.c,aB b.k,aB b.cr,aB b.fl,sA b.dn],aB f])/\uB j i b.fs/\xB W j
theorem aFf{D:xD}{b:oK}(h:JK D.fs)(g:b.N.size<=maxLen)(i:b.tq.size<=maxLen)(e:b.data.size<=200000000):cY D b (cE D b).1 (cE D b).2:=λa d W f=>
 ZV W a d D.fs D.c D.k D.cr D.fl D.dn b ⟨f,h.H,h.len,h.sum,g,i,e⟩
theorem JL{w:fA}{a:nC}{d:List iB}{P:Nat}{cs:Array jA}{t:kA}(h:uB w a d)(l:jB w P cs t)(k:∀(j:Nat)(s:pB),cs[j]?≠cA (jA.string s)):DL a d P:=by
 obtain h|⟨b,o,e,_,h⟩:=h;exact Ca h
 by_cases c:d=[]
 .exact Ca c
 refine La ⟨b,o,e,λg=>?_⟩;subst g;have i:0<zA d:=Tg.2 c;have f:=(h 0 i).1;rw[l.cell]at f;exact k _ _ f
def kS{w:fA}{a:nC}{c:List iB}{P:Nat}{x:nC}{n d:Nat}{e f g i:Int}{j k l m:IntKind}{b:Bool}{t:kA}(h:uB w a c)(o:jB w P #[qA x n d,.int j e,.int k f,.int l g,.int m i,sA b] t):DL a c P:=by grind [uB,jB,DL,JL]
def GV{w:fA}{a:nC}{b:List iB}{P:Nat}{c d e:Int}{f g i:IntKind}{t:kA}(h:uB w a b)(j:jB w P #[.int f c,.int g d,.int i e] t):DL a b P:=by grind [uB,jB,DL,JL]
def jB.three{w:fA}{b:Nat}{a c d:jA}{t:kA}(h:jB w b #[a,c,d] t):w.cell? (eB b 0)=cA a/\w.cell? (eB b 1)=cA c/\w.cell? (eB b 2)=cA d:=by
 simp[h.cell]
def IH{w a:fA}{x y z u:Array jA}{tx ty tz tu:kA}(b:gA ((((w.alloc (xA x tx)).alloc (xA y ty)).alloc (xA z tz)).alloc (xA u tu)).1.size ((((w.alloc (xA x tx)).alloc (xA y ty)).alloc (xA z tz)).alloc (xA u tu)) a):
 jB a w.1.size x tx/\jB a (w.1.size+1) y ty/\jB a (w.1.size+1+1) z tz/\jB a (w.1.size+1+1+1) u tu/\xB w a:=by
 refine⟨?_,?_,?_,?_,aC (aC (aC (aC bC bC) bC) bC) b⟩;exact ((((bW w x tx).z bC).z bC).z bC).z b;have h:=(((bW (w.alloc (xA x tx)) y ty).z (zF _ (xA z tz))).z (zF _ (xA u tu))).z b;simpa using h;have h:=((bW ((w.alloc (xA x tx)).alloc (xA y ty)) z tz).z (zF _ (xA u tu))).z b;simpa using h;have h:=(bW (((w.alloc (xA x tx)).alloc (xA y ty)).alloc (xA z tz)) u tu).z b;simpa using h
section
variable {w W W':fA} {P Q:Nat} {a a':nC} {cap cap':Nat} {fs fs':List iB} {c k cr fl c' k' cr' fl':Int} {dn dn':Bool} {lf ll ls:Int}
theorem OL{S:Nat->Prop}(h:uB W a fs)(f:fB S W W')(m:∀b o,a=cA (eB b o)->S b->fs=[]):uB W' a fs:=by
 obtain h|⟨b,o,rfl,d,h⟩:=h;exact Ca h
 by_cases e:S b
 .exact Ca (m b o rfl e)
 have l:∀j,W'.cell? (eB b j)=W.cell? (eB b j):=λj=>fA.cell?_of_block (f.block b d e);exact La ⟨b,o,rfl,by have:=f.size;omega,λi g=>by simp only[l];exact h i g⟩
theorem DS(h:DL a fs P){b o:Nat}(e:a=cA (eB b o))(d:b=P):fs=[]:=by grind [DL]
def PX(b:fA)(P:Nat)(fs:List iB)(c k cr fl:Int)(dn:Bool)(d:fA):Prop:=∃a cap,b.1.size<=P/\jB d P #[qA a (zA fs) cap,aB c,aB k,aB cr,aB fl,sA dn] 35/\uB d a fs/\xB b d
theorem zv{B P:Nat}{d e f g i j:jA}(h:gA B w W)(b:B<=P):gA B w ((((((W.setCell (eB P 0) d).setCell (eB P 1) e).setCell (eB P 2) f).setCell (eB P 3) g).setCell (eB P 4) i).setCell (eB P 5) j):=(((((h.setCell b _).setCell b _).setCell b _).setCell b _).setCell b _).setCell b _
theorem pg{b:fA}(e:uB W a fs)(d:xB b W):PX b W.1.size fs c k cr fl dn (W.alloc (xA #[qA a (zA fs) cap,aB c,aB k,aB cr,aB fl,sA dn] 35)):=⟨a,cap,d.size,bW _ _ _,e.z bC,aC d bC⟩
theorem pj{b:fA}(f:uB W a fs)(d:xB b W)(h:b.1.size<=P)(g:jB W P #[qA aA 0 0,aB 0,aB 0,aB 0,aB 0,sA dA] 35):PX b P fs c k cr fl dn ((((((W.setCell (eB P 0) (qA a (zA fs) cap)).setCell (eB P 1) (aB c)).setCell (eB P 2) (aB k)).setCell (eB P 3) (aB cr)).setCell (eB P 4) (aB fl)).setCell (eB P 5) (sA dn)):=
 ⟨a,cap,h,gY g,f.apart (lp f g) (xJ _ _ _ _ _ _),d.trans ((fB.but (xJ _ _ _ _ _ _)).below d.size λi j e=>by omega)⟩
theorem MQ{D:xD}{op:oK}(h:JK D.fs)(d:op.N.size<=maxLen)(e:op.tq.size<=maxLen)(b:op.data.size<=1048576):∃fs c k cr fl dn x,cE D op=(⟨fs,c,k,cr,fl,dn⟩,x)/\JK fs/\cY D op ⟨fs,c,k,cr,fl,dn⟩ x:=by grind [cE,cY,dV,aFf]
end
section
open Go.Maps Go.Sort
def jn(g:Nat)(a:List kB)(w:fA)(h:w.ownsMap prog 9 (plainElem prog 3) g (zA a) (jE (a.map λp=>(p.s,aJ p.n))))(l:tC (·.s) a)(m:zA a<=1000000000):
 Calls prog 69 #[.func (.func 202) #[] #[.pointer (vB w.1.size)]] (w.alloc (xA #[.map (cA g)] 216)) λe i=>∃v,e=vA v/\i.ownsRow w.1.size 9 1 v (zA a) (a.map λp=>pA p.s)/\xB w i:=by
 have d:Maps.size (jE (a.map λp=>(p.s,aJ p.n)))=zA a:=by rw[vM]
 refine Calls.mono (callsIn_wide.1 (slices_Sorted_keys_69_131 g _ _ (plainElem prog 3) w h (by rw[d];unfold maxLen;omega) (by rw[d];omega))) ?_;rintro e o ⟨v,h,rfl,f,b,_,j⟩;have k:(strKeys (jE (a.map λp=>(p.s,aJ p.n))))=a.map λp=>p.s.data.toList:=by
  rw[vU,Vd];rfl
 rw[k]at f;have c:zA h=zA a:=by rw[f.length_eq,Xa]
 rw[JE (key:=λp:kB=>p.s) l f,OG (λp:kB=>p.s),c]at b;exact⟨v,rfl,FU b (by simp),aC bC j⟩
def nW(a:List kB):List jA:=a.flatMap λx=>[pA x.s,aB x.n]
def KD(a:List kB)(k:Nat)(h:k<zA a):nW (a.take (k+1))=nW (a.take k)++[pA a[k].s,aB a[k].n]:=by
 rw[Pa h,nW,He];rfl
def jf{W:fA}{B:Nat}{e:kA}{v:jA}{a:List kB}(h:W.ownsRow B e 1 v (zA a) (a.map λp=>pA p.s)):
 ∃k q,v=qA k (zA a) q/\(a=[]\/∃g,k=vB g/\B<=g/\g<W.1.size/\∀i(h:i<zA a),W.cell? (eB g i)=cA (pA a[i].s)):=by
 obtain⟨rfl,j⟩|⟨g,c,b,rfl,l,f,_,_,o,d⟩:=h.2;refine ⟨aA,0,by rw[j],Ca (Nb.1 j)⟩;refine ⟨_,c,rfl,La ⟨g,rfl,l,bB f,λi n=>?_⟩⟩;have m:=jB.cell (show jB W g b e from f) i;rw[m,<-Yd];have:(b.toList.take (zA a*1))[i]?=(a.map λp=>jA.string p.s)[i]?:=by rw[d]
 rw[Ye,Ma (by omega)]at this;rw[this,Se,Va n];rfl
def yg{w:fA}{d:Nat}{c:List kB}(h:w.ownsMap prog 9 (plainElem prog 3) d (zA c) (jE (c.map λp=>(p.s,aJ p.n))))(f:tC (·.s) c){p:kB}(e:p∈c)(g:p.s.size<=maxLen):
 (Instr.lookup 216 (.map (cA d)) (pA p.s) dA).run prog w=.ok (aB p.n) w:=by
 obtain⟨v,b,a,_⟩:=h.lookup_int vL underlying216 underlying3 (MT _) (eN g);rw[b];rw[lS (key:=λp:kB=>p.s) (λp=>aJ p.n),kM (key:=λp:kB=>p.s) f e]at a;simp[aJ]at a;rw[a]
def aDt{w:fA}{S:Nat->Prop}{x:Nat}{t:gB}{M y d j:Nat}{u:jA}{Q:List (kB×Nat)}{o:List qI}{D:DataW Unit}(h:sR w S x t M y d j u Q o D)(i:Nat)(k:i<zA t.Z)(r:t.Z[i].s.size<=maxLen):
 ∃q,∀W,xB w W->W.cell? (eB x 2)=cA (.map (cA d))/\(Instr.lookup 217 (.map (cA d)) (pA t.Z[i].s) dA).run prog W=.ok (.pointer (vB q)) W/\W.cell? (eB q 0)=cA (pA t.Z[i].s)/\W.cell? (eB q 1)=cA (aB t.Z[i].n):=by
 have l:t.Z[i] ∈Q.map (·.1):=by rw[h.q1];exact Gb k
 obtain⟨q,f,e⟩:=Md.1 l;have m:tC (λq:kB×Nat=>q.1.s) Q:=by
  have:=h.rs;rw[<-h.q1]at this;exact Te.1 this
 refine⟨q.2,λW c=>?_⟩;have a:=(h.cells q f).z c;have p:=h.blk.z c;refine⟨p.cell 2,?_,?_,?_⟩;obtain ⟨v,z,b,g⟩:=fA.ownsMap.lookup ((fB.of c).map (S:=λ_=>False) h.Z (λe=>e)) vL underlying217 (show(zeroValue 225).run prog W=.ok (.pointer aA) W by kernel_rfl) (zd:=.nil) (zp:=[]) rfl (eN r);rw[b];rw[lS (key:=λq:kB×Nat=>q.1.s) (λq=>kF q.2),<-e,kM (key:=λq:kB×Nat=>q.1.s) m f]at g;rw[aR g];rw[a.cell 0,<-e];rfl;rw[a.cell 1,<-e];rfl
def km(x:Nat)(r:pB)(t:gB)(S:Nat->Prop)(M:Nat)(w:fA)(h:tD w S x t M)(hs1:∀i(h:i<zA t.M),t.M[i].s.size<=maxLen)(hs2:∀i(h:i<zA t.Z),t.Z[i].s.size<=maxLen)(hl1:zA t.M<=2000000)(hl2:zA t.Z<=2000000):
 Calls prog 71 #[.pointer (cA ⟨x,0,aA⟩),pA r] w λe w'=>∃I L M,e=vA (uA #[pA r,mA oA t.L,I,L])/\w'.ownsRow w.1.size 184 2 I (zA t.M) (nW t.M)/\(∀g,I.ownBlock=cA g->g<M)/\w.1.size<=M/\M<=w'.1.size/\w'.ownsRow M 134 2 L (zA t.Z) (nW t.Z)/\xB w w':=by
 have HKY:cB _:=λW G=>aDd x t S M W (h.z G) (by omega);obtain⟨lm,sm,cm,iv,Q,hs,D,h⟩:=h;have c0:yC w x 0 (mA oA t.L):=h.blk.cell 0;have c1:yC w x 1 (.map (cA lm)):=h.blk.cell 1;have hxl:=bB h.blk;have HLS:cB _:=λi hi=>aDt h i hi (hs2 i hi);have HSH:cB _:=hs1;have HSL:cB _:=λW G=>jn lm t.M W ((fB.of G).map (S:=λ_=>False) h.lims (λe=>e)) h.rm (by omega);have O:cB (∀W,xB w W->yC W x 1 (.map (cA lm))/\∀p∈t.M,p.s.size<=maxLen->(Instr.lookup 216 (.map (cA lm)) (pA p.s) dA).run prog W=.ok (mA oA p.n) W):=λW G=>⟨(G.cell hxl).trans (h.blk.cell 1),λp hp hs=>yg ((fB.of G).map (S:=λ_=>False) h.lims (λe=>e)) h.rm hp hs⟩
 have HMK:cB _:=λW=>callsIn_wide.1 (maps_Keys_131 (cA lm) W);clear h;go_enter func71,ntmps71;go_wp2_with fail;apply jC (HMK.o _);rintro w1 rfl;have B2:cB (xB w ((w.alloc (xA #[pA ⟨#[]⟩,mA oA 0,qA aA 0 0,qA aA 0 0] 131)).alloc (xA #[pA r,mA oA t.L,qA aA 0 0,qA aA 0 0] 131))):=aC bC bC;have X2:cB _:=dB (by have:=jB.new (w.alloc (xA #[pA ⟨#[]⟩,mA oA 0,qA aA 0 0,qA aA 0 0] 131)) #[pA r,mA oA t.L,qA aA 0 0,qA aA 0 0] 131;simpa using this);have Y2:cB (jB ((w.alloc (xA #[pA ⟨#[]⟩,mA oA 0,qA aA 0 0,qA aA 0 0] 131)).alloc (xA #[pA r,mA oA t.L,qA aA 0 0,qA aA 0 0] 131)) w.1.size #[pA ⟨#[]⟩,mA oA 0,qA aA 0 0,qA aA 0 0] 131):=(jB.new _ _ _).alloc _;generalize (w.alloc (xA #[pA ⟨#[]⟩,mA oA 0,qA aA 0 0,qA aA 0 0] 131)).alloc (xA #[pA r,mA oA t.L,qA aA 0 0,qA aA 0 0] 131)=w2 at *;go_wp2_with fail;refine(HSL.o _ B2.o).mono ?_;rintro e J ⟨kv,rfl,f,H⟩;obtain⟨ka,kc,rfl,y⟩:=jf f;have E:=dB y;have B3:cB _:=aC B2.o H;have X3:cB (jB J (w.1.size+1) #[pA r,mA oA t.L,qA aA 0 0,qA aA 0 0] 131):=X2.o.z H;have Y3:cB (jB J w.1.size #[pA ⟨#[]⟩,mA oA 0,qA aA 0 0,qA aA 0 0] 131):=Y2.o.z H;have HX2:cB _:=bB X2.o;clear f y H X2 Y2 B2 HSL HMK c0 c1;go_wp2;go_loopw [7,23] (λ_ i wr=>∃(k:Nat)(I:jA),k<=zA t.M/\i=mA oA k/\cB (jB wr (w.1.size+1) #[pA r,mA oA t.L,I,qA aA 0 0] 131)/\cB (wr.ownsRow J.1.size 184 2 I k (nW (t.M.take k)))/\cB (fB (·=w.1.size+1) J wr)) (λ_ i _=>zA t.M-(intOf i).toNat)
 case atStart=>exact⟨0,qA aA 0 0,Oa _,rfl,X3.o,fA.ownsRow_nil _ _ _ _,fB.refl _ _⟩
 case round=>
  obtain⟨k,I,hk,rfl,m,l,b⟩:=hrel;by_cases c:k<zA t.M
  .have z:∃g,ka=cA ⟨g,0,aA⟩/\w2.1.size<=g/\g<J.1.size/\∀i(h:i<zA t.M),yC J g i (pA t.M[i].s):=by
    obtain X|X:=E.o;rw[X]at c;exact absurd c (by simp);exact X
   obtain⟨g,rfl,hg1,d0,g0⟩:=z;have hx2:=HX2.o;have i0:g≠w.1.size+1:=by omega
   have hkey:=(fA.cell?_of_block (b.o.block g d0 i0)).trans (g0 k c);have d:cB _:=(((fB.of (S:=λi=>w.1.size<=i) B3.o).trans' (b.o.mono λi _ e=>by omega)).below (Ia _) λi hi h=>by omega)
   have HQ:cB (∀W,xB w W->yC W x 1 (.map (cA lm))/\(Instr.lookup 216 (.map (cA lm)) (pA t.M[k].s) dA).run prog W=.ok (mA oA t.M[k].n) W):=λW G=>⟨(O.o W G).1,(O.o W G).2 _ (Gb c) (HSH.o k c)⟩
   have N:cB _:=KD _ _ c;have C:=b.o.size;have hB3s:=B3.o.size;have j0:=λq B=>(l.o.lt q B).1;have A:=l.o;have v5:yC wr (w.1.size+1) 2 I:=m.o.cell 2;have ag:I.ownBlock≠cA (w.1.size+1):=λe=>by have:=j0 _ e;omega
   obtain⟨q1,q2⟩:=HQ.o wr.drew d.o.drew;generalize t.M[k]=P at *;have hXw:w.1.size+1<wr.1.size:=by omega
   go_wp2_with fail;go_region_law (refine JF (w:=wr.drew) (by rfl) _ _ (by rfl) underlying128 uY rfl (by omega) (by omega) (by rfl) A.drew (by rfl) (by rfl) (cs:=#[pA P.s,mA oA P.n]) rfl (by simp[jA.oneCell']) (by omega) (by exact C) ?_;intro gg cap w4 O4 V A4;have j:=dB (V.o.blk m.o (λe=>by have:=e.1;omega));have s5:=j.o.cell 2;have a:=j.o.free 2)
   all_goals
    obtain⟨Y,h3,h4⟩:=tZ (wr:=wr.drew) m.o V.o O4.o (by omega) 2;have U:=dB Y;have R:=dB h3;have T:=dB (b.o.trans ((fB.of (gA.refl wr.1.size wr).drew).trans' (h4.mono λi _ e=>e.imp_right And.left)));clear Y h3 h4 s5 a j O4 V A4;go_wp2;exact⟨⟨k+1,_,by omega,by go_num,dB (by simpa using U.o),by rw[N.o];exact R,T.o⟩,by simp[intOf];omega⟩
  .have ek:k=zA t.M:=by omega
   have et:t.M.take k=t.M:=Ra (by omega);rw[et,ek]at l;obtain⟨ra,rc,rfl⟩:=zP l.o;have d:cB _:=(((fB.of (S:=λi=>w.1.size<=i) B3.o).trans' (b.o.mono λi _ e=>by omega)).below (Ia _) λi hi h=>by omega)
   have u:cB (jB wr w.1.size #[pA ⟨#[]⟩,mA oA 0,qA aA 0 0,qA aA 0 0] 131):=b.o.blk Y3.o (by omega);have Z:cB _:=bB X3.o;have h3r:cB _:=b.o.size;clear et E O HSH B3 X3 Y3 HX2 b;generalize hwo:wr=wo at *;clear hwo;go_wp2_with fail;refine(HKY.o _ d.o).mono ?_;rintro e K ⟨kv,rfl,f,o⟩;obtain⟨kb,kd,rfl,y⟩:=jf f;have E:=dB y;have B5:cB _:=aC d.o o;have X5:cB (jB K (w.1.size+1) #[pA r,mA oA t.L,qA ra (zA t.M) rc,qA aA 0 0] 131):=m.o.z o;have Y5:cB (jB K w.1.size #[pA ⟨#[]⟩,mA oA 0,qA aA 0 0,qA aA 0 0] 131):=u.o.z o;have O5:cB (K.ownsRow J.1.size 184 2 (qA ra (zA t.M) rc) (zA t.M) (nW t.M)):=(fB.of (S:=λ_=>False) o).row l.o (λ_ _ e=>e);have hWo:cB (J.1.size<=wo.1.size/\wo.1.size<=K.1.size):=⟨h3r.o,o.size⟩
   clear f y o m l d u HKY;go_wp2;go_loopw [9,44] (λ_ i wr=>∃(k:Nat)(L:jA),k<=zA t.Z/\i=mA oA k/\cB (jB wr (w.1.size+1) #[pA r,mA oA t.L,qA ra (zA t.M) rc,L] 131)/\cB (wr.ownsRow K.1.size 134 2 L k (nW (t.Z.take k)))/\cB (fB (·=w.1.size+1) K wr)) (λ_ i _=>zA t.Z-(intOf i).toNat)
   case atStart=>exact⟨0,qA aA 0 0,Oa _,rfl,X5.o,fA.ownsRow_nil _ _ _ _,fB.refl _ _⟩
   case round=>
    obtain⟨k,L,hk,rfl,m,l,b⟩:=hrel;have d:cB _:=(((fB.of (S:=λi=>w.1.size<=i) B5.o).trans' (b.o.mono λi _ e=>by omega)).below (Ia _) λi hi h=>by omega)
    by_cases c:k<zA t.Z
    .have z:∃g,kb=cA ⟨g,0,aA⟩/\wo.1.size<=g/\g<K.1.size/\∀i(h:i<zA t.Z),yC K g i (pA t.Z[i].s):=by
      obtain X|X:=E.o;rw[X]at c;exact absurd c (by simp);exact X
     obtain⟨g,rfl,hg1,d0,g0⟩:=z;have h31':=Z.o;have hwo':=hWo.o;have i0:g≠w.1.size+1:=by omega
     have hkey:=(fA.cell?_of_block (b.o.block g d0 i0)).trans (g0 k c);obtain⟨q,HQ0⟩:=HLS.o k c;have HQ:cB _:=HQ0;have N:cB _:=KD _ _ c;have C:=b.o.size;have j0:=λq B=>(l.o.lt q B).1;have A:=l.o;have v5:yC wr (w.1.size+1) 3 L:=m.o.cell 3;have ag:L.ownBlock≠cA (w.1.size+1):=λe=>by have:=j0 _ e;omega
     obtain⟨q1,q2,q3,q4⟩:=HQ.o wr.drew d.o.drew;generalize t.Z[k]=P at *;have hXw:w.1.size+1<wr.1.size:=by omega
     clear HQ0;go_wp2_with fail;go_region_law (refine JF (w:=wr.drew) (by rfl) _ _ (by rfl) underlying129 EY rfl (by omega) (by omega) (by rfl) A.drew (by rfl) (by rfl) (cs:=#[pA P.s,mA oA P.n]) rfl (by simp[jA.oneCell']) (by omega) (by exact C) ?_;intro gg cap w4 O4 V A4;have j:=dB (V.o.blk m.o (λe=>by have:=e.1;omega));have s5:=j.o.cell 3;have a:=j.o.free 3)
     all_goals
      obtain⟨Y,h3,h4⟩:=tZ (wr:=wr.drew) m.o V.o O4.o (by omega) 3;have U:=dB Y;have R:=dB h3;have T:=dB (b.o.trans ((fB.of (gA.refl wr.1.size wr).drew).trans' (h4.mono λi _ e=>e.imp_right And.left)));clear Y h3 h4 s5 a j O4 V A4;go_wp2;exact⟨⟨k+1,_,by omega,by go_num,dB (by simpa using U.o),by rw[N.o];exact R,T.o⟩,by simp[intOf];omega⟩
    .have ek2:k=zA t.Z:=by omega
     have et:t.Z.take k=t.Z:=Ra (by omega);rw[et,ek2]at l;obtain⟨sa,sc,rfl⟩:=zP l.o;have u:cB (jB wr w.1.size #[pA ⟨#[]⟩,mA oA 0,qA aA 0 0,qA aA 0 0] 131):=b.o.blk Y5.o (by omega);have a0:yC wr (w.1.size+1) 0 (pA r):=m.o.cell 0;have a1:yC wr (w.1.size+1) 1 (mA oA t.L):=m.o.cell 1;have a2:yC wr (w.1.size+1) 2 (qA ra (zA t.M) rc):=m.o.cell 2;have a3:yC wr (w.1.size+1) 3 (qA sa (zA t.Z) sc):=m.o.cell 3;have b0:yC wr w.1.size 0 (pA ⟨#[]⟩):=u.o.cell 0;have b1:yC wr w.1.size 1 (mA oA 0):=u.o.cell 1;have b2:yC wr w.1.size 2 (qA aA 0 0):=u.o.cell 2;have b3:yC wr w.1.size 3 (qA aA 0 0):=u.o.cell 3;have e0:=u.o.free 0;have e1:=u.o.free 1;have e2:=u.o.free 2;have e3:=u.o.free 3;have HOM:cB (wr.ownsRow J.1.size 184 2 (qA ra (zA t.M) rc) (zA t.M) (nW t.M)):=b.o.row O5.o (λq B e=>by have Y:=(O5.o.lt q B).1;have h2:=Z.o;omega);go_wp2;have F:fB (·=w.1.size) wr ((((wr.setCell ⟨w.1.size,0,aA⟩ (pA r)).setCell ⟨w.1.size,1,aA⟩ (mA oA t.L)).setCell ⟨w.1.size,2,aA⟩ (qA ra (zA t.M) rc)).setCell ⟨w.1.size,3,aA⟩ (qA sa (zA t.Z) sc)):=((((fB.refl (·=w.1.size) wr).setCell (Ca rfl) 0 _).setCell (Ca rfl) 1 _).setCell (Ca rfl) 2 _).setCell (Ca rfl) 3 _;have h31':=Z.o;have hwo':=hWo.o;refine bodyPost_ret (v:=uA #[pA r,mA oA t.L,qA ra (zA t.M) rc,qA sa (zA t.Z) sc]) (by simp[results,results71,go_sem,b0,b1,b2,b3]) rfl ⟨_,_,K.1.size,rfl,FU (F.row HOM.o (λq B e=>by have:=(HOM.o.lt q B).1;omega)) (by omega),(λq B=>(O5.o.lt q B).2),by omega,by have Y:=b.o.size;have h2:=F.size;omega,F.row l.o (λq B e=>by have:=(l.o.lt q B).1;omega),((fB.of (S:=λi=>w.1.size<=i) d.o).trans' (F.mono λi _ e=>by omega)).below (Ia _) λi hi h=>by omega⟩
end
def uN{p:FuncId}{k:Nat}(f:p=23/\k=1\/p=150/\k=2\/p=159/\k=8)(v:Int)(w:fA):cF p #[aB v] w (pA (tB k v)):=by
 have b:=dB (λn d W=>oH n v W d);obtain⟨rfl,rfl⟩|⟨rfl,rfl⟩|⟨rfl,rfl⟩:=f
 .go_enter func23,ntmps23;go_wp2_with fail;refine jC (b.o 1 (by omega) _) ?_;intro c a;go_wp2;go_ret;exact⟨rfl,a⟩
 .go_enter func150,ntmps150;go_wp2_with fail;refine jC (b.o 2 (by omega) _) ?_;intro c a;go_wp2;go_ret;exact⟨rfl,a⟩
 go_enter func159,ntmps159;go_wp2_with fail;refine jC (b.o 8 (by omega) _) ?_;intro c a;go_wp2;go_ret;exact⟨rfl,a⟩
structure GE(w W:World)(fl rq:Array Value)(v:Value)(ps:List pB):Prop where
 S:jB W w.1.size fl 170
 R:jB W (w.1.size+1) rq 47
 V:W.ownsRow (w.1.size+1+1) 9 1 v (zA ps) (ps.map jA.string)
 N:xB w W
section
variable {w W W':fA} {fl rq:Array jA} {v v':jA} {ps qs:List pB}
theorem GE.z(h:GE w W fl rq v ps)(a:xB W W'):GE w W' fl rq v ps:=⟨h.S.z a,h.R.z a,hC h.V a,aC h.N a⟩
theorem GE.size(h:GE w W fl rq v ps):w.1.size+1+1<=W.1.size:=bB h.R
theorem GE.turn(h:GE w W fl rq v ps)(a:fB (λi=>w.1.size+1+1<=i/\v.ownBlock=cA i) W W')(b:W'.ownsRow (w.1.size+1+1) 9 1 v' (zA ps+zA qs) (ps.map jA.string++qs.map jA.string)):GE w W' fl rq v' (ps++qs):=
 ⟨a.blk h.S (λe=>by omega),a.blk h.R (λe=>by omega),by rw[Kb,Ld];exact b,h.N.trans (a.below h.N.size λq c e=>by omega)⟩
end
def yJ(a:List oF):List pB:=a.flatMap λx=>[aI x.B,tB 8 x.bits]
def ir(a:List oF)(k:Nat)(h:k<zA a):yJ (a.take (k+1))=yJ (a.take k)++[aI a[k].B,tB 8 a[k].bits]:=by
 unfold yJ;rw[Pa h,He];rfl
def NN:∀(a:List oF),vF (yJ a)=iE a
 |[]=>rfl
 |x::q=>by
  have e:yJ (x::q)=[aI x.B,tB 8 x.bits]++yJ q:=rfl;rw[e,oG,NN q,iE];simp[vF,gW]
def VQ:∀(a:List oF),xF a<=1048576->(∀i(h:i<zA a),zA a[i].B<=255)->iG (yJ a)<=zA a*2000000
 |[],_,_=>by simp[yJ,iG]
 |x::q,d,b=>by
  have e:yJ (x::q)=[aI x.B,tB 8 x.bits]++yJ q:=rfl;have c:zA x.B<=255:=b 0 (by simp);have f:xF (x::q)=tJ x+xF q:=rfl;have k:tJ x=zA x.B+aE x.B:=rfl;have j:=VQ q (by omega) (λi h=>b (i+1) (by simpa using h));have g:(aI x.B).size<=1999000:=by rw[aI,Ka,nB,eQ];omega
  rw[e,wH];simp only[iG,nB,Zb];omega
def vY:(prog.info? 9).map (λi=>(i.zero,i.size,i.bytes))=cA (cA (pA lA),1,16):=by kernel_rfl
def mv(r:eG)(a:nC)(l:Nat)(w:fA)(p:oJ w a r.P)(hz:FT r<=1048576)(Z:pv r):
 cF 148 #[shV r.K,uA #[mA oA r.K,pA r.T,pA r.R,mA oA r.U,qA a (zA r.P) l]] w (pA (wK r)):=by
 have u:FT r=r.T.size+r.R.size+zA r.P+xF r.P:=rfl;have h4:=Z.2.2.2.2.1;have hl:=Z.2.2.2.2.2.2.2.1;have hx:=Z.2.2.2.2.2.2.2.2;obtain⟨k,D,C,E,d⟩:=r;dsimp only at *;have HU:=dB (λW=>uN (Ca ⟨rfl,rfl⟩) k W);have A1:cB (∃Q,(yU k=eA/\(∃x,Q=[x]/\x.size<=1100000/\∀W,cF 213 #[pA D] W (pA x))\/yU k=dA/\Q=[])/\vF Q=(if yU k=eA then gN D else lA)):=by
  by_cases h:yU k=eA
  .exact ⟨[gN D],Ca ⟨by simpa using h,_,rfl,by rw[sF];omega,λW=>pS D W (by omega)⟩,by simp[vF,h]⟩
  exact ⟨[],La ⟨by simpa using h,rfl⟩,by simp[vF,h]⟩
 have A2:cB (∃Q,((k==1)=eA/\(∃x,Q=[x]/\x.size<=1100000/\∀W,cF 150 #[mA oA (zA d:Nat)] W (pA x))\/(k==1)=dA/\Q=[])/\vF Q=(if k=1 then tB 2 (zA d:Nat) else lA)):=by
  by_cases h:k=1
  .exact ⟨[tB 2 (zA d:Nat)],Ca ⟨by simpa using h,_,rfl,by rw[nB];omega,λW=>uN (La (Ca ⟨rfl,rfl⟩)) _ W⟩,by simp[vF,h]⟩
  exact ⟨[],La ⟨by simpa using h,rfl⟩,by simp[vF,h]⟩
 have A3:cB (∃Q,(xU k=eA/\(∃x,Q=[x]/\x.size<=1100000/\∀W,cF 162 #[pA C] W (pA x))\/xU k=dA/\Q=[])/\vF Q=(if xU k=eA then dG C else lA)):=by
  by_cases h:xU k=eA
  .exact ⟨[dG C],Ca ⟨by simpa using h,_,rfl,by rw[eF];omega,λW=>rL C W (by omega)⟩,by simp[vF,h]⟩
  exact ⟨[],La ⟨by simpa using h,rfl⟩,by simp[vF,h]⟩
 have A4:cB (∃Q,(kV k=eA/\(∃x,Q=[x]/\x.size<=1100000/\∀W,cF 159 #[mA oA E] W (pA x))\/kV k=dA/\Q=[])/\vF Q=(if kV k=eA then tB 8 E else lA)):=by
  by_cases h:kV k=eA
  .exact ⟨[tB 8 E],Ca ⟨by simpa using h,_,rfl,by rw[nB];omega,λW=>uN (La (La ⟨rfl,rfl⟩)) _ W⟩,by simp[vF,h]⟩
  exact ⟨[],La ⟨by simpa using h,rfl⟩,by simp[vF,h]⟩
 obtain⟨U,A1,E1⟩:=A1.o;obtain⟨Q2,A2,E2⟩:=A2.o;obtain⟨Q3,A3,E3⟩:=A3.o;obtain⟨Q4,A4,E4⟩:=A4.o;have HX:cB (vF ([tB 1 k]++U++Q2++yJ d++Q3++Q4)=wK ⟨k,D,C,E,d⟩):=by
  show _=_;unfold wK;simp only[oG,E1,E2,E3,E4,NN];by_cases h:k=1
  .simp[vF,h,Wa]
  simp[vF,h,h4 h,iE,Wa]
 have l1:zA U<=1:=by rcases A1 with⟨_,x,rfl,_⟩|⟨_,rfl⟩<;>simp
 have l2:zA Q2<=1:=by rcases A2 with⟨_,x,rfl,_⟩|⟨_,rfl⟩<;>simp
 have HF:=dB p;have HH:=dB hx;have l3:zA Q3<=1/\iG Q3<=1100000:=by rcases A3 with⟨_,x,rfl,h,_⟩|⟨_,rfl⟩<;>simp[iG]<;>omega
 have l4:zA Q4<=1/\iG Q4<=1100000:=by rcases A4 with⟨_,x,rfl,h,_⟩|⟨_,rfl⟩<;>simp[iG]<;>omega
 have l5:iG U<=1100000/\iG Q2<=1100000:=⟨by rcases A1 with⟨_,x,rfl,h,_⟩|⟨_,rfl⟩<;>simp[iG]<;>omega,by rcases A2 with⟨_,x,rfl,h,_⟩|⟨_,rfl⟩<;>simp[iG]<;>omega⟩
 have hsum:iG ([tB 1 k]++U++Q2++yJ d++Q3++Q4)<=140737488355328:=by
  have h:=VQ d (by omega) (λi hi=>(hx i hi).1);have:=nB 1 k;simp only[wH,iG];omega
 replace A3:=dB A3;replace A4:=dB A4;clear E1 E2 E3 E4 h4 p hx Z;unfold shV;generalize wK ⟨k,D,C,E,d⟩=RX at *;generalize tB 1 k=T at *;generalize yU k=t at *;generalize xU k=m at *;generalize kV k=n at *;generalize (k==1||k==2||k==3||k==4)=c at *;generalize (k==1)=s at *;go_enter func148,ntmps148;go_wp2_with fail;apply jC (HU.o _);intro H u;have G:cB (GE w (H.alloc (xA #[pA T] 9)) #[sA t,sA s,sA m,sA n,sA c] #[mA oA k,pA D,pA C,mA oA E,qA a (zA d) l] (qA (cA ⟨H.1.size,0,aA⟩) 1 1) [T]):=
  ⟨((((jB.new _ _ _).alloc _).z u).alloc _),by have:=((jB.new (w.alloc (xA #[sA t,sA s,sA m,sA n,sA c] 170)) #[mA oA k,pA D,pA C,mA oA E,qA a (zA d) l] 47).z u).alloc (xA #[pA T] 9);simpa using this,⟨rfl,La ⟨H.1.size,1,_,rfl,by have:=u.size;simpa using this,heap_alloc_new _ _,Ia _,by simp[maxLen],rfl,rfl⟩⟩,aC (aC (aC bC bC) u) bC⟩
 clear u HU;go_upto_region 2 with fail;generalize H.alloc (xA #[pA T] 9)=W at *;generalize H.1.size=g at *;clear H;generalize jA.agg #[sA t,sA s,sA m,sA n,sA c]=SV;obtain⟨K,L,M,O,s4⟩:=G.o.S.c5;obtain⟨r0,r1,r2,r3,r4⟩:=G.o.R.c5;go_upto_if 13 with fail;go_cut [5] (λv wx=>∃g A,v=.slice (cA ⟨g,0,aA⟩) (zA ([T]++U)) A/\GE w wx #[sA t,sA s,sA m,sA n,sA c] #[mA oA k,pA D,pA C,mA oA E,qA a (zA d) l] v ([T]++U))
 case first=>
  obtain⟨p,x,rfl,zx,y⟩|⟨p,rfl⟩:=A1
  .rw[p]at K |-
   replace y:=dB y;go_wp2_with fail;apply jC (y.o _);intro H u;replace G:=dB (G.o.z u);go_wp2_with(at_builtin;refine iQ rfl _ _ rfl underlying30 vY rfl (by omega) (by omega) (by rfl) G.o.V (by rfl) (by rfl) rfl (by simp[jA.oneCell']) (by first|omega|(simp<;>omega)) G.o.size ?_;intro g2 c2 w2 h1 h2;have G2:=dB (G.o.turn (qs:=[x]) h2.o h1.o));go_wp2;go_meet;exact⟨g2,c2,by simp,by simpa using G2.o⟩
  rw[p]at K |-
  go_wp2;go_meet;exact⟨g,_,by rw[Cd]<;>rfl,by simpa using G.o⟩
 clear K G;obtain⟨g,A,rfl,G⟩:=hcut;replace G:=dB G;rename fA=>W;obtain⟨K,L,M,O,s4⟩:=G.o.S.c5;obtain⟨r0,r1,r2,r3,r4⟩:=G.o.R.c5;go_upto_if 21 with fail;go_cut [5] (λv wx=>∃g A,v=.slice (cA ⟨g,0,aA⟩) (zA (([T]++U)++Q2)) A/\GE w wx #[sA t,sA s,sA m,sA n,sA c] #[mA oA k,pA D,pA C,mA oA E,qA a (zA d) l] v (([T]++U)++Q2))
 case first=>
  obtain⟨p,x,rfl,zx,y⟩|⟨p,rfl⟩:=A2
  .rw[p]at L |-
   replace y:=dB y;go_wp2_with fail;apply jC (y.o _);intro H u;replace G:=dB (G.o.z u);go_wp2_with(at_builtin;refine iQ rfl _ _ rfl underlying30 vY rfl (by omega) (by omega) (by rfl) G.o.V (by rfl) (by rfl) rfl (by simp[jA.oneCell']) (by first|omega|(simp<;>omega)) G.o.size ?_;intro g2 c2 w2 h1 h2;have G2:=dB (G.o.turn (qs:=[x]) h2.o h1.o));go_wp2;go_meet;exact⟨g2,c2,by simp,by simpa using G2.o⟩
  rw[p]at L |-
  go_wp2;go_meet;exact⟨g,_,by rw[Cd]<;>rfl,by simpa using G.o⟩
 clear L G;obtain⟨g,A,rfl,G⟩:=hcut;replace G:=dB G;rename fA=>W;obtain⟨K,L,M,O,s4⟩:=G.o.S.c5;obtain⟨r0,r1,r2,r3,r4⟩:=G.o.R.c5;have hps:zA ([T]++U++Q2)<=3:=by simp;omega
 generalize hP:[T]++U++Q2=P at *;clear K L M O s4 A1 A2 l1 l2;go_wp2;go_loopw [5,7,32] (λout _ i wr=>∃(j g cv z:Nat),j<=zA d/\i=mA oA j/\out=qA (cA ⟨g,0,aA⟩) z cv/\z<=3+2*j/\cB (z=zA (P++yJ (d.take j)))/\cB (GE w wr #[sA t,sA s,sA m,sA n,sA c] #[mA oA k,pA D,pA C,mA oA E,qA a (zA d) l] (qA (cA ⟨g,0,aA⟩) z cv) (P++yJ (d.take j)))) (λ_ _ i _=>zA d-(intOf i).toNat)
 case atStart=>exact⟨0,g,A,zA P,Oa _,rfl,rfl,by omega,dB (by simp[yJ]),dB (by simpa[yJ]using G.o)⟩
 case round=>
  clear G r0 r1 r2 r3 r4 W g A;obtain⟨j,g,cv,z,hj,rfl,rfl,hz2,HZ,G⟩:=hrel;rename fA=>W;obtain⟨K,L,M,O,s4⟩:=G.o.S.c5;obtain⟨r0,r1,r2,r3,r4⟩:=G.o.R.c5;by_cases J:j<zA d
  .obtain ⟨b,o,a1,q1,rfl,u,c0,c1,p1⟩:=(HF.o.z G.o.N).at J;have hll:=(HH.o j J).1;have hbs:=QX d j J;have hbe:tJ d[j]=zA d[j].B+aE d[j].B:=rfl;have HK:=dB (λW'(hW:xB W W')=>oc a1 q1 d[j].B W' (p1.z hW) (λi hi=>by have:=oi d[j].B i hi;omega) hll);have HB:=dB (λW'=>uN (La (La ⟨rfl,rfl⟩)) d[j].bits W');have E2:=dB (show P++yJ (d.take (j+1))=P++yJ (d.take j)++_ by rw[ir d j J,Nd]);generalize P++yJ (d.take j)=ps at *;have hgl:=G.o.V.lt g rfl;have HV:cB (W.ownsRow (w.1.size+1+1) 9 1 (qA (cA ⟨g,0,aA⟩) z cv) z (ps.map jA.string)):=dB (by have:=G.o.V;rw[<-HZ.o]at this;exact this);clear p1 hbe hbs;generalize aI d[j].B=SK at *;generalize tB 8 d[j].bits=S8 at *;generalize zA d[j].B=ll at *;generalize d[j].bits=bi at *;have X:=dB (jB.new W #[qA a1 ll q1,mA oA bi] 93);have HW:=dB (zF W (xA #[qA a1 ll q1,mA oA bi] 93));replace G:=dB (G.o.z HW.o);replace HV:=dB (hC HV.o HW.o);go_upto_region 9 with fail;generalize W.alloc (xA #[qA a1 ll q1,mA oA bi] 93)=V at *;replace HK:=dB (λW'(h:xB V W')=>HK.o W' (aC HW.o h));have hX:=bB X.o;obtain⟨x0,x1⟩:=X.o.c2;have hw2:=G.o.size;clear X HW u c0 c1 K L M O s4 r0 r1 r2 r3 r4;generalize W.1.size=BX at *;clear W;go_region_held3 (λF=>F.cell? ⟨BX,0,aA⟩=cA (qA a1 ll q1)/\F.cell? ⟨BX,1,aA⟩=cA (mA oA bi))
    (first
     |go_keep
     |exact⟨(k5 0).trans x0,(k5 1).trans x1⟩
     |exact⟨((f.alloc f.size _).cell hX).trans x0,((f.alloc f.size _).cell hX).trans x1⟩
     |exact⟨(f.cell hX).trans x0,(f.cell hX).trans x1⟩
     |exact⟨(Y.cell hX).trans x0,(Y.cell hX).trans x1⟩)
    (first
     |(go_at_call 214;apply jC (HK.o _ (gA.refl _ V).drew);intro H hb1;have Y:xB V H:=(gA.refl _ V).drew.trans hb1)
     |(go_at_call 159;apply jC (HB.o _);intro w2 hb2;have f:xB V w2:=Y.trans (hb2.mono Y.size))
     |(refine fS (by rfl) _ _ (by rfl) underlying30 vY rfl (by omega) (by omega) (B:=w.1.size+1+1) (by rfl) (by exact hC (hC HV.o f) bC) [pA SK,pA S8] (by rfl) rfl (by exact La ⟨_,rfl,fA.news_of_block (cs:=#[pA SK,pA S8]) (heap_alloc_new _ _)⟩) (by simp[jA.oneCell']) (by omega) (by have:=f.size;simp;omega) ?_;intro g5 c5 w5 ho5 I hk5 hg5;clear hg5;have k5:∀i,w5.cell? ⟨BX,i,aA⟩=V.cell? ⟨BX,i,aA⟩:=λi=>(fA.cell?_of_block (hk5 BX (by have:=f.size;simp;omega) (by omega))).trans ((f.alloc f.size (xA #[pA SK,pA S8] 9)).cell hX);have G5:cB (GE w w5 #[sA t,sA s,sA m,sA n,sA c] #[mA oA k,pA D,pA C,mA oA E,qA (cA ⟨b,o,aA⟩) (zA d) l] (qA (cA ⟨g5,0,aA⟩) (z+2) c5) (ps++[SK,S8])):=dB ((G.o.z (aC f (zF w2 (xA #[pA SK,pA S8] 9)))).turn (qs:=[SK,S8]) ⟨I.os,I.tape,I.output,I.size,λq hq hn=>hk5 q hq λe=>hn ⟨by omega,by subst e;rfl⟩⟩ (by rw[<-HZ.o];exact ho5));clear ho5 I hk5))
   clear k5;go_wp2;exact⟨⟨j+1,g5,c5,z+2,by omega,by go_num,rfl,by omega,dB (by rw[E2.o,HZ.o];simp),dB (by rw[E2.o];exact G5.o)⟩,by simp[intOf];omega⟩
  obtain rfl:j=zA d:=by omega
  rw[Rb]at HZ G;generalize P++yJ d=ps at *;replace HZ:=HZ.o;subst HZ;clear HF HH J hj;go_upto_if 47 with fail;go_cut [5] (λv wx=>∃g A,v=.slice (cA ⟨g,0,aA⟩) (zA (ps++Q3)) A/\GE w wx #[sA t,sA s,sA m,sA n,sA c] #[mA oA k,pA D,pA C,mA oA E,qA a (zA d) l] v (ps++Q3))
  case first=>
   obtain⟨p,x,rfl,zx,y⟩|⟨p,rfl⟩:=A3.o
   .rw[p]at M |-
    replace y:=dB y;go_wp2_with fail;apply jC (y.o _);intro H u;replace G:=dB (G.o.z u);go_wp2_with(at_builtin;refine iQ rfl _ _ rfl underlying30 vY rfl (by omega) (by omega) (by rfl) G.o.V (by rfl) (by rfl) rfl (by simp[jA.oneCell']) (by first|omega|(simp<;>omega)) G.o.size ?_;intro g2 c2 w2 h1 h2;have G2:=dB (G.o.turn (qs:=[x]) h2.o h1.o));go_wp2;go_meet;exact⟨g2,c2,by simp,by simpa using G2.o⟩
   rw[p]at M |-
   go_wp2;go_meet;exact⟨g,_,by rw[Cd]<;>rfl,by simpa using G.o⟩
  clear M G;obtain⟨g,A,rfl,G⟩:=hcut;replace G:=dB G;rename fA=>W;obtain⟨K,L,M,O,s4⟩:=G.o.S.c5;obtain⟨r0,r1,r2,r3,r4⟩:=G.o.R.c5;have hl3:zA (ps++Q3)<=1100:=by simp;omega
  generalize ps++Q3=p3 at *;go_upto_if 55 with fail;go_cut [5] (λv wx=>∃g A,v=.slice (cA ⟨g,0,aA⟩) (zA (p3++Q4)) A/\GE w wx #[sA t,sA s,sA m,sA n,sA c] #[mA oA k,pA D,pA C,mA oA E,qA a (zA d) l] v (p3++Q4))
  case first=>
   obtain⟨p,x,rfl,zx,y⟩|⟨p,rfl⟩:=A4.o
   .rw[p]at O |-
    replace y:=dB y;go_wp2_with fail;apply jC (y.o _);intro H u;replace G:=dB (G.o.z u);go_wp2_with(at_builtin;refine iQ rfl _ _ rfl underlying30 vY rfl (by omega) (by omega) (by rfl) G.o.V (by rfl) (by rfl) rfl (by simp[jA.oneCell']) (by first|omega|(simp<;>omega)) G.o.size ?_;intro g2 c2 w2 h1 h2;have G2:=dB (G.o.turn (qs:=[x]) h2.o h1.o));go_wp2;go_meet;exact⟨g2,c2,by simp,by simpa using G2.o⟩
   rw[p]at O |-
   go_wp2;go_meet;exact⟨g,_,by rw[Cd]<;>rfl,by simpa using G.o⟩
  clear O G;obtain⟨g,A,rfl,G⟩:=hcut;replace G:=dB G;rename fA=>W;obtain⟨K,L,M,O,s4⟩:=G.o.S.c5;obtain⟨r0,r1,r2,r3,r4⟩:=G.o.R.c5;have hl4:zA (p3++Q4)<=1200:=by simp;omega
  generalize p3++Q4=p4 at *;obtain⟨hcv,hg,hcs⟩:=fH G.o.V;have HJ:=dB (nI g _ A p4 W rfl hcs hg hcv (by omega) hsum);rw[HX.o]at HJ;clear hcv hg hcs K L M O s4 r0 r1 r2 r3 r4;go_wp2_with fail;apply jC HJ.o;intro w9 hb9;have B9:=dB (aC G.o.N hb9);clear hb9;go_wp2;go_ret;exact⟨rfl,B9.o⟩
