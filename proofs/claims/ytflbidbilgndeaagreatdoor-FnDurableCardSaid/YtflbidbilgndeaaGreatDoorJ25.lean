import Derived.Test.YtflbidbilgndeaaGreatDoorJ18
import Derived.Test.YtflbidbilgndeaaGreatDoorJ22
import Derived.Deep.RegionHeldLaw
set_option maxRecDepth 100000
set_option maxHeartbeats 8000000
set_option linter.defProp false
open Option renaming some->bA,none->aA
open Bool renaming true->dA,false->cA
open ByteArray renaming empty->kA
open List renaming length->yA
namespace Go.Proofs.YtflbidbilgndeaaGreatDoor
open Go renaming World->eA,Value->iA,TypeId->jA
open Value renaming slice->pA,bool->qA,string->oA,int->lA
open Obj renaming cells->vA
open Ending renaming returned->uA
open RowKit renaming Below->fA
open IntKind renaming i64->mA
open Go.RowKit Tryz
def PJ(W:eA)(a:mC)(l:Nat)(d:List iB)(v:tB W a d)(x:yA d<=1048576):
 ∃g c s,(Builtin.append_ #[33,33] 33 #[pA (yB W.1.size) 0 0,pA a (yA d) l]).run prog (W.alloc (vA #[] 104))=.ok (pA g (yA d) c) s/\
  tB s g d/\uB W s/\∀b o,g=bA (dB b o)->W.1.size<=b:=by
 obtain⟨i,w,p,q,r⟩:=xL;cases a with
 |none=>
  have y:d=[]:=by
   obtain h|⟨b,o,e,_⟩:=v;exact h;exact absurd e (by simp)
  subst y;refine⟨yB W.1.size,0,W.alloc (vA #[] 104),?_,Ca rfl,zB,λb o e=>by simp at e;omega⟩;simp[Builtin.append_,run_underlying underlying33,sizeOf,typeInfo,w,Builtin.lenOf,Builtin.firstCells,storeCells]
 |some t=>
  have m:(W.alloc (vA #[] 104)).ownsRow W.1.size 104 3 (pA (yB W.1.size) 0 0) 0 []:=
   ⟨rfl,La ⟨W.1.size,0,#[],rfl,Ia _,heap_alloc_new _ _,Ia _,Oa _,rfl,rfl⟩⟩
  have f:∀j u,(flat d)[j]?=bA u->(W.alloc (vA #[] 104)).cell? (t.add j)=bA u:=by
   rcases v.z (wF W (vA #[] 104)) with rfl|⟨b,o,e,_,h⟩;intro j u h;simp[flat]at h;simp only[Qa]at e;subst e;exact aP h
  obtain⟨E,D,C,n,z,_,_⟩:=run_append_own_at (P:=prog) (W.alloc (vA #[] 104)) W.1.size 33 33 104 i _ 3 40 underlying33 w p q r rfl (by omega) (pA (yB W.1.size) 0 0) 0 [] m t (yA d) l (flat d) (wE d) f (sG d) (by simp[maxLen];omega) (by omega) (by simp);simp only[Ya,Mb]at n;obtain⟨g,c,rfl,B⟩:=mH n;refine⟨g,c,D,C,B.files,zB.grown z (by simp) (λk A=>?_),λb o e=>zH n b (by rw[e];rfl)⟩;simp[iA.ownBlock]at A;omega
def aLq(w:eA)(a:mC)(f:Nat)(j:List iB)(c k g i:Int)(h:Bool)(b:zN):Prop:=
 Calls prog 42 #[.agg #[pA a (yA j) f,zA c,zA k,zA g,zA i,qA h],.agg #[zA b.K,oA b.N,oA b.tq,oA b.data,zA b.size]] w λe m=>
  ∃l d,e=uA (aQj (cZ j c k g i h b) l d)/\tB m l (cZ j c k g i h b).2.1/\uB w m
structure aOs(w:World)(a:mC)(fs:List iB)(op:zN):Prop where
 files:tB w a fs
 H:xO fs
 len:yA fs≤1048576
 sum:pC fs≤1000000000
 N:op.N.size≤maxLen
 tq:op.tq.size≤maxLen
 data:op.data.size≤200000000
def WJ{w:eA}{a:mC}{d:List iB}(h:tB w a d){p:Addr}(k:∀b o,a=bA (dB b o)->p.block<b)(v:iA):tB (w.setCell p v) a d:=by
 obtain h|⟨b,o,rfl,c,h⟩:=h;exact Ca h;have e:=fA.heap_setCell w p v b (by have:=k b o rfl;omega);have g:∀j,(w.setCell p v).cell? (dB b j)=w.cell? (dB b j):=λj=>eA.cell?_of_block e;exact La ⟨b,o,rfl,by simpa[eA.setCell]using c,λi f=>by simp only[g];exact h i f⟩
def aNn(a:mC)(n b:Nat)(c k d f:Int)(e:Bool)(j:Nat)(s:jB):(#[pA a n b,zA c,zA k,zA d,zA f,qA e]:Array iA)[j]?≠bA (oA s):=by
 rcases j with _|_|_|_|_|_|j<;>simp
def WH{w:eA}{D:Nat}{a:mC}{i:List iB}(h:tB w a i){p:mC}{n f:Nat}{c k q s:Int}{r:Bool}(t:aDa w D p n f c k q s r):i=[]\/∀b o,a=bA (dB b o)->b≠D:=by
 by_cases m:i=[]
 .exact Ca m
 right;intro b o e j;have d:=Tg.2 m;obtain⟨u,v,g,_,l,_,_⟩:=h.at d;rw[e]at g;simp only[Qa,Addr.mk.injEq,Cc]at g;obtain⟨rfl,rfl⟩:=g;subst j;rw[nB.cell t]at l;exact aNn _ _ _ _ _ _ _ _ _ _ l
def pt{w:eA}{a:mC}{d:List iB}(h:tB w a d){p:Addr}(c:d=[]\/∀b o,a=bA (dB b o)->b≠p.block)(v:iA):tB (w.setCell p v) a d:=by
 obtain h|⟨b,o,rfl,e,h⟩:=h;exact Ca h;obtain c|c:=c;exact Ca c;have f:=fA.heap_setCell w p v b (c b o rfl);have k:∀j,(w.setCell p v).cell? (dB b j)=w.cell? (dB b j):=λj=>eA.cell?_of_block f;exact La ⟨b,o,rfl,by simpa[eA.setCell]using e,λi g=>by simp only[k];exact h i g⟩
def mw(w:eA)(a:mC)(O:Nat)(f:List iB)(c k i j:Int)(G:Bool)(g:zN)(h:aOs w a f g)(h4:g.K≠4)(d:(cZ f c k i j G g).1=0):aLq w a O f c k i j G g:=by
 have J:(eF f c k i j&&US g)=dA:=by
  unfold cZ at d;split at d;assumption
  cases d
 have t:(G=cA/\(k==1000000000000000)=cA/\(i=0\/decide (i=0)=cA/\(k+1==i)=cA)/\(j=0\/decide (j=0)=cA/\(k+1==j)=cA))/\(tU f c g).1=0/\cZ f c k i j G g=(0,(tU f c g).2,c,k+1,i,j,cA):=by
  unfold cZ iL at d |-
  rw[Ma J]at d |-
  dsimp only at d |-
  by_cases hr:(fI k i j G).1=0
  .rw[Ma hr]at d |-
   refine⟨?_,d,?_⟩
   .cases G<;>by_cases h0:k=1000000000000000<;>by_cases h1:i=0<;>by_cases h2:k+1=i<;>by_cases h3:j=0<;>by_cases K:k+1=j<;>simp_all[fI]
   have e:(fI k i j G).2=(k+1,cA):=by
    unfold fI at hr |-
    repeat' split
    all_goals simp_all
   rw[e,<-d]
  rw[Ja hr]at d;exact absurd d hr
 obtain⟨hq,Y⟩:eF f c k i j=dA/\US g=dA:=by simpa using J
 clear d J;obtain⟨V,A,-,s,Z,hk0,hk1,-⟩:=rG hq;unfold aLq;have p:=h.data;have C:=gT V;obtain⟨hf,hs,hl,a0,hn,ht,-⟩:=h;have K:bC g.K 1 6=dA/\qG g.N=dA/\(g.K=5/\qG g.tq=dA\/(g.K==5)=cA):=by
  simp only[US,Sa,Fe,Ab]at Y;exact⟨Y.1.1,Y.1.2,(Decidable.em (g.K=5)).elim (λh=>Ca ⟨h,Y.2.resolve_left (λe=>e h)⟩) λh=>La (by simpa using h)⟩
 obtain⟨kd,nm,tq,S,sz⟩:=g;dsimp only at hn ht p h4 K |-
 obtain⟨hb,hnm,K⟩:=K;have HF:=bB hf;obtain⟨t,x,EO⟩:=t;have M:=bB t;replace EO:=bB EO;replace x:=bB x;have hml:yA f<=maxLen:=by simp[maxLen];omega
 have hw1:IntKind.i64.wrap (k+1)=k+1:=by rw[IntKind.wrap_i64];omega
 have HAS:=bB (λW b(hF:tB W b f)=>(⟨hF,C,A,Z,s,p⟩:VG W b f c ⟨kd,nm,tq,S,sz⟩));clear hf t Y V C s Z p;obtain⟨rfl,hto⟩|K:=K
 all_goals
  go_enter func42,ntmps42;go_wp2_with fail;apply lC (lP hq _ (((HF.o.z zB).z zB).z zB) hs hml a0);intro w1 U;obtain⟨H,I,hR,n⟩:=nj U;obtain⟨o0,o1,o2,o3,o4⟩:=I.c5;obtain⟨x0,-,-,-,-,-⟩:=H.c6;have hRlt:=aB hR;have hn1:w.1.size<w1.1.size:=by omega
  have hn2:¬w.1.size=w1.1.size:=by omega
  obtain⟨a1,l,W2,D,X,m,T⟩:=PJ w1 a O f (HF.o.z n) hl;have N:=bB D;have HFI:=bB X;have L:=bB T;have E:=bB (H.z m);have F:=bB (hR.z m);have HB2:=bB (vB n m);obtain⟨d0,d1,d2,d3,d4,d5⟩:=E.o.c6;obtain⟨z0,z1,z2,z3,z4⟩:=(I.z m).c5;have y:=E.o.free;obtain⟨r0,r1,r2,r3,r4,r5⟩:=F.o.c6;have q:=F.o.free;clear U H I hR n D X m T;go_upto_region 4 with(first
   |(go_at_call 91;refine lC (rD (by assumption) _) ?_;rintro w3 rfl)
   |(go_at_call 98;refine lC (zK (by assumption) _ (by assumption)) ?_;rintro w3 rfl)
   |(at_builtin;refine Lib.wpList_append_run _ rfl _ _ _ _ rfl _ _ rfl rfl _ _ N.o ?_))
  clear o0 o1 o2 o3 o4 x0 hq;obtain⟨rfl,hm,hcr,hfl⟩:=M.o;clear M;rcases hcr with rfl|⟨s,hc2⟩<;>obtain rfl|⟨hf1,hf2⟩:=hfl
  all_goals
   try have hc3:(i != 0)=dA:=by simpa using s
   try have hf3:(j != 0)=dA:=by simpa using hf1
   go_wp2_with(go_at_call 99;refine Calls.mono (aJk _ a1 l f c (k+1) _ _ cA ⟨_,nm,tq,S,sz⟩ (HAS.o _ _ (WJ (WJ HFI.o (λb o e=>by have:=L.o b o e;show w.1.size<b;omega) _) (λb o e=>by have:=L.o b o e;show w.1.size<b;omega) _)) hb h4 x.o) ?_;rintro e w5 ⟨a5,P,rfl,z,r⟩;have u:=((E.o.set 0 (pA a1 (yA f) l)).set 2 (lA mA (k+1))).z r;have B:=(F.o.but (((qD.refl w.1.size W2).setCell 0 (pA a1 (yA f) l)).setCell 2 (lA mA (k+1))) (by omega)).z r;have HX1:=bB (WH z (by simpa[aDa]using u));have HX2:=bB (WH z B);have HF5:=bB z;have HB5:=bB (vB ((HB2.o.setCell (by simp) _).setCell (by simp) _) r);clear d0 d1 d2 d3 d4 d5 y z0 z1 z2 z3 z4 r0 r1 r2 r3 r4 r5 q z r;obtain⟨d0,d1,d2,d3,d4,d5⟩:=nB.c6 (by simpa using u);obtain⟨r0,r1,r2,r3,r4,r5⟩:=B.c6;have y:=u.free;have q:=B.free;clear u B;have hz:=x.o;generalize tU f c _=R at *;obtain⟨Q,fs'⟩:=R;obtain rfl:Q=0:=hz);refine bodyPost_ret (v:=?_) (by simp[results,results42,go_sem,r0,r1,r2,r3,r4,r5];rfl) rfl ?_;rw[EO.o];refine⟨a5,P,rfl,?_,?_⟩
   .have h:=HF5.o;repeat (refine pt ?_ (by first|exact HX2.o|exact HX1.o) _)
    exact h
   have h:=HB5.o;repeat (refine fA.setCell ?_ (by first|(simp;done)|(simp;omega)) _)
   exact h
def iZ(D:yD)(g:zN)(b:yD)(f:Nat):Prop:=
 ∀a h W,tB W a D.fs->Calls prog 42 #[.agg #[pA a (yA D.fs) h,zA D.c,zA D.k,zA D.cr,zA D.fl,qA D.dn],.agg #[zA g.K,oA g.N,oA g.tq,oA g.data,zA g.size]] W λe j=>
  ∃i d,e=uA (.tuple #[.agg #[pA i (yA b.fs) d,zA b.c,zA b.k,zA b.cr,zA b.fl,qA b.dn],zA f])/\tB j i b.fs/\uB W j
def tt{D:yD}{op:zN}(h:JH D.fs)(g:op.N.size<=maxLen)(j:op.tq.size<=maxLen)(e:op.data.size<=200000000)(d:op.K≠4)(i:(gF D op).2=0):iZ D op (gF D op).1 (gF D op).2:=λa b W f=>
 mw W a b D.fs D.c D.k D.cr D.fl D.dn op ⟨f,h.H,h.len,h.sum,g,j,e⟩ d i
theorem KR{w:eA}{a:mC}{d:List iB}{P:Nat}{cs:Array iA}{t:jA}(h:tB w a d)(l:nB w P cs t)(k:∀(j:Nat)(s:jB),cs[j]?≠bA (iA.string s)):FJ a d P:=by
 obtain h|⟨b,o,e,_,h⟩:=h;exact Ca h
 by_cases c:d=[]
 .exact Ca c
 refine La ⟨b,o,e,λg=>?_⟩;subst g;have i:0<yA d:=Tg.2 c;have f:=(h 0 i).1;rw[l.cell]at f;exact k _ _ f
def kX{w:eA}{a:mC}{c:List iB}{P:Nat}{x:mC}{n d:Nat}{e f g i:Int}{j k l m:IntKind}{b:Bool}{t:jA}(h:tB w a c)(o:nB w P #[pA x n d,.int j e,.int k f,.int l g,.int m i,qA b] t):FJ a c P:=by grind [tB,nB,FJ,KR]
def JN{w:eA}{a:mC}{b:List iB}{P:Nat}{c d e:Int}{f g i:IntKind}{t:jA}(h:tB w a b)(j:nB w P #[.int f c,.int g d,.int i e] t):FJ a b P:=by grind [tB,nB,FJ,KR]
def JV{w a:eA}{x y z u:Array iA}{tx ty tz tu:jA}(b:fA ((((w.alloc (vA x tx)).alloc (vA y ty)).alloc (vA z tz)).alloc (vA u tu)).1.size ((((w.alloc (vA x tx)).alloc (vA y ty)).alloc (vA z tz)).alloc (vA u tu)) a):
 nB a w.1.size x tx/\nB a (w.1.size+1) y ty/\nB a (w.1.size+1+1) z tz/\nB a (w.1.size+1+1+1) u tu/\uB w a:=by
 refine⟨?_,?_,?_,?_,vB (vB (vB (vB zB zB) zB) zB) b⟩;exact ((((BJ w x tx).z zB).z zB).z zB).z b;have h:=(((BJ (w.alloc (vA x tx)) y ty).z (wF _ (vA z tz))).z (wF _ (vA u tu))).z b;simpa using h;have h:=((BJ ((w.alloc (vA x tx)).alloc (vA y ty)) z tz).z (wF _ (vA u tu))).z b;simpa using h;have h:=(BJ (((w.alloc (vA x tx)).alloc (vA y ty)).alloc (vA z tz)) u tu).z b;simpa using h
section
variable {w W W':eA} {P Q:Nat} {a a':mC} {cap cap':Nat} {fs fs':List iB} {c k cr fl c' k' cr' fl':Int} {dn dn':Bool} {lf ll ls:Int}
theorem QI{S:Nat->Prop}(h:tB W a fs)(f:eB S W W')(m:∀b o,a=bA (dB b o)->S b->fs=[]):tB W' a fs:=by
 obtain h|⟨b,o,rfl,d,h⟩:=h;exact Ca h
 by_cases e:S b
 .exact Ca (m b o rfl e)
 have l:∀j,W'.cell? (dB b j)=W.cell? (dB b j):=λj=>eA.cell?_of_block (f.block b d e);exact La ⟨b,o,rfl,by have:=f.size;omega,λi g=>by simp only[l];exact h i g⟩
theorem FU(h:FJ a fs P){b o:Nat}(e:a=bA (dB b o))(d:b=P):fs=[]:=by grind [FJ]
def PX(b:eA)(P:Nat)(fs:List iB)(c k cr fl:Int)(dn:Bool)(d:eA):Prop:=∃a cap,b.1.size<=P/\nB d P #[pA a (yA fs) cap,zA c,zA k,zA cr,zA fl,qA dn] 35/\tB d a fs/\uB b d
theorem aCj{B P:Nat}{d e f g i j:iA}(h:fA B w W)(b:B<=P):fA B w ((((((W.setCell (dB P 0) d).setCell (dB P 1) e).setCell (dB P 2) f).setCell (dB P 3) g).setCell (dB P 4) i).setCell (dB P 5) j):=(((((h.setCell b _).setCell b _).setCell b _).setCell b _).setCell b _).setCell b _
theorem ry{b:eA}(e:tB W a fs)(d:uB b W):PX b W.1.size fs c k cr fl dn (W.alloc (vA #[pA a (yA fs) cap,zA c,zA k,zA cr,zA fl,qA dn] 35)):=⟨a,cap,d.size,BJ _ _ _,e.z zB,vB d zB⟩
theorem rz{b:eA}(f:tB W a fs)(d:uB b W)(h:b.1.size<=P)(g:nB W P #[pA aA 0 0,zA 0,zA 0,zA 0,zA 0,qA cA] 35):PX b P fs c k cr fl dn ((((((W.setCell (dB P 0) (pA a (yA fs) cap)).setCell (dB P 1) (zA c)).setCell (dB P 2) (zA k)).setCell (dB P 3) (zA cr)).setCell (dB P 4) (zA fl)).setCell (dB P 5) (qA dn)):=
 ⟨a,cap,h,OU g,f.apart (oe f g) (gR _ _ _ _ _ _),d.trans ((eB.but (gR _ _ _ _ _ _)).below d.size λi j e=>by omega)⟩
end
section
open Go.Maps Go.Sort
def mj(g:Nat)(a:List kB)(w:eA)(h:w.ownsMap prog 9 (plainElem prog 3) g (yA a) (fE (a.map λp=>(p.s,eJ p.n))))(l:zC (·.s) a)(m:yA a<=1000000000):
 Calls prog 74 #[.func (.func 207) #[] #[.pointer (yB w.1.size)]] (w.alloc (vA #[.map (bA g)] 222)) λe i=>∃v,e=uA v/\i.ownsRow w.1.size 9 1 v (yA a) (a.map λp=>oA p.s)/\uB w i:=by
 have d:Maps.size (fE (a.map λp=>(p.s,eJ p.n)))=yA a:=by rw[bN]
 refine Calls.mono (callsIn_wide.1 (slices_Sorted_keys_74_137 g _ _ (plainElem prog 3) w h (by rw[d];unfold maxLen;omega) (by rw[d];omega))) ?_;rintro e o ⟨v,h,rfl,f,b,_,j⟩;have k:(strKeys (fE (a.map λp=>(p.s,eJ p.n))))=a.map λp=>p.s.data.toList:=by
  rw[zV,Vd];rfl
 rw[k]at f;have c:yA h=yA a:=by rw[f.length_eq,Xa]
 rw[KL (key:=λp:kB=>p.s) l f,QC (λp:kB=>p.s),c]at b;exact⟨v,rfl,qI b (by simp),vB zB j⟩
def tX(a:List kB):List iA:=a.flatMap λx=>[oA x.s,zA x.n]
def LM(a:List kB)(k:Nat)(h:k<yA a):tX (a.take (k+1))=tX (a.take k)++[oA a[k].s,zA a[k].n]:=by
 rw[Pa h,tX,He];rfl
def lz{W:eA}{B:Nat}{e:jA}{v:iA}{a:List kB}(h:W.ownsRow B e 1 v (yA a) (a.map λp=>oA p.s)):
 ∃k q,v=pA k (yA a) q/\(a=[]\/∃g,k=yB g/\B<=g/\g<W.1.size/\∀i(h:i<yA a),W.cell? (dB g i)=bA (oA a[i].s)):=by
 obtain⟨rfl,j⟩|⟨g,c,b,rfl,l,f,_,_,o,d⟩:=h.2;refine ⟨aA,0,by rw[j],Ca (Nb.1 j)⟩;refine ⟨_,c,rfl,La ⟨g,rfl,l,aB f,λi n=>?_⟩⟩;have m:=nB.cell (show nB W g b e from f) i;rw[m,<-Yd];have:(b.toList.take (yA a*1))[i]?=(a.map λp=>iA.string p.s)[i]?:=by rw[d]
 rw[Ye,Ma (by omega)]at this;rw[this,Se,Va n];rfl
def aBc{w:eA}{d:Nat}{c:List kB}(h:w.ownsMap prog 9 (plainElem prog 3) d (yA c) (fE (c.map λp=>(p.s,eJ p.n))))(f:zC (·.s) c){p:kB}(e:p∈c)(g:p.s.size<=maxLen):
 (Instr.lookup 222 (.map (bA d)) (oA p.s) cA).run prog w=.ok (zA p.n) w:=by
 obtain⟨v,b,a,_⟩:=h.lookup_int aM underlying222 underlying3 (OK _) (lN g);rw[b];rw[iT (key:=λp:kB=>p.s) (λp=>eJ p.n),vM (key:=λp:kB=>p.s) f e]at a;simp[eJ]at a;rw[a]
def aFz{w:eA}{S:Nat->Prop}{x:Nat}{t:fB}{M y d j:Nat}{u:iA}{Q:List (kB×Nat)}{o:List zI}{D:DataW Unit}(h:jS w S x t M y d j u Q o D)(i:Nat)(k:i<yA t.Z)(r:t.Z[i].s.size<=maxLen):
 ∃q,∀W,uB w W->W.cell? (dB x 2)=bA (.map (bA d))/\(Instr.lookup 223 (.map (bA d)) (oA t.Z[i].s) cA).run prog W=.ok (.pointer (yB q)) W/\W.cell? (dB q 0)=bA (oA t.Z[i].s)/\W.cell? (dB q 1)=bA (zA t.Z[i].n):=by
 have l:t.Z[i] ∈Q.map (·.1):=by rw[h.q1];exact Gb k
 obtain⟨q,f,e⟩:=Md.1 l;have m:zC (λq:kB×Nat=>q.1.s) Q:=by
  have:=h.rs;rw[<-h.q1]at this;exact Te.1 this
 refine⟨q.2,λW c=>?_⟩;have a:=(h.cells q f).z c;have p:=h.blk.z c;refine⟨p.cell 2,?_,?_,?_⟩;obtain ⟨v,z,b,g⟩:=eA.ownsMap.lookup ((eB.of c).map (S:=λ_=>False) h.Z (λe=>e)) aM underlying223 (show(zeroValue 231).run prog W=.ok (.pointer aA) W by kernel_rfl) (zd:=.nil) (zp:=[]) rfl (lN r);rw[b];rw[iT (key:=λq:kB×Nat=>q.1.s) (λq=>mF q.2),<-e,vM (key:=λq:kB×Nat=>q.1.s) m f]at g;rw[pR g];rw[a.cell 0,<-e];rfl;rw[a.cell 1,<-e];rfl
def ng(x:Nat)(r:jB)(t:fB)(S:Nat->Prop)(M:Nat)(w:eA)(h:vD w S x t M)(hs1:∀i(h:i<yA t.M),t.M[i].s.size<=maxLen)(hs2:∀i(h:i<yA t.Z),t.Z[i].s.size<=maxLen)(hl1:yA t.M<=2000000)(hl2:yA t.Z<=2000000):
 Calls prog 76 #[.pointer (bA ⟨x,0,aA⟩),oA r] w λe w'=>∃I L M,e=uA (.agg #[oA r,lA mA t.L,I,L])/\w'.ownsRow w.1.size 96 2 I (yA t.M) (tX t.M)/\(∀g,I.ownBlock=bA g->g<M)/\w.1.size<=M/\M<=w'.1.size/\w'.ownsRow M 98 2 L (yA t.Z) (tX t.Z)/\uB w w':=by
 have HKY:cB _:=λW G=>aFj x t S M W (h.z G) (by omega);obtain⟨lm,sm,cm,iv,Q,hs,D,h⟩:=h;have c0:tC w x 0 (lA mA t.L):=h.blk.cell 0;have c1:tC w x 1 (.map (bA lm)):=h.blk.cell 1;have hxl:=aB h.blk;have HLS:cB _:=λi hi=>aFz h i hi (hs2 i hi);have HSH:cB _:=hs1;have HSL:cB _:=λW G=>mj lm t.M W ((eB.of G).map (S:=λ_=>False) h.lims (λe=>e)) h.rm (by omega);have O:cB (∀W,uB w W->tC W x 1 (.map (bA lm))/\∀p∈t.M,p.s.size<=maxLen->(Instr.lookup 222 (.map (bA lm)) (oA p.s) cA).run prog W=.ok (lA mA p.n) W):=λW G=>⟨(G.cell hxl).trans (h.blk.cell 1),λp hp hs=>aBc ((eB.of G).map (S:=λ_=>False) h.lims (λe=>e)) h.rm hp hs⟩
 have HMK:cB _:=λW=>callsIn_wide.1 (maps_Keys_137 (bA lm) W);clear h;go_enter func76,ntmps76;go_wp2_with fail;apply lC (HMK.o _);rintro w1 rfl;have B2:cB (uB w ((w.alloc (vA #[oA ⟨#[]⟩,lA mA 0,pA aA 0 0,pA aA 0 0] 94)).alloc (vA #[oA r,lA mA t.L,pA aA 0 0,pA aA 0 0] 94))):=vB zB zB;have X2:cB _:=bB (by have:=nB.new (w.alloc (vA #[oA ⟨#[]⟩,lA mA 0,pA aA 0 0,pA aA 0 0] 94)) #[oA r,lA mA t.L,pA aA 0 0,pA aA 0 0] 94;simpa using this);have Y2:cB (nB ((w.alloc (vA #[oA ⟨#[]⟩,lA mA 0,pA aA 0 0,pA aA 0 0] 94)).alloc (vA #[oA r,lA mA t.L,pA aA 0 0,pA aA 0 0] 94)) w.1.size #[oA ⟨#[]⟩,lA mA 0,pA aA 0 0,pA aA 0 0] 94):=(nB.new _ _ _).alloc _;generalize (w.alloc (vA #[oA ⟨#[]⟩,lA mA 0,pA aA 0 0,pA aA 0 0] 94)).alloc (vA #[oA r,lA mA t.L,pA aA 0 0,pA aA 0 0] 94)=w2 at *;go_wp2_with fail;refine(HSL.o _ B2.o).mono ?_;rintro e J ⟨kv,rfl,f,H⟩;obtain⟨ka,kc,rfl,y⟩:=lz f;have E:=bB y;have B3:cB _:=vB B2.o H;have X3:cB (nB J (w.1.size+1) #[oA r,lA mA t.L,pA aA 0 0,pA aA 0 0] 94):=X2.o.z H;have Y3:cB (nB J w.1.size #[oA ⟨#[]⟩,lA mA 0,pA aA 0 0,pA aA 0 0] 94):=Y2.o.z H;have HX2:cB _:=aB X2.o;clear f y H X2 Y2 B2 HSL HMK c0 c1;go_wp2;go_loopw [7,23] (λ_ i wr=>∃(k:Nat)(I:iA),k<=yA t.M/\i=lA mA k/\cB (nB wr (w.1.size+1) #[oA r,lA mA t.L,I,pA aA 0 0] 94)/\cB (wr.ownsRow J.1.size 96 2 I k (tX (t.M.take k)))/\cB (eB (·=w.1.size+1) J wr)) (λ_ i _=>yA t.M-(intOf i).toNat)
 case atStart=>exact⟨0,pA aA 0 0,Oa _,rfl,X3.o,eA.ownsRow_nil _ _ _ _,eB.refl _ _⟩
 case round=>
  obtain⟨k,I,hk,rfl,m,l,b⟩:=hrel;by_cases c:k<yA t.M
  .have z:∃g,ka=bA ⟨g,0,aA⟩/\w2.1.size<=g/\g<J.1.size/\∀i(h:i<yA t.M),tC J g i (oA t.M[i].s):=by
    obtain X|X:=E.o;rw[X]at c;exact absurd c (by simp);exact X
   obtain⟨g,rfl,hg1,d0,g0⟩:=z;have hx2:=HX2.o;have i0:g≠w.1.size+1:=by omega
   have hkey:=(eA.cell?_of_block (b.o.block g d0 i0)).trans (g0 k c);have d:cB _:=(((eB.of (S:=λi=>w.1.size<=i) B3.o).trans' (b.o.mono λi _ e=>by omega)).below (Ia _) λi hi h=>by omega)
   have HQ:cB (∀W,uB w W->tC W x 1 (.map (bA lm))/\(Instr.lookup 222 (.map (bA lm)) (oA t.M[k].s) cA).run prog W=.ok (lA mA t.M[k].n) W):=λW G=>⟨(O.o W G).1,(O.o W G).2 _ (Gb c) (HSH.o k c)⟩
   have N:cB _:=LM _ _ c;have C:=b.o.size;have hB3s:=B3.o.size;have j0:=λq B=>(l.o.lt q B).1;have A:=l.o;have v5:tC wr (w.1.size+1) 2 I:=m.o.cell 2;have ag:I.ownBlock≠bA (w.1.size+1):=λe=>by have:=j0 _ e;omega
   obtain⟨q1,q2⟩:=HQ.o wr.drew d.o.drew;generalize t.M[k]=P at *;have hXw:w.1.size+1<wr.1.size:=by omega
   go_wp2_with fail;go_region_law (refine kQ (w:=wr.drew) (by rfl) _ _ (by rfl) underlying91 mR rfl (by omega) (by omega) (by rfl) A.drew (by rfl) (by rfl) (cs:=#[oA P.s,lA mA P.n]) rfl (by simp[iA.oneCell']) (by omega) (by exact C) ?_;intro gg cap w4 O4 V A4;have j:=bB (V.o.blk m.o (λe=>by have:=e.1;omega));have s5:=j.o.cell 2;have a:=j.o.free 2)
   all_goals
    obtain⟨Y,h3,h4⟩:=vQ (wr:=wr.drew) m.o V.o O4.o (by omega) 2;have U:=bB Y;have R:=bB h3;have T:=bB (b.o.trans ((eB.of (fA.refl wr.1.size wr).drew).trans' (h4.mono λi _ e=>e.imp_right And.left)));clear Y h3 h4 s5 a j O4 V A4;go_wp2;exact⟨⟨k+1,_,by omega,by go_num,bB (by simpa using U.o),by rw[N.o];exact R,T.o⟩,by simp[intOf];omega⟩
  .have ek:k=yA t.M:=by omega
   have et:t.M.take k=t.M:=Ra (by omega);rw[et,ek]at l;obtain⟨ra,rc,rfl⟩:=tF l.o;have d:cB _:=(((eB.of (S:=λi=>w.1.size<=i) B3.o).trans' (b.o.mono λi _ e=>by omega)).below (Ia _) λi hi h=>by omega)
   have u:cB (nB wr w.1.size #[oA ⟨#[]⟩,lA mA 0,pA aA 0 0,pA aA 0 0] 94):=b.o.blk Y3.o (by omega);have Z:cB _:=aB X3.o;have h3r:cB _:=b.o.size;clear et E O HSH B3 X3 Y3 HX2 b;generalize hwo:wr=wo at *;clear hwo;go_wp2_with fail;refine(HKY.o _ d.o).mono ?_;rintro e K ⟨kv,rfl,f,o⟩;obtain⟨kb,kd,rfl,y⟩:=lz f;have E:=bB y;have B5:cB _:=vB d.o o;have X5:cB (nB K (w.1.size+1) #[oA r,lA mA t.L,pA ra (yA t.M) rc,pA aA 0 0] 94):=m.o.z o;have Y5:cB (nB K w.1.size #[oA ⟨#[]⟩,lA mA 0,pA aA 0 0,pA aA 0 0] 94):=u.o.z o;have O5:cB (K.ownsRow J.1.size 96 2 (pA ra (yA t.M) rc) (yA t.M) (tX t.M)):=(eB.of (S:=λ_=>False) o).row l.o (λ_ _ e=>e);have hWo:cB (J.1.size<=wo.1.size/\wo.1.size<=K.1.size):=⟨h3r.o,o.size⟩
   clear f y o m l d u HKY;go_wp2;go_loopw [9,44] (λ_ i wr=>∃(k:Nat)(L:iA),k<=yA t.Z/\i=lA mA k/\cB (nB wr (w.1.size+1) #[oA r,lA mA t.L,pA ra (yA t.M) rc,L] 94)/\cB (wr.ownsRow K.1.size 98 2 L k (tX (t.Z.take k)))/\cB (eB (·=w.1.size+1) K wr)) (λ_ i _=>yA t.Z-(intOf i).toNat)
   case atStart=>exact⟨0,pA aA 0 0,Oa _,rfl,X5.o,eA.ownsRow_nil _ _ _ _,eB.refl _ _⟩
   case round=>
    obtain⟨k,L,hk,rfl,m,l,b⟩:=hrel;have d:cB _:=(((eB.of (S:=λi=>w.1.size<=i) B5.o).trans' (b.o.mono λi _ e=>by omega)).below (Ia _) λi hi h=>by omega)
    by_cases c:k<yA t.Z
    .have z:∃g,kb=bA ⟨g,0,aA⟩/\wo.1.size<=g/\g<K.1.size/\∀i(h:i<yA t.Z),tC K g i (oA t.Z[i].s):=by
      obtain X|X:=E.o;rw[X]at c;exact absurd c (by simp);exact X
     obtain⟨g,rfl,hg1,d0,g0⟩:=z;have h31':=Z.o;have hwo':=hWo.o;have i0:g≠w.1.size+1:=by omega
     have hkey:=(eA.cell?_of_block (b.o.block g d0 i0)).trans (g0 k c);obtain⟨q,HQ0⟩:=HLS.o k c;have HQ:cB _:=HQ0;have N:cB _:=LM _ _ c;have C:=b.o.size;have j0:=λq B=>(l.o.lt q B).1;have A:=l.o;have v5:tC wr (w.1.size+1) 3 L:=m.o.cell 3;have ag:L.ownBlock≠bA (w.1.size+1):=λe=>by have:=j0 _ e;omega
     obtain⟨q1,q2,q3,q4⟩:=HQ.o wr.drew d.o.drew;generalize t.Z[k]=P at *;have hXw:w.1.size+1<wr.1.size:=by omega
     clear HQ0;go_wp2_with fail;go_region_law (refine kQ (w:=wr.drew) (by rfl) _ _ (by rfl) underlying92 uT rfl (by omega) (by omega) (by rfl) A.drew (by rfl) (by rfl) (cs:=#[oA P.s,lA mA P.n]) rfl (by simp[iA.oneCell']) (by omega) (by exact C) ?_;intro gg cap w4 O4 V A4;have j:=bB (V.o.blk m.o (λe=>by have:=e.1;omega));have s5:=j.o.cell 3;have a:=j.o.free 3)
     all_goals
      obtain⟨Y,h3,h4⟩:=vQ (wr:=wr.drew) m.o V.o O4.o (by omega) 3;have U:=bB Y;have R:=bB h3;have T:=bB (b.o.trans ((eB.of (fA.refl wr.1.size wr).drew).trans' (h4.mono λi _ e=>e.imp_right And.left)));clear Y h3 h4 s5 a j O4 V A4;go_wp2;exact⟨⟨k+1,_,by omega,by go_num,bB (by simpa using U.o),by rw[N.o];exact R,T.o⟩,by simp[intOf];omega⟩
    .have ek2:k=yA t.Z:=by omega
     have et:t.Z.take k=t.Z:=Ra (by omega);rw[et,ek2]at l;obtain⟨sa,sc,rfl⟩:=tF l.o;have u:cB (nB wr w.1.size #[oA ⟨#[]⟩,lA mA 0,pA aA 0 0,pA aA 0 0] 94):=b.o.blk Y5.o (by omega);have a0:tC wr (w.1.size+1) 0 (oA r):=m.o.cell 0;have a1:tC wr (w.1.size+1) 1 (lA mA t.L):=m.o.cell 1;have a2:tC wr (w.1.size+1) 2 (pA ra (yA t.M) rc):=m.o.cell 2;have a3:tC wr (w.1.size+1) 3 (pA sa (yA t.Z) sc):=m.o.cell 3;have b0:tC wr w.1.size 0 (oA ⟨#[]⟩):=u.o.cell 0;have b1:tC wr w.1.size 1 (lA mA 0):=u.o.cell 1;have b2:tC wr w.1.size 2 (pA aA 0 0):=u.o.cell 2;have b3:tC wr w.1.size 3 (pA aA 0 0):=u.o.cell 3;have e0:=u.o.free 0;have e1:=u.o.free 1;have e2:=u.o.free 2;have e3:=u.o.free 3;have HOM:cB (wr.ownsRow J.1.size 96 2 (pA ra (yA t.M) rc) (yA t.M) (tX t.M)):=b.o.row O5.o (λq B e=>by have Y:=(O5.o.lt q B).1;have h2:=Z.o;omega);go_wp2;have F:eB (·=w.1.size) wr ((((wr.setCell ⟨w.1.size,0,aA⟩ (oA r)).setCell ⟨w.1.size,1,aA⟩ (lA mA t.L)).setCell ⟨w.1.size,2,aA⟩ (pA ra (yA t.M) rc)).setCell ⟨w.1.size,3,aA⟩ (pA sa (yA t.Z) sc)):=((((eB.refl (·=w.1.size) wr).setCell (Ca rfl) 0 _).setCell (Ca rfl) 1 _).setCell (Ca rfl) 2 _).setCell (Ca rfl) 3 _;have h31':=Z.o;have hwo':=hWo.o;refine bodyPost_ret (v:=.agg #[oA r,lA mA t.L,pA ra (yA t.M) rc,pA sa (yA t.Z) sc]) (by simp[results,results76,go_sem,b0,b1,b2,b3]) rfl ⟨_,_,K.1.size,rfl,qI (F.row HOM.o (λq B e=>by have:=(HOM.o.lt q B).1;omega)) (by omega),(λq B=>(O5.o.lt q B).2),by omega,by have Y:=b.o.size;have h2:=F.size;omega,F.row l.o (λq B e=>by have:=(l.o.lt q B).1;omega),((eB.of (S:=λi=>w.1.size<=i) d.o).trans' (F.mono λi _ e=>by omega)).below (Ia _) λi hi h=>by omega⟩
end
def xX{p:FuncId}{k:Nat}(f:p=26/\k=1\/p=156/\k=2\/p=165/\k=8)(v:Int)(w:eA):dF p #[zA v] w (oA (pB k v)):=by
 have b:=bB (λn d W=>jI n v W d);obtain⟨rfl,rfl⟩|⟨rfl,rfl⟩|⟨rfl,rfl⟩:=f
 .go_enter func26,ntmps26;go_wp2_with fail;refine lC (b.o 1 (by omega) _) ?_;intro c a;go_wp2;go_ret;exact⟨rfl,a⟩
 .go_enter func156,ntmps156;go_wp2_with fail;refine lC (b.o 2 (by omega) _) ?_;intro c a;go_wp2;go_ret;exact⟨rfl,a⟩
 go_enter func165,ntmps165;go_wp2_with fail;refine lC (b.o 8 (by omega) _) ?_;intro c a;go_wp2;go_ret;exact⟨rfl,a⟩
structure GE(w W:World)(fl rq:Array Value)(v:Value)(ps:List jB):Prop where
 S:nB W w.1.size fl 176
 R:nB W (w.1.size+1) rq 47
 V:W.ownsRow (w.1.size+1+1) 9 1 v (yA ps) (ps.map iA.string)
 N:uB w W
section
variable {w W W':eA} {fl rq:Array iA} {v v':iA} {ps qs:List jB}
theorem GE.z(h:GE w W fl rq v ps)(a:uB W W'):GE w W' fl rq v ps:=⟨h.S.z a,h.R.z a,hC h.V a,vB h.N a⟩
theorem GE.size(h:GE w W fl rq v ps):w.1.size+1+1<=W.1.size:=aB h.R
theorem GE.turn(h:GE w W fl rq v ps)(a:eB (λi=>w.1.size+1+1<=i/\v.ownBlock=bA i) W W')(b:W'.ownsRow (w.1.size+1+1) 9 1 v' (yA ps+yA qs) (ps.map iA.string++qs.map iA.string)):GE w W' fl rq v' (ps++qs):=
 ⟨a.blk h.S (λe=>by omega),a.blk h.R (λe=>by omega),by rw[Kb,Ld];exact b,h.N.trans (a.below h.N.size λq c e=>by omega)⟩
end
def zJ(a:List sF):List jB:=a.flatMap λx=>[uH x.B,pB 8 x.bits]
def lj(a:List sF)(k:Nat)(h:k<yA a):zJ (a.take (k+1))=zJ (a.take k)++[uH a[k].B,pB 8 a[k].bits]:=by
 unfold zJ;rw[Pa h,He];rfl
def PG:∀(a:List sF),xF (zJ a)=iE a
 |[]=>rfl
 |x::q=>by
  have e:zJ (x::q)=[uH x.B,pB 8 x.bits]++zJ q:=rfl;rw[e,lG,PG q,iE];simp[xF,qX]
def XT:∀(a:List sF),yF a<=1048576->(∀i(h:i<yA a),yA a[i].B<=255)->fG (zJ a)<=yA a*2000000
 |[],_,_=>by simp[zJ,fG]
 |x::q,d,b=>by
  have e:zJ (x::q)=[uH x.B,pB 8 x.bits]++zJ q:=rfl;have c:yA x.B<=255:=b 0 (by simp);have f:yF (x::q)=tJ x+yF q:=rfl;have k:tJ x=yA x.B+bE x.B:=rfl;have j:=XT q (by omega) (λi h=>b (i+1) (by simpa using h));have g:(uH x.B).size<=1999000:=by rw[uH,Ka,gB,lQ];omega
  rw[e,rH];simp only[fG,gB,Zb];omega
def pj(r:gG)(a:mC)(l:Nat)(w:eA)(p:pJ w a r.P)(hz:IK r<=1048576)(Z:sn r):
 dF 154 #[shV r.K,.agg #[lA mA r.K,oA r.T,oA r.R,lA mA r.U,pA a (yA r.P) l]] w (oA (sK r)):=by
 have u:IK r=r.T.size+r.R.size+yA r.P+yF r.P:=rfl;have h4:=Z.2.2.2.2.1;have hl:=Z.2.2.2.2.2.2.2.1;have hx:=Z.2.2.2.2.2.2.2.2;obtain⟨k,D,C,E,d⟩:=r;dsimp only at *;have HU:=bB (λW=>xX (Ca ⟨rfl,rfl⟩) k W);have A1:cB (∃Q,(bW k=dA/\(∃x,Q=[x]/\x.size<=1100000/\∀W,dF 218 #[oA D] W (oA x))\/bW k=cA/\Q=[])/\xF Q=(if bW k=dA then aN D else kA)):=by
  by_cases h:bW k=dA
  .exact ⟨[aN D],Ca ⟨by simpa using h,_,rfl,by rw[rF];omega,λW=>sT D W (by omega)⟩,by simp[xF,h]⟩
  exact ⟨[],La ⟨by simpa using h,rfl⟩,by simp[xF,h]⟩
 have A2:cB (∃Q,((k==1)=dA/\(∃x,Q=[x]/\x.size<=1100000/\∀W,dF 156 #[lA mA (yA d:Nat)] W (oA x))\/(k==1)=cA/\Q=[])/\xF Q=(if k=1 then pB 2 (yA d:Nat) else kA)):=by
  by_cases h:k=1
  .exact ⟨[pB 2 (yA d:Nat)],Ca ⟨by simpa using h,_,rfl,by rw[gB];omega,λW=>xX (La (Ca ⟨rfl,rfl⟩)) _ W⟩,by simp[xF,h]⟩
  exact ⟨[],La ⟨by simpa using h,rfl⟩,by simp[xF,h]⟩
 have A3:cB (∃Q,(aW k=dA/\(∃x,Q=[x]/\x.size<=1100000/\∀W,dF 168 #[oA C] W (oA x))\/aW k=cA/\Q=[])/\xF Q=(if aW k=dA then aG C else kA)):=by
  by_cases h:aW k=dA
  .exact ⟨[aG C],Ca ⟨by simpa using h,_,rfl,by rw[iF];omega,λW=>vL C W (by omega)⟩,by simp[xF,h]⟩
  exact ⟨[],La ⟨by simpa using h,rfl⟩,by simp[xF,h]⟩
 have A4:cB (∃Q,(qW k=dA/\(∃x,Q=[x]/\x.size<=1100000/\∀W,dF 165 #[lA mA E] W (oA x))\/qW k=cA/\Q=[])/\xF Q=(if qW k=dA then pB 8 E else kA)):=by
  by_cases h:qW k=dA
  .exact ⟨[pB 8 E],Ca ⟨by simpa using h,_,rfl,by rw[gB];omega,λW=>xX (La (La ⟨rfl,rfl⟩)) _ W⟩,by simp[xF,h]⟩
  exact ⟨[],La ⟨by simpa using h,rfl⟩,by simp[xF,h]⟩
 obtain⟨U,A1,E1⟩:=A1.o;obtain⟨Q2,A2,E2⟩:=A2.o;obtain⟨Q3,A3,E3⟩:=A3.o;obtain⟨Q4,A4,E4⟩:=A4.o;have HX:cB (xF ([pB 1 k]++U++Q2++zJ d++Q3++Q4)=sK ⟨k,D,C,E,d⟩):=by
  show _=_;unfold sK;simp only[lG,E1,E2,E3,E4,PG];by_cases h:k=1
  .simp[xF,h,Wa]
  simp[xF,h,h4 h,iE,Wa]
 have l1:yA U<=1:=by rcases A1 with⟨_,x,rfl,_⟩|⟨_,rfl⟩<;>simp
 have l2:yA Q2<=1:=by rcases A2 with⟨_,x,rfl,_⟩|⟨_,rfl⟩<;>simp
 have HF:=bB p;have HH:=bB hx;have l3:yA Q3<=1/\fG Q3<=1100000:=by rcases A3 with⟨_,x,rfl,h,_⟩|⟨_,rfl⟩<;>simp[fG]<;>omega
 have l4:yA Q4<=1/\fG Q4<=1100000:=by rcases A4 with⟨_,x,rfl,h,_⟩|⟨_,rfl⟩<;>simp[fG]<;>omega
 have l5:fG U<=1100000/\fG Q2<=1100000:=⟨by rcases A1 with⟨_,x,rfl,h,_⟩|⟨_,rfl⟩<;>simp[fG]<;>omega,by rcases A2 with⟨_,x,rfl,h,_⟩|⟨_,rfl⟩<;>simp[fG]<;>omega⟩
 have hsum:fG ([pB 1 k]++U++Q2++zJ d++Q3++Q4)<=140737488355328:=by
  have h:=XT d (by omega) (λi hi=>(hx i hi).1);have:=gB 1 k;simp only[rH,fG];omega
 replace A3:=bB A3;replace A4:=bB A4;unfold shV;generalize sK ⟨k,D,C,E,d⟩=RX at *;generalize pB 1 k=T at *;generalize bW k=t at *;generalize aW k=m at *;generalize qW k=n at *;generalize (k==1||k==2||k==3||k==4)=c at *;generalize (k==1)=s at *;go_enter func154,ntmps154;go_wp2_with fail;apply lC (HU.o _);intro H u;have G:cB (GE w (H.alloc (vA #[oA T] 9)) #[qA t,qA s,qA m,qA n,qA c] #[lA mA k,oA D,oA C,lA mA E,pA a (yA d) l] (pA (bA ⟨H.1.size,0,aA⟩) 1 1) [T]):=
  ⟨((((nB.new _ _ _).alloc _).z u).alloc _),by have:=((nB.new (w.alloc (vA #[qA t,qA s,qA m,qA n,qA c] 176)) #[lA mA k,oA D,oA C,lA mA E,pA a (yA d) l] 47).z u).alloc (vA #[oA T] 9);simpa using this,⟨rfl,La ⟨H.1.size,1,_,rfl,by have:=u.size;simpa using this,heap_alloc_new _ _,Ia _,by simp[maxLen],rfl,rfl⟩⟩,vB (vB (vB zB zB) u) zB⟩
 go_upto_region 2 with fail;generalize H.alloc (vA #[oA T] 9)=W at *;generalize H.1.size=g at *;generalize iA.agg #[qA t,qA s,qA m,qA n,qA c]=SV;obtain⟨K,L,M,O,s4⟩:=G.o.S.c5;have r0:=G.o.R.c5;go_upto_if 13 with fail;go_cut [5] (λv wx=>∃g A,v=.slice (bA ⟨g,0,aA⟩) (yA ([T]++U)) A/\GE w wx #[qA t,qA s,qA m,qA n,qA c] #[lA mA k,oA D,oA C,lA mA E,pA a (yA d) l] v ([T]++U))
 case first=>
  obtain⟨p,x,rfl,zx,y⟩|⟨p,rfl⟩:=A1
  .rw[p]at K |-
   replace y:=bB y;go_wp2_with fail;apply lC (y.o _);intro H u;replace G:=bB (G.o.z u);go_wp2_with(at_builtin;refine pQ rfl _ _ rfl underlying30 xK rfl (by omega) (by omega) (by rfl) G.o.V (by rfl) (by rfl) rfl (by simp[iA.oneCell']) (by first|omega|(simp<;>omega)) G.o.size ?_;intro g2 c2 w2 h1 h2;have G2:=bB (G.o.turn (qs:=[x]) h2.o h1.o));go_wp2;go_meet;exact⟨g2,c2,by simp,by simpa using G2.o⟩
  rw[p]at K |-
  go_wp2;go_meet;exact⟨g,_,by rw[Cd]<;>rfl,by simpa using G.o⟩
 obtain⟨g,A,rfl,G⟩:=hcut;replace G:=bB G;rename eA=>W;obtain⟨K,L,M,O,s4⟩:=G.o.S.c5;have r0:=G.o.R.c5;go_upto_if 21 with fail;go_cut [5] (λv wx=>∃g A,v=.slice (bA ⟨g,0,aA⟩) (yA (([T]++U)++Q2)) A/\GE w wx #[qA t,qA s,qA m,qA n,qA c] #[lA mA k,oA D,oA C,lA mA E,pA a (yA d) l] v (([T]++U)++Q2))
 case first=>
  obtain⟨p,x,rfl,zx,y⟩|⟨p,rfl⟩:=A2
  .rw[p]at L |-
   replace y:=bB y;go_wp2_with fail;apply lC (y.o _);intro H u;replace G:=bB (G.o.z u);go_wp2_with(at_builtin;refine pQ rfl _ _ rfl underlying30 xK rfl (by omega) (by omega) (by rfl) G.o.V (by rfl) (by rfl) rfl (by simp[iA.oneCell']) (by first|omega|(simp<;>omega)) G.o.size ?_;intro g2 c2 w2 h1 h2;have G2:=bB (G.o.turn (qs:=[x]) h2.o h1.o));go_wp2;go_meet;exact⟨g2,c2,by simp,by simpa using G2.o⟩
  rw[p]at L |-
  go_wp2;go_meet;exact⟨g,_,by rw[Cd]<;>rfl,by simpa using G.o⟩
 obtain⟨g,A,rfl,G⟩:=hcut;replace G:=bB G;rename eA=>W;have K:=G.o.S.c5;have r0:=G.o.R.c5;have hps:yA ([T]++U++Q2)<=3:=by simp;omega
 generalize hP:[T]++U++Q2=P at *;clear K A1 A2 l1 l2;go_wp2;go_loopw [5,7,32] (λout _ i wr=>∃(j g cv z:Nat),j<=yA d/\i=lA mA j/\out=pA (bA ⟨g,0,aA⟩) z cv/\z<=3+2*j/\cB (z=yA (P++zJ (d.take j)))/\cB (GE w wr #[qA t,qA s,qA m,qA n,qA c] #[lA mA k,oA D,oA C,lA mA E,pA a (yA d) l] (pA (bA ⟨g,0,aA⟩) z cv) (P++zJ (d.take j)))) (λ_ _ i _=>yA d-(intOf i).toNat)
 case atStart=>exact⟨0,g,A,yA P,Oa _,rfl,rfl,by omega,bB (by simp[zJ]),bB (by simpa[zJ]using G.o)⟩
 case round=>
  obtain⟨j,g,cv,z,hj,rfl,rfl,hz2,HZ,G⟩:=hrel;rename eA=>W;obtain⟨K,L,M,O,s4⟩:=G.o.S.c5;have r0:=G.o.R.c5;by_cases J:j<yA d
  .obtain ⟨b,o,a1,q1,rfl,u,c0,c1,p1⟩:=(HF.o.z G.o.N).at J;have hll:=(HH.o j J).1;have hbs:=SU d j J;have hbe:tJ d[j]=yA d[j].B+bE d[j].B:=rfl;have HK:=bB (λW'(hW:uB W W')=>qr a1 q1 d[j].B W' (p1.z hW) (λi hi=>by have:=qx d[j].B i hi;omega) hll);have HB:=bB (λW'=>xX (La (La ⟨rfl,rfl⟩)) d[j].bits W');have E2:=bB (show P++zJ (d.take (j+1))=P++zJ (d.take j)++_ by rw[lj d j J,Nd]);generalize P++zJ (d.take j)=ps at *;have hgl:=G.o.V.lt g rfl;have HV:cB (W.ownsRow (w.1.size+1+1) 9 1 (pA (bA ⟨g,0,aA⟩) z cv) z (ps.map iA.string)):=bB (by have:=G.o.V;rw[<-HZ.o]at this;exact this);clear p1 hbe hbs;generalize uH d[j].B=SK at *;generalize pB 8 d[j].bits=S8 at *;generalize yA d[j].B=ll at *;generalize d[j].bits=bi at *;have X:=bB (nB.new W #[pA a1 ll q1,lA mA bi] 111);have HW:=bB (wF W (vA #[pA a1 ll q1,lA mA bi] 111));replace G:=bB (G.o.z HW.o);replace HV:=bB (hC HV.o HW.o);go_upto_region 9 with fail;generalize W.alloc (vA #[pA a1 ll q1,lA mA bi] 111)=V at *;replace HK:=bB (λW'(h:uB V W')=>HK.o W' (vB HW.o h));have hX:=aB X.o;obtain⟨x0,x1⟩:=X.o.c2;have hw2:=G.o.size;generalize W.1.size=BX at *;go_region_held3 (λF=>F.cell? ⟨BX,0,aA⟩=bA (pA a1 ll q1)/\F.cell? ⟨BX,1,aA⟩=bA (lA mA bi))
    (first
     |go_keep
     |exact⟨(k5 0).trans x0,(k5 1).trans x1⟩
     |exact⟨((f.alloc f.size _).cell hX).trans x0,((f.alloc f.size _).cell hX).trans x1⟩
     |exact⟨(f.cell hX).trans x0,(f.cell hX).trans x1⟩
     |exact⟨(Y.cell hX).trans x0,(Y.cell hX).trans x1⟩)
    (first
     |(go_at_call 219;apply lC (HK.o _ (fA.refl _ V).drew);intro H hb1;have Y:uB V H:=(fA.refl _ V).drew.trans hb1)
     |(go_at_call 165;apply lC (HB.o _);intro w2 hb2;have f:uB V w2:=Y.trans (hb2.mono Y.size))
     |(refine bT (by rfl) _ _ (by rfl) underlying30 xK rfl (by omega) (by omega) (B:=w.1.size+1+1) (by rfl) (by exact hC (hC HV.o f) zB) [oA SK,oA S8] (by rfl) rfl (by exact La ⟨_,rfl,eA.news_of_block (cs:=#[oA SK,oA S8]) (heap_alloc_new _ _)⟩) (by simp[iA.oneCell']) (by omega) (by have:=f.size;simp;omega) ?_;intro g5 c5 w5 ho5 I hk5 hg5;have k5:∀i,w5.cell? ⟨BX,i,aA⟩=V.cell? ⟨BX,i,aA⟩:=λi=>(eA.cell?_of_block (hk5 BX (by have:=f.size;simp;omega) (by omega))).trans ((f.alloc f.size (vA #[oA SK,oA S8] 9)).cell hX);have G5:cB (GE w w5 #[qA t,qA s,qA m,qA n,qA c] #[lA mA k,oA D,oA C,lA mA E,pA (bA ⟨b,o,aA⟩) (yA d) l] (pA (bA ⟨g5,0,aA⟩) (z+2) c5) (ps++[SK,S8])):=bB ((G.o.z (vB f (wF w2 (vA #[oA SK,oA S8] 9)))).turn (qs:=[SK,S8]) ⟨I.os,I.tape,I.output,I.size,λq hq hn=>hk5 q hq λe=>hn ⟨by omega,by subst e;rfl⟩⟩ (by rw[<-HZ.o];exact ho5))))
   go_wp2;exact⟨⟨j+1,g5,c5,z+2,by omega,by go_num,rfl,by omega,bB (by rw[E2.o,HZ.o];simp),bB (by rw[E2.o];exact G5.o)⟩,by simp[intOf];omega⟩
  obtain rfl:j=yA d:=by omega
  rw[Rb]at HZ G;generalize P++zJ d=ps at *;replace HZ:=HZ.o;subst HZ;go_upto_if 47 with fail;go_cut [5] (λv wx=>∃g A,v=.slice (bA ⟨g,0,aA⟩) (yA (ps++Q3)) A/\GE w wx #[qA t,qA s,qA m,qA n,qA c] #[lA mA k,oA D,oA C,lA mA E,pA a (yA d) l] v (ps++Q3))
  case first=>
   obtain⟨p,x,rfl,zx,y⟩|⟨p,rfl⟩:=A3.o
   .rw[p]at M |-
    replace y:=bB y;go_wp2_with fail;apply lC (y.o _);intro H u;replace G:=bB (G.o.z u);go_wp2_with(at_builtin;refine pQ rfl _ _ rfl underlying30 xK rfl (by omega) (by omega) (by rfl) G.o.V (by rfl) (by rfl) rfl (by simp[iA.oneCell']) (by first|omega|(simp<;>omega)) G.o.size ?_;intro g2 c2 w2 h1 h2;have G2:=bB (G.o.turn (qs:=[x]) h2.o h1.o));go_wp2;go_meet;exact⟨g2,c2,by simp,by simpa using G2.o⟩
   rw[p]at M |-
   go_wp2;go_meet;exact⟨g,_,by rw[Cd]<;>rfl,by simpa using G.o⟩
  obtain⟨g,A,rfl,G⟩:=hcut;replace G:=bB G;rename eA=>W;obtain⟨K,L,M,O,s4⟩:=G.o.S.c5;have r0:=G.o.R.c5;have hl3:yA (ps++Q3)<=1100:=by simp;omega
  generalize ps++Q3=p3 at *;go_upto_if 55 with fail;go_cut [5] (λv wx=>∃g A,v=.slice (bA ⟨g,0,aA⟩) (yA (p3++Q4)) A/\GE w wx #[qA t,qA s,qA m,qA n,qA c] #[lA mA k,oA D,oA C,lA mA E,pA a (yA d) l] v (p3++Q4))
  case first=>
   obtain⟨p,x,rfl,zx,y⟩|⟨p,rfl⟩:=A4.o
   .rw[p]at O |-
    replace y:=bB y;go_wp2_with fail;apply lC (y.o _);intro H u;replace G:=bB (G.o.z u);go_wp2_with(at_builtin;refine pQ rfl _ _ rfl underlying30 xK rfl (by omega) (by omega) (by rfl) G.o.V (by rfl) (by rfl) rfl (by simp[iA.oneCell']) (by first|omega|(simp<;>omega)) G.o.size ?_;intro g2 c2 w2 h1 h2;have G2:=bB (G.o.turn (qs:=[x]) h2.o h1.o));go_wp2;go_meet;exact⟨g2,c2,by simp,by simpa using G2.o⟩
   rw[p]at O |-
   go_wp2;go_meet;exact⟨g,_,by rw[Cd]<;>rfl,by simpa using G.o⟩
  obtain⟨g,A,rfl,G⟩:=hcut;replace G:=bB G;rename eA=>W;have K:=G.o.S.c5;have r0:=G.o.R.c5;have hl4:yA (p3++Q4)<=1200:=by simp;omega
  generalize p3++Q4=p4 at *;obtain⟨hcv,hg,hcs⟩:=bH G.o.V;have HJ:=bB (uI g _ A p4 W rfl hcs hg hcv (by omega) hsum);rw[HX.o]at HJ;go_wp2_with fail;apply lC HJ.o;intro w9 hb9;have B9:=bB (vB G.o.N hb9);go_wp2;go_ret;exact⟨rfl,B9.o⟩
