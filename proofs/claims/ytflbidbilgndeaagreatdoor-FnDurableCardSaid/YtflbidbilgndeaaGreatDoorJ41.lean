import Derived.Test.YtflbidbilgndeaaGreatDoorJ34
import Derived.Test.YtflbidbilgndeaaGreatDoorJ36
import Derived.Test.YtflbidbilgndeaaGreatDoorJ40
import Derived.RangeFuncBox
set_option maxRecDepth 100000
set_option maxHeartbeats 8000000
set_option linter.defProp false
open Option renaming some->bA,none->aA
open ByteArray renaming empty->kA
namespace Go.Proofs.YtflbidbilgndeaaGreatDoor
open Go renaming World->eA,Calls->gA,Value->iA,TypeId->jA
open Value renaming agg->tA,slice->pA,int->lA,pointer->sA,string->oA
open Ending renaming returned->uA
open IntKind renaming i64->mA
open Go.RowKit Tryz
section
open Go.Maps
attribute [local go_sem] jH xH xN nB.drewI qN.drewI qN.new qN.alloc qN.alloc2
def wJ.disk{w:eA}{A F:Nat->Prop}{a b a2:mC}{N M:wC}(h:wJ w A a b N)(i:oJ w F a2 M.d.fs)(j:M.ts=N.ts)(g:∀x,F x->¬A x):wJ w (λx=>A x\/F x) a2 b M:=by
 obtain⟨k,T,l,f,m,e,n⟩:=h.parts;exact⟨F,T,i,by rw[j];exact f,λx c=>La c,λx c=>Ca (e x c),λx c h=>g x c (e x h)⟩
def aAi(c:iC)(a b:mC)(p q:Nat)(N:wC)(w:eA)(h:aOw w a b N)(O:sI w)(hG:(NA c N).2=0):
 gA prog 162 #[rE c,tA (sC a p b q N)] w λe o=>eu (NA c N) w e o:=by
 have j:=h.bulk;obtain⟨hc,hu,k,h9,ht,i,l,E⟩:=aPg hG;have d:eF N.d.fs N.d.c N.d.k N.d.cr N.d.fl=true:=by
  cases hd:eF N.d.fs N.d.c N.d.k N.d.cr N.d.fl with
  |true=>rfl
  |false=>rw[aKu hd]at l;cases (Prod.mk.inj l).2
 obtain⟨e1,_,_,e4⟩:=ZW h.bulk;have G:(N.l.last==999999)=false:=by simpa using h9
 have I:=AH k;have J:N.l.last<999999:=by omega
 have G:=nP.2 ht;have z:=bB (λW=>aV c W);have T:cB (∀W,uB w W->gA prog 24 #[tA (sC a p b q N)] W λe o=>∃a p b q,e=uA (tA (sC a p b q N))/\wJ o (λx=>W.1.size<=x/\x<o.1.size) a b N/\uB W o):=λW n=>mX a b p q N W (h.files.z n) h.fit.len (h.tens.z n) (by omega) (CH (by omega));have R:=bB (λW a p b q=>pZ a b p q N W);have HES:=bB (λW b' cb'(n:xC W b' N.ts)=>LQ N.lsn N.now b' cb' N.ts W n e1 (by omega) e4);have X:=bB (λW=>WZ N.l W);have HDV:=bB (λW a' G(n:tB W a' N.d.fs)=>@oS a' G _ _ _ _ _ N.d.dn _ d W n h.fit.H (by have:=h.fit.len;unfold maxLen;omega) h.fit.sum);have Y:=bB (λW a' G(n:tB W a' N.d.fs)=>BZ a' G N.d.fs N.d.c N.d.k N.d.cr N.d.fl N.d.dn W n h.fit.len);have S:=bB (λG W B P D(n:aO G W B P D N.d N.l)=>UH (rI N.lsn N.now N.ts) n k J l);have Z:=bB O;have U:=bB d;rw[hc]at z;rw[show(N.up&&!N.deg)=true from hu]at R;rw[k]at X;rw[E];clear h O j e1 e4 E hc hu k l d h9 ht I hG;unfold rE at *;generalize rI N.lsn N.now N.ts=tx at *;have d:=vN;go_enter func162,ntmps162;go_wp2_with fail;apply lC (z.o _);intro w1 j;have P:=bB ((NP.new (w:=w) (c:=c) (cs:=sC a p b q N)).z j);clear j z;have t:=P.o.cells rfl;have k:=yG a p b q N 42;have l:=qF a p b q N;go_wp2_with fail;refine(T.o _ P.o.B).mono ?_;rintro e w2 ⟨a2,c2,L,O,rfl,m,j⟩;have d:=P.o.lt;replace P:=bB (P.o.z j);replace m:=bB m;clear j k l t T;have t:=P.o.cells rfl;go_upto_region 4 with fail;refine DP (C:=λW=>Code.wp prog _ _ _ W) P.o.N ?_;intro d h d;replace P:=bB (P.o.put h d);replace m:=bB ((m.o.turned d (λx J _ e=>by omega)).mono (A':=λx=>w.1.size+1+1<x/\x<w2.1.size) (λx J=>by omega));have G:=d.size;clear h d t;have t:=P.o.cells rfl;have k:=yG a2 c2 L O N 42;have l:=qF a2 c2 L O N;go_wp2_with((first
  |(go_at_call 226;refine(R.o _ _ _ _ _).mono ?_)
  |(go_at_call 193;refine(HES.o _ _ _ m.o.tens).mono ?_)
  |(go_at_call 227;refine(X.o _).mono ?_)
  |(go_at_call 18;refine(HDV.o _ _ _ m.o.files).mono ?_))<;>(rintro e y ⟨rfl,j⟩;replace P:=bB (P.o.z j);replace m:=bB (m.o.z j);replace G:=Ua G j.size;clear j t;have t:=P.o.cells rfl))
 have A:=bB (λo(j:uB y o)=>(P.o.z j).N);have V:=bB (λo(j:uB y o)=>m.o.files.z j);go_region_held3 (λo=>nB o (w.1.size+1) (sC a2 c2 L O N) 42)
  (first|with_reducible exact A.o _ Q|with_reducible exact A.o _ iD.drew|with_reducible exact A.o _ (vB Q zB))
  (first|(go_at_call 19;refine(Y.o _ a2 c2 (V.o _ iD.drew)).mono ?_;rintro e r ⟨D,v,rfl,d,h⟩;have Q:uB y r:=vB iD.drew h))
 refine BH (C:=λW=>Exit.then _ _ _ _ W) ?_;intro I H G;have WS:=bB (show aO y I y.1.size r.1.size D N.d N.l from⟨Z.o.z P.o.B,vB Q H,Ia _,Q.size,G,⟨v,d.z H⟩,U.o⟩);have I:=Q.size;clear d h H G A V Y Z U Q t;go_wp2_with fail;apply lC (S.o _ _ _ _ _ WS.o);intro K u;have h:=u.below;have d:=P.o.lt;replace P:=bB (P.o.z h);replace m:=bB (m.o.z h);have G:=bB u.wr;have d:=h.size;obtain⟨v1,I⟩:=u.drive;obtain⟨a1,c1,rfl,d⟩:=mH I.row;have Y:=bB (d.toA (Ia _));have U:=bB (λW(n:uB K W)=>nV D 102 a1 i.fs.length c1 i.c i.k i.cr i.fl i.dn W (I.blk.z n));clear h u I d S WS;have A:=bB (λs(J:eB (·=w.1.size+1) K s)=>show tC s r.1.size 0 (.pointer (yB D))/\tC s r.1.size 1 (zA (N.l.last+1))/\tC s r.1.size 2 (zA (N.l.last+1))/\tC s r.1.size 3 (zA 0) from(J.blk G.o (by omega)).c4);have t:=G.o.c4;go_wp2_with fail;go_region_held3 (λs=>s.cell? (dB r.1.size 0)=bA (.pointer (yB D))/\s.cell? (dB r.1.size 1)=bA (zA (N.l.last+1))/\s.cell? (dB r.1.size 2)=bA (zA (N.l.last+1))/\s.cell? (dB r.1.size 3)=bA (zA 0))
  ((refine A.o _ ?_;first|with_reducible exact G|with_reducible exact eB.drew (eB.refl _ _)|with_reducible exact f|with_reducible exact g))
  (first|(go_at_call 21;apply lC (U.o _ iD.drew);intro h d;have F:uB K h:=vB iD.drew d;have G:eB (·=w.1.size+1) K h:=eB.of F;have f:=((((((G.setCell (Ca rfl) 0 (pA a1 i.fs.length c1)).setCell (Ca rfl) 1 (zA i.c)).setCell (Ca rfl) 2 (zA i.k)).setCell (Ca rfl) 3 (zA i.cr)).setCell (Ca rfl) 4 (zA i.fl)).setCell (Ca rfl) 5 (.bool i.dn));have g:=(((f.setCell (Ca rfl) 6 (zA (N.l.last+1))).setCell (Ca rfl) 7 (zA (N.l.last+1))).setCell (Ca rfl) 8 (zA 0));have h:=bB (P.o.z F).N;have I:=nB.n14 h.o;have Z:=h.o.frees))
 clear I Z f g G A U t d;refine fg (C:=λW=>Exit.then _ _ _ _ W) h.o ?_;intro I G d;have U:=F.size;have U:=d.size;have U:=bB ((((m.o.z F).turned d (λx J _ e=>by omega)).disk (M:=⟨i,⟨N.l.last+1,N.l.last+1,0⟩,N.now,N.ts,N.lsn,N.deg,N.up⟩) ((Y.o.z F).turned d (λx J _ e=>by omega)) rfl (λx J e=>by omega)).mono (A':=λx=>w.1.size+1+1<x/\x<K.1.size) (λx J=>by omega));replace P:=bB ((P.o.z F).put (show nB I _ (sC a1 c1 L O ⟨i,⟨N.l.last+1,N.l.last+1,0⟩,N.now,N.ts,N.lsn,N.deg,N.up⟩) _ from G) d);have t:=P.o.cells rfl;clear G d h F k l;have d:=yG a1 c1 L O ⟨i,⟨N.l.last+1,N.l.last+1,0⟩,N.now,N.ts,N.lsn,N.deg,N.up⟩ 42;have h:=qF a1 c1 L O ⟨i,⟨N.l.last+1,N.l.last+1,0⟩,N.now,N.ts,N.lsn,N.deg,N.up⟩;dsimp only at d h;go_wp2;exact bh rfl rfl rfl rfl P.o rfl U.o (by omega)
end
section
open Go.Maps
def aCz(V:wC×Int)(D:Nat)(r:gG)(h:mC)(i:Nat)(c:iC)(l:Nat)(w:eA)(v:iA)(e:Ending)(d:eA):Prop:=
 ∃a f b g,e=uA v/\nB d D (NJ r h i c a f b g V.1 l) 87/\wJ d (λx=>w.1.size<=x/\x<d.1.size) a b V.1/\eB (·=D) w d
def gj{D l:Nat}{r:gG}{s a b:mC}{J i j:Nat}{c:iC}{N:wC}{w:eA}{p:mC}{capr:Nat}{rs:List xD}(h:nB w D (NJ r s J c a i b j N l) 87)(I:aHw w a b N p rs)(C:uG w)(n:sI w)(F:lH c=true)(G:ee N=true)(B:uj c N rs):
 gA prog 159 #[.pointer (yB D),pA p rs.length capr] w λe R=>aCz (eG c N rs) D r s J c l w (zA (mU (eG c N rs).1 (eG c N rs).2)) e R:=by
 have u:=bB (λi j capr=>qh c a b i j N p capr rs w.drew ⟨I.files,I.fit,I.tens,I.recs,I.bulk,I.rng,I.lsn⟩ C n F G B);have K:=bB (λW v k y m M x(h:nB W D (NJ r s J c a i b j N l) 87)=>SQ (a':=v) (ca':=k) (b':=y) (cb':=m) (M:=M) (x:=x) h);have U:=aB h;have Z:=oI h;have H:=bB h;have T:=qF a i b j N;clear h I C n F G B;unfold eu NaV rE at u;generalize eG c N rs=V at *;go_enter func159,ntmps159;go_upto_region 1 with fail;go_region_law (first
  |(refine eE (f:=224) (args:=#[tA #[lA mA c.w,lA mA c.tl,lA mA c.ml,lA mA c.sh,lA mA c.ha,lA mA c.sg],tA (sC a i b j N),pA p rs.length capr]) rfl (by go_simp) ?_;refine(u.o _ _ _).mono ?_;rintro e S ⟨L,P,O,Q,rfl,A,E⟩;have J:=bB A;have t:cB (uB w S):=vB iD.drew E;clear A E;refine⟨_,rfl,?_⟩)
  |(refine eE (f:=161) (args:=#[sA (bA ⟨D,0,aA⟩),tA (sC L P O Q V.1),lA mA V.2]) rfl (by go_simp) ?_;apply lC (K.o _ _ _ _ _ _ _ (H.o.z t.o));rintro Y ⟨z,d⟩;have o:=bB (Vc z d);clear z d;refine⟨_,rfl,?_⟩))
 all_goals
  go_wp2;go_ret;have X:=o.o.2.size;exact⟨_,_,_,_,rfl,o.o.1,(J.o.turned o.o.2 (λg q _ e=>by have:=(show w.1.size<=g from q.1);omega)).mono λg q=>⟨q.1,by omega⟩,(eB.of t.o).trans' o.o.2⟩
end
section
open Go.Maps
section
variable {w0 w W:eA} {D Lo:Nat} {r:gG} {sa:mC} {sc:Nat} {c:iC} {a:mC} {ca:Nat} {b:mC} {cb:Nat} {N:wC} {l m M:Nat} {B A:Nat→Prop}
theorem qV.made(h:qV Lo w0 w D r sa sc c a ca b cb N l m M B A)(f:eB B w W){V:wC×Int}{v:iA}{s:jB}{e:Ending}{w1 w2:eA}(o:aCz V D r sa sc c l W v e w1)(d:uB w1 w2):FK (V.1,s) D r sa sc c l Lo w0 (uA (oA s)) w2:=by
 obtain⟨j,p,n,q,_,u,x,i⟩:=o;have z:=d.size;have y:=h.base.size;have F:=h.lo;have E:=f.size;exact⟨j,p,n,q,rfl,u.z d,(x.z d).mono λg C=>by omega,((h.base.trans (f.below y λk t e=>by have:=h.old k (Ca e);omega)).trans (i.below (by omega) λk t e=>by have:=h.old k (La e);omega)).trans (d.mono (by have:=i.size;omega))⟩
theorem qV.nap(h:qV Lo w0 w D r sa sc c a ca b cb N l m M B A)(j:eB B w W){f:mC}{d:List xD}(k:tI W f d)(n:d.length+gD d<=240000)(e:JK d):aHw W a b N f d:=
 have i:=h.node.turned j λg e _=>(h.apart g e).1.1
 ⟨i.files,h.fit,i.tens,k,by have:=h.bulk;omega,e,h.lsn⟩
theorem qV.tabs(h:qV Lo w0 w D r sa sc c a ca b cb N l m M B A)(d:eB B w W):uG W/\sI W:=
 have q:=h.base.trans (d.below h.base.size λk f e=>by have:=h.old k (Ca e);omega)
 ⟨h.utab.z q,h.pow.z q⟩
theorem qV.log1(h:qV Lo w0 w D r sa sc c a ca b cb N l m M B A)(x:xD)(o:x.T.size+x.X.size<=200000)(j:0<=x.K/\x.K<=9)(k:wU x.U)(f:uj c N [x]){g:Nat}{T:jA}(d:uB w W)(i:nB W g #[zA x.K,oA x.T,oA x.X,zA x.U] T):
 gA prog 159 #[.pointer (yB D),pA (yB g) 1 1] W λe n=>aCz (eG c N [x]) D r sa sc c l W (zA (mU (eG c N [x]).1 (eG c N [x]).2)) e n:=
 gj (rs:=[x]) (h.dsk.z d) (h.nap (eB.of d) (SF i) (by simp[gD];omega) (cl j k)) (h.tabs (eB.of d)).1 (h.tabs (eB.of d)).2 h.gd.cf h.gd.b f
theorem zm(h:qV Lo w0 w D r sa sc c a ca b cb N l m M B A)(k:r.K=2):
 gA prog 86 #[.pointer (yB D)] w λe o=>FK (xP c N r) D r sa sc c l Lo w0 e o:=by
 rw[aDj (x:=⟨2,kA,kA,r.U⟩) h.st h.gd.dg h.gd.up (Ca ⟨k,rfl⟩)];have n:=bB (λW e f g V v s(d:uB w W)=>h.made (eB.of d) (V:=V) (v:=v) (s:=s) (e:=e) (w1:=f) (w2:=g));have i:=bB (h.log1 ⟨2,kA,kA,r.U⟩ (by simp) (by simp) h.req.2.2 h.gd.tk (wF w _) (nB.new w _ 137));have p:=oI h.dsk;clear h k;generalize eG c N _=V at *;dsimp only at i;go_enter func86,ntmps86;go_wp2_with(first
  |(go_at_call 159;refine i.o.mono ?_;rintro e f j;have O:=bB j;obtain⟨_,_,_,_,rfl,_⟩:=j;clear p)
  |(go_at_call 26;apply lC (pH _ _);intro g d;replace d:=bB d))
 go_ret;exact n.o _ _ _ _ _ _ _ zB O.o d.o
theorem pd(h:qV Lo w0 w D r sa sc c a ca b cb N l m M B A)(o:r.K=3)(p:bD r.T=true)(q:r.T.size+r.R.size<=200000):
 gA prog 87 #[.pointer (yB D)] w λe y=>FK (xP c N r) D r sa sc c l Lo w0 e y:=by
 rw[aDj (x:=⟨3,r.T,r.R,r.U⟩) h.st h.gd.dg h.gd.up (La ⟨o,p,rfl⟩)];have t:=bB (λW e i j V v s(d:uB w W)=>h.made (eB.of d) (V:=V) (v:=v) (s:=s) (e:=e) (w1:=i) (w2:=j));have k:=bB (λW g(d:uB w W)(u:nB W g _ 137)=>h.log1 ⟨3,r.T,r.R,r.U⟩ q (by simp) h.req.2.2 h.gd.lm d u);have z:=oI h.dsk;clear h o p q;generalize eG c N _=V at *;dsimp only at k;go_enter func87,ntmps87;go_upto_region 1 with fail;go_region_law (first
  |(refine eE (f:=159) (args:=#[sA (bA ⟨D,0,aA⟩),pA (bA ⟨w.1.size,0,aA⟩) 1 1]) rfl (by go_simp) ?_;refine(k.o _ _ (vB iD.drew zB) (nB.new _ _ _)).mono ?_;rintro e i n;have O:=bB n;obtain⟨_,_,_,_,rfl,_⟩:=n;refine⟨_,rfl,?_⟩)
  |(refine eE (f:=26) (args:=#[lA mA (mU V.1 V.2)]) rfl (by go_simp) ?_;apply lC (pH _ _);intro j d;replace d:=bB d;refine⟨_,rfl,?_⟩))
 all_goals
  go_wp2;go_ret;exact t.o _ _ _ _ _ _ _ (vB iD.drew zB) O.o d.o
theorem zc(h:qV Lo w0 w D r sa sc c a ca b cb N l m M B A)(F:r.K=4):
 gA prog 88 #[.pointer (yB D)] w λe P=>FK (xP c N r) D r sa sc c l Lo w0 e P:=by
 rw[aOz h.gd.dg F];have u:=bB (aAi c a b ca cb N w.drew ⟨h.node.files,h.fit,h.node.tens,h.bulk,h.rng,h.lsn,h.now⟩ (h.pow.z h.base.drew) h.gd.ck);have I:=bB (λW y j z k M x(i:uB w W)=>SQ (a':=y) (ca':=j) (b':=z) (cb':=k) (M:=M) (x:=x) (h.dsk.z i));have H:=bB (λW e o q V v s(i:uB w W)=>h.made (eB.of i) (V:=V) (v:=v) (s:=s) (e:=e) (w1:=o) (w2:=q));have U:=oI h.dsk;have R:=aB h.dsk;have Q:=qF a ca b cb N;clear h F;unfold eu NaV rE at u;generalize NA c N=V at *;go_enter func88,ntmps88;go_upto_region 1 with fail;go_region_law (first
  |(refine eE (f:=162) (args:=#[tA #[lA mA c.w,lA mA c.tl,lA mA c.ml,lA mA c.sh,lA mA c.ha,lA mA c.sg],tA (sC a ca b cb N)]) rfl (by go_simp) ?_;refine u.o.mono ?_;rintro e o ⟨J,L,K,O,rfl,E,i⟩;have G:=bB E;have t:cB (uB w o):=vB iD.drew i;clear E i;refine⟨_,rfl,?_⟩)
  |(refine eE (f:=161) (args:=#[sA (bA ⟨D,0,aA⟩),tA (sC J L K O V.1),lA mA V.2]) rfl (by go_simp) ?_;apply lC (I.o _ _ _ _ _ _ _ t.o);rintro q ⟨C,d⟩;have n:=bB (Vc C d);clear C d;refine⟨_,rfl,?_⟩)
  |(refine eE (f:=26) (args:=#[lA mA (mU V.1 V.2)]) rfl (by go_simp) ?_;apply lC (pH _ _);intro T i;replace i:=bB i;refine⟨_,rfl,?_⟩))
 all_goals
  go_wp2;go_ret;have S:=n.o.2.size;exact H.o w (uA undef) _ _ _ undef _ iD ⟨_,_,_,_,rfl,n.o.1,(G.o.turned n.o.2 (λg p _ e=>by have:=(show w.1.size<=g from p.1);omega)).mono λg p=>⟨p.1,by omega⟩,(eB.of t.o).trans' n.o.2⟩ i.o
end
end
def ZC(w:eA)(B:Nat)(a:mC)(l:List jB):Prop:=
 l=[]\/∃g o b t,a=bA (dB g o)/\B<=g/\w.heap[g]?=bA (.cells b t (0,0))/\∀i(h:i<l.length),w.cell? (dB g (o+i))=bA (oA l[i])
def nb{w:eA}{B:Nat}{e:jA}{a:mC}{c:Nat}{l:List jB}(h:w.ownsRow B e 1 (pA a l.length c) l.length (l.map iA.string)):ZC w B a l:=by
 obtain⟨_,p⟩|⟨g,f,b,k,n,m,_,_,q,d⟩:=h.2;exact Ca (Nb.1 p);simp only[iA.slice.injEq]at k;refine La ⟨g,0,b,e,k.1,n,m,λi o=>?_⟩;rw[Ya,cell_of_row w g i b _ _ m];have j:(b.toList.take (l.length*1))[i]?=(l.map iA.string)[i]?:=by rw[d]
 rw[Jb (by omega)]at j;rw[<-Yd,j];simp[Va o]
section
def LG(d:jB)(p:Nat)(h:p<=d.size):(d.extract p d.size).size=d.size-p:=by rw[Je];omega
def WN{d:jB}(h:jJ d):(d.extract 8 (8+mG d)).size=mG d/\1<=mG d/\8+mG d<=d.size:=by
 obtain⟨c,a,_,b,_⟩:=h;exact⟨XS (by omega),a,by omega⟩
attribute [local go_sem] Oper.semAt_some
def iK(d:jB):Nat->Nat->List (jB×Nat)
 |0,_=>[]
 |n+1,p=>haveI:=frD (d.extract p d.size);if jJ (d.extract p d.size) then
  let q:=(d.extract p d.size).extract 8 (8+mG (d.extract p d.size))
  (q,p+8+q.size):: iK d n (p+8+q.size) else []
def gm(x:jB×Nat):Array iA:=#[oA x.1,zA (x.2:Nat)]
def fH(D:Nat)(W c:eA):Prop:=∀b o,W.heap[b]?=bA o->(b=D\/∃a,o=.cells a 374 (0,0))->c.heap[b]?=bA o
def fH.trans{D:Nat}{A B C:eA}(h:fH D A B)(k:fH D B C):fH D A C:=λb o c a=>k b o (h b o c a) a
def QR{A B:eA}(h:uB A B):A.grownBy B aA:=⟨h.os,h.tape,h.output,h.size,λk a _=>h.block k a⟩
def jX{β:Type}{N:Nat}{J:β->eA->Prop}(h:AbidesFrom N J){s:β}{A B:eA}(b:J s A)(a:uB A B):J s B:=h s A B aA b (QR a) (λ_ e=>by cases e)
def qb(n l D V:Nat)(hn:1<=n)(d:jB)(hd:d.size<=1000000000)(J Q:List (jB×Nat)->eA->Prop)(r:AbidesFrom V J)
(hY:∀pre x W,J pre W->pre.length<(iK d (d.size+1) 0).length->YieldAt Fence.wide (n-1) prog l (gm x) W λe w=>
  (e=uA (.bool true)/\J (pre++[x]) w/\fH D W w)\/(e=uA (.bool false)/\Q (pre++[x]) w))
(W:eA)(hD:nB W D #[oA d] 9)(h0:J [] W):
 CallsIn Fence.wide n prog 285 #[.func (.yield l) #[] #[],sA (bA ⟨D,0,aA⟩)] W λe w=>(∃v,e=uA v)/\
  ((∃U,U=iK d (d.size+1) 0/\J U w)\/(∃pre,True/\Q pre w)):=by
 refine callsIn_of_wp func285 rfl trivial ?_ rfl;simp only[ntmps285,List.size_toArray,Zb,List.length_nil,Nat.reduceAdd,Nat.reduceSub,Array.replicate_succ,Array.replicate_zero,List.push_toArray,List.append_toArray,Mb,Sd];gi_wp2_with fail;refine⟨trivial,(callsIn_wide.2 (MA _)).mono ?_⟩;rintro e P ⟨b,a,rfl,K,T,j,s⟩;have Z:cB (nB P b a 374/\nB P D #[oA d] 9/\J [] P):=⟨T,hD.z s,jX r h0 s⟩
 have X:cB _:=j;clear T j s K;gi_wp2;gi_loopw [4,5,6] (λc _ _ wr=>∃(k p:Nat)(pre:List (jB×Nat)),k+pre.length=d.size+1/\9*pre.length<=p/\p<=d.size/\c=lA mA p/\cB (pre++iK d k p=iK d (d.size+1) 0)/\cB (nB wr b a 374/\nB wr D #[oA d] 9/\J pre wr)) (λc _ _ _=>d.size-(intOf c).toNat)
 case atStart=>exact⟨d.size+1,0,[],by simp,by simp,Oa _,rfl,rfl,Z⟩
 case round=>
  obtain⟨k,p,pre,hk,hy,hp,rfl,u,hw⟩:=hrel;obtain⟨m,rfl⟩:∃m,k=m+1:=⟨k-1,by omega⟩
  have z:=LG d p hp;have hcd:wr.cell? ⟨D,0,aA⟩=bA (oA d):=by rw[hw.o.2.1.cell];rfl
  have hpi:(p:Int)<=(d.size:Int):=by omega
  have g:cB (∀x,nB x b a 374->gA prog 286 #[oA (d.extract p d.size),sA (bA ⟨b,0,aA⟩)] x λe G=>(∃q,e=uA (.tuple #[oA q,.bool (frB (d.extract p d.size))])/\(jJ (d.extract p d.size)->q=(d.extract p d.size).extract 8 (8+mG (d.extract p d.size))))/\uB x G):=
   λx O=>iq _ b a x (by rw[z];unfold maxLen;omega) O X.o
  by_cases i:jJ (d.extract p d.size)
  .have hl:=WN i;have h:cB (iK d (m+1) p=((d.extract p d.size).extract 8 (8+mG (d.extract p d.size)),p+8+((d.extract p d.size).extract 8 (8+mG (d.extract p d.size))).size):: iK d m (p+8+((d.extract p d.size).extract 8 (8+mG (d.extract p d.size))).size)):=by show _=_;rw[iK,Ma i]
   rw[aLu i]at g;have y:cB (∀x,nB x b a 374->dF 286 #[oA (d.extract p d.size),sA (bA ⟨b,0,aA⟩)] x (.tuple #[oA ((d.extract p d.size).extract 8 (8+mG (d.extract p d.size))),.bool true])):=
    λx O=>(g.o x O).mono (by rintro e G ⟨⟨q,rfl,hq⟩,hb⟩;rw[hq i];exact⟨rfl,hb⟩)
   clear g i;obtain⟨L,hl2,M⟩:=hl;rw[z]at M;generalize mG (d.extract p d.size)=N at *;generalize (d.extract p d.size).extract 8 (8+N)=q at *;gi_wp2_with fail;refine⟨trivial,(callsIn_wide.2 (y.o _ hw.o.1)).mono ?_⟩;rintro e F ⟨rfl,f⟩;have o:cB (nB F b a 374/\nB F D #[oA d] 9/\J pre F):=⟨hw.o.1.z f,hw.o.2.1.z f,jX r hw.o.2.2 f⟩
   clear f;have C:pre.length<(iK d (d.size+1) 0).length:=by
    rw[<-u.o,h.o];simp
   obtain⟨fn,tmps,assign,R,E,hR⟩:=hY pre (q,p+8+q.size) F o.o.2.2 C;simp only[gm]at E;have S:((p+8+q.size:Nat):Int)=(p:Int)+(8+(N:Int)):=by rw[L];omega
   rw[S]at E;gi_wp2;refine hR.mono ?_;rintro e I (⟨rfl,A,t⟩|⟨rfl,B⟩)
   .have Y:cB (nB I b a 374/\nB I D #[oA d] 9/\J (pre++[(q,p+8+q.size)]) I):=⟨t b _ o.o.1 (La ⟨_,rfl⟩),t D _ o.o.2.1 (Ca rfl),A⟩
    clear A t;gi_wp2;go_roundw
    case rel=>
     refine⟨m,p+8+q.size,pre++[(q,p+8+q.size)],by simp;omega,by simp;omega,by omega,by rw[S],?_,Y⟩;show _=_;rw[<-u.o,h.o];simp
    case measure=>simp[intOf];omega
   gi_wp2;refine bodyPost_ret (results_none rfl _ _ _) rfl ?_;exact⟨⟨_,rfl⟩,.inr ⟨_,trivial,B⟩⟩
  have h:cB (iK d (m+1) p=[]):=by show _=_;rw[iK,Ja i]
  rw[ia i]at g;clear i;gi_wp2_with fail;refine⟨trivial,(callsIn_wide.2 (g.o _ hw.o.1)).mono ?_⟩;rintro e F ⟨⟨q,rfl,_⟩,f⟩;have H:cB _:=jX r hw.o.2.2 f;clear f;gi_wp2;refine bodyPost_ret (results_none rfl _ _ _) rfl ?_;refine⟨⟨_,rfl⟩,.inl ⟨pre,?_,H.o⟩⟩;rw[<-u.o,h.o];simp
def aAe(n:Nat)(d:jB)(w:eA):
 CallsIn Fence.wide n prog 244 #[oA d] w λe a=>e=uA (.func (.func 285) #[] #[.pointer (yB w.1.size)])/\a=w.alloc (.cells #[oA d] 9):=by
 refine callsIn_of_wp func244 rfl trivial ?_ rfl;simp only[ntmps244,List.size_toArray,Zb,List.length_nil,Nat.reduceAdd,Nat.reduceSub,Array.replicate_succ,Array.replicate_zero,List.push_toArray,List.append_toArray,Mb,Sd];gi_wp2;go_ret;exact⟨rfl,rfl⟩
def ae(n D:Nat)(h:1<=n)(d:jB)(g:d.size<=1000000000)(w:eA)(c:nB w D #[oA d] 9):
 SeqStopsK Fence.wide n prog 285 #[.pointer (yB D)] gm (fH D) (λi=>i=iK d (d.size+1) 0) (λ_=>True) (iK d (d.size+1) 0).length w:=λl J a W e j _ f b=>
 qb n l D W.1.size h d g J a j f W (c.z e) b
end
section
attribute [local go_sem] Oper.semAt_some
def bz{W:eA}{n:Nat}{e:jA}{z k:Nat}{v:iA}{a:List iA}(h:W.ownsRow n e z v k a):W.drew.ownsRow n e z v k a:=h
def aEo(a:List (jB×Nat)):Nat:=(a.getLast?.map (·.2)).getD 0
def zr(a:List (jB×Nat))(x:jB×Nat):aEo (a++[x])=x.2:=by simp[aEo]
def du(a:List (jB×Nat)):List jB:=a.map (·.1)
def we(d:jB):∀n p,du (iK d n p)=(DE d n p).1
 |0,_=>rfl
 |n+1,p=>by
  rw[iK,DE];split;simp only[du,Fc];congr 1;exact we d n _;rfl
def wg(d:jB):∀n p,((iK d n p).getLast?.map (·.2)).getD p=(DE d n p).2
 |0,_=>rfl
 |n+1,p=>by
  rw[iK,DE];split
  .rw[<-wg d n];simp only[List.getLast?_cons];cases h:(iK d n _).getLast?<;>simp
  rfl
def YH(d:jB):∀n p,p<=d.size->9*(iK d n p).length<=d.size-p
 |0,_,_=>by simp[iK]
 |n+1,p,c=>by
  rw[iK];split
  .rename_i b;obtain⟨e,f,a⟩:=WN b;rw[LG d p c]at a;have:=YH d n (p+8+((d.extract p d.size).extract 8 (8+mG (d.extract p d.size))).size) (by omega);simp only[Zb];omega
  simp
def fH.below{D:Nat}{A B:eA}(h:uB A B):fH D A B:=λb _ a _=>(h.block b (Vb.1 a).1).trans a
def fH.put{D:Nat}{w:eA}(f:D<w.1.size)(W:eA)(l:Nat)(o d:Obj)(j:w.1.size<=l)(h:W.heap[l]?=bA o)(i:o.isCells=false)(_:o.isWalk=false):fH D W (W.putObj l d):=by
 intro b x c g;have a:b≠l:=by
  obtain rfl|⟨e,rfl⟩:=g;omega;rintro rfl;rw[c]at h;cases h
  cases i
 exact((grownBy_putObj' W l d).block b (Vb.1 c).1 (by simpa using a)).trans c
def qS{W:eA}{n m:Nat}{e:jA}{z k:Nat}{v:iA}{c:List iA}(h:W.ownsRow n e z v k c)(l:m<=n):W.ownsRow m e z v k c:=by
 refine⟨h.1,?_⟩;obtain d|⟨g,a,b,f,i,j⟩:=h.2;exact Ca d;exact La ⟨g,a,b,f,Ua l i,j⟩
def fH.grown{D n:Nat}{e:jA}{W d:eA}{v:iA}{k:Nat}{r:List iA}(c:W.ownsRow n e 1 v k r)(q:W.grownBy d v.ownBlock)(t:D<n)(p:e≠374):fH D W d:=by
 intro b o a m;refine(q.block b (Vb.1 a).1 λh=>?_).trans a;obtain⟨rfl,_⟩|⟨g,i,j,rfl,s,l,_⟩:=c.2;simp[iA.ownBlock]at h;obtain rfl:b=g:=by simpa[iA.ownBlock]using h
 obtain rfl|⟨f,rfl⟩:=m;omega;rw[l]at a;simp at a;exact p a.2
def fH.setBox{D B:Nat}{t:jA}{W:eA}{v:iA}(i:Boxed W B t v)(f:D≠B)(h:t≠374)(j:iA):fH D W (W.setCell (dB B 0) j):=by
 intro b o a g;refine(Below.heap_setCell _ _ _ b (λd=>?_)).trans a;have e:b=B:=d;subst e;obtain rfl|⟨c,rfl⟩:=g;exact f rfl;rw[show W.heap[b]?=_ from i]at a;simp at a;exact h a.2
def fm{W:eA}{B C:Nat}{t:jA}{v:iA}(h:Boxed W B t v)(a:B≠C)(b:iA):Boxed (W.setCell (dB C 0) b) B t v:=(Below.heap_setCell _ _ _ B (λe=>a e)).trans h
def oh{β:Type}(N B:Nat)(t:jA)(f:β->iA):OwnFrom N (λs W=>Boxed W B t (f s)):=λs A C h b d g=>b.kept d (λe=>by
 obtain⟨_,o,a,c⟩:=g B e.symm;rw[show A.heap[B]?=_ from b]at a;cases a
 cases c)
def qc(F:Fence)(n:Nat)(a:cB (F=Fence.wide))(d:jB)(w:eA):
 CallsIn F n prog 244 #[oA d] w λe b=>e=uA (.func (.func 285) #[] #[.pointer (yB w.1.size)])/\b=w.alloc (.cells #[oA d] 9):=by
 have e:=a.o;subst e;exact aAe n d w
def UK(F:Fence)(n:Nat)(a:cB (F=Fence.wide))(D:Nat)(f:1<=n)(d:jB)(c:d.size<=1000000000)(w:eA)(b:nB w D #[oA d] 9):
 SeqStopsK F n prog 285 #[.pointer (yB D)] gm (fH D) (λg=>g=iK d (d.size+1) 0) (λ_=>True) (iK d (d.size+1) 0).length w:=by
 have e:=a.o;subst e;exact ae n D f d c w b
theorem ir(F:Fence)(n:Nat)(R:cB (F=Fence.wide))(t:F.fn 198)(E:F.fn 244)(u:F.fn 285)(N:F.round=none)(hn:3<=n)(d:ByteArray)(w:World)(O:d.size<=1000000000):
 CallsIn F n prog 198 #[.string d] w λe w'=>∃a i,e=.returned (.tuple #[.slice a (jV d).1.length i,.int .i64 ((jV d).2:Nat)])/\ZC w' w.1.size a (jV d).1/\Below w.1.size w w':=by
 obtain⟨i0,hi,n0,o0,p0⟩:=lW;have HI:cB _:=hi;clear hi;have s:=YH d (d.size+1) 0 (Oa _);have h1:1<=n:=by omega
 refine callsIn_of_wp_marks func198 rfl t ?_ N;simp only[ntmps198,List.size_toArray,Zb,List.length_nil,Nat.reduceAdd,Nat.reduceSub,Array.replicate_succ,Array.replicate_zero,List.push_toArray,List.append_toArray,Mb,Sd];gi_wp2_with (gi_at_call 244;refine(qc F (n-1) R d _).mono ?_;rintro e w' ⟨rfl,rfl⟩);have Y:Boxed (((w.alloc (.cells #[.slice none 0 0] 30)).alloc (.cells #[.int .i64 0] 3)).alloc (.cells #[.string d] 9)) w.1.size 30 (.slice none 0 0):=((Boxed.new w _ _).alloc _).alloc _;have Z:Boxed (((w.alloc (.cells #[.slice none 0 0] 30)).alloc (.cells #[.int .i64 0] 3)).alloc (.cells #[.string d] 9)) (w.1.size+1) 3 (.int .i64 0):=by
  have h:=(Boxed.new (w.alloc (.cells #[.slice none 0 0] 30)) 3 (.int .i64 0)).alloc (.cells #[.string d] 9);rwa [World.size_alloc]at h
 have X:nB (((w.alloc (.cells #[.slice none 0 0] 30)).alloc (.cells #[.int .i64 0] 3)).alloc (.cells #[.string d] 9)) (w.1.size+1+1) #[.string d] 9:=by
  have h:=Boxed.new ((w.alloc (.cells #[.slice none 0 0] 30)).alloc (.cells #[.int .i64 0] 3)) 9 (.string d);rwa [World.size_alloc,World.size_alloc]at h
 have y:Below w.1.size w (((w.alloc (.cells #[.slice none 0 0] 30)).alloc (.cells #[.int .i64 0] 3)).alloc (.cells #[.string d] 9)):=(((Below.refl _ w).alloc (Ia _) _).alloc (by simp) _).alloc (by simp;omega) _;have P:(((w.alloc (.cells #[.slice none 0 0] 30)).alloc (.cells #[.int .i64 0] 3)).alloc (.cells #[.string d] 9)).1.size=w.1.size+3:=by simp
 generalize (((w.alloc (.cells #[.slice none 0 0] 30)).alloc (.cells #[.int .i64 0] 3)).alloc (.cells #[.string d] 9))=W0 at *;refine wpIn_rangeFunc_ownF N h1 (gf:=285) (lb:=#[.pointer (some ⟨w.1.size+1+1,0,none⟩)]) rfl u (enters_of func285 (by kernel_rfl) rfl)
  (UK F (n-1) R (w.1.size+1+1) (by omega) d O W0 X) fH.trans (fH.put (by omega)) iD (λ_=>rfl)
  (λpre W=>(∃v,Boxed W w.1.size 30 v/\W.ownsRow (w.1.size+3) 9 1 v pre.length ((du pre).map Value.string)/\True)/\Boxed W (w.1.size+1) 3 (.int .i64 (aEo pre:Nat))/\Below w.1.size w W/\w.1.size+3<=W.1.size)
  (λ_ _ _=>False)
  (OwnFrom.and (Own.from (holdsRow_own (w.1.size+3) w.1.size 30 9 1 (λpre=>pre.length) (λpre=>(du pre).map Value.string) (λ_ _=>True)) _) (OwnFrom.and (oh _ _ _ _) (OwnFrom.and (ownFrom_below (Ia _) (by omega)) (λ_ _ _ _ O hg _=>Ua O hg.size))))
  (λ_ _ _ _ _ O _ _=>O)
  ⟨⟨_,Y,World.ownsRow_nil _ _ _ _,trivial⟩,Z,y,Nat.le_of_eq P.symm⟩
  (λx=>{ tmps:=#[.string d,undef,.slice none 0 0,.int .i64 0,.pointer (some ⟨w.1.size,0,none⟩),.pointer (some ⟨w.1.size+1,0,none⟩),.string x.1,.int .i64 (x.2:Nat),.string d,.func (.func 285) #[] #[.pointer (some ⟨w.1.size+1+1,0,none⟩)],.string x.1,.int .i64 (x.2:Nat),undef,undef,undef,undef,undef,undef,undef],defers:=[] }) ?assign ?body ?done ?stop
 case assign=>
  intro l x W K G;simp only[gm];gi_wp2;exact G
 case body=>
  rintro l pre x W ⟨⟨v,Q,b,_⟩,m,T,b0⟩ k0;have hc:=Q.cell;have hM:pre.length<1000000000:=by omega
  clear k0 s Y Z X y P R u E t;have A:cB (Boxed W (w.1.size+1) 3 (.int .i64 (aEo pre:Nat))):=m;clear m;gi_wp2_with (gi_at_builtin;refine wpListIn_append_own _ rfl _ _ 30 rfl (w.1.size+3) 9 i0 (.string ByteArray.empty) 1 16 underlying30 HI.o n0 o0 p0 rfl (by decide) _ _ _ rfl (b.alloc _) ⟨W.1.size,0,none⟩ 1 1 [.string x.1] rfl rfl (cell_one_new _ _ _) (by simp[Value.oneCell']) (by unfold maxLen;omega) (by omega) (by simp;omega) ?_;intro v' w1 f k _;obtain⟨C,j,rfl⟩:=ownsRow_succ f;refine cB.o ?_);have U:=Q.appended (by decide) (qS b (Nat.le_add_right w.1.size 3)) T.size (Ia _) (qS f (Nat.le_add_right w.1.size 3)) k;have a0:=(A.o.alloc _).kept k (A.o.not_row (by decide) b);obtain⟨q,l0,hp3,I,J⟩:=U;have o:=fm a0 (by omega:w.1.size+1≠w.1.size) (.slice (some ⟨C,0,none⟩) (pre.length+1) j);have hc1:=q.cell;have hf1:=q.frozen;have c0:=o.cell;have hf2:=o.frozen;have r:cB (KeepsOthers W (w1.setCell ⟨w.1.size,0,none⟩ (.slice (some ⟨C,0,none⟩) (pre.length+1) j))/\Below w.1.size W (w1.setCell ⟨w.1.size,0,none⟩ (.slice (some ⟨C,0,none⟩) (pre.length+1) j))):=⟨I,J⟩
  clear I J;refine bB ?_;gi_wp2;have M:=f.kept (grownBy_setCell' w1 w.1.size (.slice (some ⟨C,0,none⟩) (pre.length+1) j)) (.inr (q.not_row (by decide) f).symm);have m0:=M.kept (grownBy_setCell' _ (w.1.size+1) (.int .i64 (x.2:Nat))) (.inr (Boxed.not_row o (by decide) M).symm);have d0:fH (w.1.size+1+1) W (W.alloc (.cells #[.string x.1] 9)):=fH.below (wF W _);have e0:=d0.trans (fH.grown (b.alloc _) k (by omega) (by decide));have g0:=e0.trans (fH.setBox q (by omega) (by decide) (.slice (some ⟨C,0,none⟩) (pre.length+1) j));have j0:=g0.trans (fH.setBox o (by omega) (by decide) (.int .i64 (x.2:Nat)));have H:=r.o.2.setCell (p:=⟨w.1.size+1,0,none⟩) (Gf _) (.int .i64 (x.2:Nat));refine⟨r.o.1.trans (KeepsOthers.setCell _ _ _),j0,⟨_,fm l0 (by omega) _,?_,trivial⟩,?_,T.trans H,?_⟩
  .have B:(du (pre++[x])).map Value.string=(du pre).map Value.string++[Value.string x.1]:=by simp[du]
   have S:(pre++[x]).length=pre.length+1:=by simp
   rw[B,S];exact m0
  .rw[zr];exact Boxed.set _ o
  .exact Ua b0 H.size
 case done=>
  rintro D ys W hD rfl ⟨⟨v,Q,b,_⟩,m,T,_⟩ G;have B:du (iK d (d.size+1) 0)=(jV d).1:=we d _ 0;have S:aEo (iK d (d.size+1) 0)=(jV d).2:=wg d _ 0;have e3:(iK d (d.size+1) 0).length=(jV d).1.length:=by rw[<-B];simp[du]
  rw[B,e3]at b;rw[S]at m;clear s B S e3 Y Z X y R u E t;obtain⟨L,V⟩:∃L,cB ((jV d).1=L):=⟨_,rfl⟩
  obtain⟨z,HZ⟩:∃z,cB ((jV d).2=z):=⟨_,rfl⟩
  rw[V.o]at b;rw[HZ.o]at m;obtain⟨a,i,rfl⟩:∃a i,v=.slice a L.length i:=by
   obtain⟨rfl,h0⟩|⟨g,i,cur,rfl,_⟩:=b.2
   .exact ⟨none,0,by rw[h0]⟩
   .exact ⟨_,_,rfl⟩
  have HO:cB (W.ownsRow w.1.size 9 1 (.slice a L.length i) L.length (L.map Value.string)):=qS b (Nat.le_add_right _ _);have hc:=Q.cell;have c0:=m.cell;clear b Q m;gi_wp2;gi_region;all_goals gi_wp2
  all_goals refine⟨by simp,.inl ⟨_,_,rfl,run_takeDeferred (show W.drew.heap[D]?=_ from G),?_⟩⟩
  all_goals refine⟨.tuple #[.slice a L.length i,.int .i64 (z:Nat)],by simp[results,results198,go_sem],a,i,by rw[V.o,HZ.o],?_,?_⟩
  all_goals first
   |rw[V.o];exact nb (ownsRow_putObj (bz HO.o) _ (show W.drew.heap[D]?=_ from G) rfl)
   |exact(T.drew).trans (belowK_b (w:=w) (Ia _) W.drew D _ _ (by omega) (show W.drew.heap[D]?=_ from G) rfl rfl)
 case stop=>
  rintro D c pre W _ _ h _;exact h.elim
def aq(d:jB)(w:eA)(f:d.size<=1000000000):
 gA prog 198 #[oA d] w λe c=>∃a b,e=uA (.tuple #[.slice a (jV d).1.length b,zA ((jV d).2:Nat)])/\ZC c w.1.size a (jV d).1/\uB w c:=
 (callsIn_wide (n:=5)).1 (ir Fence.wide 5 rfl trivial trivial trivial rfl (by omega) d w f)
end
