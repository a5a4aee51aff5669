import Derived.Test.YtejebmgbenmimaaGreatDoorJ35
import Derived.Test.YtejebmgbenmimaaGreatDoorJ45
set_option maxRecDepth 100000
set_option maxHeartbeats 8000000
open ByteArray renaming empty->pA
namespace Go.Proofs.YtejebmgbenmimaaGreatDoor
open Go renaming World->jA,Calls->lA
open Value renaming agg->yA,slice->uA,int->qA,string->tA
open Ending renaming returned->zA
open IntKind renaming i64->sA
open Go.RowKit Tryz
section
open Go.Maps
attribute [local go_sem] lG jH uK rB.drewI dL.drewI dL.new dL.alloc dL.alloc2
theorem aEj{C:jA->Prop}{w:jA}{O:Nat}{q r s u v x y z A l m n o p a b c d e f g B i:Value}{t:TypeId}(h:rB w O #[q,r,s,u,v,x,y,z,A,l,m,n,o,p] t)
(k:∀j,rB j O #[a,b,c,d,e,f,g,B,i,l,m,n,o,p] t->jB (·=O) w j->C j):C (((((((((w.setCell (iB O 0) a).setCell (iB O 1) b).setCell (iB O 2) c).setCell (iB O 3) d).setCell (iB O 4) e).setCell (iB O 5) f).setCell (iB O 6) g).setCell (iB O 7) B).setCell (iB O 8) i):=
 k _ (by have:=(((((((((h.set 0 a).set 1 b).set 2 c).set 3 d).set 4 e).set 5 f).set 6 g).set 7 B).set 8 i);simpa using this) ((((((((((jB.refl (·=O) w).setCell (Ca rfl) 0 a).setCell (Ca rfl) 1 b).setCell (Ca rfl) 2 c).setCell (Ca rfl) 3 d).setCell (Ca rfl) 4 e).setCell (Ca rfl) 5 f).setCell (Ca rfl) 6 g).setCell (Ca rfl) 7 B).setCell (Ca rfl) 8 i)
theorem pJ.disk{w:jA}{A F:Nat->Prop}{a b a2:nC}{N M:vC}(h:pJ w A a b N)(i:fJ w F a2 M.d.fs)(j:M.ts=N.ts)(g:∀x,F x->¬A x):pJ w (λx=>A x\/F x) a2 b M:=by
 obtain⟨k,T,l,f,m,e,n⟩:=h.parts;exact⟨F,T,i,by rw[j];exact f,λx c=>La c,λx c=>Ca (e x c),λx c h=>g x c (e x h)⟩
theorem TI(c:kC)(a b:nC)(p q:Nat)(N:vC)(w:jA)(h:aKs w a b N)(J:kI w)(O:(IV c N).2=0):
 lA prog 9 #[oE c,yA (sC a p b q N)] w λe o=>MF (IV c N) w e o:=by
 have j:=h.bulk;obtain⟨hc,hu,k,h9,ht,i,l,E⟩:=aLa O;have d:rE N.d.fs N.d.c N.d.k N.d.cr N.d.fl=true:=by
  cases hd:rE N.d.fs N.d.c N.d.k N.d.cr N.d.fl with
  |true=>rfl
  |false=>rw[aGn hd]at l;cases (Prod.mk.inj l).2
 obtain⟨e1,_,_,e4⟩:=WX h.bulk;have m:(N.l.last==999999)=false:=by simpa using h9
 have m:=aZ k;have I:N.l.last<999999:=by omega
 have G:=vO.2 ht;have z:=gB (λW=>sT c W);have T:fB (∀W,zB w W->lA prog 26 #[yA (sC a p b q N)] W λe o=>∃a p b q,e=zA (yA (sC a p b q N))/\pJ o (λx=>W.1.size<=x/\x<o.1.size) a b N/\zB W o):=λW n=>fW a b p q N W (h.files.z n) h.fit.len (h.tens.z n) (by omega) (cU (by omega));have R:=gB (λW a p b q=>kY a b p q N W);have HES:=gB (λW b' cb'(n:uC W b' N.ts)=>JO N.lsn N.now b' cb' N.ts W n e1 (by omega) e4);have X:=gB (λW=>TU N.l W);have HDV:=gB (λW a' G(n:wB W a' N.d.fs)=>@qR a' G _ _ _ _ _ N.d.dn _ d W n h.fit.H (by have:=h.fit.len;unfold maxLen;omega) h.fit.sum);have Y:=gB (λW a' G(n:wB W a' N.d.fs)=>AH a' G N.d.fs N.d.c N.d.k N.d.cr N.d.fl N.d.dn W n h.fit.len);have S:=gB (λG W B P D(n:xO G W B P D N.d N.l)=>QR (bH N.lsn N.now N.ts) n k I l);have Z:=gB J;have U:=gB d;rw[hc]at z;rw[show(N.up&&!N.deg)=true from hu]at R;rw[k]at X;rw[E];clear h J j e1 e4 E hc hu k l d h9 ht m O;unfold oE at *;generalize bH N.lsn N.now N.ts=tx at *;have d:=cK;go_enter func9,ntmps9;go_wp2_with fail;apply oC (z.o _);intro w1 j;have P:=gB ((NP.new (w:=w) (c:=c) (cs:=sC a p b q N)).z j);clear j z;have t:=P.o.cells rfl;have k:=rF a p b q N 42;have l:=vE a p b q N;go_wp2_with fail;refine(T.o _ P.o.B).mono ?_;rintro e w2 ⟨a2,c2,L,O,rfl,m,j⟩;have d:=P.o.lt;replace P:=gB (P.o.z j);replace m:=gB m;clear j k l t T;have t:=P.o.cells rfl;go_upto_region 4 with fail;refine bW (C:=λW=>Code.wp prog _ _ _ W) P.o.N ?_;intro d h d;replace P:=gB (P.o.put h d);replace m:=gB ((m.o.turned d (λx J _ e=>by omega)).mono (A':=λx=>w.1.size+1+1<x/\x<w2.1.size) (λx J=>by omega));have G:=d.size;clear h d t;have t:=P.o.cells rfl;have k:=rF a2 c2 L O N 42;have l:=vE a2 c2 L O N;go_wp2_with((first
  |(go_at_call 32;refine(R.o _ _ _ _ _).mono ?_)
  |(go_at_call 33;refine(HES.o _ _ _ m.o.tens).mono ?_)
  |(go_at_call 34;refine(X.o _).mono ?_)
  |(go_at_call 20;refine(HDV.o _ _ _ m.o.files).mono ?_))<;>(rintro e y ⟨rfl,j⟩;replace P:=gB (P.o.z j);replace m:=gB (m.o.z j);replace G:=Ua G j.size;clear j t;have t:=P.o.cells rfl))
 have A:=gB (λo(j:zB y o)=>(P.o.z j).N);have V:=gB (λo(j:zB y o)=>m.o.files.z j);go_region_held3 (λo=>rB o (w.1.size+1) (sC a2 c2 L O N) 42)
  (first|with_reducible exact A.o _ Q|with_reducible exact A.o _ jD.drew|with_reducible exact A.o _ (xB Q aC))
  (first|(go_at_call 21;refine(Y.o _ a2 c2 (V.o _ jD.drew)).mono ?_;rintro e r ⟨D,v,rfl,d,h⟩;have Q:zB y r:=xB jD.drew h))
 refine WA (C:=λW=>Exit.then _ _ _ _ W) ?_;intro I H o;have G:=gB (show xO y I y.1.size r.1.size D N.d N.l from⟨Z.o.z P.o.B,xB Q H,Ia _,Q.size,o,⟨v,d.z H⟩,U.o⟩);have I:=Q.size;clear d h H o A V Y Z U Q t;go_wp2_with fail;apply oC (S.o _ _ _ _ _ G.o);intro K u;have h:=u.below;have d:=P.o.lt;replace P:=gB (P.o.z h);replace m:=gB (m.o.z h);have o:=gB u.wr;have d:=h.size;obtain⟨v1,I⟩:=u.drive;obtain⟨a1,c1,rfl,d⟩:=pH I.row;have Y:=gB (d.toA (Ia _));have U:=gB (λW(n:zB K W)=>dU D 113 a1 i.fs.length c1 i.c i.k i.cr i.fl i.dn W (I.blk.z n));clear h u I d S G;have A:=gB (λs(J:jB (·=w.1.size+1) K s)=>show gD s r.1.size 0 (.pointer (cC D))/\gD s r.1.size 1 (dB (N.l.last+1))/\gD s r.1.size 2 (dB (N.l.last+1))/\gD s r.1.size 3 (dB 0) from(J.blk o.o (by omega)).c4);have t:=o.o.c4;go_wp2_with fail;go_region_held3 (λs=>s.cell? (iB r.1.size 0)=some (.pointer (cC D))/\s.cell? (iB r.1.size 1)=some (dB (N.l.last+1))/\s.cell? (iB r.1.size 2)=some (dB (N.l.last+1))/\s.cell? (iB r.1.size 3)=some (dB 0))
  ((refine A.o _ ?_;first|with_reducible exact o|with_reducible exact jB.drew (jB.refl _ _)|with_reducible exact f|with_reducible exact g))
  (first|(go_at_call 23;apply oC (U.o _ jD.drew);intro h d;have F:zB K h:=xB jD.drew d;have o:jB (·=w.1.size+1) K h:=jB.of F;have f:=((((((o.setCell (Ca rfl) 0 (uA a1 i.fs.length c1)).setCell (Ca rfl) 1 (dB i.c)).setCell (Ca rfl) 2 (dB i.k)).setCell (Ca rfl) 3 (dB i.cr)).setCell (Ca rfl) 4 (dB i.fl)).setCell (Ca rfl) 5 (.bool i.dn));have g:=(((f.setCell (Ca rfl) 6 (dB (N.l.last+1))).setCell (Ca rfl) 7 (dB (N.l.last+1))).setCell (Ca rfl) 8 (dB 0));have h:=gB (P.o.z F).N;have G:=rB.n14 h.o;have I:=h.o.frees))
 clear G I f g o A U t d;refine aEj (C:=λW=>Exit.then _ _ _ _ W) h.o ?_;intro G o d;have I:=F.size;have I:=d.size;have I:=gB ((((m.o.z F).turned d (λx J _ e=>by omega)).disk (M:=⟨i,⟨N.l.last+1,N.l.last+1,0⟩,N.now,N.ts,N.lsn,N.deg,N.up⟩) ((Y.o.z F).turned d (λx J _ e=>by omega)) rfl (λx J e=>by omega)).mono (A':=λx=>w.1.size+1+1<x/\x<K.1.size) (λx J=>by omega));replace P:=gB ((P.o.z F).put (show rB G _ (sC a1 c1 L O ⟨i,⟨N.l.last+1,N.l.last+1,0⟩,N.now,N.ts,N.lsn,N.deg,N.up⟩) _ from o) d);have t:=P.o.cells rfl;clear o d h F k l;have d:=rF a1 c1 L O ⟨i,⟨N.l.last+1,N.l.last+1,0⟩,N.now,N.ts,N.lsn,N.deg,N.up⟩ 42;have h:=vE a1 c1 L O ⟨i,⟨N.l.last+1,N.l.last+1,0⟩,N.now,N.ts,N.lsn,N.deg,N.up⟩;dsimp only at d h;go_wp2;exact XY rfl rfl rfl rfl P.o rfl I.o (by omega)
end
section
open Go.Maps
def yf(V:vC×Int)(D:Nat)(r:fH)(h:nC)(i:Nat)(c:kC)(l:Nat)(w:jA)(v:Value)(e:Ending)(d:jA):Prop:=
 ∃a f b g,e=zA v/\rB d D (KW r h i c a f b g V.1 l) 93/\pJ d (λx=>w.1.size<=x/\x<d.1.size) a b V.1/\jB (·=D) w d
theorem bf{D l:Nat}{r:fH}{s a b:nC}{o i j:Nat}{c:kC}{N:vC}{w:jA}{p:nC}{capr:Nat}{rs:List tE}(h:rB w D (KW r s o c a i b j N l) 93)(I:aDx w a b N p rs)(C:iH w)(n:kI w)(F:mH c=true)(G:ZQ N=true)(B:iw c N rs):
 lA prog 179 #[.pointer (cC D),uA p rs.length capr] w λe R=>yf (fG c N rs) D r s o c l w (dB (iT (fG c N rs).1 (fG c N rs).2)) e R:=by
 have u:=gB (λi j capr=>OE c a b i j N p capr rs w.drew ⟨I.files,I.fit,I.tens,I.recs,I.bulk,I.rng,I.lsn⟩ C n F G B);have K:=gB (λW v k y m M x(h:rB W D (KW r s o c a i b j N l) 93)=>PO (a':=v) (ca':=k) (b':=y) (cb':=m) (M:=M) (x:=x) h);have U:=eB h;have Z:=iI h;have H:=gB h;have T:=vE a i b j N;clear h I C n F G B;unfold MF NaV oE at u;generalize fG c N rs=V at *;go_enter func179,ntmps179;go_upto_region 1 with fail;go_region_law (first
  |(refine jF (f:=12) (args:=#[yA #[qA sA c.w,qA sA c.tl,qA sA c.ml,qA sA c.sh,qA sA c.ha,qA sA c.sg],yA (sC a i b j N),uA p rs.length capr]) rfl (by go_simp) ?_;refine(u.o _ _ _).mono ?_;rintro e S ⟨L,P,O,Q,rfl,A,E⟩;have J:=gB A;have t:fB (zB w S):=xB jD.drew E;clear A E;refine⟨_,rfl,?_⟩)
  |(refine jF (f:=180) (args:=#[.pointer (some ⟨D,0,none⟩),yA (sC L P O Q V.1),qA sA V.2]) rfl (by go_simp) ?_;apply oC (K.o _ _ _ _ _ _ _ (H.o.z t.o));rintro Y ⟨z,d⟩;have o:=gB (Vc z d);clear z d;refine⟨_,rfl,?_⟩))
 all_goals
  go_wp2;go_ret;have X:=o.o.2.size;exact⟨_,_,_,_,rfl,o.o.1,(J.o.turned o.o.2 (λg q _ e=>by have:=(show w.1.size<=g from q.1);omega)).mono λg q=>⟨q.1,by omega⟩,(jB.of t.o).trans' o.o.2⟩
end
section
open Go.Maps
section
variable {w0 w W:jA} {D Lo:Nat} {r:fH} {sa:nC} {sc:Nat} {c:kC} {a:nC} {ca:Nat} {b:nC} {cb:Nat} {N:vC} {l m M:Nat} {B A:Nat→Prop}
theorem fU.made(h:fU Lo w0 w D r sa sc c a ca b cb N l m M B A)(f:jB B w W){V:vC×Int}{v:Value}{s:vB}{e:Ending}{w1 w2:jA}(o:yf V D r sa sc c l W v e w1)(d:zB w1 w2):DI (V.1,s) D r sa sc c l Lo w0 (zA (tA s)) w2:=by
 obtain⟨j,p,n,q,_,u,x,i⟩:=o;have z:=d.size;have y:=h.base.size;have F:=h.lo;have E:=f.size;exact⟨j,p,n,q,rfl,u.z d,(x.z d).mono λg C=>by omega,((h.base.trans (f.below y λk t e=>by have:=h.old k (Ca e);omega)).trans (i.below (by omega) λk t e=>by have:=h.old k (La e);omega)).trans (d.mono (by have:=i.size;omega))⟩
theorem fU.nap(h:fU Lo w0 w D r sa sc c a ca b cb N l m M B A)(j:jB B w W){f:nC}{d:List tE}(k:lI W f d)(n:d.length+iD d<=240000)(e:VQ d):aDx W a b N f d:=
 have i:=h.node.turned j λg e _=>(h.apart g e).1.1
 ⟨i.files,h.fit,i.tens,k,by have:=h.bulk;omega,e,h.lsn⟩
theorem fU.tabs(h:fU Lo w0 w D r sa sc c a ca b cb N l m M B A)(d:jB B w W):iH W/\kI W:=
 have q:=h.base.trans (d.below h.base.size λk f e=>by have:=h.old k (Ca e);omega)
 ⟨h.utab.z q,h.pow.z q⟩
theorem fU.log1(h:fU Lo w0 w D r sa sc c a ca b cb N l m M B A)(x:tE)(o:x.T.size+x.X.size<=200000)(j:0<=x.K/\x.K<=9)(k:VP x.U)(f:iw c N [x]){g:Nat}{T:TypeId}(d:zB w W)(i:rB W g #[dB x.K,tA x.T,tA x.X,dB x.U] T):
 lA prog 179 #[.pointer (cC D),uA (cC g) 1 1] W λe n=>yf (fG c N [x]) D r sa sc c l W (dB (iT (fG c N [x]).1 (fG c N [x]).2)) e n:=
 bf (rs:=[x]) (h.dsk.z d) (h.nap (jB.of d) (FE i) (by simp[iD];omega) (LV j k)) (h.tabs (jB.of d)).1 (h.tabs (jB.of d)).2 h.gd.cf h.gd.b f
theorem tU(v:Int)(W:jA):gF 28 #[dB v] W (tA (uB 1 v)):=oN (k:=1) (Ca ⟨rfl,rfl⟩) v W
theorem tj(h:fU Lo w0 w D r sa sc c a ca b cb N l m M B A)(k:r.K=2):
 lA prog 98 #[.pointer (cC D)] w λe o=>DI (lJ c N r) D r sa sc c l Lo w0 e o:=by
 rw[yv (x:=⟨2,pA,pA,r.U⟩) h.st h.gd.dg h.gd.up (Ca ⟨k,rfl⟩)];have n:=gB (λW e f g V v s(d:zB w W)=>h.made (jB.of d) (V:=V) (v:=v) (s:=s) (e:=e) (w1:=f) (w2:=g));have i:=gB (h.log1 ⟨2,pA,pA,r.U⟩ (by simp) (by simp) h.req.2.2 h.gd.tk (uF w _) (rB.new w _ 56));have p:=iI h.dsk;clear h k;generalize fG c N _=V at *;dsimp only at i;go_enter func98,ntmps98;go_wp2_with(first
  |(go_at_call 179;refine i.o.mono ?_;rintro e f j;have O:=gB j;obtain⟨_,_,_,_,rfl,_⟩:=j;clear p)
  |(go_at_call 28;apply oC (tU _ _);intro g d;replace d:=gB d))
 go_ret;exact n.o _ _ _ _ _ _ _ aC O.o d.o
theorem jr(h:fU Lo w0 w D r sa sc c a ca b cb N l m M B A)(o:r.K=3)(p:xC r.T=true)(q:r.T.size+r.R.size<=200000):
 lA prog 99 #[.pointer (cC D)] w λe y=>DI (lJ c N r) D r sa sc c l Lo w0 e y:=by
 rw[yv (x:=⟨3,r.T,r.R,r.U⟩) h.st h.gd.dg h.gd.up (La ⟨o,p,rfl⟩)];have t:=gB (λW e i j V v s(d:zB w W)=>h.made (jB.of d) (V:=V) (v:=v) (s:=s) (e:=e) (w1:=i) (w2:=j));have k:=gB (λW g(d:zB w W)(u:rB W g _ 56)=>h.log1 ⟨3,r.T,r.R,r.U⟩ q (by simp) h.req.2.2 h.gd.lm d u);have z:=iI h.dsk;clear h o p q;generalize fG c N _=V at *;dsimp only at k;go_enter func99,ntmps99;go_upto_region 1 with fail;go_region_law (first
  |(refine jF (f:=179) (args:=#[.pointer (some ⟨D,0,none⟩),uA (some ⟨w.1.size,0,none⟩) 1 1]) rfl (by go_simp) ?_;refine(k.o _ _ (xB jD.drew aC) (rB.new _ _ _)).mono ?_;rintro e i n;have O:=gB n;obtain⟨_,_,_,_,rfl,_⟩:=n;refine⟨_,rfl,?_⟩)
  |(refine jF (f:=28) (args:=#[qA sA (iT V.1 V.2)]) rfl (by go_simp) ?_;apply oC (tU _ _);intro j d;replace d:=gB d;refine⟨_,rfl,?_⟩))
 all_goals
  go_wp2;go_ret;exact t.o _ _ _ _ _ _ _ (xB jD.drew aC) O.o d.o
theorem sw(h:fU Lo w0 w D r sa sc c a ca b cb N l m M B A)(F:r.K=4):
 lA prog 100 #[.pointer (cC D)] w λe P=>DI (lJ c N r) D r sa sc c l Lo w0 e P:=by
 rw[aKu h.gd.dg F];have u:=gB (TI c a b ca cb N w.drew ⟨h.node.files,h.fit,h.node.tens,h.bulk,h.rng,h.lsn,h.now⟩ (h.pow.z h.base.drew) h.gd.ck);have I:=gB (λW y j z k M x(i:zB w W)=>PO (a':=y) (ca':=j) (b':=z) (cb':=k) (M:=M) (x:=x) (h.dsk.z i));have H:=gB (λW e o q V v s(i:zB w W)=>h.made (jB.of i) (V:=V) (v:=v) (s:=s) (e:=e) (w1:=o) (w2:=q));have U:=iI h.dsk;have R:=eB h.dsk;have Q:=vE a ca b cb N;clear h F;unfold MF NaV oE at u;generalize IV c N=V at *;go_enter func100,ntmps100;go_upto_region 1 with fail;go_region_law (first
  |(refine jF (f:=9) (args:=#[yA #[qA sA c.w,qA sA c.tl,qA sA c.ml,qA sA c.sh,qA sA c.ha,qA sA c.sg],yA (sC a ca b cb N)]) rfl (by go_simp) ?_;refine u.o.mono ?_;rintro e o ⟨J,L,K,O,rfl,E,i⟩;have G:=gB E;have t:fB (zB w o):=xB jD.drew i;clear E i;refine⟨_,rfl,?_⟩)
  |(refine jF (f:=180) (args:=#[.pointer (some ⟨D,0,none⟩),yA (sC J L K O V.1),qA sA V.2]) rfl (by go_simp) ?_;apply oC (I.o _ _ _ _ _ _ _ t.o);rintro q ⟨C,d⟩;have n:=gB (Vc C d);clear C d;refine⟨_,rfl,?_⟩)
  |(refine jF (f:=28) (args:=#[qA sA (iT V.1 V.2)]) rfl (by go_simp) ?_;apply oC (tU _ _);intro T i;replace i:=gB i;refine⟨_,rfl,?_⟩))
 all_goals
  go_wp2;go_ret;have S:=n.o.2.size;exact H.o w (zA undef) _ _ _ undef _ jD ⟨_,_,_,_,rfl,n.o.1,(G.o.turned n.o.2 (λg p _ e=>by have:=(show w.1.size<=g from p.1);omega)).mono λg p=>⟨p.1,by omega⟩,(jB.of t.o).trans' n.o.2⟩ i.o
end
end
