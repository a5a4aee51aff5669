import Derived.Test.YtiegonaogehghaaGreatDoorJ42
set_option maxRecDepth 100000
set_option maxHeartbeats 4000000
open Option renaming some->bA,none->aA
open ByteArray renaming empty->kA
open List renaming length->yA
namespace Go.Proofs.YtiegonaogehghaaGreatDoor
open Go renaming World->eA,Calls->gA
open Ending renaming returned->uA
open Value renaming slice->pA,int->lA,pointer->sA,string->oA
open IntKind renaming i64->mA
open Go.RowKit Tryz
section
open Go.Maps
def aAs(V:pC×Int)(D:Nat)(r:dG)(h:jC)(i:Nat)(c:gC)(l:Nat)(w:eA)(v:Value)(e:Ending)(d:eA):Prop:=
 ∃a f b g,e=uA v/\gB d D (LH r h i c a f b g V.1 l) 92/\oJ d (λx=>w.1.size<=x/\x<d.1.size) a b V.1/\eB (·=D) w d
theorem dc{D l:Nat}{r:dG}{s a b:jC}{o i j:Nat}{c:gC}{N:pC}{w:eA}{p:jC}{capr:Nat}{rs:List qE}(h:gB w D (LH r s o c a i b j N l) 92)(I:aGa w a b N p rs)(B:bH w)(n:cJ w):
 gA prog 158 #[.pointer (pB D),pA p (yA rs) capr] w λe O=>aAs (zF c N rs) D r s o c l w (zA (bT (zF c N rs).1 (zF c N rs).2)) e O:=by
 have u:=cB (λi j capr=>eg c a b i j N p capr rs w.drew ⟨I.files,I.fit,I.tens,I.recs,I.bulk,I.rng,I.lsn⟩ B n);have F:=cB (λW v k y m M x(h:gB W D (LH r s o c a i b j N l) 92)=>QM (a':=v) (ca':=k) (b':=y) (cb':=m) (M:=M) (x:=x) h);have R:=aB h;have U:=eI h;have H:=cB h;have Q:=lE a i b j N;clear h I B n;unfold bj NaV jE at u;generalize zF c N rs=V at *;go_enter func158,ntmps158;go_upto_region 1 with fail;go_region_law (first
  |(refine zG (f:=223) (args:=#[.agg #[lA mA c.w,lA mA c.tl,lA mA c.ml,lA mA c.sh,lA mA c.ha,lA mA c.sg],.agg (dC a i b j N),pA p (yA rs) capr]) rfl (by go_simp) ?_;refine(u.o _ _ _).mono ?_;rintro e P ⟨G,K,J,L,rfl,A,C⟩;have E:=cB A;have t:bB (tB w P):=vB bD.drew C;clear A C;refine⟨_,rfl,?_⟩)
  |(refine zG (f:=160) (args:=#[sA (bA ⟨D,0,aA⟩),.agg (dC G K J L V.1),lA mA V.2]) rfl (by go_simp) ?_;apply hC (F.o _ _ _ _ _ _ _ (H.o.z t.o));rintro T ⟨z,d⟩;have o:=cB (Vc z d);clear z d;refine⟨_,rfl,?_⟩))
 all_goals
  go_wp2;go_ret;have S:=o.o.2.size;exact⟨_,_,_,_,rfl,o.o.1,(E.o.turned o.o.2 (λg q _ e=>by have:=(show w.1.size<=g from q.1);omega)).mono λg q=>⟨q.1,by omega⟩,(eB.of t.o).trans' o.o.2⟩
end
section
open Go.Maps
section
variable {w0 w W:eA} {D Lo:Nat} {r:dG} {sa:jC} {sc:Nat} {c:gC} {a:jC} {ca:Nat} {b:jC} {cb:Nat} {N:pC} {l m M:Nat} {B A:Nat→Prop}
theorem fU.made(h:fU Lo w0 w D r sa sc c a ca b cb N l m M B A)(f:eB B w W){V:pC×Int}{v:Value}{s:nB}{e:Ending}{w1 w2:eA}(o:aAs V D r sa sc c l W v e w1)(d:tB w1 w2):DH (V.1,s) D r sa sc c l Lo w0 (uA (oA s)) w2:=by
 obtain⟨j,p,n,q,_,u,x,i⟩:=o;have z:=d.size;have y:=h.base.size;have F:=h.lo;have E:=f.size;exact⟨j,p,n,q,rfl,u.z d,(x.z d).mono λg C=>by omega,((h.base.trans (f.below y λk t e=>by have:=h.old k (Ca e);omega)).trans (i.below (by omega) λk t e=>by have:=h.old k (La e);omega)).trans (d.mono (by have:=i.size;omega))⟩
theorem fU.nap(h:fU Lo w0 w D r sa sc c a ca b cb N l m M B A)(j:eB B w W){f:jC}{d:List qE}(k:pI W f d)(n:yA d+dD d<=240000)(e:WT d):aGa W a b N f d:=
 have i:=h.node.turned j λg e _=>(h.apart g e).1.1
 ⟨i.files,h.fit,i.tens,k,by have:=h.bulk;omega,e,h.lsn⟩
theorem fU.tabs(h:fU Lo w0 w D r sa sc c a ca b cb N l m M B A)(d:eB B w W):bH W/\cJ W:=
 have q:=h.base.trans (d.below h.base.size λk f e=>by have:=h.old k (Ca e);omega)
 ⟨h.utab.z q,h.pow.z q⟩
theorem fU.log1(h:fU Lo w0 w D r sa sc c a ca b cb N l m M B A)(x:qE)(n:x.T.size+x.X.size<=200000)(i:0<=x.K/\x.K<=9)(j:WR x.U){g:Nat}{T:TypeId}(d:tB w W)(f:gB W g #[zA x.K,oA x.T,oA x.X,zA x.U] T):
 gA prog 158 #[.pointer (pB D),pA (pB g) 1 1] W λe k=>aAs (zF c N [x]) D r sa sc c l W (zA (bT (zF c N [x]).1 (zF c N [x]).2)) e k:=
 dc (rs:=[x]) (h.dsk.z d) (h.nap (eB.of d) (QD f) (by simp[dD];omega) (ZJ i j)) (h.tabs (eB.of d)).1 (h.tabs (eB.of d)).2
theorem jT(v:Int)(W:eA):vE 24 #[zA v] W (oA (qB 1 v)):=oN (k:=1) (Ca ⟨rfl,rfl⟩) v W
theorem wd(h:fU Lo w0 w D r sa sc c a ca b cb N l m M B A)(k:N.deg=false)(o:N.up=true)(n:r.K=2):
 gA prog 85 #[.pointer (pB D)] w λe q=>DH (nI c N r) D r sa sc c l Lo w0 e q:=by
 rw[aBi (x:=⟨2,kA,kA,r.U⟩) h.st k o (Ca ⟨n,rfl⟩)];have p:=cB (λW e f g V v s(d:tB w W)=>h.made (eB.of d) (V:=V) (v:=v) (s:=s) (e:=e) (w1:=f) (w2:=g));have i:=cB (h.log1 ⟨2,kA,kA,r.U⟩ (by simp) (by simp) h.req.2.2 (pF w _) (gB.new w _ 132));have t:=eI h.dsk;clear h k o n;generalize zF c N _=V at *;dsimp only at i;go_enter func85,ntmps85;go_wp2_with(first
  |(go_at_call 158;refine i.o.mono ?_;rintro e f j;have O:=cB j;obtain⟨_,_,_,_,rfl,_⟩:=j;clear t)
  |(go_at_call 24;apply hC (jT _ _);intro g d;replace d:=cB d))
 go_ret;exact p.o _ _ _ _ _ _ _ yB O.o d.o
theorem mn(h:fU Lo w0 w D r sa sc c a ca b cb N l m M B A)(o:N.deg=false)(t:N.up=true)(p:r.K=3)(q:oC r.T=true)(u:r.T.size+r.R.size<=200000):
 gA prog 86 #[.pointer (pB D)] w λe C=>DH (nI c N r) D r sa sc c l Lo w0 e C:=by
 rw[aBi (x:=⟨3,r.T,r.R,r.U⟩) h.st o t (La ⟨p,q,rfl⟩)];have y:=cB (λW e i j V v s(d:tB w W)=>h.made (eB.of d) (V:=V) (v:=v) (s:=s) (e:=e) (w1:=i) (w2:=j));have k:=cB (λW g(d:tB w W)(z:gB W g _ 132)=>h.log1 ⟨3,r.T,r.R,r.U⟩ u (by simp) h.req.2.2 d z);have E:=eI h.dsk;clear h o t p q u;generalize zF c N _=V at *;dsimp only at k;go_enter func86,ntmps86;go_upto_region 1 with fail;go_region_law (first
  |(refine zG (f:=158) (args:=#[sA (bA ⟨D,0,aA⟩),pA (bA ⟨w.1.size,0,aA⟩) 1 1]) rfl (by go_simp) ?_;refine(k.o _ _ (vB bD.drew yB) (gB.new _ _ _)).mono ?_;rintro e i n;have O:=cB n;obtain⟨_,_,_,_,rfl,_⟩:=n;refine⟨_,rfl,?_⟩)
  |(refine zG (f:=24) (args:=#[lA mA (bT V.1 V.2)]) rfl (by go_simp) ?_;apply hC (jT _ _);intro j d;replace d:=cB d;refine⟨_,rfl,?_⟩))
 all_goals
  go_wp2;go_ret;exact y.o _ _ _ _ _ _ _ (vB bD.drew yB) O.o d.o
theorem vs(h:fU Lo w0 w D r sa sc c a ca b cb N l m M B A)(F:N.deg=false)(G:r.K=4):
 gA prog 87 #[.pointer (pB D)] w λe Q=>DH (nI c N r) D r sa sc c l Lo w0 e Q:=by
 rw[aMt F G];have u:=cB (nk c a b ca cb N w.drew ⟨h.node.files,h.fit,h.node.tens,h.bulk,h.rng,h.lsn,h.now⟩ (h.pow.z h.base.drew));have J:=cB (λW y j z k M x(i:tB w W)=>QM (a':=y) (ca':=j) (b':=z) (cb':=k) (M:=M) (x:=x) (h.dsk.z i));have I:=cB (λW e o q V v s(i:tB w W)=>h.made (eB.of i) (V:=V) (v:=v) (s:=s) (e:=e) (w1:=o) (w2:=q));have U:=eI h.dsk;have R:=lE a ca b cb N;clear h F G;unfold bj NaV jE at u;generalize DF c N=V at *;go_enter func87,ntmps87;go_upto_region 1 with fail;go_region_law (first
  |(refine zG (f:=161) (args:=#[.agg #[lA mA c.w,lA mA c.tl,lA mA c.ml,lA mA c.sh,lA mA c.ha,lA mA c.sg],.agg (dC a ca b cb N)]) rfl (by go_simp) ?_;refine u.o.mono ?_;rintro e o ⟨K,O,L,P,rfl,E,i⟩;have H:=cB E;have t:bB (tB w o):=vB bD.drew i;clear E i;refine⟨_,rfl,?_⟩)
  |(refine zG (f:=160) (args:=#[sA (bA ⟨D,0,aA⟩),.agg (dC K O L P V.1),lA mA V.2]) rfl (by go_simp) ?_;apply hC (J.o _ _ _ _ _ _ _ t.o);rintro q ⟨C,d⟩;have n:=cB (Vc C d);clear C d;refine⟨_,rfl,?_⟩)
  |(refine zG (f:=24) (args:=#[lA mA (bT V.1 V.2)]) rfl (by go_simp) ?_;apply hC (jT _ _);intro T i;replace i:=cB i;refine⟨_,rfl,?_⟩))
 all_goals
  go_wp2;go_ret;have S:=n.o.2.size;exact I.o w (uA undef) _ _ _ undef _ bD ⟨_,_,_,_,rfl,n.o.1,(H.o.turned n.o.2 (λg p _ e=>by have:=(show w.1.size<=g from p.1);omega)).mono λg p=>⟨p.1,by omega⟩,(eB.of t.o).trans' n.o.2⟩ i.o
end
end
section
open Go.Maps
section
variable {w0 w W:eA} {D Lo:Nat} {r:dG} {sa:jC} {sc:Nat} {c:gC} {a:jC} {ca:Nat} {b:jC} {cb:Nat} {N:pC} {l m M:Nat} {B A:Nat→Prop}
theorem ax(v:Int)(W:eA):vE 164 #[zA v] W (oA (qB 8 v)):=oN (k:=8) (La (La ⟨rfl,rfl⟩)) v W
theorem aGq{c:gC}{t:fB}{d:nB}:0<=(kE c t d).1:=by
 unfold kE;split<;>simp
theorem aNg{W:eA}{x y z:nB}(h:x.size+y.size+z.size<=100000):gA prog 159 #[pA (pB W.1.size) 3 3] (W.alloc (.cells #[oA x,oA y,oA z] 9)) λe f=>e=uA (oA (x++y++z))/\tB W f:=by
 have i:=gB.new W #[oA x,oA y,oA z] 9;refine(iI W.1.size 3 3 [x,y,z] _ rfl (λj q d=>?_) (by simp) (by simp) (by simp) (by simp[yF];omega)).mono ?_
 .rw[Ya,i.cell];match j,d with
  |0,d|1,d|2,d=>simp at d;subst d;rfl
 rintro e f ⟨rfl,g⟩;exact⟨by simp[qF,Wa],vB yB g⟩
theorem mh(h:fU Lo w0 w D r sa sc c a ca b cb N l m M B A)(t:r.K=5)(u:oC r.T=true)(x:r.T.size+r.R.size<=200000):
 gA prog 88 #[.pointer (pB D)] w λe F=>DH (nI c N r) D r sa sc c l Lo w0 e F:=by
 rw[aMu h.st t u aGq];have p:=h.tabs (eB.of (Below.refl _ w));have o:=cB (λW s(d:tB w W)=>h.same (eB.of d) (s:=s));have n:=cB (qS r.R w (by omega) p.1);have v:=cB (λW(d:tB w W)=>vm l m r.T r.R c N.now B N.ts M W (h.led.z d) (by unfold maxLen;omega) (by unfold maxLen;omega) (aLi h.st _));have k:=cB (λW(d:tB w W)=>eI (h.dsk.z d));have y:=kB 1 0;have z:=kB 8 (kE c (xB N.ts r.T) r.R).1;have E:=kB 8 (kE c (xB N.ts r.T) r.R).2;clear h t u x p;generalize kE c (xB N.ts r.T) r.R=C at *;generalize (r.R.toList.isEmpty||xE r.R)=q at *;have j:=k.o _ bD;go_enter func88,ntmps88;go_wp2_with fail;apply hC n.o;intro H d;have i:=cB d;clear d j n;have j:=k.o _ i.o;cases q
 .go_wp2_with (first|(go_at_call 24;apply hC (jT _ _);intro G d;replace d:=cB d));go_ret;exact o.o _ _ (vB i.o d.o)
 go_upto_region 3 with fail;go_region_law (refine zG (f:=163) (args:=#[.pointer (pB l),oA r.T,oA r.R]) rfl (by go_simp) ?_;apply hC (v.o _ i.o.drew);intro G d;have g:=cB (vB i.o.drew d);clear d;refine⟨_,rfl,?_⟩)
 all_goals
  clear j;go_wp2_with(first
   |(go_at_call 24;apply hC (jT _ _);intro I d;replace g:=cB (vB g.o d);clear d)
   |(go_at_call 164;apply hC (ax _ _);intro J d;replace g:=cB (vB g.o d);clear d)
   |(go_at_call 159;refine hC (aNg (by omega)) ?_;intro K d;replace d:=cB d))
  go_ret;exact o.o _ _ (vB g.o d.o)
end
end
section
open Go.Maps
section
variable {w0 w W:eA} {D Lo:Nat} {r:dG} {sa:jC} {sc:Nat} {c:gC} {a:jC} {ca:Nat} {b:jC} {cb:Nat} {N:pC} {l m M:Nat} {B A:Nat→Prop}
theorem vt(h:fU Lo w0 w D r sa sc c a ca b cb N l m M B A)(hk:r.K=6)(ht:oC r.T=true)(hz:r.T.size<=200000):
 gA prog 89 #[sA (bA ⟨D,0,aA⟩)] w λe I=>DH (nI c N r) D r sa sc c l Lo w0 e I:=by
 rw[aMv hk ht];obtain⟨z1,z2⟩:(yA (xB N.ts r.T).M<=2000000/\∀i(h:i<yA (xB N.ts r.T).M),(xB N.ts r.T).M[i].s.size<=1900000)/\(yA (xB N.ts r.T).Z<=2000000/\∀i(h:i<yA (xB N.ts r.T).Z),(xB N.ts r.T).Z[i].s.size<=1900000):=by
  have d:=h.bulk;obtain⟨_,q1,q2,q3,q4⟩:=JA (tenant:=r.T) (lW (ts:=N.ts) (by omega)) (by omega);exact⟨⟨by omega,λi E=>q1 _ (Gb E)⟩,by omega,λi E=>q2 _ (Gb E)⟩
 have HS:=cB (λW s(d:tB w W)=>h.same (eB.of d) (s:=s));have HF:=cB (λW(d:tB w W)=>OI l m r.T c N.now B N.ts M W (h.led.z d) (by unfold maxLen;omega));have HT:=cB (λW x S P(E:mD W S x (xB N.ts r.T) P)=>kl x r.T (xB N.ts r.T) S P W E (λi h=>by have:=z1.2 i h;unfold maxLen;omega) (λi h=>by have:=z2.2 i h;unfold maxLen;omega) z1.1 z2.1);have V:=cB (λW(d:tB w W)=>eI (h.dsk.z d));have HZ:=cB z2.2;have hl:=z2.1;clear h hk ht hz z1 z2;unfold GL at HF;generalize xB N.ts r.T=t at *;generalize N.now=j at *;obtain⟨VV,EV⟩:∃v,v=qB 1 0++qB 8 j++qB 4 (yA t.Z:Nat)++oG t.Z:=⟨_,rfl⟩
 rw[<-EV];replace EV:=cB EV;have T:=V.o _ bD;go_enter func89,ntmps89;go_upto_region 1 with fail;go_cut [3,4] (λx y wx=>∃x' b S P,x=sA (bA ⟨x',0,aA⟩)/\y=.bool b/\mD wx S x' t P/\gB wx l (kV c j m) 161/\tB w wx)
 case first=>
  go_region_law (refine zG (f:=29) (args:=#[sA (bA ⟨l,0,aA⟩),oA r.T]) rfl (by go_simp) ?_;refine(HF.o _ bD.drew).mono ?_;rintro e w1 ⟨x,y,S,P,rfl,E,Z,d⟩;have E1:=cB (Vc E (Vc Z (vB bD.drew d)));clear E Z d;refine⟨_,rfl,?_⟩)
  all_goals(go_wp2;go_meet)
  all_goals exact⟨_,_,_,_,rfl,rfl,E1.o⟩
 obtain⟨x,y,S,P,rfl,rfl,E,Z,d⟩:=hcut;rename eA=>w1;have HI:=cB E;have L1:=cB Z;have B1:=cB d;clear E Z d T HF;have T:=V.o _ B1.o;have fs:=OB;go_wp2_with fail;refine(HT.o _ _ _ _ HI.o).mono ?_;rintro e F ⟨v1,v2,M2,rfl,_,_,_,_,ho,d⟩;obtain⟨a2,d2,rfl⟩:=jM ho;have PS:=cB (vD ho).pairs;have L2:=cB (L1.o.z d);have B2:=cB (vB B1.o d);clear ho d T HI L1 B1 HT;have T:=V.o _ B2.o;go_upto_region 3 with fail;have hz1:=kB 1 0;have hz2:=kB 8 j;have hz3:=kB 4 (yA t.Z:Nat);have u:=cB (λW(d:tB F W)=>(⟨(V.o W (vB B2.o d)).1.2.2.2.2.2.2.2.2.2.2.2.2.2.2.2.2.2.2.2.2.2.2.2.2.2,(L2.o.z d).cell 6⟩:tC W D 25 (sA (bA ⟨l,0,aA⟩))/\tC W l 6 (lA mA j)));have xy:=(u.o _ bD).2;go_cut [6] (λs wx=>∃g,s=pA (bA ⟨g,0,aA⟩) 3 3/\TE F wx g 3 [qB 1 0,qB 8 j,qB 4 (yA t.Z:Nat)])
 case first=>
  go_region_held3 (λW=>W.cell? ⟨D,25,aA⟩=bA (sA (bA ⟨l,0,aA⟩))/\W.cell? ⟨l,6,aA⟩=bA (lA mA j))
   (first|go_keep|with_reducible exact u.o _ k4|with_reducible exact u.o _ k3|with_reducible exact u.o _ k2|with_reducible exact u.o _ bD.drew)
   (first
    |(go_at_call 24;apply hC (jT _ _);intro w3 L;have k2:tB F w3:=(by exact vB bD.drew L))
    |(go_at_call 164;apply hC (ax _ _);intro w4 O;have k3:tB F w4:=(by exact vB k2 O))
    |(go_at_call 165;apply hC (qQ _ _);intro w5 hb5;have k4:tB F w5:=(by exact vB k3 hb5)))
  all_goals(go_wp2_with fail;go_meet)
  all_goals exact⟨_,rfl,⟨rfl,La ⟨_,3,_,rfl,k4.size,heap_alloc_new _ _,Ia _,by simp[maxLen],rfl,rfl⟩⟩,vB k4 yB⟩
 obtain⟨g0,rfl,h0⟩:=hcut;rename eA=>w3;have H3:=cB h0;clear T xy h0 u V fs L2;generalize qB 1 0=N1 at *;generalize qB 8 j=N2 at *;generalize qB 4 (yA t.Z:Nat)=N3 at *;generalize t.Z=ss at *;go_wp2;go_loopw [6,8,45] (λout _ i wr=>∃(k:Nat)(p:List nB)(g cv:Nat),k<=yA ss/\i=lA mA k/\out=pA (bA ⟨g,0,aA⟩) (yA p) cv/\yA p<=3+2*k/\yF p<=100+k*2000000/\bB (p=[N1,N2,N3]++tO (ss.take k))/\bB (TE F wr g cv p)) (λ_ _ i _=>yA ss-(intOf i).toNat)
 case atStart=>exact⟨0,[N1,N2,N3],_,_,Oa _,rfl,rfl,by simp,by simp[yF];omega,by refine cB ?_;simp[tO],H3.o⟩
 case round=>
  clear H3;obtain⟨k,p,g,cv,hk,rfl,rfl,hpl,hps,HR,H⟩:=hrel;by_cases G:k<yA ss
  .obtain ⟨b,o,rfl,d,c0,c1'⟩:=(PS.o.z H.o.bel).at G;have X:=cB (λW=>mL ss[k].s W (by have:=HZ.o k G;omega));have HX:=cB (show p++[vF ss[k].s,qB 8 ss[k].n]=[N1,N2,N3]++tO (ss.take (k+1)) by rw[KI ss k G,HR.o,Nd]);have hq3:=bF ss[k].s;have hq4:=kB 8 ss[k].n;have hq5:=HZ.o k G;have HN8:=cB (λW=>ax ss[k].n W);generalize vF ss[k].s=S3 at *;generalize qB 8 ss[k].n=S4 at *;generalize ss[k].s=R at *;generalize ss[k].n=Q at *;have U:=cB (gB.new wr #[oA R,lA mA Q] 58);have H1:=cB (H.o.z (pF wr (.cells #[oA R,lA mA Q] 58)));have hgB:=(xG H.o.row).2.1;clear HR H;go_upto_region 7 with fail;generalize wr.alloc (.cells #[oA R,lA mA Q] 58)=W at *;have hBX:=aB U.o;clear d c0 c1';generalize wr.1.size=K at *;clear wr;have C:bB (∀I,tB W I->tC I K 0 (oA R)/\tC I K 1 (lA mA Q)):=λI h=>(U.o.z h).c2;have T:=C.o W bD;go_region_held3 (λI=>I.cell? ⟨K,0,aA⟩=bA (oA R)/\I.cell? ⟨K,1,aA⟩=bA (lA mA Q))
    (first|go_keep|exact J|exact C.o _ (z.alloc z.size _)|exact C.o _ z|exact C.o _ a0)
    (first
     |(go_at_call 166;apply hC (X.o _);intro w3 L;have a0:tB W w3:=(Below.refl _ W).drew.trans L)
     |(go_at_call 164;apply hC (HN8.o _);intro w4 O;have z:tB W w4:=vB a0 O)
     |(refine QU (by exact H1.o.z z) (by rfl) _ _ (by rfl) (by rfl) (by rfl) (by rfl) (by omega) ?_;intro g5 Y w5 H5 d0;have J:tC w5 K 0 (oA R)/\tC w5 K 1 (lA mA Q):=(by have q:=C.o _ z;have e0:=d0 K (by have:=z.size;omega) (by omega);exact⟨(eA.cell?_of_block e0).trans q.1,(eA.cell?_of_block e0).trans q.2⟩)))
   have hle:yA (p++[S3,S4])=yA p+2:=by simp
   have hsm:yF (p++[S3,S4])=yF p+(S3.size+S4.size):=by rw[oH];simp[yF]
   replace H5:=cB H5;rw[<-hle];clear J d0;generalize p++[S3,S4]=ps5 at *;go_wp2;exact⟨⟨k+1,ps5,g5,Y,by omega,by go_num,rfl,by omega,by omega,HX,H5⟩,by simp[intOf];omega⟩
  have E2:bB (qF p=VV):=by
   show _=_;rw[EV.o,HR.o,eG,cW,Ra (by omega)];simp[qF,Wa]
  obtain⟨hcv,hg,b0⟩:=xG H.o.row;have HJ:=cB (iI g (yA p) cv p wr rfl b0 hg hcv (by omega) (by omega));rw[E2.o]at HJ;clear b0;go_wp2_with fail;apply hC HJ.o;intro w4 d;replace d:=cB d;go_wp2;go_ret;exact HS.o _ _ (vB (vB B2.o H.o.bel) d.o)
end
end
