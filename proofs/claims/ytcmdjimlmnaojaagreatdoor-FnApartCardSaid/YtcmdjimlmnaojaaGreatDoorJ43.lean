import Derived.Test.YtcmdjimlmnaojaaGreatDoorJ42
set_option maxRecDepth 100000
set_option maxHeartbeats 4000000
open Option renaming some->cA,none->aA
open ByteArray renaming empty->lA
open List renaming length->zA
namespace Go.Proofs.YtcmdjimlmnaojaaGreatDoor
open Go renaming World->fA,Calls->iA
open Ending renaming returned->vA
open Value renaming slice->qA,int->mA,pointer->tA,string->pA
open IntKind renaming i64->oA
open Go.RowKit Tryz
section
open Go.Maps
def aAm(V:sC×Int)(D:Nat)(r:eG)(h:nC)(i:Nat)(c:lC)(l:Nat)(w:fA)(v:Value)(e:Ending)(d:fA):Prop:=
 ∃a f b g,e=vA v/\jB d D (LO r h i c a f b g V.1 l) 84/\wJ d (λx=>w.1.size<=x/\x<d.1.size) a b V.1/\fB (·=D) w d
theorem de{D l:Nat}{r:eG}{s a b:nC}{o i j:Nat}{c:lC}{N:sC}{w:fA}{p:nC}{capr:Nat}{rs:List nE}(h:jB w D (LO r s o c a i b j N l) 84)(I:aFv w a b N p rs)(B:kH w)(n:nJ w):
 iA prog 153 #[.pointer (vB D),qA p (zA rs) capr] w λe O=>aAm (nF c N rs) D r s o c l w (aB (dT (nF c N rs).1 (nF c N rs).2)) e O:=by
 have u:=dB (λi j capr=>el c a b i j N p capr rs w.drew ⟨I.files,I.fit,I.tens,I.recs,I.bulk,I.rng,I.lsn⟩ B n);have F:=dB (λW v k y m M x(h:jB W D (LO r s o c a i b j N l) 84)=>QT (a':=v) (ca':=k) (b':=y) (cb':=m) (M:=M) (x:=x) h);have R:=bB h;have U:=jI h;have H:=dB h;have Q:=rE a i b j N;clear h I B n;unfold bl NaV uE at u;generalize nF c N rs=V at *;go_enter func153,ntmps153;go_upto_region 1 with fail;go_region_law (first
  |(refine iH (f:=219) (args:=#[.agg #[mA oA c.w,mA oA c.tl,mA oA c.ml,mA oA c.sh,mA oA c.ha,mA oA c.sg],.agg (gC a i b j N),qA p (zA rs) capr]) rfl (by go_simp) ?_;refine(u.o _ _ _).mono ?_;rintro e P ⟨G,K,J,L,rfl,A,C⟩;have E:=dB A;have t:cB (xB w P):=aC gD.drew C;clear A C;refine⟨_,rfl,?_⟩)
  |(refine iH (f:=155) (args:=#[tA (cA ⟨D,0,aA⟩),.agg (gC G K J L V.1),mA oA V.2]) rfl (by go_simp) ?_;apply jC (F.o _ _ _ _ _ _ _ (H.o.z t.o));rintro T ⟨z,d⟩;have o:=dB (Vc z d);clear z d;refine⟨_,rfl,?_⟩))
 all_goals
  go_wp2;go_ret;have S:=o.o.2.size;exact⟨_,_,_,_,rfl,o.o.1,(E.o.turned o.o.2 (λg q _ e=>by have:=(show w.1.size<=g from q.1);omega)).mono λg q=>⟨q.1,by omega⟩,(fB.of t.o).trans' o.o.2⟩
end
section
open Go.Maps
section
variable {w0 w W:fA} {D Lo:Nat} {r:eG} {sa:nC} {sc:Nat} {c:lC} {a:nC} {ca:Nat} {b:nC} {cb:Nat} {N:sC} {l m M:Nat} {B A:Nat→Prop}
theorem gU.made(h:gU Lo w0 w D r sa sc c a ca b cb N l m M B A)(f:fB B w W){V:sC×Int}{v:Value}{s:pB}{e:Ending}{w1 w2:fA}(o:aAm V D r sa sc c l W v e w1)(d:xB w1 w2):DM (V.1,s) D r sa sc c l Lo w0 (vA (pA s)) w2:=by
 obtain⟨j,p,n,q,_,u,x,i⟩:=o;have z:=d.size;have y:=h.base.size;have F:=h.lo;have E:=f.size;exact⟨j,p,n,q,rfl,u.z d,(x.z d).mono λg C=>by omega,((h.base.trans (f.below y λk t e=>by have:=h.old k (Ca e);omega)).trans (i.below (by omega) λk t e=>by have:=h.old k (La e);omega)).trans (d.mono (by have:=i.size;omega))⟩
theorem gU.nap(h:gU Lo w0 w D r sa sc c a ca b cb N l m M B A)(j:fB B w W){f:nC}{d:List nE}(k:yI W f d)(n:zA d+eD d<=240000)(e:WV d):aFv W a b N f d:=
 have i:=h.node.turned j λg e _=>(h.apart g e).1.1
 ⟨i.files,h.fit,i.tens,k,by have:=h.bulk;omega,e,h.lsn⟩
theorem gU.tabs(h:gU Lo w0 w D r sa sc c a ca b cb N l m M B A)(d:fB B w W):kH W/\nJ W:=
 have q:=h.base.trans (d.below h.base.size λk f e=>by have:=h.old k (Ca e);omega)
 ⟨h.utab.z q,h.pow.z q⟩
theorem gU.log1(h:gU Lo w0 w D r sa sc c a ca b cb N l m M B A)(x:nE)(n:x.T.size+x.X.size<=200000)(i:0<=x.K/\x.K<=9)(j:WU x.U){g:Nat}{T:TypeId}(d:xB w W)(f:jB W g #[aB x.K,pA x.T,pA x.X,aB x.U] T):
 iA prog 153 #[.pointer (vB D),qA (vB g) 1 1] W λe k=>aAm (nF c N [x]) D r sa sc c l W (aB (dT (nF c N [x]).1 (nF c N [x]).2)) e k:=
 de (rs:=[x]) (h.dsk.z d) (h.nap (fB.of d) (QL f) (by simp[eD];omega) (ZH i j)) (h.tabs (fB.of d)).1 (h.tabs (fB.of d)).2
theorem jT(v:Int)(W:fA):cF 23 #[aB v] W (pA (tB 1 v)):=uN (k:=1) (Ca ⟨rfl,rfl⟩) v W
theorem wd(h:gU Lo w0 w D r sa sc c a ca b cb N l m M B A)(k:N.deg=false)(o:N.up=true)(n:r.K=2):
 iA prog 81 #[.pointer (vB D)] w λe q=>DM (lI c N r) D r sa sc c l Lo w0 e q:=by
 rw[aBb (x:=⟨2,lA,lA,r.U⟩) h.st k o (Ca ⟨n,rfl⟩)];have p:=dB (λW e f g V v s(d:xB w W)=>h.made (fB.of d) (V:=V) (v:=v) (s:=s) (e:=e) (w1:=f) (w2:=g));have i:=dB (h.log1 ⟨2,lA,lA,r.U⟩ (by simp) (by simp) h.req.2.2 (zF w _) (jB.new w _ 119));have t:=jI h.dsk;clear h k o n;generalize nF c N _=V at *;dsimp only at i;go_enter func81,ntmps81;go_wp2_with(first
  |(go_at_call 153;refine i.o.mono ?_;rintro e f j;have O:=dB j;obtain⟨_,_,_,_,rfl,_⟩:=j;clear t)
  |(go_at_call 23;apply jC (jT _ _);intro g d;replace d:=dB d))
 go_ret;exact p.o _ _ _ _ _ _ _ bC O.o d.o
theorem mo(h:gU Lo w0 w D r sa sc c a ca b cb N l m M B A)(o:N.deg=false)(t:N.up=true)(p:r.K=3)(q:uC r.T=true)(u:r.T.size+r.R.size<=200000):
 iA prog 82 #[.pointer (vB D)] w λe C=>DM (lI c N r) D r sa sc c l Lo w0 e C:=by
 rw[aBb (x:=⟨3,r.T,r.R,r.U⟩) h.st o t (La ⟨p,q,rfl⟩)];have y:=dB (λW e i j V v s(d:xB w W)=>h.made (fB.of d) (V:=V) (v:=v) (s:=s) (e:=e) (w1:=i) (w2:=j));have k:=dB (λW g(d:xB w W)(z:jB W g _ 119)=>h.log1 ⟨3,r.T,r.R,r.U⟩ u (by simp) h.req.2.2 d z);have E:=jI h.dsk;clear h o t p q u;generalize nF c N _=V at *;dsimp only at k;go_enter func82,ntmps82;go_upto_region 1 with fail;go_region_law (first
  |(refine iH (f:=153) (args:=#[tA (cA ⟨D,0,aA⟩),qA (cA ⟨w.1.size,0,aA⟩) 1 1]) rfl (by go_simp) ?_;refine(k.o _ _ (aC gD.drew bC) (jB.new _ _ _)).mono ?_;rintro e i n;have O:=dB n;obtain⟨_,_,_,_,rfl,_⟩:=n;refine⟨_,rfl,?_⟩)
  |(refine iH (f:=23) (args:=#[mA oA (dT V.1 V.2)]) rfl (by go_simp) ?_;apply jC (jT _ _);intro j d;replace d:=dB d;refine⟨_,rfl,?_⟩))
 all_goals
  go_wp2;go_ret;exact y.o _ _ _ _ _ _ _ (aC gD.drew bC) O.o d.o
theorem vu(h:gU Lo w0 w D r sa sc c a ca b cb N l m M B A)(F:N.deg=false)(G:r.K=4):
 iA prog 83 #[.pointer (vB D)] w λe Q=>DM (lI c N r) D r sa sc c l Lo w0 e Q:=by
 rw[aMr F G];have u:=dB (np c a b ca cb N w.drew ⟨h.node.files,h.fit,h.node.tens,h.bulk,h.rng,h.lsn,h.now⟩ (h.pow.z h.base.drew));have J:=dB (λW y j z k M x(i:xB w W)=>QT (a':=y) (ca':=j) (b':=z) (cb':=k) (M:=M) (x:=x) (h.dsk.z i));have I:=dB (λW e o q V v s(i:xB w W)=>h.made (fB.of i) (V:=V) (v:=v) (s:=s) (e:=e) (w1:=o) (w2:=q));have U:=jI h.dsk;have R:=rE a ca b cb N;clear h F G;unfold bl NaV uE at u;generalize DJ c N=V at *;go_enter func83,ntmps83;go_upto_region 1 with fail;go_region_law (first
  |(refine iH (f:=156) (args:=#[.agg #[mA oA c.w,mA oA c.tl,mA oA c.ml,mA oA c.sh,mA oA c.ha,mA oA c.sg],.agg (gC a ca b cb N)]) rfl (by go_simp) ?_;refine u.o.mono ?_;rintro e o ⟨K,O,L,P,rfl,E,i⟩;have H:=dB E;have t:cB (xB w o):=aC gD.drew i;clear E i;refine⟨_,rfl,?_⟩)
  |(refine iH (f:=155) (args:=#[tA (cA ⟨D,0,aA⟩),.agg (gC K O L P V.1),mA oA V.2]) rfl (by go_simp) ?_;apply jC (J.o _ _ _ _ _ _ _ t.o);rintro q ⟨C,d⟩;have n:=dB (Vc C d);clear C d;refine⟨_,rfl,?_⟩)
  |(refine iH (f:=23) (args:=#[mA oA (dT V.1 V.2)]) rfl (by go_simp) ?_;apply jC (jT _ _);intro T i;replace i:=dB i;refine⟨_,rfl,?_⟩))
 all_goals
  go_wp2;go_ret;have S:=n.o.2.size;exact I.o w (vA undef) _ _ _ undef _ gD ⟨_,_,_,_,rfl,n.o.1,(H.o.turned n.o.2 (λg p _ e=>by have:=(show w.1.size<=g from p.1);omega)).mono λg p=>⟨p.1,by omega⟩,(fB.of t.o).trans' n.o.2⟩ i.o
end
end
section
open Go.Maps
section
variable {w0 w W:fA} {D Lo:Nat} {r:eG} {sa:nC} {sc:Nat} {c:lC} {a:nC} {ca:Nat} {b:nC} {cb:Nat} {N:sC} {l m M:Nat} {B A:Nat→Prop}
theorem au(v:Int)(W:fA):cF 159 #[aB v] W (pA (tB 8 v)):=uN (k:=8) (La (La ⟨rfl,rfl⟩)) v W
theorem aGm{c:lC}{t:gB}{d:pB}:0<=(pE c t d).1:=by
 unfold pE;split<;>simp
theorem aNe{W:fA}{x y z:pB}(h:x.size+y.size+z.size<=100000):iA prog 154 #[qA (vB W.1.size) 3 3] (W.alloc (.cells #[pA x,pA y,pA z] 9)) λe f=>e=vA (pA (x++y++z))/\xB W f:=by
 have i:=jB.new W #[pA x,pA y,pA z] 9;refine(nI W.1.size 3 3 [x,y,z] _ rfl (λj q d=>?_) (by simp) (by simp) (by simp) (by simp[iG];omega)).mono ?_
 .rw[Ya,i.cell];match j,d with
  |0,d|1,d|2,d=>simp at d;subst d;rfl
 rintro e f ⟨rfl,g⟩;exact⟨by simp[vF,Wa],aC bC g⟩
theorem mm(h:gU Lo w0 w D r sa sc c a ca b cb N l m M B A)(t:r.K=5)(u:uC r.T=true)(x:r.T.size+r.R.size<=200000):
 iA prog 84 #[.pointer (vB D)] w λe F=>DM (lI c N r) D r sa sc c l Lo w0 e F:=by
 rw[aMs h.st t u aGm];have p:=h.tabs (fB.of (Below.refl _ w));have o:=dB (λW s(d:xB w W)=>h.same (fB.of d) (s:=s));have n:=dB (tS r.R w (by omega) p.1);have v:=dB (λW(d:xB w W)=>vo l m r.T r.R c N.now B N.ts M W (h.led.z d) (by unfold maxLen;omega) (by unfold maxLen;omega) (aLh h.st _));have k:=dB (λW(d:xB w W)=>jI (h.dsk.z d));have y:=nB 1 0;have z:=nB 8 (pE c (rB N.ts r.T) r.R).1;have E:=nB 8 (pE c (rB N.ts r.T) r.R).2;clear h t u x p;generalize pE c (rB N.ts r.T) r.R=C at *;generalize (r.R.toList.isEmpty||aF r.R)=q at *;have j:=k.o _ gD;go_enter func84,ntmps84;go_wp2_with fail;apply jC n.o;intro H d;have i:=dB d;clear d j n;have j:=k.o _ i.o;cases q
 .go_wp2_with (first|(go_at_call 23;apply jC (jT _ _);intro G d;replace d:=dB d));go_ret;exact o.o _ _ (aC i.o d.o)
 go_upto_region 3 with fail;go_region_law (refine iH (f:=158) (args:=#[.pointer (vB l),pA r.T,pA r.R]) rfl (by go_simp) ?_;apply jC (v.o _ i.o.drew);intro G d;have g:=dB (aC i.o.drew d);clear d;refine⟨_,rfl,?_⟩)
 all_goals
  clear j;go_wp2_with(first
   |(go_at_call 23;apply jC (jT _ _);intro I d;replace g:=dB (aC g.o d);clear d)
   |(go_at_call 159;apply jC (au _ _);intro J d;replace g:=dB (aC g.o d);clear d)
   |(go_at_call 154;refine jC (aNe (by omega)) ?_;intro K d;replace d:=dB d))
  go_ret;exact o.o _ _ (aC g.o d.o)
end
end
section
open Go.Maps
section
variable {w0 w W:fA} {D Lo:Nat} {r:eG} {sa:nC} {sc:Nat} {c:lC} {a:nC} {ca:Nat} {b:nC} {cb:Nat} {N:sC} {l m M:Nat} {B A:Nat→Prop}
theorem vv(h:gU Lo w0 w D r sa sc c a ca b cb N l m M B A)(hk:r.K=6)(ht:uC r.T=true)(hz:r.T.size<=200000):
 iA prog 85 #[tA (cA ⟨D,0,aA⟩)] w λe I=>DM (lI c N r) D r sa sc c l Lo w0 e I:=by
 rw[aMt hk ht];obtain⟨z1,z2⟩:(zA (rB N.ts r.T).M<=2000000/\∀i(h:i<zA (rB N.ts r.T).M),(rB N.ts r.T).M[i].s.size<=1900000)/\(zA (rB N.ts r.T).Z<=2000000/\∀i(h:i<zA (rB N.ts r.T).Z),(rB N.ts r.T).Z[i].s.size<=1900000):=by
  have d:=h.bulk;obtain⟨_,q1,q2,q3,q4⟩:=JG (tenant:=r.T) (lW (ts:=N.ts) (by omega)) (by omega);exact⟨⟨by omega,λi E=>q1 _ (Gb E)⟩,by omega,λi E=>q2 _ (Gb E)⟩
 have HS:=dB (λW s(d:xB w W)=>h.same (fB.of d) (s:=s));have HF:=dB (λW(d:xB w W)=>dr l m r.T c N.now B N.ts M W (h.led.z d) (by unfold maxLen;omega));have HT:=dB (λW x S P(E:tD W S x (rB N.ts r.T) P)=>km x r.T (rB N.ts r.T) S P W E (λi h=>by have:=z1.2 i h;unfold maxLen;omega) (λi h=>by have:=z2.2 i h;unfold maxLen;omega) z1.1 z2.1);have V:=dB (λW(d:xB w W)=>jI (h.dsk.z d));have HZ:=dB z2.2;have hl:=z2.1;clear h hk ht hz z1 z2;unfold WX at HF;generalize rB N.ts r.T=t at *;generalize N.now=j at *;obtain⟨VV,EV⟩:∃v,v=tB 1 0++tB 8 j++tB 4 (zA t.Z:Nat)++xG t.Z:=⟨_,rfl⟩
 rw[<-EV];replace EV:=dB EV;have T:=V.o _ gD;go_enter func85,ntmps85;go_upto_region 1 with fail;go_cut [3,4] (λx y wx=>∃x' b S P,x=tA (cA ⟨x',0,aA⟩)/\y=.bool b/\tD wx S x' t P/\jB wx l (iV c j m) 154/\xB w wx)
 case first=>
  go_region_law (refine iH (f:=160) (args:=#[tA (cA ⟨l,0,aA⟩),pA r.T]) rfl (by go_simp) ?_;refine(HF.o _ gD.drew).mono ?_;rintro e w1 ⟨x,y,S,P,rfl,E,Z,d⟩;have E1:=dB (Vc E (Vc Z (aC gD.drew d)));clear E Z d;refine⟨_,rfl,?_⟩)
  all_goals(go_wp2;go_meet)
  all_goals exact⟨_,_,_,_,rfl,rfl,E1.o⟩
 obtain⟨x,y,S,P,rfl,rfl,E,Z,d⟩:=hcut;rename fA=>w1;have HI:=dB E;have L1:=dB Z;have B1:=dB d;clear E Z d T HF;have T:=V.o _ B1.o;have fs:=OJ;go_wp2_with fail;refine(HT.o _ _ _ _ HI.o).mono ?_;rintro e F ⟨v1,v2,M2,rfl,_,_,_,_,ho,d⟩;obtain⟨a2,d2,rfl⟩:=zP ho;have PS:=dB (bE ho).pairs;have L2:=dB (L1.o.z d);have B2:=dB (aC B1.o d);clear ho d T HI L1 B1 HT;have T:=V.o _ B2.o;go_upto_region 3 with fail;have hz1:=nB 1 0;have hz2:=nB 8 j;have hz3:=nB 4 (zA t.Z:Nat);have u:=dB (λW(d:xB F W)=>(⟨(V.o W (aC B2.o d)).1.2.2.2.2.2.2.2.2.2.2.2.2.2.2.2.2.2.2.2.2.2.2.2.2.2,(L2.o.z d).cell 6⟩:yC W D 25 (tA (cA ⟨l,0,aA⟩))/\yC W l 6 (mA oA j)));have xy:=(u.o _ gD).2;go_cut [6] (λs wx=>∃g,s=qA (cA ⟨g,0,aA⟩) 3 3/\TE F wx g 3 [tB 1 0,tB 8 j,tB 4 (zA t.Z:Nat)])
 case first=>
  go_region_held3 (λW=>W.cell? ⟨D,25,aA⟩=cA (tA (cA ⟨l,0,aA⟩))/\W.cell? ⟨l,6,aA⟩=cA (mA oA j))
   (first|go_keep|with_reducible exact u.o _ k4|with_reducible exact u.o _ k3|with_reducible exact u.o _ k2|with_reducible exact u.o _ gD.drew)
   (first
    |(go_at_call 23;apply jC (jT _ _);intro w3 L;have k2:xB F w3:=(by exact aC gD.drew L))
    |(go_at_call 159;apply jC (au _ _);intro w4 O;have k3:xB F w4:=(by exact aC k2 O))
    |(go_at_call 161;apply jC (vQ _ _);intro w5 hb5;have k4:xB F w5:=(by exact aC k3 hb5)))
  all_goals(go_wp2_with fail;go_meet)
  all_goals exact⟨_,rfl,⟨rfl,La ⟨_,3,_,rfl,k4.size,heap_alloc_new _ _,Ia _,by simp[maxLen],rfl,rfl⟩⟩,aC k4 bC⟩
 obtain⟨g0,rfl,h0⟩:=hcut;rename fA=>w3;have H3:=dB h0;clear T xy h0 u V fs L2;generalize tB 1 0=N1 at *;generalize tB 8 j=N2 at *;generalize tB 4 (zA t.Z:Nat)=N3 at *;generalize t.Z=ss at *;go_wp2;go_loopw [6,8,45] (λout _ i wr=>∃(k:Nat)(p:List pB)(g cv:Nat),k<=zA ss/\i=mA oA k/\out=qA (cA ⟨g,0,aA⟩) (zA p) cv/\zA p<=3+2*k/\iG p<=100+k*2000000/\cB (p=[N1,N2,N3]++xO (ss.take k))/\cB (TE F wr g cv p)) (λ_ _ i _=>zA ss-(intOf i).toNat)
 case atStart=>exact⟨0,[N1,N2,N3],_,_,Oa _,rfl,rfl,by simp,by simp[iG];omega,by refine dB ?_;simp[xO],H3.o⟩
 case round=>
  clear H3;obtain⟨k,p,g,cv,hk,rfl,rfl,hpl,hps,HR,H⟩:=hrel;by_cases G:k<zA ss
  .obtain ⟨b,o,rfl,d,c0,c1'⟩:=(PS.o.z H.o.bel).at G;have X:=dB (λW=>rL ss[k].s W (by have:=HZ.o k G;omega));have HX:=dB (show p++[dG ss[k].s,tB 8 ss[k].n]=[N1,N2,N3]++xO (ss.take (k+1)) by rw[KO ss k G,HR.o,Nd]);have hq3:=eF ss[k].s;have hq4:=nB 8 ss[k].n;have hq5:=HZ.o k G;have HN8:=dB (λW=>au ss[k].n W);generalize dG ss[k].s=S3 at *;generalize tB 8 ss[k].n=S4 at *;generalize ss[k].s=R at *;generalize ss[k].n=Q at *;have U:=dB (jB.new wr #[pA R,mA oA Q] 134);have H1:=dB (H.o.z (zF wr (.cells #[pA R,mA oA Q] 134)));have hgB:=(fH H.o.row).2.1;clear HR H;go_upto_region 7 with fail;generalize wr.alloc (.cells #[pA R,mA oA Q] 134)=W at *;have hBX:=bB U.o;clear d c0 c1';generalize wr.1.size=K at *;clear wr;have C:cB (∀I,xB W I->yC I K 0 (pA R)/\yC I K 1 (mA oA Q)):=λI h=>(U.o.z h).c2;have T:=C.o W gD;go_region_held3 (λI=>I.cell? ⟨K,0,aA⟩=cA (pA R)/\I.cell? ⟨K,1,aA⟩=cA (mA oA Q))
    (first|go_keep|exact J|exact C.o _ (z.alloc z.size _)|exact C.o _ z|exact C.o _ a0)
    (first
     |(go_at_call 162;apply jC (X.o _);intro w3 L;have a0:xB W w3:=(Below.refl _ W).drew.trans L)
     |(go_at_call 159;apply jC (HN8.o _);intro w4 O;have z:xB W w4:=aC a0 O)
     |(refine RF (by exact H1.o.z z) (by rfl) _ _ (by rfl) (by rfl) (by rfl) (by rfl) (by omega) ?_;intro g5 Y w5 H5 d0;have J:yC w5 K 0 (pA R)/\yC w5 K 1 (mA oA Q):=(by have q:=C.o _ z;have e0:=d0 K (by have:=z.size;omega) (by omega);exact⟨(fA.cell?_of_block e0).trans q.1,(fA.cell?_of_block e0).trans q.2⟩)))
   have hle:zA (p++[S3,S4])=zA p+2:=by simp
   have hsm:iG (p++[S3,S4])=iG p+(S3.size+S4.size):=by rw[wH];simp[iG]
   replace H5:=dB H5;rw[<-hle];clear J d0;generalize p++[S3,S4]=ps5 at *;go_wp2;exact⟨⟨k+1,ps5,g5,Y,by omega,by go_num,rfl,by omega,by omega,HX,H5⟩,by simp[intOf];omega⟩
  have E2:cB (vF p=VV):=by
   show _=_;rw[EV.o,HR.o,oG,cW,Ra (by omega)];simp[vF,Wa]
  obtain⟨hcv,hg,b0⟩:=fH H.o.row;have HJ:=dB (nI g (zA p) cv p wr rfl b0 hg hcv (by omega) (by omega));rw[E2.o]at HJ;clear b0;go_wp2_with fail;apply jC HJ.o;intro w4 d;replace d:=dB d;go_wp2;go_ret;exact HS.o _ _ (aC (aC B2.o H.o.bel) d.o)
end
end
