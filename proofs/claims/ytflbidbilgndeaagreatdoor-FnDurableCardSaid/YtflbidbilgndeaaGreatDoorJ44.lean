import Derived.Test.YtflbidbilgndeaaGreatDoorJ40
set_option maxRecDepth 100000
set_option maxHeartbeats 8000000
open Option renaming none->aA,some->bA
open ByteArray renaming empty->kA
open List renaming length->yA
namespace Go.Proofs.YtflbidbilgndeaaGreatDoor
open Go renaming World->eA
open Value renaming string->oA,int->lA
open Obj renaming cells->vA
open IntKind renaming i64->mA
open Go.RowKit Tryz
section
open Go.Maps
attribute [local go_sem] jH xH xN nB.drewI qN.drewI qN.new qN.alloc qN.alloc2
theorem mu(c:iC)(a b:mC)(ca cb:Nat)(N:wC)(r:gG)(w:eA)(h:eX w a b N)(hg:GdH c N r)(hs:nC c N.now N.ts=true)(hq:VR r):
 Calls prog 16 #[rE c,.agg (sC a ca b cb N),oA (sK r)] w λe K=>TY (aZ c N r).1 (oA (aZ c N r).2) w e K:=by
 unfold aZ;rw[Ja (by simp[hg.up])];have y:=h.bulk;have HCP:=bB (λW(hW:uB w W)=>EK a b ca cb N W (h.files.z hW) h.fit.len (h.tens.z hW) (by omega) (CH (by omega)));have HCF:=bB (λW=>qR c W);have HST:=bB (λW b cb(hT:xC W b N.ts)=>sJ c N.now b cb N.ts W hT (wR (show yA N.ts+cC N.ts<=1900000 by omega)).2.1 (by omega));have HDR:=bB (λW=>mq r W hq);have HRK:=bB (Vc hq.ok (Vc hq.sz hq.U));obtain⟨V,hV⟩:∃V,V=xP c N r:=⟨_,rfl⟩
 obtain⟨s,hS⟩:∃s,s=sK r:=⟨_,rfl⟩
 rw[<-hV,<-hS];rw[<-hS]at HDR;have HE:=bB (Vc hV (Vc hg hs));clear hg hs hq hV hS;have HI:=bB (λW a b(h1:tB W a N.d.fs)(h2:xC W b N.ts)=>(⟨h1,h.fit,h2,h.bulk,h.rng,h.lsn,h.now⟩:eX W a b N));clear h y;unfold xn at HDR;unfold rE at *;have fz:=vN;have HB0:=bB (NP.new (w:=w) (c:=c) (cs:=sC a ca b cb N));have rN:=yG a ca b cb N 42;have fN:=qF a ca b cb N;go_enter func16,ntmps16;go_upto_region 1 with fail;generalize (((w.alloc (vA #[lA mA c.w,lA mA c.tl,lA mA c.ml,lA mA c.sh,lA mA c.ha,lA mA c.sg] 24)).alloc (vA (sC a ca b cb N) 42)).alloc (vA (sC aA 0 aA 0 uP) 42))=W0 at *;have X:=HB0.o.cells rfl;go_wp2_with fail;refine(HCP.o _ HB0.o.B).mono ?_;rintro e w1 ⟨a1,c1,U,d1,rfl,hF,hT,y⟩;have P:=bB (HB0.o.z y);clear X;have X:=P.o.cells rfl;clear y HB0 HCP rN fN;go_upto_region 2 with fail;refine DP (C:=λW=>Code.wp prog _ _ _ W) P.o.N ?_;intro w2 N2 T2;have I:=bB (HI.o w2 a1 U (hF.files.store P.o.N (zG _ _ _ _ _) T2) (hT.tens.store P.o.N (zG _ _ _ _ _) T2));replace P:=bB (P.o.put N2 T2);clear X hF hT N2 T2 HI;have X:=P.o.cells rfl;have rN:=yG a1 c1 U d1 N 42;have fN:=qF a1 c1 U d1 N;obtain⟨E,G,v2⟩:=HE.o;replace G:=bB G;clear HE
 rw[G.o.up,G.o.dg]at rN fN;rw[G.o.cf]at HCF;rw[v2]at HST;go_wp2_with(first
  |(go_at_call 38;apply lC (HCF.o _);intro wx y;replace P:=bB (P.o.z y);replace I:=bB (I.o.z y);clear y X;have X:=P.o.cells rfl)
  |(go_at_call 49;apply lC (HST.o _ _ _ I.o.tens);intro wx y;replace P:=bB (P.o.z y);replace I:=bB (I.o.z y);clear y X;have X:=P.o.cells rfl))
 refine(HDR.o _).mono ?_;rintro e w3 ⟨av,cv,rfl,ho,y⟩;obtain⟨k,D,me,nu,F⟩:=r;have hok:=HRK.o;dsimp only at *;obtain⟨⟨hk,hk1,hk2,hk3,hk4,hk5,hk6,hk7,hk8⟩,hsz,hnu⟩:=hok;dsimp only at *;have SM:=bB ho.P;replace P:=bB (P.o.z y);have hQ2:=P.o.lt;replace I:=bB (I.o.z y);clear ho y X HDR HRK HCF HST;go_upto_region 7 with fail;refine eI (C:=λW=>Code.wp prog _ _ _ W) ?_;intro w4 hb4 QB hz4;clear hz4;replace P:=bB (P.o.z hb4);replace I:=bB (I.o.z hb4);replace SM:=bB (SM.o.z hb4);have hQ:=aB QB;clear hb4;generalize w3.1.size=Q at *;clear w3;have q0:=QB.c5;have X:=P.o.cells rfl;go_upto_region 9 with fail;go_cut [10] (λv wx=>v=.bool (bn k)/\wx=w4)
 case first=>as_aux_lemma=>
  go_wp2;all_goals go_meet
  all_goals(unfold bn;simp_all)
 obtain⟨rfl,rfl⟩:=hcut;rename eA=>w4;have HTN:=bB (λW=>pI D W (by unfold maxLen;omega));go_upto_region 10 with fail;go_cut [10,89] (λu v wx=>u=.bool (bn k)/\v=.bool (bn k&&!bD D)/\wx=w4)
 case first=>as_aux_lemma=>
  cases hn:bn k
  .go_wp2;go_meet;exact⟨by rw[hn],by rw[hn];rfl,rfl⟩
  go_wp2_with (go_at_call 52;refine tD (HTN.o _) ?_);go_meet;exact⟨by rw[hn],by rw[hn];simp,rfl⟩
 obtain⟨rfl,rfl,rfl⟩:=hcut;rename eA=>w4;go_upto_if 89 with fail;go_cut [] (λwx=>wx=w4/\(bn k&&!bD D)=false)
 case first=>as_aux_lemma=>
  cases hn:(bn k&&!bD D)
  .go_wp2;go_meet;exact⟨rfl,hn⟩
  have E2:V=(N,pB 1 2):=by
   rw[E,xP,Ja (by simp[G.o.dg])];exact Ma (by unfold bn at hn;simpa using hn)
  subst E2;go_wp2;have O:=bB (P.o.held (sC a1 c1 U d1 N));go_region_held3 (λK=>nB K (w.1.size+1) (sC a1 c1 U d1 N) 42)
   (first|with_reducible exact(O.o _ H).1|with_reducible exact(O.o _ iD.drew).1|exact(O.o _ H).2)
   (first|(go_at_call 50;refine lC (vH _ _ (by omega) (by omega)) ?_;intro u1 y;have H:uB w4 u1:=(by with_reducible exact vB iD.drew y);have bx:=(P.o.z H).R.box rfl))
  go_wp2;exact wX rfl rfl rfl rfl (P.o.z H) (I.o.z H)
 obtain⟨rfl,hn⟩:=hcut;rename eA=>w4;replace hn:=bB hn;rw[xP,Ja (by simp[G.o.dg]),Ja (by have:=hn.o;unfold bn at this;simpa using this)]at E;dsimp only at E;clear hn hk1 hk2 hk3;have hkp:k=1\/k=2\/k=3\/k=4\/k=5\/k=6:=by omega
 obtain rfl|rfl|rfl|rfl|rfl|rfl:=hkp
 .as_aux_lemma=>
  have hex:D.size+(iE F).size+4<=60000:=by
   have e:sK ⟨1,D,me,nu,F⟩=pB 1 1++aN D++pB 2 (yA F:Nat)++iE F:=by simp[sK,bW,aW,qW,Wa]
   rw[e]at hsz;simp only[Ka,gB,rF]at hsz;omega
  obtain⟨W,hW⟩:∃W,W=jL c N.now D N.ts F:=⟨_,rfl⟩
  replace E:V=if W.2.2=[] then(N,pB 1 0++pB 2 (yA F:Nat)++W.2.1) else((eG c N W.2.2).1,nN (eG c N W.2.2).1 (eG c N W.2.2).2 (pB 1 0++pB 2 (yA F:Nat)++W.2.1)):=by rw[hW];exact E
  have GW:=bB (show W.2.2≠[]->uj c N W.2.2 by rw[hW];exact G.o.wr);replace hW:=bB hW;have HBD:=bB (aLz v2 D F (by omega) hk7 (by omega));have hI:=I.o.bulk;have HSZ:cB (∀k(h:k<yA F),tJ F[k]<=300000):=λk h=>by
   have h1:=zP F[k];have h2:=aQ F k h;have h3:=gI (F.take (k+1)) (F.drop (k+1));rw[Za,h2]at h3;have h4:=Kd ByteArray.size h3;simp only[Ka]at h4;show yA F[k].B+bE F[k].B<=_;omega
  have HJ:=bB (λW5(A:Nat->Prop) b5 d5 k la lc x(ht:dL W5 A b5 (jL c N.now D N.ts (F.take k)).1)(hl:sD W5 la x.B)(hlc:yA x.B<=lc)(hk:k<=yA F)(hx:tJ x<=300000)=>VA c N.now b5 d5 (jL c N.now D N.ts (F.take k)).1 D x la lc W5 ht hl hlc (by have:=(HBD.o k hk).2.1;omega) (by omega) hx (HBD.o k hk).1);unfold rE at HJ;have hX:=P.o.lt;have QB4:=bB QB;go_upto_region 15 with fail;refine eI (C:=λW=>Code.wp prog _ _ _ W) ?_;intro w5 y SB hz5;have hX5:=aB SB;have T5:=bB (I.o.tens.toN.z y);have BW:=bB y;clear q0;have q0:=(QB4.o.z y).c5;have hQ5:Q<w5.1.size:=by omega
  have hQ6:¬Q=w5.1.size:=by omega
  clear y X hz5;go_upto_block 1 with fail;have R0:=bB (eA.ownsRow_made (e:=137) (size:=4) w5 #[] 0 (Ia _) (by simp[maxLen]) (by simp));have z:=wF w5 (vA #[] 137);replace BW:=bB (vB BW.o z);replace T5:=bB (T5.o.z z);replace SB:=bB (SB.z z);have hB5:=z.size;clear z q0 hQ5 hQ6;generalize w5.alloc (vA #[] 137)=w6 at *;generalize w5.1.size=B5 at *;go_wp2_with fail;go_loopw [12,13,102] (λvd rc i wz=>∃(k:Nat)(b5:mC)(d5:Nat)(v:Value),k<=yA F/\i=lA mA k/\v=rc/\vd=oA (jL c N.now D N.ts (F.take k)).2.1/\cB (uB w4 wz)/\cB (nB wz w4.1.size #[lA mA N.now,.slice b5 (yA (jL c N.now D N.ts (F.take k)).1) d5] 40)/\cB (dL wz (λg=>v.ownBlock≠bA g/\g≠w4.1.size) b5 (jL c N.now D N.ts (F.take k)).1)/\cB (wz.ownsRow B5 137 4 v (yA (jL c N.now D N.ts (F.take k)).2.2) (iW (jL c N.now D N.ts (F.take k)).2.2))/\B5<=wz.1.size) (λ_ _ i _=>yA F-(intOf i).toNat)
  case atStart=>exact⟨0,U,d1,_,Oa _,rfl,rfl,rfl,BW,SB,bB (T5.o.mono λg(h:g<w4.1.size)=>⟨λe=>by have:=zH R0.o g e;omega,by omega⟩),R0,by omega⟩
  case round=>
   clear BW SB T5 R0;obtain⟨k,b5,d5,v,hk,rfl,rfl,rfl,BW,SB,T5,R0,hB⟩:=hrel;by_cases hlt:k<yA F
   .as_aux_lemma=>
    obtain⟨b6,o6,a6,k6,rfl,z,g0',g1',hl6,hc6⟩:=SM.o.atc hlt;have g0:=(BW.o.cell (p:=⟨b6,o6+k*2,aA⟩) z).trans g0';have g1:=(BW.o.cell (p:=⟨b6,o6+k*2+1,aA⟩) z).trans g1';have HJ1:=bB (λW5(hW:uB wr W5)=>HJ.o W5 _ b5 d5 k a6 k6 F[k] (T5.o.z hW) (hl6.z (BW.o.trans (hW.mono BW.o.size))) hc6 hk (HSZ.o k hlt));obtain⟨s1,s2,s3,s4,s5,s6⟩:=HBD.o k hk;obtain⟨_,_,_,jc⟩:=qn s1 D F[k];have ES:cB ((jL c N.now D N.ts (F.take (k+1))).1=(vI c N.now (jL c N.now D N.ts (F.take k)).1 D F[k]).2.1/\(jL c N.now D N.ts (F.take (k+1))).2.1=(jL c N.now D N.ts (F.take k)).2.1++pB 1 ((vI c N.now (jL c N.now D N.ts (F.take k)).1 D F[k]).1:Nat)/\(jL c N.now D N.ts (F.take (k+1))).2.2=(jL c N.now D N.ts (F.take k)).2.2++nsn (vI c N.now (jL c N.now D N.ts (F.take k)).1 D F[k]).2.2 ⟨1,D,(vI c N.now (jL c N.now D N.ts (F.take k)).1 D F[k]).2.2,0⟩):=by
     rw[TN F k hlt];exact⟨rfl,rfl,rfl⟩
    have hwr:=BW.o.size;have hnb:¬b6=wr.1.size:=by omega
    have hbw:b6<wr.1.size:=by omega
    clear g0' g1' s1 s2 s5 s6;generalize vI c N.now (jL c N.now D N.ts (F.take k)).1 D F[k]=J at *;generalize jL c N.now D N.ts (F.take k)=S at *;generalize F[k].bits=bi at *;generalize F[k].B=ls at *;obtain⟨J1,J2,J3⟩:=J;obtain⟨S1,S2,S3⟩:=S;dsimp only at *;have q0:=(QB4.o.z BW.o).c5;have z3:=gB 1 (J1:Nat);have HB:=bB (λW=>vH (J1:Nat) W (by omega) (by omega));generalize pB 1 (J1:Nat)=U3 at *;have m1:¬(9223372036854775807<S2.size+U3.size):=by omega
    have hn3:yA S3<=500:=by omega
    clear z3 s3 s4;go_upto_region 20 with fail;refine eI (C:=λW=>Code.wp prog _ _ _ W) ?_;intro w8 hb8 X8 hz8;have B8:=bB (vB BW.o hb8);have P8:=bB (P.o.z B8.o);have X:=P8.o.cells rfl;obtain⟨f,l⟩:=(SB.o.z hb8).c2;obtain⟨u0,u1⟩:=X8.c2;clear q0 hz8;have q1:=(QB4.o.z B8.o).cell 1;have H8:=bB hb8;clear hb8 g0 g1;go_wp2_with fail;refine(HJ1.o _ H8.o).mono ?_;rintro e w9 ⟨b9,d9,rfl,hT9,hb9⟩;have R9:=bB (vB H8.o hb9);have T9:=bB (hT9.mono (A':=λg=>v.ownBlock≠bA g/\g≠w4.1.size) λg h=>h.elim (λh=>h) λh=>⟨λe=>by have:=jP R0.o g e;have:=H8.o.size;omega,by have:=H8.o.size;omega⟩);clear hT9 hb9 f l u0 u1 X q1 HJ1;go_upto_region 21 with fail;refine eI (C:=λW=>Code.wp prog _ _ _ W) ?_;intro w10 hb10 X10 hz10;clear hz10;have R10:=bB (vB R9.o hb10);have T10:=bB (T9.o.z hb10);have S10:=bB (SB.o.z R10.o);obtain⟨u0,u1⟩:=X10.c2;obtain⟨f,l⟩:=S10.o.c2;have m:=S10.o.free 0;have o:=S10.o.free 1;clear hb10 X10;go_upto_region 22 with fail;refine aPd (C:=λW=>Code.wp prog _ _ _ W) S10.o ?_;intro w11 S11 T11 F11;have B11:=bB ((vB BW.o R10.o).trans (T11.below (vB BW.o R10.o).size λi hi e=>by omega));have T12:=bB (T10.o.turn T11 λg h e=>h.2 e);have R12:=bB (F11 (hC R0.o R10.o) hX5);have hB11:B5<=w11.1.size:=Ua hB (Ua R10.o.size T11.size);clear f l m o u0 u1 T11 F11;go_wp2_with fail;apply lC (HB.o _);intro w12 y;replace B11:=bB (vB B11.o y);replace T12:=bB (T12.o.z y);replace R12:=bB (hC R12.o y);have S12:=bB (S11.z y);have q1:=(QB4.o.z B11.o).cell 1;have hB12:B5<=w12.1.size:=Ua hB11 y.size;clear y S11;cases hJ:J3.toList.isEmpty
    .go_wp2_with (at_builtin;refine kI rfl _ _ rfl underlying125 QW rfl (by omega) (by omega) (v:=v) rfl R12.o rfl rfl (cs:=#[lA mA 1,oA D,oA J3,lA mA 0]) rfl (by simp[Value.oneCell']) (by omega) (by omega) ?_;intro g5 cap5 w13 HO HT HA);have FL:iW (S3++[⟨1,D,J3,0⟩])=iW S3++[lA mA 1,oA D,oA J3,lA mA 0]:=by simp[iW]
     have Z:dL w13 (λg=>(Value.slice (bA ⟨g5,0,aA⟩) (yA S3+1) cap5).ownBlock≠bA g/\g≠w4.1.size) b9 J2:=(T12.o.lt.turn HT.o λg h e=>h.1.1 e.2).mono λg h=>⟨λe=>by
      obtain rfl:g5=g:=by simpa[Value.ownBlock]using e
      obtain h'|h':=HA.o;exact h.1.1 h';have:=h.2;omega,h.1.2⟩
     exact⟨⟨k+1,b9,d9,_,by omega,by go_num,rfl,by rw[ES.o.2.1],bB (B11.o.trans (HT.o.below B11.o.size λi hi e=>by have:=e.1;omega)),bB (by rw[ES.o.1];exact HT.o.blk S12.o (λe=>by have:=e.1;omega)),bB (by rw[ES.o.1];exact Z),bB (by rw[ES.o.2.2,nsn,Ja (by rw[hJ];simp),FL,Kb];exact HO.o),Ua hB12 HT.o.size⟩,by simp[intOf];omega⟩
    go_wp2;exact⟨⟨k+1,b9,d9,v,by omega,by go_num,rfl,by rw[ES.o.2.1],B11,bB (by rw[ES.o.1];exact S12.o),bB (by rw[ES.o.1];exact T12.o),bB (by rw[ES.o.2.2,nsn,Ma hJ,Cd];exact R12.o),hB12⟩,by simp[intOf];omega⟩
   .as_aux_lemma=>
    obtain rfl:k=yA F:=by omega
    have hl:jL c N.now D N.ts (F.take (yA F))=W:=by rw[Rb];exact hW.o.symm
    have hbd:=HBD.o (yA F) (Ia _);rw[hl]at hbd R0 |-
    clear hl hW HBD HJ HSZ SB T5;obtain⟨W1,W2,W3⟩:=W;dsimp only at *;obtain⟨-,-,s3,s4,s5,s6⟩:=hbd;have s7:yA W3+gD W3<=240000:=by omega
    have HN0:=bB (λW=>vH 0 W (by omega) (by omega));have HN2:=bB (λW=>aNp (yA F:Nat) W (by omega) (by omega));have z0:=gB 1 0;have z2:=gB 2 (yA F:Nat);generalize pB 1 0=S0 at *;generalize pB 2 (yA F:Nat)=U2 at *;obtain⟨H0,hH0⟩:∃h,h=S0++U2++W2:=⟨_,rfl⟩
    rw[<-hH0]at E;replace hH0:=bB hH0;have m1:¬(9223372036854775807<S0.size+U2.size):=by omega
    have m2:¬(9223372036854775807<S0.size+U2.size+W2.size):=by omega
    clear z0 z2 s3 s4 s5;replace P:=bB (P.o.z BW.o);replace I:=bB (I.o.z BW.o);have QB5:=bB (QB4.o.z BW.o);have X:=P.o.cells rfl;go_upto_region 26 with fail;go_cut [19] (λv wx=>v=oA H0/\uB wr wx)
    case first=>as_aux_lemma=>
     have O:cB (∀K,uB wr K->tC K Q 4 (.slice av (yA F) cv)):=λK h=>(QB5.o.z h).cell 4;go_region_held3 (λK=>K.cell? ⟨Q,4,aA⟩=bA (.slice av (yA F) cv))
      (first|with_reducible exact O.o _ T|with_reducible exact O.o _ H|with_reducible exact O.o _ iD.drew)
      (first
       |(go_at_call 50;apply lC (HN0.o _);intro u1 y;have H:uB wr u1:=(by with_reducible exact vB iD.drew y))
       |(go_at_call 54;with_reducible apply lC (HN2.o _);intro u2 y;have T:uB wr u2:=(by with_reducible exact vB H y)))
     go_wp2_with fail;go_meet;exact⟨by rw[hH0.o],T⟩
    obtain⟨rfl,y⟩:=hcut;rename eA=>w6;replace P:=bB (P.o.z y);replace I:=bB (I.o.z y);replace R0:=bB (hC R0.o y);obtain⟨ra,rcap,rfl⟩:=tF R0.o;have RI:=bB (AW R0.o);clear y X HN0 HN2 m1 m2 QB5 QB4 SM BW;have X:=P.o.cells rfl;by_cases h0:W3=[]
    .obtain rfl:V=(N,H0):=E.trans (Ma h0);subst h0;have bx:=P.o.R.box rfl;go_wp2;exact wX rfl rfl rfl rfl P.o I.o
    have L:=bB (λW(h:eX W a1 U N)(hr:tI W ra W3)=>bl c (ca:=c1) (cb:=d1) (capr:=rcap) h hr s7 s6 G.o.cf G.o.b (GW.o h0));replace E:=E.trans (Ja h0);unfold TY at L;generalize eG c N W3=R at *;obtain⟨M,code⟩:=R;replace E:V=(M,nN M code H0):=E;subst E;dsimp only at L;unfold rE at L;have h1:¬yA W3=0:=λe=>h0 (Nb.1 e);have h2:¬((yA W3:Nat):Int)=0:=by omega
    go_wp2_with fail;refine(L.o _ I.o RI.o.recs).mono ?_;rintro e w7 ⟨a5,c5,b5,d5,rfl,hF,hT,y⟩;replace P:=bB (P.o.z y);have F5:=bB hF;have T5:=bB hT;clear y hF hT L I X;go_upto_region 30 with fail;refine JO (C:=λW=>Code.wp prog _ _ _ W) ?_;intro w8 z XA;have hXR:w7.1.size≠w.1.size+1+1:=by have:=P.o.lt;omega
    replace P:=bB (P.o.z z);replace F5:=bB (F5.o.z z);replace T5:=bB (T5.o.z z);have xa:=XA;have rM:=yG a5 c5 b5 d5 M 42;have fM:=qF a5 c5 b5 d5 M;clear rN fN;replace XA:=bB XA;clear z;generalize w7.1.size=X5 at *;go_wp2_with fail;refine(cY a5 b5 c5 d5 M _ _ _ F5.o T5.o).mono ?_;rintro e u2 ⟨a6,c6,b6,d6,rfl,hF,hT,y⟩;replace P:=bB (P.o.z y);have bx:=P.o.R.box rfl;go_wp2;exact lV rfl rfl rfl rfl P.o.R (zG _ _ _ _ _) (by omega) P.o.B hF hT
 .as_aux_lemma=>
  replace E:V=if (DN c N.now N.ts nu).2.2=false then(N,pB 1 2) else((eG c N [⟨2,kA,kA,nu⟩]).1,nN (eG c N [⟨2,kA,kA,nu⟩]).1 (eG c N [⟨2,kA,kA,nu⟩]).2 (pB 1 0)):=E;have HTK:=bB (λW(h:eX W a1 U N)=>IV c N.now U d1 N.ts nu W h.tens (by have:=h.bulk;omega) v2);have L:=bB (λW g(h:eX W a1 U N)(hr:tI W (bA ⟨g,0,aA⟩) [⟨2,kA,kA,nu⟩])=>bl c (ca:=c1) (cb:=d1) (capr:=1) h hr (by simp[gD]) (cl (by omega) hnu) G.o.cf G.o.b G.o.tk);unfold xU at HTK;unfold TY at L;generalize DN c N.now N.ts nu=TK at *;generalize eG c N [⟨2,kA,kA,nu⟩]=R at *;obtain⟨n9,t,o9⟩:=TK;obtain⟨M,code⟩:=R;dsimp only at HTK L E;unfold rE at HTK L;go_wp2_with fail;refine(HTK.o _ I.o).mono ?_;rintro e w5 ⟨a5,c5,rfl,ho,y⟩;replace P:=bB (P.o.z y);replace I:=bB (I.o.z y);replace QB:=QB.z y;clear ho y HTK SM X q0;go_upto_region 33 with fail;refine eI (C:=λW=>Code.wp prog _ _ _ W) ?_;intro w6 z X6 hz6;clear X6 hz6;replace P:=bB (P.o.z z);replace I:=bB (I.o.z z);replace QB:=QB.z z;have hQ6:=aB QB;have hQ7:¬Q=w6.1.size:=by omega
  clear z;have q0:=QB.c5;have X:=P.o.cells rfl;cases o9
  .obtain rfl:V=(N,pB 1 2):=E;go_wp2;have O:=bB (P.o.held (sC a1 c1 U d1 N));go_region_held3 (λK=>nB K (w.1.size+1) (sC a1 c1 U d1 N) 42)
    (first|with_reducible exact(O.o _ H).1|with_reducible exact(O.o _ iD.drew).1|exact(O.o _ H).2)
    (first|(go_at_call 50;refine lC (vH _ _ (by omega) (by omega)) ?_;intro u1 y;have H:uB w6 u1:=(by with_reducible exact vB iD.drew y);have bx:=(P.o.z H).R.box rfl))
   go_wp2;exact wX rfl rfl rfl rfl (P.o.z H) (I.o.z H)
  replace E:V=(M,nN M code (pB 1 0)):=E;subst E;go_wp2_with fail;have H7:=L.o _ w6.1.size (I.o.z (wF w6 (vA #[lA mA 2,oA ⟨#[]⟩,oA ⟨#[]⟩,lA mA nu] 137))) (SF (nB.new w6 _ _));refine H7.mono ?_;clear H7;rintro e w7 ⟨a5,c5,b5,d5,rfl,hF,hT,y⟩;replace y:=vB zB y;replace P:=bB (P.o.z y);have F5:=bB hF;have T5:=bB hT;clear y hF hT L I X q0 QB;go_upto_region 36 with fail;refine JO (C:=λW=>Code.wp prog _ _ _ W) ?_;intro w8 z XA;have hXR:w7.1.size≠w.1.size+1+1:=by have:=P.o.lt;omega
  replace P:=bB (P.o.z z);replace F5:=bB (F5.o.z z);replace T5:=bB (T5.o.z z);have xa:=XA;have rM:=yG a5 c5 b5 d5 M 42;have fM:=qF a5 c5 b5 d5 M;clear rN fN;replace XA:=bB XA;clear z;generalize w7.1.size=X5 at *;have Y:=bB (λK(h:uB w8 K)=>XA.o.z h);go_region_held3 (λK=>nB K X5 (sC a5 c5 b5 d5 M) 42)
   (first|with_reducible exact Y.o _ T|with_reducible exact Y.o _ H|with_reducible exact Y.o _ iD.drew|exact(cH _ _ _).blk (Y.o _ T) hXR)
   (first
    |(go_at_call 50;refine lC (vH _ _ (by omega) (by omega)) ?_;intro u1 y;have H:uB w8 u1:=(by with_reducible exact vB iD.drew y))
    |(go_at_call 56;refine(cY a5 b5 c5 d5 M _ _ _ (F5.o.z H) (T5.o.z H)).mono ?_;rintro e u2 ⟨a6,c6,b6,d6,rfl,hF,hT,y⟩;have T:uB w8 u2:=(by with_reducible exact vB H y);have bx:=(P.o.z T).R.box rfl))
  go_wp2;exact lV rfl rfl rfl rfl (P.o.z T).R (zG _ _ _ _ _) (by omega) (P.o.z T).B hF hT
 .as_aux_lemma=>
  replace E:V=if (vS c N.now N.ts D me nu).2.2=false then(N,pB 1 2) else((eG c N [⟨3,D,me,nu⟩]).1,nN (eG c N [⟨3,D,me,nu⟩]).1 (eG c N [⟨3,D,me,nu⟩]).2 (pB 1 0)):=E;have HTK:=bB (λW(h:eX W a1 U N)=>wW c N.now U d1 N.ts D me nu W h.tens (by have:=h.bulk;omega) (by omega) (by omega) v2);have L:=bB (λW g(h:eX W a1 U N)(hr:tI W (bA ⟨g,0,aA⟩) [⟨3,D,me,nu⟩])=>bl c (ca:=c1) (cb:=d1) (capr:=1) h hr (by simp[gD];omega) (cl (by omega) hnu) G.o.cf G.o.b G.o.lm);unfold xU at HTK;unfold TY at L;generalize vS c N.now N.ts D me nu=TK at *;generalize eG c N [⟨3,D,me,nu⟩]=R at *;obtain⟨n9,t,o9⟩:=TK;obtain⟨M,code⟩:=R;dsimp only at HTK L E;unfold rE at HTK L;go_wp2_with fail;refine(HTK.o _ I.o).mono ?_;rintro e w5 ⟨a5,c5,rfl,ho,y⟩;replace P:=bB (P.o.z y);replace I:=bB (I.o.z y);replace QB:=QB.z y;clear ho y HTK SM X q0;go_upto_region 39 with fail;refine eI (C:=λW=>Code.wp prog _ _ _ W) ?_;intro w6 z X6 hz6;clear X6 hz6;replace P:=bB (P.o.z z);replace I:=bB (I.o.z z);replace QB:=QB.z z;have hQ6:=aB QB;have hQ7:¬Q=w6.1.size:=by omega
  clear z;have q0:=QB.c5;have X:=P.o.cells rfl;cases o9
  .obtain rfl:V=(N,pB 1 2):=E;go_wp2;have O:=bB (P.o.held (sC a1 c1 U d1 N));go_region_held3 (λK=>nB K (w.1.size+1) (sC a1 c1 U d1 N) 42)
    (first|with_reducible exact(O.o _ H).1|with_reducible exact(O.o _ iD.drew).1|exact(O.o _ H).2)
    (first|(go_at_call 50;refine lC (vH _ _ (by omega) (by omega)) ?_;intro u1 y;have H:uB w6 u1:=(by with_reducible exact vB iD.drew y);have bx:=(P.o.z H).R.box rfl))
   go_wp2;exact wX rfl rfl rfl rfl (P.o.z H) (I.o.z H)
  replace E:V=(M,nN M code (pB 1 0)):=E;subst E;go_wp2_with fail;have H7:=L.o _ w6.1.size (I.o.z (wF w6 (vA #[lA mA 3,oA D,oA me,lA mA nu] 137))) (SF (nB.new w6 _ _));refine H7.mono ?_;clear H7;rintro e w7 ⟨a5,c5,b5,d5,rfl,hF,hT,y⟩;replace y:=vB zB y;replace P:=bB (P.o.z y);have F5:=bB hF;have T5:=bB hT;clear y hF hT L I X q0 QB;go_upto_region 42 with fail;refine JO (C:=λW=>Code.wp prog _ _ _ W) ?_;intro w8 z XA;have hXR:w7.1.size≠w.1.size+1+1:=by have:=P.o.lt;omega
  replace P:=bB (P.o.z z);replace F5:=bB (F5.o.z z);replace T5:=bB (T5.o.z z);have xa:=XA;have rM:=yG a5 c5 b5 d5 M 42;have fM:=qF a5 c5 b5 d5 M;clear rN fN;replace XA:=bB XA;clear z;generalize w7.1.size=X5 at *;have Y:=bB (λK(h:uB w8 K)=>XA.o.z h);go_region_held3 (λK=>nB K X5 (sC a5 c5 b5 d5 M) 42)
   (first|with_reducible exact Y.o _ T|with_reducible exact Y.o _ H|with_reducible exact Y.o _ iD.drew|exact(cH _ _ _).blk (Y.o _ T) hXR)
   (first
    |(go_at_call 50;refine lC (vH _ _ (by omega) (by omega)) ?_;intro u1 y;have H:uB w8 u1:=(by with_reducible exact vB iD.drew y))
    |(go_at_call 56;refine(cY a5 b5 c5 d5 M _ _ _ (F5.o.z H) (T5.o.z H)).mono ?_;rintro e u2 ⟨a6,c6,b6,d6,rfl,hF,hT,y⟩;have T:uB w8 u2:=(by with_reducible exact vB H y);have bx:=(P.o.z T).R.box rfl))
  go_wp2;exact lV rfl rfl rfl rfl (P.o.z T).R (zG _ _ _ _ _) (by omega) (P.o.z T).B hF hT
 .as_aux_lemma=>
  replace E:V=((NA c N).1,nN (NA c N).1 (NA c N).2 (pB 1 0)):=E;have HCK:=bB (λW(h:eX W a1 U N)=>aCl c a1 U c1 d1 N W ⟨h.files,h.fit,h.tens,by have:=h.bulk;omega,h.rng,h.lsn,h.now⟩ G.o.ck);unfold ui TY at HCK;generalize NA c N=R at *;obtain⟨M,code⟩:=R;subst E;dsimp only at HCK;unfold rE at HCK;go_wp2_with fail;refine(HCK.o _ I.o).mono ?_;rintro e w5 ⟨a5,c5,b5,d5,rfl,hF,hT,y⟩;replace P:=bB (P.o.z y);have F5:=bB hF;have T5:=bB hT;clear y hF hT HCK I SM X q0;go_upto_region 45 with fail;refine JO (C:=λW=>Code.wp prog _ _ _ W) ?_;intro w6 z XA;have hXR:w5.1.size≠w.1.size+1+1:=by have:=P.o.lt;omega
  replace P:=bB (P.o.z z);replace F5:=bB (F5.o.z z);replace T5:=bB (T5.o.z z);have xa:=XA;have rM:=yG a5 c5 b5 d5 M 42;have fM:=qF a5 c5 b5 d5 M;clear rN fN;replace XA:=bB XA;clear z;generalize w5.1.size=X5 at *;have Y:=bB (λK(h:uB w6 K)=>XA.o.z h);go_region_held3 (λK=>nB K X5 (sC a5 c5 b5 d5 M) 42)
   (first|with_reducible exact Y.o _ T|with_reducible exact Y.o _ H|with_reducible exact Y.o _ iD.drew|exact(cH _ _ _).blk (Y.o _ T) hXR)
   (first
    |(go_at_call 50;refine lC (vH _ _ (by omega) (by omega)) ?_;intro u1 y;have H:uB w6 u1:=(by with_reducible exact vB iD.drew y))
    |(go_at_call 56;refine(cY a5 b5 c5 d5 M _ _ _ (F5.o.z H) (T5.o.z H)).mono ?_;rintro e u2 ⟨a6,c6,b6,d6,rfl,hF,hT,y⟩;have T:uB w6 u2:=(by with_reducible exact vB H y);have bx:=(P.o.z T).R.box rfl))
  go_wp2;exact lV rfl rfl rfl rfl (P.o.z T).R (zG _ _ _ _ _) (by omega) (P.o.z T).B hF hT
 .as_aux_lemma=>
  replace E:V=if (oH c N.now N.ts D me).1<0 then(N,pB 1 2) else(N,pB 1 0++pB 8 (oH c N.now N.ts D me).1++pB 8 (oH c N.now N.ts D me).2):=E;have HCO:=bB (λW(h:eX W a1 U N)=>NQ c N.now U d1 N.ts D me W h.tens (wR (show yA N.ts+cC N.ts<=1900000 by have:=h.bulk;omega)).2.1 (by have:=h.bulk;omega) (by omega) (by omega));have hcr:=aIr v2 D me (by have:=I.o.bulk;omega);unfold rE at HCO;generalize oH c N.now N.ts D me=R at *;obtain⟨cn,lm⟩:=R;dsimp only at *;have HN1:=bB (λW=>bo cn W (by omega) (by omega));have HN2:=bB (λW=>bo lm W (by omega) (by omega));have HN0:=bB (λW=>vH 0 W (by omega) (by omega));have z0:=gB 1 0;have z1:=gB 8 cn;have z2:=gB 8 lm;go_wp2_with fail;apply lC (HCO.o _ I.o);intro w5 y;replace P:=bB (P.o.z y);replace I:=bB (I.o.z y);clear y HCO SM X q0 QB;have X:=P.o.cells rfl;by_cases hc:cn<0
  .obtain rfl:V=(N,pB 1 2):=E.trans (Ma hc);go_wp2;have O:=bB (P.o.held (sC a1 c1 U d1 N));go_region_held3 (λK=>nB K (w.1.size+1) (sC a1 c1 U d1 N) 42)
    (first|with_reducible exact(O.o _ H).1|with_reducible exact(O.o _ iD.drew).1|exact(O.o _ H).2)
    (first|(go_at_call 50;refine lC (vH _ _ (by omega) (by omega)) ?_;intro u1 y;have H:uB w5 u1:=(by with_reducible exact vB iD.drew y);have bx:=(P.o.z H).R.box rfl))
   go_wp2;exact wX rfl rfl rfl rfl (P.o.z H) (I.o.z H)
  replace E:V=(N,pB 1 0++pB 8 cn++pB 8 lm):=E.trans (Ja hc);generalize pB 1 0=S0 at *;generalize pB 8 cn=S1 at *;generalize pB 8 lm=S2 at *;subst E;have m1:¬(9223372036854775807<S0.size+S1.size):=by omega
  have m2:¬(9223372036854775807<(S0++S1).size+S2.size):=by rw[Ka];omega
  have O:=bB (P.o.held (sC a1 c1 U d1 N));go_wp2;go_region_held3 (λK=>nB K (w.1.size+1) (sC a1 c1 U d1 N) 42)
   (first|with_reducible exact(O.o _ r3).1|with_reducible exact(O.o _ T).1|with_reducible exact(O.o _ H).1|with_reducible exact(O.o _ iD.drew).1|exact(O.o _ r3).2)
   (first
    |(go_at_call 50;apply lC (HN0.o _);intro u1 y;have H:uB w5 u1:=(by with_reducible exact vB iD.drew y))
    |((fail_if_success (have q:=T));go_at_call 54;with_reducible apply lC (HN1.o _);intro u2 y;have T:uB w5 u2:=(by with_reducible exact vB H y))
    |(go_at_call 54;with_reducible apply lC (HN2.o _);intro u3 y;have r3:uB w5 u3:=(by with_reducible exact vB T y);have bx:=(P.o.z r3).R.box rfl))
  go_wp2;exact wX rfl rfl rfl rfl (P.o.z r3) (I.o.z r3)
 .as_aux_lemma=>
  replace E:V=(N,pB 1 0++pB 8 N.now++pB 4 (yA (aC N.ts D).Z:Nat)++mE (aC N.ts D).Z):=E;have HLT:=bB (λW(h:eX W a1 U N)=>bY N.now U d1 N.ts D W h.tens (by have:=h.bulk;omega));obtain⟨hfs,hrg⟩:=aHi v2 D (by have:=I.o.bulk;omega);unfold aHy at HLT;generalize aC N.ts D=Z at *;have HN0:=bB (λW=>vH 0 W (by omega) (by omega));have HN1:=bB (λW=>bo N.now W I.o.now.1 I.o.now.2);have HN2:=bB (λW=>aNq (yA Z.Z:Nat) W (by omega) (by omega));have z0:=gB 1 0;have z1:=gB 8 N.now;have z2:=gB 4 (yA Z.Z:Nat);generalize pB 1 0=S0 at *;generalize pB 8 N.now=S1 at *;generalize pB 4 (yA Z.Z:Nat)=S2 at *;obtain⟨H0,hH0⟩:∃h,h=S0++S1++S2:=⟨_,rfl⟩
  rw[<-hH0]at E;obtain⟨ST,hST⟩:∃h,h=H0++mE Z.Z:=⟨_,rfl⟩
  rw[<-hST]at E;replace hH0:=bB hH0;replace hST:=bB hST;subst E;go_wp2_with fail;refine(HLT.o _ I.o).mono ?_;rintro e w5 ⟨⟨a5,c5,a6,c6,rfl,hp5,hp6⟩,y⟩;have PI:=bB hp6;replace P:=bB (P.o.z y);replace I:=bB (I.o.z y);clear y hp5 hp6 HLT SM X q0 QB;have X:=P.o.cells rfl;have hfd:=QF (oA Z.N) (lA mA Z.L) (.slice a5 (yA Z.M) c5) (.slice a6 (yA Z.Z) c6);go_upto_region 52 with fail;clear hfd;go_cut [35] (λv wx=>v=oA H0/\uB w5 wx)
  case first=>as_aux_lemma=>
   have m1:¬(9223372036854775807<S0.size+S1.size):=by omega
   have m2:¬(9223372036854775807<(S0++S1).size+S2.size):=by rw[Ka];omega
   have O:=bB (P.o.held (sC a1 c1 U d1 N));go_region_held3 (λK=>nB K (w.1.size+1) (sC a1 c1 U d1 N) 42)
    (first|with_reducible exact(O.o _ r3).1|with_reducible exact(O.o _ T).1|with_reducible exact(O.o _ H).1|with_reducible exact(O.o _ iD.drew).1)
    (first
     |(go_at_call 50;apply lC (HN0.o _);intro u1 y;have H:uB w5 u1:=(by with_reducible exact vB iD.drew y))
     |((fail_if_success (have q:=T));go_at_call 54;with_reducible apply lC (HN1.o _);intro u2 y;have T:uB w5 u2:=(by with_reducible exact vB H y))
     |(go_at_call 54;with_reducible apply lC (HN2.o _);intro u3 y;have r3:uB w5 u3:=(by with_reducible exact vB T y)))
   go_wp2_with fail;go_meet;exact⟨by rw[hH0.o],r3⟩
  obtain⟨rfl,y⟩:=hcut;rename eA=>w6;replace P:=bB (P.o.z y);replace I:=bB (I.o.z y);replace PI:=bB (PI.o.z y);have hH:H0.size<=100:=by rw[hH0.o];simp only[Ka];omega
  clear y X HN0 HN1 HN2 z0 z1 z2;go_wp2_with fail;go_loopw [35,284] (λrp i wz=>∃(j:Nat)(st:jB),j<=yA Z.Z/\i=lA mA j/\rp=oA st/\cB (st=H0++mE (Z.Z.take j))/\cB (NP w wz c (sC a1 c1 U d1 N))/\cB (eX wz a1 U N)/\cB (jC wz a6 Z.Z)) (λ_ i _=>yA Z.Z-(intOf i).toNat)
  case atStart=>exact⟨0,H0,Oa _,rfl,rfl,by show _=_;simp[mE],P,I,PI⟩
  case round=>
   clear P I PI;obtain⟨j,st,hj,rfl,rfl,HE,P,I,PI⟩:=hrel;have X:=P.o.cells rfl;have hst:st.size<=20000000:=by
    have h1:=nT (Z.Z.take j);have h2:=fQ Z.Z j;rw[HE.o,Ka];rw[Hb]at h1;omega
   by_cases hlt:j<yA Z.Z
   .obtain ⟨b5,o5,rfl,hb5,g0,g1⟩:=PI.o.at hlt;have hps:=nK Z.Z j hlt;have hrj:=hrg j hlt;have HS:=bB (λW=>rO Z.Z[j].s W (by omega));have HL:=bB (λW=>bo Z.Z[j].n W hrj.1 hrj.2);have z3:=iF Z.Z[j].s;have z4:=gB 8 Z.Z[j].n;have E3:cB (∀U3 U4,U3=aG Z.Z[j].s->U4=pB 8 Z.Z[j].n->st++(U3++U4)=H0++mE (Z.Z.take (j+1))):=λU3 U4 e1 e2=>by rw[PV _ _ hlt,HE.o,e1,e2,NK];simp only[Wa]
    generalize aG Z.Z[j].s=U3 at *;generalize pB 8 Z.Z[j].n=U4 at *;replace E3:=bB (E3.o U3 U4 rfl rfl);generalize Z.Z[j].s=ks at *;generalize Z.Z[j].n=kn at *;have m1:¬(9223372036854775807<U3.size+U4.size):=by omega
    have m2:¬(9223372036854775807<st.size+(U3.size+U4.size)):=by omega
    clear z3 z4 hps hst;go_upto_region 56 with fail;refine eI (C:=λW=>Code.wp prog _ _ _ W) ?_;intro w8 hb8 X8 hz8;clear hz8;replace P:=bB (P.o.z hb8);replace I:=bB (I.o.z hb8);replace PI:=bB (PI.o.z hb8);have x8:=X8;clear X g0 g1 hb8;generalize wr.1.size=X5 at *;have O:=bB (λK(h:uB w8 K)=>(X8.z h).c2);obtain⟨h0,h1⟩:=X8.c2;go_region_held3 (λK=>K.cell? ⟨X5,0,aA⟩=bA (oA ks)/\K.cell? ⟨X5,1,aA⟩=bA (lA mA kn))
     (first|with_reducible exact O.o _ T|with_reducible exact O.o _ H|with_reducible exact O.o _ iD.drew)
     (first
      |(go_at_call 62;apply lC (HS.o _);intro u1 y;have H:uB w8 u1:=(by with_reducible exact vB iD.drew y))
      |(go_at_call 54;with_reducible apply lC (HL.o _);intro u2 y;have T:uB w8 u2:=(by with_reducible exact vB H y)))
    replace P:=bB (P.o.z T);replace I:=bB (I.o.z T);replace PI:=bB (PI.o.z T);generalize st++(U3++U4)=st5 at *;go_wp2;exact⟨⟨j+1,st5,by omega,by go_num,rfl,E3,P,I,PI⟩,by simp[intOf];omega⟩
   obtain rfl:st=ST:=by rw[hST.o,HE.o,Ra (by omega)]
   go_wp2;exact wX rfl rfl rfl rfl P.o I.o
end
