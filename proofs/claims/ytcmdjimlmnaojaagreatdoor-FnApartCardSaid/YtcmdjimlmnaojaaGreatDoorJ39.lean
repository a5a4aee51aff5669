import Derived.Test.YtcmdjimlmnaojaaGreatDoorJ38
set_option maxRecDepth 100000
set_option maxHeartbeats 8000000
open List renaming length->zA
namespace Go.Proofs.YtcmdjimlmnaojaaGreatDoor
open Go.RowKit Tryz
section
open Go.Maps
attribute [local go_sem] fG dH lK jB.drewI sK.drewI sK.new sK.alloc sK.alloc2
theorem aKs(c:lC)(a b:nC)(ca cb:Nat)(N:sC)(r:eG)(w:World)(h:rQ w a b N)(d:aKr c N r [1]):
 Calls prog 13 #[uE c,.agg (gC a ca b cb N),.string (wK r)] w λe w'=>RT (lI c N r).1 (.string (lI c N r).2) w e w':=by
 have o:=h.bulk;have I:=dB (λW(hW:xB w W)=>vN a b ca cb N W (h.files.z hW) h.fit.len (h.tens.z hW) (by omega) (dP (by omega)));have HCF:=dB (λW=>fK c W);have HST:=dB (λW b cb(hT:aD W b N.ts)=>tH c N.now b cb N.ts W hT (gR (show zA N.ts+eC N.ts<=1900000 by omega)).2.1 (by omega));have J:=dB (λW=>kZ r W d.2.2.2.1);have HRK:=dB (Vc d.2.2.2.1.ok (Vc d.2.2.2.1.sz d.2.2.2.1.U));obtain⟨V,m⟩:∃V,V=lI c N r:=⟨_,rfl⟩
 obtain⟨s,B⟩:∃s,s=wK r:=⟨_,rfl⟩
 rw[<-m,<-B];rw[<-B]at J;have HE:=dB (show V=lI c N r/\lG c=true/\N.up=true/\iC c N.now N.ts=true/\r.K∈[(1:Int)] from⟨m,d.1,d.2.1,d.2.2.1,d.2.2.2.2⟩);clear d m B;have HI:=dB (λW a b(h1:uB W a N.d.fs)(h2:aD W b N.ts)=>(⟨h1,h.fit,h2,h.bulk,h.rng,h.lsn,h.now⟩:rQ W a b N));clear h o;unfold bj at J;unfold uE at *;have d:=cL;have m:=dB (NP.new (w:=w) (c:=c) (cs:=gC a ca b cb N));have rN:=jF a ca b cb N 42;have fN:=rE a ca b cb N;go_enter func13,ntmps13;go_upto_region 1 with fail;generalize (((w.alloc (.cells #[aB c.w,aB c.tl,aB c.ml,aB c.sh,aB c.ha,aB c.sg] 24)).alloc (.cells (gC a ca b cb N) 42)).alloc (.cells (gC none 0 none 0 bL) 42))=d at *;obtain⟨D,F,G,H,K,L,O,T,U,X,Y,Z,d,B,y4⟩:=m.o.cells rfl;go_wp2_with fail;refine(I.o _ m.o.B).mono ?_;rintro e w1 ⟨a1,c1,b1,d1,rfl,hF,hT,o⟩;have P:=dB (m.o.z o);clear D F G H K L O T U X Y Z d B y4;obtain⟨D,F,G,H,K,L,O,T,U,X,Y,Z,d,B,y4⟩:=P.o.cells rfl;clear o m I rN fN;go_upto_region 2 with fail;refine kU (C:=λW=>Code.wp prog _ _ _ W) P.o.N ?_;intro w2 N2 m;have I:=dB (HI.o w2 a1 b1 (hF.files.store P.o.N (rF _ _ _ _ _) m) (hT.tens.store P.o.N (rF _ _ _ _ _) m));replace P:=dB (P.o.put N2 m);clear D F G H K L O T U X Y Z d B y4 hF hT N2 m HI;obtain⟨D,F,G,H,K,L,O,T,U,X,Y,Z,d,B,y4⟩:=P.o.cells rfl;have rN:=jF a1 c1 b1 d1 N 42;have fN:=rE a1 c1 b1 d1 N;obtain⟨E,v0,v1,v2,m⟩:=HE.o;replace m:=dB m;clear HE
 rw[v1]at rN fN;rw[v0]at HCF;rw[v2]at HST;go_wp2_with(first
  |(go_at_call 33;apply jC (HCF.o _);intro wx o;replace P:=dB (P.o.z o);replace I:=dB (I.o.z o);clear o D F G H K L O T U X Y Z d B y4;obtain⟨D,F,G,H,K,L,O,T,U,X,Y,Z,d,B,y4⟩:=P.o.cells rfl)
  |(go_at_call 44;apply jC (HST.o _ _ _ I.o.tens);intro wx o;replace P:=dB (P.o.z o);replace I:=dB (I.o.z o);clear o D F G H K L O T U X Y Z d B y4;obtain⟨D,F,G,H,K,L,O,T,U,X,Y,Z,d,B,y4⟩:=P.o.cells rfl))
 refine(J.o _).mono ?_;rintro e w3 ⟨av,cv,rfl,ho,o⟩;obtain⟨k,q,me,nu,n⟩:=r;have hok:=HRK.o;dsimp only at *;obtain⟨⟨hk,hk1,hk2,hk3,hk4,hk5,hk6,hk7,hk8⟩,hsz,hnu⟩:=hok;dsimp only at *;have SM:=dB ho.P;replace P:=dB (P.o.z o);replace I:=dB (I.o.z o);clear ho o D F G H K L O T U X Y Z d B y4 J HRK HCF HST;go_upto_region 7 with fail;refine zI (C:=λW=>Code.wp prog _ _ _ W) ?_;intro y J QB hz4;clear hz4;replace P:=dB (P.o.z J);replace I:=dB (I.o.z J);replace SM:=dB (SM.o.z J);have hQ:=bB QB;clear J;generalize w3.1.size=Q at *;clear w3;obtain⟨q0,q1,q2,q3,q4⟩:=QB.c5;obtain⟨D,F,G,H,K,L,O,T,U,X,Y,Z,d,B,y4⟩:=P.o.cells rfl;go_cut [72] (λv wx=>v=.bool (N.deg&&decide (k<=4))/\wx=y)
 case first=>as_aux_lemma=>
  go_wp2;all_goals go_meet
  all_goals simp_all
 obtain⟨rfl,rfl⟩:=hcut;rename World=>y;go_upto_if 72 with fail;go_cut [] (λwx=>wx=y/\(N.deg&&decide (k<=4))=false)
 case first=>as_aux_lemma=>
  cases hd:(N.deg&&decide (k<=4))
  .go_wp2;go_meet;exact⟨rfl,hd⟩
  have E2:V=(N,tB 1 3):=by rw[E,lI];exact Ma (by simpa using hd)
  subst E2;go_wp2;have HK:=dB (P.o.held (gC a1 c1 b1 d1 N));go_region_held3 (λw'=>jB w' (w.1.size+1) (gC a1 c1 b1 d1 N) 42)
   (first|with_reducible exact(HK.o _ r1).1|with_reducible exact(HK.o _ gD.drew).1|exact(HK.o _ r1).2)
   (first|(go_at_call 45;refine jC (mF _ _ (by omega) (by omega)) ?_;intro u1 o;have r1:xB y u1:=(by with_reducible exact aC gD.drew o);have bx:=(P.o.z r1).R.box rfl))
  go_wp2;exact lM rfl rfl rfl rfl (P.o.z r1) (I.o.z r1)
 obtain⟨rfl,hd⟩:=hcut;rename World=>y;replace hd:=dB hd;go_upto_region 9 with fail;go_cut [10] (λv wx=>v=.bool (xP k)/\wx=y)
 case first=>as_aux_lemma=>
  go_wp2;all_goals go_meet
  all_goals(unfold xP;simp_all)
 obtain⟨rfl,rfl⟩:=hcut;rename World=>y;have HTN:=dB (λW=>rG q W (by unfold maxLen;omega));go_upto_region 10 with fail;go_cut [10,89] (λu v wx=>u=.bool (xP k)/\v=.bool (xP k&&!uC q)/\wx=y)
 case first=>as_aux_lemma=>
  cases J:xP k
  .go_wp2;go_meet;exact⟨by rw[J],by rw[J];rfl,rfl⟩
  go_wp2_with (go_at_call 47;refine rD (HTN.o _) ?_);go_meet;exact⟨by rw[J],by rw[J];simp,rfl⟩
 obtain⟨rfl,rfl,rfl⟩:=hcut;rename World=>y;go_upto_if 89 with fail;go_cut [] (λwx=>wx=y/\(xP k&&!uC q)=false)
 case first=>as_aux_lemma=>
  cases J:(xP k&&!uC q)
  .go_wp2;go_meet;exact⟨rfl,J⟩
  have E2:V=(N,tB 1 2):=by
   rw[E,lI,Ja (by have:=hd.o;simp at this;simpa using this)];exact Ma (by unfold xP at J;simpa using J)
  subst E2;go_wp2;have HK:=dB (P.o.held (gC a1 c1 b1 d1 N));go_region_held3 (λw'=>jB w' (w.1.size+1) (gC a1 c1 b1 d1 N) 42)
   (first|with_reducible exact(HK.o _ r1).1|with_reducible exact(HK.o _ gD.drew).1|exact(HK.o _ r1).2)
   (first|(go_at_call 45;refine jC (mF _ _ (by omega) (by omega)) ?_;intro u1 o;have r1:xB y u1:=(by with_reducible exact aC gD.drew o);have bx:=(P.o.z r1).R.box rfl))
  go_wp2;exact lM rfl rfl rfl rfl (P.o.z r1) (I.o.z r1)
 obtain⟨rfl,J⟩:=hcut;rename World=>y;replace J:=dB J;rw[lI,Ja (by have:=hd.o;simpa using this),Ja (by have:=J.o;unfold xP at this;simpa using this)]at E;dsimp only at E;clear hd J hk1 hk2 hk3;replace m:=m.o;simp only[Lb,Ed,Bf]at m;subst m
 as_aux_lemma=>
 have m:q.size+(iE n).size+4<=60000:=by
  have e:wK ⟨1,q,me,nu,n⟩=tB 1 1++gN q++tB 2 (zA n:Nat)++iE n:=by simp[wK,yU,xU,kV,Wa]
  rw[e]at hsz;simp only[Ka,nB,sF]at hsz;omega
 obtain⟨W,hW⟩:∃W,W=yK c N.now q N.ts n:=⟨_,rfl⟩
 replace E:V=if W.2.2=[] then(N,tB 1 0++tB 2 (zA n:Nat)++W.2.1) else((nF c N W.2.2).1,aL (nF c N W.2.2).1 (nF c N W.2.2).2 (tB 1 0++tB 2 (zA n:Nat)++W.2.1)):=by rw[hW];exact E
 replace hW:=dB hW;have HBD:=dB (aJs v2 q n (by omega) hk7 (by omega));have m:=I.o.bulk;have HSZ:cB (∀k(h:k<zA n),tJ n[k]<=300000):=λk h=>by
  have h1:=qP n[k];have h2:=rP n k h;have m:=eI (n.take (k+1)) (n.drop (k+1));rw[Za,h2]at m;have J:=Kd ByteArray.size m;simp only[Ka]at J;show zA n[k].B+aE n[k].B<=_;omega
 have HJ:=dB (λJ(A:Nat->Prop) b5 d5 k la lc x(ht:zK J A b5 (yK c N.now q N.ts (n.take k)).1)(hl:qD J la x.B)(m:zA x.B<=lc)(hk:k<=zA n)(hx:tJ x<=300000)=>SS c N.now b5 d5 (yK c N.now q N.ts (n.take k)).1 q x la lc J ht hl m (by have:=(HBD.o k hk).2.1;omega) (by omega) hx (HBD.o k hk).1);unfold uE at HJ;have QB4:=dB QB;go_upto_region 15 with fail;refine zI (C:=λW=>Code.wp prog _ _ _ W) ?_;intro m o SB hz5;have hX5:=bB SB;have T5:=dB (I.o.tens.toN.z o);have z:=dB o;clear q0 q1 q2 q3 q4;obtain⟨q0,q1,q2,q3,q4⟩:=(QB4.o.z o).c5;have hQ5:Q<m.1.size:=by omega
 clear o D F G H K L O T U X Y Z d B y4 hz5;go_upto_block 1 with fail;have R0:=dB (World.ownsRow_made (e:=119) (size:=4) m #[] 0 (Ia _) (by simp[maxLen]) (by simp));have t:=zF m (.cells #[] 119);replace z:=dB (aC z.o t);replace T5:=dB (T5.o.z t);replace SB:=dB (SB.z t);have hB5:=t.size;clear t q0 q1 q2 q3 q4 hQ5;generalize m.alloc (.cells #[] 119)=w6 at *;generalize m.1.size=B5 at *;go_wp2_with fail;go_loopw [12,13,102] (λvd rc i m=>∃(k:Nat)(b5:nC)(d5:Nat)(v:Value),k<=zA n/\i=aB k/\v=rc/\vd=.string (yK c N.now q N.ts (n.take k)).2.1/\cB (xB y m)/\cB (jB m y.1.size #[aB N.now,.slice b5 (zA (yK c N.now q N.ts (n.take k)).1) d5] 40)/\cB (zK m (λg=>v.ownBlock≠some g/\g≠y.1.size) b5 (yK c N.now q N.ts (n.take k)).1)/\cB (m.ownsRow B5 119 4 v (zA (yK c N.now q N.ts (n.take k)).2.2) (EO (yK c N.now q N.ts (n.take k)).2.2))/\B5<=m.1.size) (λ_ _ i _=>zA n-(intOf i).toNat)
 case atStart=>exact⟨0,b1,d1,_,Oa _,rfl,rfl,rfl,z,SB,dB (T5.o.mono λg(h:g<y.1.size)=>⟨λe=>by have:=uH R0.o g e;omega,by omega⟩),R0,by omega⟩
 case round=>
  clear z SB T5 R0;obtain⟨k,b5,d5,v,hk,rfl,rfl,rfl,z,SB,T5,R0,hB⟩:=hrel;by_cases m:k<zA n
  .as_aux_lemma=>
   obtain⟨b6,o6,a6,k6,rfl,t,g0',g1',hl6,hc6⟩:=SM.o.atc m;have g0:=(z.o.cell (p:=(eB b6 (o6+k*2))) t).trans g0';have g1:=(z.o.cell (p:=(eB b6 (o6+k*2+1))) t).trans g1';have HJ1:=dB (λJ(hW:xB wr J)=>HJ.o J _ b5 d5 k a6 k6 n[k] (T5.o.z hW) (hl6.z (z.o.trans (hW.mono z.o.size))) hc6 hk (HSZ.o k m));obtain⟨J,s2,s3,s4,s5,s6⟩:=HBD.o k hk;obtain⟨_,_,_,jc⟩:=PC J q n[k];have ES:cB ((yK c N.now q N.ts (n.take (k+1))).1=(gH c N.now (yK c N.now q N.ts (n.take k)).1 q n[k]).2.1/\(yK c N.now q N.ts (n.take (k+1))).2.1=(yK c N.now q N.ts (n.take k)).2.1++tB 1 ((gH c N.now (yK c N.now q N.ts (n.take k)).1 q n[k]).1:Nat)/\(yK c N.now q N.ts (n.take (k+1))).2.2=(yK c N.now q N.ts (n.take k)).2.2++nsn (gH c N.now (yK c N.now q N.ts (n.take k)).1 q n[k]).2.2 ⟨1,q,(gH c N.now (yK c N.now q N.ts (n.take k)).1 q n[k]).2.2,0⟩):=by
    rw[RQ n k m];exact⟨rfl,rfl,rfl⟩
   have m:=z.o.size;clear g0' g1' J s2 s5 s6;generalize gH c N.now (yK c N.now q N.ts (n.take k)).1 q n[k]=J at *;generalize yK c N.now q N.ts (n.take k)=S at *;generalize n[k].bits=bi at *;generalize n[k].B=ls at *;obtain⟨m,J2,J3⟩:=J;obtain⟨J,J,S3⟩:=S;dsimp only at *;obtain⟨q0,q1,q2,q3,q4⟩:=(QB4.o.z z.o).c5;have z3:=nB 1 (m:Nat);have HB:=dB (λW=>mF (m:Nat) W (by omega) (by omega));generalize tB 1 (m:Nat)=m at *;have m1:¬(9223372036854775807<J.size+m.size):=by omega
   have m:zA S3<=500:=by omega
   clear z3 s3 s4;go_upto_region 20 with fail;refine zI (C:=λW=>Code.wp prog _ _ _ W) ?_;intro w8 m X8 J;have B8:=dB (aC z.o m);have P8:=dB (P.o.z B8.o);obtain⟨D,F,G,H,K,L,O,T,U,X,Y,Z,d,B,y4⟩:=P8.o.cells rfl;obtain⟨f,j⟩:=(SB.o.z m).c2;obtain⟨u0,u1⟩:=X8.c2;clear q0 q1 q2 q3 q4 J;have q1:=(QB4.o.z B8.o).cell 1;have H8:=dB m;clear m g0 g1;go_wp2_with fail;refine(HJ1.o _ H8.o).mono ?_;rintro e m ⟨b9,d9,rfl,m,J⟩;have R9:=dB (aC H8.o J);have T9:=dB (m.mono (A':=λg=>v.ownBlock≠some g/\g≠y.1.size) λg h=>h.elim (λh=>h) λh=>⟨λe=>by have:=eH R0.o g e;have:=H8.o.size;omega,by have:=H8.o.size;omega⟩);clear m J f j u0 u1 D F G H K L O T U X Y Z d B y4 q1 HJ1;go_upto_region 21 with fail;refine zI (C:=λW=>Code.wp prog _ _ _ W) ?_;intro m J X10 m;clear m;have R10:=dB (aC R9.o J);have T10:=dB (T9.o.z J);have S10:=dB (SB.o.z R10.o);obtain⟨u0,u1⟩:=X10.c2;obtain⟨f,j⟩:=S10.o.c2;have l:=S10.o.free 0;have m:=S10.o.free 1;clear J X10;go_upto_region 22 with fail;refine aMw (C:=λW=>Code.wp prog _ _ _ W) S10.o ?_;intro w11 S11 T11 F11;have J:=dB ((aC z.o R10.o).trans (T11.below (aC z.o R10.o).size λi hi e=>by omega));have T12:=dB (T10.o.turn T11 λg h e=>h.2 e);have R12:=dB (F11 (hC R0.o R10.o) hX5);have hB11:B5<=w11.1.size:=Ua hB (Ua R10.o.size T11.size);clear f j l m u0 u1 T11 F11;go_wp2_with fail;apply jC (HB.o _);intro w12 o;replace J:=dB (aC J.o o);replace T12:=dB (T12.o.z o);replace R12:=dB (hC R12.o o);have S12:=dB (S11.z o);have q1:=(QB4.o.z J.o).cell 1;have m:B5<=w12.1.size:=Ua hB11 o.size;clear o S11;cases hJ:J3.toList.isEmpty
   .go_wp2_with (at_builtin;refine zM rfl _ _ rfl underlying107 ew rfl (by omega) (by omega) (v:=v) rfl R12.o rfl rfl (cs:=#[aB 1,.string q,.string J3,aB 0]) rfl (by simp[Value.oneCell']) (by omega) (by omega) ?_;intro g5 cap5 w13 HO HT HA);have FL:EO (S3++[⟨1,q,J3,0⟩])=EO S3++[aB 1,.string q,.string J3,aB 0]:=by simp[EO]
    have TT:zK w13 (λg=>(Value.slice (vB g5) (zA S3+1) cap5).ownBlock≠some g/\g≠y.1.size) b9 J2:=(T12.o.lt.turn HT.o λg h e=>h.1.1 e.2).mono λg h=>⟨λe=>by
     obtain rfl:g5=g:=by simpa[Value.ownBlock]using e
     obtain h'|h':=HA.o;exact h.1.1 h';have:=h.2;omega,h.1.2⟩
    exact⟨⟨k+1,b9,d9,_,by omega,by go_num,rfl,by rw[ES.o.2.1],dB (J.o.trans (HT.o.below J.o.size λi hi e=>by have:=e.1;omega)),dB (by rw[ES.o.1];exact HT.o.blk S12.o (λe=>by have:=e.1;omega)),dB (by rw[ES.o.1];exact TT),dB (by rw[ES.o.2.2,nsn,Ja (by rw[hJ];simp),FL,Kb];exact HO.o),Ua m HT.o.size⟩,by simp[intOf];omega⟩
   go_wp2;exact⟨⟨k+1,b9,d9,v,by omega,by go_num,rfl,by rw[ES.o.2.1],J,dB (by rw[ES.o.1];exact S12.o),dB (by rw[ES.o.1];exact T12.o),dB (by rw[ES.o.2.2,nsn,Ma hJ,Cd];exact R12.o),m⟩,by simp[intOf];omega⟩
  .as_aux_lemma=>
   obtain rfl:k=zA n:=by omega
   have hl:yK c N.now q N.ts (n.take (zA n))=W:=by rw[Rb];exact hW.o.symm
   have m:=HBD.o (zA n) (Ia _);rw[hl]at m R0 |-
   clear hl hW HBD HJ HSZ SB T5;obtain⟨J,W2,J⟩:=W;dsimp only at *;obtain⟨-,-,s3,s4,s5,s6⟩:=m;have s7:zA J+eD J<=240000:=by omega
   have HN0:=dB (λW=>mF 0 W (by omega) (by omega));have HN2:=dB (λW=>aLp (zA n:Nat) W (by omega) (by omega));have z0:=nB 1 0;have z2:=nB 2 (zA n:Nat);generalize tB 1 0=S0 at *;generalize tB 2 (zA n:Nat)=U2 at *;obtain⟨H0,m⟩:∃h,h=S0++U2++W2:=⟨_,rfl⟩
   rw[<-m]at E;replace m:=dB m;have m1:¬(9223372036854775807<S0.size+U2.size):=by omega
   have m2:¬(9223372036854775807<S0.size+U2.size+W2.size):=by omega
   clear z0 z2 s3 s4 s5;replace P:=dB (P.o.z z.o);replace I:=dB (I.o.z z.o);have QB5:=dB (QB4.o.z z.o);obtain⟨D,F,G,H,K,L,O,T,U,X,Y,Z,d,B,y4⟩:=P.o.cells rfl;go_upto_region 26 with fail;go_cut [19] (λv wx=>v=.string H0/\xB wr wx)
   case first=>as_aux_lemma=>
    have HK:cB (∀w',xB wr w'->yC w' Q 4 (.slice av (zA n) cv)):=λw' h=>(QB5.o.z h).cell 4;go_region_held3 (λw'=>w'.cell? (eB Q 4)=some (.slice av (zA n) cv))
     (first|with_reducible exact HK.o _ r2|with_reducible exact HK.o _ r1|with_reducible exact HK.o _ gD.drew)
     (first
      |(go_at_call 45;apply jC (HN0.o _);intro u1 o;have r1:xB wr u1:=(by with_reducible exact aC gD.drew o))
      |(go_at_call 49;with_reducible apply jC (HN2.o _);intro u2 o;have r2:xB wr u2:=(by with_reducible exact aC r1 o)))
    go_wp2_with fail;go_meet;exact⟨by rw[m.o],r2⟩
   obtain⟨rfl,o⟩:=hcut;rename World=>w6;replace P:=dB (P.o.z o);replace I:=dB (I.o.z o);replace R0:=dB (hC R0.o o);obtain⟨ra,rcap,rfl⟩:=iZ R0.o;have RI:=dB (KV R0.o);clear o D F G H K L O T U X Y Z d B y4 HN0 HN2 m1 m2 QB5 QB4 SM z;obtain⟨D,F,G,H,K,L,O,T,U,X,Y,Z,d,B,y4⟩:=P.o.cells rfl;by_cases h0:J=[]
   .obtain rfl:V=(N,H0):=E.trans (Ma h0);subst h0;have bx:=P.o.R.box rfl;go_wp2;exact lM rfl rfl rfl rfl P.o I.o
   have m:=dB (λW(h:rQ W a1 b1 N)(hr:yI W ra J)=>YV c (ca:=c1) (cb:=d1) (capr:=rcap) h hr s7 s6);replace E:=E.trans (Ja h0);unfold RT at m;generalize nF c N J=R at *;obtain⟨M,code⟩:=R;replace E:V=(M,aL M code H0):=E;subst E;dsimp only at m;unfold uE at m;have h1:¬zA J=0:=λe=>h0 (Nb.1 e);have h2:¬((zA J:Nat):Int)=0:=by omega
   go_wp2_with fail;refine(m.o _ I.o RI.o.recs).mono ?_;rintro e w7 ⟨h,J,b5,d5,rfl,hF,hT,o⟩;replace P:=dB (P.o.z o);have F5:=dB hF;have T5:=dB hT;clear o hF hT m I D F G H K L O T U X Y Z d B y4;go_upto_region 30 with fail;refine GW (C:=λW=>Code.wp prog _ _ _ W) ?_;intro w8 t d;have m:w7.1.size≠w.1.size+1+1:=by have:=P.o.lt;omega
   replace P:=dB (P.o.z t);replace F5:=dB (F5.o.z t);replace T5:=dB (T5.o.z t);have m:=d;have m:=jF h J b5 d5 M 42;have m:=rE h J b5 d5 M;clear rN fN;replace d:=dB d;clear t;generalize w7.1.size=d at *;go_wp2_with fail;refine(uW h b5 J d5 M _ _ _ F5.o T5.o).mono ?_;rintro e u2 ⟨a6,d,b6,d,rfl,hF,hT,o⟩;replace P:=dB (P.o.z o);have bx:=P.o.R.box rfl;go_wp2;exact cU rfl rfl rfl rfl P.o.R (rF _ _ _ _ _) (by omega) P.o.B hF hT
end
