import Derived.Test.YtejebmgbenmimaaGreatDoorJ45
set_option maxRecDepth 100000
set_option maxHeartbeats 8000000
open List renaming length->cB
namespace Go.Proofs.YtejebmgbenmimaaGreatDoor
open Value renaming string->tA
open Obj renaming cells->aB
open Go.RowKit Tryz
section
open Go.Maps
attribute [local go_sem] lG jH uK rB.drewI dL.drewI dL.new dL.alloc dL.alloc2
theorem aIt(c:kC)(a b:nC)(ca cb:Nat)(N:vC)(r:fH)(w:World)(h:jR w a b N)(d:aIs c N r [1]):
 Calls prog 18 #[oE c,.agg (sC a ca b cb N),tA (oK r)] w λe w'=>MJ (lJ c N r).1 (tA (lJ c N r).2) w e w':=by
 have o:=h.bulk;have G:=gB (λW(hW:zB w W)=>yS a b ca cb N W (h.files.z hW) h.fit.len (h.tens.z hW) (by omega) (cU (by omega)));have HCF:=gB (λW=>xL c W);have HST:=gB (λW b cb(hT:uC W b N.ts)=>rH c N.now b cb N.ts W hT (nO (show cB N.ts+fC N.ts<=1900000 by omega)).2.1 (by omega));have J:=gB (λW=>mZ r W d.2.2.1);have HRK:=gB (Vc d.2.2.1.ok (Vc d.2.2.1.sz d.2.2.1.U));obtain⟨V,m⟩:∃V,V=lJ c N r:=⟨_,rfl⟩
 obtain⟨s,B⟩:∃s,s=oK r:=⟨_,rfl⟩
 rw[<-m,<-B];rw[<-B]at J;have HE:=gB (show V=lJ c N r/\yi c N r/\pC c N.now N.ts=true/\r.K∈[(1:Int)] from⟨m,d.1,d.2.1,d.2.2.2⟩);clear d m B;have HI:=gB (λW a b(h1:wB W a N.d.fs)(h2:uC W b N.ts)=>(⟨h1,h.fit,h2,h.bulk,h.rng,h.lsn,h.now⟩:jR W a b N));clear h o;unfold ZY at J;unfold oE at *;have d:=cK;have m:=gB (NP.new (w:=w) (c:=c) (cs:=sC a ca b cb N));have rN:=rF a ca b cb N 42;have fN:=vE a ca b cb N;go_enter func18,ntmps18;go_upto_region 1 with fail;generalize (((w.alloc (aB #[dB c.w,dB c.tl,dB c.ml,dB c.sh,dB c.ha,dB c.sg] 24)).alloc (aB (sC a ca b cb N) 42)).alloc (aB (sC none 0 none 0 yN) 42))=d at *;obtain⟨z,D,F,H,K,L,O,T,U,X,Y,Z,d,B,y4⟩:=m.o.cells rfl;go_wp2_with fail;refine(G.o _ m.o.B).mono ?_;rintro e w1 ⟨a1,c1,b1,d1,rfl,hF,hT,o⟩;have P:=gB (m.o.z o);clear z D F H K L O T U X Y Z d B y4;obtain⟨z,D,F,H,K,L,O,T,U,X,Y,Z,d,B,y4⟩:=P.o.cells rfl;clear o m G rN fN;go_upto_region 2 with fail;refine bW (C:=λW=>Code.wp prog _ _ _ W) P.o.N ?_;intro w2 G m;have I:=gB (HI.o w2 a1 b1 (hF.files.store P.o.N (dG _ _ _ _ _) m) (hT.tens.store P.o.N (dG _ _ _ _ _) m));replace P:=gB (P.o.put G m);clear z D F H K L O T U X Y Z d B y4 hF hT G m HI;obtain⟨z,D,F,H,K,L,O,T,U,X,Y,Z,d,B,y4⟩:=P.o.cells rfl;have rN:=rF a1 c1 b1 d1 N 42;have fN:=vE a1 c1 b1 d1 N;obtain⟨E,G,v2,m⟩:=HE.o;replace G:=gB G;replace m:=gB m;clear HE
 rw[G.o.up,G.o.dg]at rN fN;rw[G.o.cf]at HCF;rw[v2]at HST;go_wp2_with(first
  |(go_at_call 53;apply oC (HCF.o _);intro wx o;replace P:=gB (P.o.z o);replace I:=gB (I.o.z o);clear o z D F H K L O T U X Y Z d B y4;obtain⟨z,D,F,H,K,L,O,T,U,X,Y,Z,d,B,y4⟩:=P.o.cells rfl)
  |(go_at_call 44;apply oC (HST.o _ _ _ I.o.tens);intro wx o;replace P:=gB (P.o.z o);replace I:=gB (I.o.z o);clear o z D F H K L O T U X Y Z d B y4;obtain⟨z,D,F,H,K,L,O,T,U,X,Y,Z,d,B,y4⟩:=P.o.cells rfl))
 refine(J.o _).mono ?_;rintro e w3 ⟨av,cv,rfl,ho,o⟩;obtain⟨k,q,me,nu,n⟩:=r;have hok:=HRK.o;dsimp only at *;obtain⟨⟨hk,hk1,hk2,hk3,hk4,hk5,hk6,hk7,hk8⟩,hsz,hnu⟩:=hok;dsimp only at *;have SM:=gB ho.P;replace P:=gB (P.o.z o);have hQ2:=P.o.lt;replace I:=gB (I.o.z o);clear ho o z D F H K L O T U X Y Z d B y4 J HRK HCF HST;go_upto_region 7 with fail;refine uI (C:=λW=>Code.wp prog _ _ _ W) ?_;intro w4 J QB hz4;clear hz4;replace P:=gB (P.o.z J);replace I:=gB (I.o.z J);replace SM:=gB (SM.o.z J);have hQ:=eB QB;clear J;generalize w3.1.size=Q at *;clear w3;obtain⟨q0,q1,q2,q3,q4⟩:=QB.c5;obtain⟨z,D,F,H,K,L,O,T,U,X,Y,Z,d,B,y4⟩:=P.o.cells rfl;go_upto_region 9 with fail;go_cut [10] (λv wx=>v=.bool (pP k)/\wx=w4)
 case first=>as_aux_lemma=>
  go_wp2;all_goals go_meet
  all_goals(unfold pP;simp_all)
 obtain⟨rfl,rfl⟩:=hcut;rename World=>w4;have HTN:=gB (λW=>qG q W (by unfold maxLen;omega));go_upto_region 10 with fail;go_cut [10,89] (λu v wx=>u=.bool (pP k)/\v=.bool (pP k&&!xC q)/\wx=w4)
 case first=>as_aux_lemma=>
  cases J:pP k
  .go_wp2;go_meet;exact⟨by rw[J],by rw[J];rfl,rfl⟩
  go_wp2_with (go_at_call 66;refine tD (HTN.o _) ?_);go_meet;exact⟨by rw[J],by rw[J];simp,rfl⟩
 obtain⟨rfl,rfl,rfl⟩:=hcut;rename World=>w4;go_upto_if 89 with fail;go_cut [] (λwx=>wx=w4/\(pP k&&!xC q)=false)
 case first=>as_aux_lemma=>
  cases J:(pP k&&!xC q)
  .go_wp2;go_meet;exact⟨rfl,J⟩
  have E2:V=(N,uB 1 2):=by
   rw[E,lJ,Ja (by simp[G.o.dg])];exact Ma (by unfold pP at J;simpa using J)
  subst E2;go_wp2;have HK:=gB (P.o.held (sC a1 c1 b1 d1 N));go_region_held3 (λw'=>rB w' (w.1.size+1) (sC a1 c1 b1 d1 N) 42)
   (first|with_reducible exact(HK.o _ r1).1|with_reducible exact(HK.o _ jD.drew).1|exact(HK.o _ r1).2)
   (first|(go_at_call 64;refine oC (xG _ _ (by omega) (by omega)) ?_;intro u1 o;have r1:zB w4 u1:=(by with_reducible exact xB jD.drew o);have bx:=(P.o.z r1).R.box rfl))
  go_wp2;exact pR rfl rfl rfl rfl (P.o.z r1) (I.o.z r1)
 obtain⟨rfl,J⟩:=hcut;rename World=>w4;replace J:=gB J;rw[lJ,Ja (by simp[G.o.dg]),Ja (by have:=J.o;unfold pP at this;simpa using this)]at E;dsimp only at E;clear J hk1 hk2 hk3;replace m:=m.o;simp only[Lb,Ed,Bf]at m;subst m
 as_aux_lemma=>
 have m:q.size+(kE n).size+4<=60000:=by
  have e:oK ⟨1,q,me,nu,n⟩=uB 1 1++vM q++uB 2 (cB n:Nat)++kE n:=by simp[oK,wU,vU,iV,Wa]
  rw[e]at hsz;simp only[Ka,oB,sF]at hsz;omega
 obtain⟨W,hW⟩:∃W,W=wK c N.now q N.ts n:=⟨_,rfl⟩
 replace E:V=if W.2.2=[] then(N,uB 1 0++uB 2 (cB n:Nat)++W.2.1) else((fG c N W.2.2).1,cN (fG c N W.2.2).1 (fG c N W.2.2).2 (uB 1 0++uB 2 (cB n:Nat)++W.2.1)):=by rw[hW];exact E
 have GW:=gB (show W.2.2≠[]->iw c N W.2.2 by rw[hW];exact G.o.wr);replace hW:=gB hW;have HBD:=gB (aHt v2 q n (by omega) hk7 (by omega));have m:=I.o.bulk;have HSZ:fB (∀k(h:k<cB n),mJ n[k]<=300000):=λk h=>by
  have h1:=iP n[k];have h2:=jP n k h;have m:=dI (n.take (k+1)) (n.drop (k+1));rw[Za,h2]at m;have J:=Kd ByteArray.size m;simp only[Ka]at J;show cB n[k].B+bE n[k].B<=_;omega
 have HJ:=gB (λJ(A:Nat->Prop) b5 d5 k la lc x(ht:rK J A b5 (wK c N.now q N.ts (n.take k)).1)(hl:vD J la x.B)(m:cB x.B<=lc)(hk:k<=cB n)(hx:mJ x<=300000)=>RJ c N.now b5 d5 (wK c N.now q N.ts (n.take k)).1 q x la lc J ht hl m (by have:=(HBD.o k hk).2.1;omega) (by omega) hx (HBD.o k hk).1);unfold oE at HJ;have m:=P.o.lt;have QB4:=gB QB;go_upto_region 15 with fail;refine uI (C:=λW=>Code.wp prog _ _ _ W) ?_;intro m o SB hz5;have hX5:=eB SB;have T5:=gB (I.o.tens.toN.z o);have y:=gB o;clear q0 q1 q2 q3 q4;obtain⟨q0,q1,q2,q3,q4⟩:=(QB4.o.z o).c5;have hQ5:Q<m.1.size:=by omega
 have hQ6:¬Q=m.1.size:=by omega
 clear o z D F H K L O T U X Y Z d B y4 hz5;go_upto_block 1 with fail;have R0:=gB (World.ownsRow_made (e:=56) (size:=4) m #[] 0 (Ia _) (by simp[maxLen]) (by simp));have t:=uF m (aB #[] 56);replace y:=gB (xB y.o t);replace T5:=gB (T5.o.z t);replace SB:=gB (SB.z t);have hB5:=t.size;clear t q0 q1 q2 q3 q4 hQ5 hQ6;generalize m.alloc (aB #[] 56)=w6 at *;generalize m.1.size=B5 at *;go_wp2_with fail;go_loopw [12,13,102] (λvd rc i m=>∃(k:Nat)(b5:nC)(d5:Nat)(v:Value),k<=cB n/\i=dB k/\v=rc/\vd=tA (wK c N.now q N.ts (n.take k)).2.1/\fB (zB w4 m)/\fB (rB m w4.1.size #[dB N.now,.slice b5 (cB (wK c N.now q N.ts (n.take k)).1) d5] 40)/\fB (rK m (λg=>v.ownBlock≠some g/\g≠w4.1.size) b5 (wK c N.now q N.ts (n.take k)).1)/\fB (m.ownsRow B5 56 4 v (cB (wK c N.now q N.ts (n.take k)).2.2) (EE (wK c N.now q N.ts (n.take k)).2.2))/\B5<=m.1.size) (λ_ _ i _=>cB n-(intOf i).toNat)
 case atStart=>exact⟨0,b1,d1,_,Oa _,rfl,rfl,rfl,y,SB,gB (T5.o.mono λg(h:g<w4.1.size)=>⟨λe=>by have:=qI R0.o g e;omega,by omega⟩),R0,by omega⟩
 case round=>
  clear y SB T5 R0;obtain⟨k,b5,d5,v,hk,rfl,rfl,rfl,y,SB,T5,R0,hB⟩:=hrel;by_cases m:k<cB n
  .as_aux_lemma=>
   obtain⟨b6,o6,a6,k6,rfl,t,g0',g1',hl6,hc6⟩:=SM.o.atc m;have g0:=(y.o.cell (p:=(iB b6 (o6+k*2))) t).trans g0';have g1:=(y.o.cell (p:=(iB b6 (o6+k*2+1))) t).trans g1';have HJ1:=gB (λJ(hW:zB wr J)=>HJ.o J _ b5 d5 k a6 k6 n[k] (T5.o.z hW) (hl6.z (y.o.trans (hW.mono y.o.size))) hc6 hk (HSZ.o k m));obtain⟨J,s2,s3,s4,s5,s6⟩:=HBD.o k hk;obtain⟨_,_,_,jc⟩:=lh J q n[k];have ES:fB ((wK c N.now q N.ts (n.take (k+1))).1=(nI c N.now (wK c N.now q N.ts (n.take k)).1 q n[k]).2.1/\(wK c N.now q N.ts (n.take (k+1))).2.1=(wK c N.now q N.ts (n.take k)).2.1++uB 1 ((nI c N.now (wK c N.now q N.ts (n.take k)).1 q n[k]).1:Nat)/\(wK c N.now q N.ts (n.take (k+1))).2.2=(wK c N.now q N.ts (n.take k)).2.2++yb (nI c N.now (wK c N.now q N.ts (n.take k)).1 q n[k]).2.2 ⟨1,q,(nI c N.now (wK c N.now q N.ts (n.take k)).1 q n[k]).2.2,0⟩):=by
    rw[QK n k m];exact⟨rfl,rfl,rfl⟩
   have m:=y.o.size;have m:¬b6=wr.1.size:=by omega
   have m:b6<wr.1.size:=by omega
   clear g0' g1' J s2 s5 s6;generalize nI c N.now (wK c N.now q N.ts (n.take k)).1 q n[k]=J at *;generalize wK c N.now q N.ts (n.take k)=S at *;generalize n[k].bits=bi at *;generalize n[k].B=ls at *;obtain⟨m,J2,J3⟩:=J;obtain⟨J,J,S3⟩:=S;dsimp only at *;obtain⟨q0,q1,q2,q3,q4⟩:=(QB4.o.z y.o).c5;have z3:=oB 1 (m:Nat);have HB:=gB (λW=>xG (m:Nat) W (by omega) (by omega));generalize uB 1 (m:Nat)=m at *;have m1:¬(9223372036854775807<J.size+m.size):=by omega
   have m:cB S3<=500:=by omega
   clear z3 s3 s4;go_upto_region 20 with fail;refine uI (C:=λW=>Code.wp prog _ _ _ W) ?_;intro w8 m X8 J;have B8:=gB (xB y.o m);have P8:=gB (P.o.z B8.o);obtain⟨z,D,F,H,K,L,O,T,U,X,Y,Z,d,B,y4⟩:=P8.o.cells rfl;obtain⟨f,j⟩:=(SB.o.z m).c2;obtain⟨u0,u1⟩:=X8.c2;clear q0 q1 q2 q3 q4 J;have q1:=(QB4.o.z B8.o).cell 1;have H8:=gB m;clear m g0 g1;go_wp2_with fail;refine(HJ1.o _ H8.o).mono ?_;rintro e m ⟨b9,d9,rfl,m,J⟩;have R9:=gB (xB H8.o J);have T9:=gB (m.mono (A':=λg=>v.ownBlock≠some g/\g≠w4.1.size) λg h=>h.elim (λh=>h) λh=>⟨λe=>by have:=aH R0.o g e;have:=H8.o.size;omega,by have:=H8.o.size;omega⟩);clear m J f j u0 u1 z D F H K L O T U X Y Z d B y4 q1 HJ1;go_upto_region 21 with fail;refine uI (C:=λW=>Code.wp prog _ _ _ W) ?_;intro m J X10 m;clear m;have R10:=gB (xB R9.o J);have T10:=gB (T9.o.z J);have S10:=gB (SB.o.z R10.o);obtain⟨u0,u1⟩:=X10.c2;obtain⟨f,j⟩:=S10.o.c2;have l:=S10.o.free 0;have m:=S10.o.free 1;clear J X10;go_upto_region 22 with fail;refine aKy (C:=λW=>Code.wp prog _ _ _ W) S10.o ?_;intro w11 S11 T11 F11;have J:=gB ((xB y.o R10.o).trans (T11.below (xB y.o R10.o).size λi hi e=>by omega));have T12:=gB (T10.o.turn T11 λg h e=>h.2 e);have R12:=gB (F11 (lC R0.o R10.o) hX5);have hB11:B5<=w11.1.size:=Ua hB (Ua R10.o.size T11.size);clear f j l m u0 u1 T11 F11;go_wp2_with fail;apply oC (HB.o _);intro w12 o;replace J:=gB (xB J.o o);replace T12:=gB (T12.o.z o);replace R12:=gB (lC R12.o o);have S12:=gB (S11.z o);have q1:=(QB4.o.z J.o).cell 1;have m:B5<=w12.1.size:=Ua hB11 o.size;clear o S11;cases hJ:J3.toList.isEmpty
   .go_wp2_with (at_builtin;refine gI rfl _ _ rfl underlying57 cy rfl (by omega) (by omega) (v:=v) rfl R12.o rfl rfl (cs:=#[dB 1,tA q,tA J3,dB 0]) rfl (by simp[Value.oneCell']) (by omega) (by omega) ?_;intro g5 cap5 w13 HO HT HA);have FL:EE (S3++[⟨1,q,J3,0⟩])=EE S3++[dB 1,tA q,tA J3,dB 0]:=by simp[EE]
    have TT:rK w13 (λg=>(Value.slice (cC g5) (cB S3+1) cap5).ownBlock≠some g/\g≠w4.1.size) b9 J2:=(T12.o.lt.turn HT.o λg h e=>h.1.1 e.2).mono λg h=>⟨λe=>by
     obtain rfl:g5=g:=by simpa[Value.ownBlock]using e
     obtain h'|h':=HA.o;exact h.1.1 h';have:=h.2;omega,h.1.2⟩
    exact⟨⟨k+1,b9,d9,_,by omega,by go_num,rfl,by rw[ES.o.2.1],gB (J.o.trans (HT.o.below J.o.size λi hi e=>by have:=e.1;omega)),gB (by rw[ES.o.1];exact HT.o.blk S12.o (λe=>by have:=e.1;omega)),gB (by rw[ES.o.1];exact TT),gB (by rw[ES.o.2.2,yb,Ja (by rw[hJ];simp),FL,Kb];exact HO.o),Ua m HT.o.size⟩,by simp[intOf];omega⟩
   go_wp2;exact⟨⟨k+1,b9,d9,v,by omega,by go_num,rfl,by rw[ES.o.2.1],J,gB (by rw[ES.o.1];exact S12.o),gB (by rw[ES.o.1];exact T12.o),gB (by rw[ES.o.2.2,yb,Ma hJ,Cd];exact R12.o),m⟩,by simp[intOf];omega⟩
  .as_aux_lemma=>
   obtain rfl:k=cB n:=by omega
   have hl:wK c N.now q N.ts (n.take (cB n))=W:=by rw[Rb];exact hW.o.symm
   have m:=HBD.o (cB n) (Ia _);rw[hl]at m R0 |-
   clear hl hW HBD HJ HSZ SB T5;obtain⟨J,W2,J⟩:=W;dsimp only at *;obtain⟨-,-,s3,s4,s5,s6⟩:=m;have s7:cB J+iD J<=240000:=by omega
   have HN0:=gB (λW=>xG 0 W (by omega) (by omega));have HN2:=gB (λW=>aJq (cB n:Nat) W (by omega) (by omega));have z0:=oB 1 0;have z2:=oB 2 (cB n:Nat);generalize uB 1 0=S0 at *;generalize uB 2 (cB n:Nat)=U2 at *;obtain⟨H0,m⟩:∃h,h=S0++U2++W2:=⟨_,rfl⟩
   rw[<-m]at E;replace m:=gB m;have m1:¬(9223372036854775807<S0.size+U2.size):=by omega
   have m2:¬(9223372036854775807<S0.size+U2.size+W2.size):=by omega
   clear z0 z2 s3 s4 s5;replace P:=gB (P.o.z y.o);replace I:=gB (I.o.z y.o);have QB5:=gB (QB4.o.z y.o);obtain⟨z,D,F,H,K,L,O,T,U,X,Y,Z,d,B,y4⟩:=P.o.cells rfl;go_upto_region 26 with fail;go_cut [19] (λv wx=>v=tA H0/\zB wr wx)
   case first=>as_aux_lemma=>
    have HK:fB (∀w',zB wr w'->gD w' Q 4 (.slice av (cB n) cv)):=λw' h=>(QB5.o.z h).cell 4;go_region_held3 (λw'=>w'.cell? (iB Q 4)=some (.slice av (cB n) cv))
     (first|with_reducible exact HK.o _ r2|with_reducible exact HK.o _ r1|with_reducible exact HK.o _ jD.drew)
     (first
      |(go_at_call 64;apply oC (HN0.o _);intro u1 o;have r1:zB wr u1:=(by with_reducible exact xB jD.drew o))
      |(go_at_call 68;with_reducible apply oC (HN2.o _);intro u2 o;have r2:zB wr u2:=(by with_reducible exact xB r1 o)))
    go_wp2_with fail;go_meet;exact⟨by rw[m.o],r2⟩
   obtain⟨rfl,o⟩:=hcut;rename World=>w6;replace P:=gB (P.o.z o);replace I:=gB (I.o.z o);replace R0:=gB (lC R0.o o);obtain⟨ra,rcap,rfl⟩:=kZ R0.o;have RI:=gB (KF R0.o);clear o z D F H K L O T U X Y Z d B y4 HN0 HN2 m1 m2 QB5 QB4 SM y;obtain⟨z,D,F,H,K,L,O,T,U,X,Y,Z,d,B,y4⟩:=P.o.cells rfl;by_cases h0:J=[]
   .obtain rfl:V=(N,H0):=E.trans (Ma h0);subst h0;have bx:=P.o.R.box rfl;go_wp2;exact pR rfl rfl rfl rfl P.o I.o
   have m:=gB (λW(h:jR W a1 b1 N)(hr:lI W ra J)=>YA c (ca:=c1) (cb:=d1) (capr:=rcap) h hr s7 s6 G.o.cf G.o.b (GW.o h0));replace E:=E.trans (Ja h0);unfold MJ at m;generalize fG c N J=R at *;obtain⟨M,code⟩:=R;replace E:V=(M,cN M code H0):=E;subst E;dsimp only at m;unfold oE at m;have h1:¬cB J=0:=λe=>h0 (Nb.1 e);have h2:¬((cB J:Nat):Int)=0:=by omega
   go_wp2_with fail;refine(m.o _ I.o RI.o.recs).mono ?_;rintro e w7 ⟨h,G,b5,d5,rfl,hF,hT,o⟩;replace P:=gB (P.o.z o);have J:=gB hF;have T5:=gB hT;clear o hF hT m I z D F H K L O T U X Y Z d B y4;go_upto_region 30 with fail;refine dY (C:=λW=>Code.wp prog _ _ _ W) ?_;intro w8 t d;have m:w7.1.size≠w.1.size+1+1:=by have:=P.o.lt;omega
   replace P:=gB (P.o.z t);replace J:=gB (J.o.z t);replace T5:=gB (T5.o.z t);have m:=d;have m:=rF h G b5 d5 M 42;have m:=vE h G b5 d5 M;clear rN fN;replace d:=gB d;clear t;generalize w7.1.size=d at *;go_wp2_with fail;refine(vW h b5 G d5 M _ _ _ J.o T5.o).mono ?_;rintro e u2 ⟨a6,d,b6,d,rfl,hF,hT,o⟩;replace P:=gB (P.o.z o);have bx:=P.o.R.box rfl;go_wp2;exact aU rfl rfl rfl rfl P.o.R (dG _ _ _ _ _) (by omega) P.o.B hF hT
end
