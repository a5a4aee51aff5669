import Derived.Test.YtiegonaogehghaaGreatDoorJ38
set_option maxRecDepth 100000
set_option maxHeartbeats 8000000
open List renaming length->yA
namespace Go.Proofs.YtiegonaogehghaaGreatDoor
open Go.RowKit Tryz
section
open Go.Maps
attribute [local go_sem] wF uG fK gB.drewI oK.drewI oK.new oK.alloc oK.alloc2
theorem aKt(c:gC)(a b:jC)(ca cb:Nat)(N:pC)(r:dG)(w:World)(h:nQ w a b N)(d:aKs c N r [1]):
 Calls prog 14 #[jE c,.agg (dC a ca b cb N),.string (uK r)] w λe w'=>RN (nI c N r).1 (.string (nI c N r).2) w e w':=by
 have o:=h.bulk;have I:=cB (λW(hW:tB w W)=>pN a b ca cb N W (h.files.z hW) h.fit.len (h.tens.z hW) (by omega) (yO (by omega)));have HCF:=cB (λW=>yJ c W);have HST:=cB (λW b cb(hT:uC W b N.ts)=>jH c N.now b cb N.ts W hT (rP (show yA N.ts+aC N.ts<=1900000 by omega)).2.1 (by omega));have J:=cB (λW=>iZ r W d.2.2.2.1);have HRK:=cB (Vc d.2.2.2.1.ok (Vc d.2.2.2.1.sz d.2.2.2.1.U));obtain⟨V,m⟩:∃V,V=nI c N r:=⟨_,rfl⟩
 obtain⟨s,B⟩:∃s,s=uK r:=⟨_,rfl⟩
 rw[<-m,<-B];rw[<-B]at J;have HE:=cB (show V=nI c N r/\cF c=true/\N.up=true/\kC c N.now N.ts=true/\r.K∈[(1:Int)] from⟨m,d.1,d.2.1,d.2.2.1,d.2.2.2.2⟩);clear d m B;have HI:=cB (λW a b(h1:rB W a N.d.fs)(h2:uC W b N.ts)=>(⟨h1,h.fit,h2,h.bulk,h.rng,h.lsn,h.now⟩:nQ W a b N));clear h o;unfold bh at J;unfold jE at *;have d:=yK;have m:=cB (NP.new (w:=w) (c:=c) (cs:=dC a ca b cb N));have rN:=eF a ca b cb N 42;have fN:=lE a ca b cb N;go_enter func14,ntmps14;go_upto_region 1 with fail;generalize (((w.alloc (.cells #[zA c.w,zA c.tl,zA c.ml,zA c.sh,zA c.ha,zA c.sg] 24)).alloc (.cells (dC a ca b cb N) 42)).alloc (.cells (dC none 0 none 0 xK) 42))=d at *;obtain⟨D,F,G,H,K,L,O,T,U,X,Y,Z,d,B,y4⟩:=m.o.cells rfl;go_wp2_with fail;refine(I.o _ m.o.B).mono ?_;rintro e w1 ⟨a1,c1,b1,d1,rfl,hF,hT,o⟩;have P:=cB (m.o.z o);clear D F G H K L O T U X Y Z d B y4;obtain⟨D,F,G,H,K,L,O,T,U,X,Y,Z,d,B,y4⟩:=P.o.cells rfl;clear o m I rN fN;go_upto_region 2 with fail;refine jU (C:=λW=>Code.wp prog _ _ _ W) P.o.N ?_;intro w2 N2 m;have I:=cB (HI.o w2 a1 b1 (hF.files.store P.o.N (kF _ _ _ _ _) m) (hT.tens.store P.o.N (kF _ _ _ _ _) m));replace P:=cB (P.o.put N2 m);clear D F G H K L O T U X Y Z d B y4 hF hT N2 m HI;obtain⟨D,F,G,H,K,L,O,T,U,X,Y,Z,d,B,y4⟩:=P.o.cells rfl;have rN:=eF a1 c1 b1 d1 N 42;have fN:=lE a1 c1 b1 d1 N;obtain⟨E,v0,v1,v2,m⟩:=HE.o;replace m:=cB m;clear HE
 rw[v1]at rN fN;rw[v0]at HCF;rw[v2]at HST;go_wp2_with(first
  |(go_at_call 38;apply hC (HCF.o _);intro wx o;replace P:=cB (P.o.z o);replace I:=cB (I.o.z o);clear o D F G H K L O T U X Y Z d B y4;obtain⟨D,F,G,H,K,L,O,T,U,X,Y,Z,d,B,y4⟩:=P.o.cells rfl)
  |(go_at_call 49;apply hC (HST.o _ _ _ I.o.tens);intro wx o;replace P:=cB (P.o.z o);replace I:=cB (I.o.z o);clear o D F G H K L O T U X Y Z d B y4;obtain⟨D,F,G,H,K,L,O,T,U,X,Y,Z,d,B,y4⟩:=P.o.cells rfl))
 refine(J.o _).mono ?_;rintro e w3 ⟨av,cv,rfl,ho,o⟩;obtain⟨k,q,me,nu,n⟩:=r;have hok:=HRK.o;dsimp only at *;obtain⟨⟨hk,hk1,hk2,hk3,hk4,hk5,hk6,hk7,hk8⟩,hsz,hnu⟩:=hok;dsimp only at *;have SM:=cB ho.P;replace P:=cB (P.o.z o);replace I:=cB (I.o.z o);clear ho o D F G H K L O T U X Y Z d B y4 J HRK HCF HST;go_upto_region 7 with fail;refine yH (C:=λW=>Code.wp prog _ _ _ W) ?_;intro y J QB hz4;clear hz4;replace P:=cB (P.o.z J);replace I:=cB (I.o.z J);replace SM:=cB (SM.o.z J);have hQ:=aB QB;clear J;generalize w3.1.size=Q at *;clear w3;obtain⟨q0,q1,q2,q3,q4⟩:=QB.c5;obtain⟨D,F,G,H,K,L,O,T,U,X,Y,Z,d,B,y4⟩:=P.o.cells rfl;go_cut [72] (λv wx=>v=.bool (N.deg&&decide (k<=4))/\wx=y)
 case first=>as_aux_lemma=>
  go_wp2;all_goals go_meet
  all_goals simp_all
 obtain⟨rfl,rfl⟩:=hcut;rename World=>y;go_upto_if 72 with fail;go_cut [] (λwx=>wx=y/\(N.deg&&decide (k<=4))=false)
 case first=>as_aux_lemma=>
  cases hd:(N.deg&&decide (k<=4))
  .go_wp2;go_meet;exact⟨rfl,hd⟩
  have E2:V=(N,qB 1 3):=by rw[E,nI];exact Ma (by simpa using hd)
  subst E2;go_wp2;have HK:=cB (P.o.held (dC a1 c1 b1 d1 N));go_region_held3 (λw'=>gB w' (w.1.size+1) (dC a1 c1 b1 d1 N) 42)
   (first|with_reducible exact(HK.o _ r1).1|with_reducible exact(HK.o _ bD.drew).1|exact(HK.o _ r1).2)
   (first|(go_at_call 50;refine hC (gF _ _ (by omega) (by omega)) ?_;intro u1 o;have r1:tB y u1:=(by with_reducible exact vB bD.drew o);have bx:=(P.o.z r1).R.box rfl))
  go_wp2;exact cM rfl rfl rfl rfl (P.o.z r1) (I.o.z r1)
 obtain⟨rfl,hd⟩:=hcut;rename World=>y;replace hd:=cB hd;go_upto_region 9 with fail;go_cut [10] (λv wx=>v=.bool (vP k)/\wx=y)
 case first=>as_aux_lemma=>
  go_wp2;all_goals go_meet
  all_goals(unfold vP;simp_all)
 obtain⟨rfl,rfl⟩:=hcut;rename World=>y;have HTN:=cB (λW=>iG q W (by unfold maxLen;omega));go_upto_region 10 with fail;go_cut [10,89] (λu v wx=>u=.bool (vP k)/\v=.bool (vP k&&!oC q)/\wx=y)
 case first=>as_aux_lemma=>
  cases J:vP k
  .go_wp2;go_meet;exact⟨by rw[J],by rw[J];rfl,rfl⟩
  go_wp2_with (go_at_call 52;refine oD (HTN.o _) ?_);go_meet;exact⟨by rw[J],by rw[J];simp,rfl⟩
 obtain⟨rfl,rfl,rfl⟩:=hcut;rename World=>y;go_upto_if 89 with fail;go_cut [] (λwx=>wx=y/\(vP k&&!oC q)=false)
 case first=>as_aux_lemma=>
  cases J:(vP k&&!oC q)
  .go_wp2;go_meet;exact⟨rfl,J⟩
  have E2:V=(N,qB 1 2):=by
   rw[E,nI,Ja (by have:=hd.o;simp at this;simpa using this)];exact Ma (by unfold vP at J;simpa using J)
  subst E2;go_wp2;have HK:=cB (P.o.held (dC a1 c1 b1 d1 N));go_region_held3 (λw'=>gB w' (w.1.size+1) (dC a1 c1 b1 d1 N) 42)
   (first|with_reducible exact(HK.o _ r1).1|with_reducible exact(HK.o _ bD.drew).1|exact(HK.o _ r1).2)
   (first|(go_at_call 50;refine hC (gF _ _ (by omega) (by omega)) ?_;intro u1 o;have r1:tB y u1:=(by with_reducible exact vB bD.drew o);have bx:=(P.o.z r1).R.box rfl))
  go_wp2;exact cM rfl rfl rfl rfl (P.o.z r1) (I.o.z r1)
 obtain⟨rfl,J⟩:=hcut;rename World=>y;replace J:=cB J;rw[nI,Ja (by have:=hd.o;simpa using this),Ja (by have:=J.o;unfold vP at this;simpa using this)]at E;dsimp only at E;clear hd J hk1 hk2 hk3;replace m:=m.o;simp only[Lb,Ed,Bf]at m;subst m
 as_aux_lemma=>
 have m:q.size+(cE n).size+4<=60000:=by
  have e:uK ⟨1,q,me,nu,n⟩=qB 1 1++xM q++qB 2 (yA n:Nat)++cE n:=by simp[uK,zU,yU,mV,Wa]
  rw[e]at hsz;simp only[Ka,kB,lF]at hsz;omega
 obtain⟨W,hW⟩:∃W,W=fL c N.now q N.ts n:=⟨_,rfl⟩
 replace E:V=if W.2.2=[] then(N,qB 1 0++qB 2 (yA n:Nat)++W.2.1) else((zF c N W.2.2).1,bN (zF c N W.2.2).1 (zF c N W.2.2).2 (qB 1 0++qB 2 (yA n:Nat)++W.2.1)):=by rw[hW];exact E
 replace hW:=cB hW;have HBD:=cB (aJw v2 q n (by omega) hk7 (by omega));have m:=I.o.bulk;have HSZ:bB (∀k(h:k<yA n),lJ n[k]<=300000):=λk h=>by
  have h1:=oP n[k];have h2:=pP n k h;have m:=zH (n.take (k+1)) (n.drop (k+1));rw[Za,h2]at m;have J:=Kd ByteArray.size m;simp only[Ka]at J;show yA n[k].B+rD n[k].B<=_;omega
 have HJ:=cB (λJ(A:Nat->Prop) b5 d5 k la lc x(ht:wK J A b5 (fL c N.now q N.ts (n.take k)).1)(hl:nD J la x.B)(m:yA x.B<=lc)(hk:k<=yA n)(hx:lJ x<=300000)=>SI c N.now b5 d5 (fL c N.now q N.ts (n.take k)).1 q x la lc J ht hl m (by have:=(HBD.o k hk).2.1;omega) (by omega) hx (HBD.o k hk).1);unfold jE at HJ;have QB4:=cB QB;go_upto_region 15 with fail;refine yH (C:=λW=>Code.wp prog _ _ _ W) ?_;intro m o SB hz5;have hX5:=aB SB;have T5:=cB (I.o.tens.toN.z o);have z:=cB o;clear q0 q1 q2 q3 q4;obtain⟨q0,q1,q2,q3,q4⟩:=(QB4.o.z o).c5;have hQ5:Q<m.1.size:=by omega
 clear o D F G H K L O T U X Y Z d B y4 hz5;go_upto_block 1 with fail;have R0:=cB (World.ownsRow_made (e:=132) (size:=4) m #[] 0 (Ia _) (by simp[maxLen]) (by simp));have t:=pF m (.cells #[] 132);replace z:=cB (vB z.o t);replace T5:=cB (T5.o.z t);replace SB:=cB (SB.z t);have hB5:=t.size;clear t q0 q1 q2 q3 q4 hQ5;generalize m.alloc (.cells #[] 132)=w6 at *;generalize m.1.size=B5 at *;go_wp2_with fail;go_loopw [12,13,102] (λvd rc i m=>∃(k:Nat)(b5:jC)(d5:Nat)(v:Value),k<=yA n/\i=zA k/\v=rc/\vd=.string (fL c N.now q N.ts (n.take k)).2.1/\bB (tB y m)/\bB (gB m y.1.size #[zA N.now,.slice b5 (yA (fL c N.now q N.ts (n.take k)).1) d5] 40)/\bB (wK m (λg=>v.ownBlock≠some g/\g≠y.1.size) b5 (fL c N.now q N.ts (n.take k)).1)/\bB (m.ownsRow B5 132 4 v (yA (fL c N.now q N.ts (n.take k)).2.2) (EG (fL c N.now q N.ts (n.take k)).2.2))/\B5<=m.1.size) (λ_ _ i _=>yA n-(intOf i).toNat)
 case atStart=>exact⟨0,b1,d1,_,Oa _,rfl,rfl,rfl,z,SB,cB (T5.o.mono λg(h:g<y.1.size)=>⟨λe=>by have:=mH R0.o g e;omega,by omega⟩),R0,by omega⟩
 case round=>
  clear z SB T5 R0;obtain⟨k,b5,d5,v,hk,rfl,rfl,rfl,z,SB,T5,R0,hB⟩:=hrel;by_cases m:k<yA n
  .as_aux_lemma=>
   obtain⟨b6,o6,a6,k6,rfl,t,g0',g1',hl6,hc6⟩:=SM.o.atc m;have g0:=(z.o.cell (p:=(dB b6 (o6+k*2))) t).trans g0';have g1:=(z.o.cell (p:=(dB b6 (o6+k*2+1))) t).trans g1';have HJ1:=cB (λJ(hW:tB wr J)=>HJ.o J _ b5 d5 k a6 k6 n[k] (T5.o.z hW) (hl6.z (z.o.trans (hW.mono z.o.size))) hc6 hk (HSZ.o k m));obtain⟨J,s2,s3,s4,s5,s6⟩:=HBD.o k hk;obtain⟨_,_,_,jc⟩:=ny J q n[k];have ES:bB ((fL c N.now q N.ts (n.take (k+1))).1=(uH c N.now (fL c N.now q N.ts (n.take k)).1 q n[k]).2.1/\(fL c N.now q N.ts (n.take (k+1))).2.1=(fL c N.now q N.ts (n.take k)).2.1++qB 1 ((uH c N.now (fL c N.now q N.ts (n.take k)).1 q n[k]).1:Nat)/\(fL c N.now q N.ts (n.take (k+1))).2.2=(fL c N.now q N.ts (n.take k)).2.2++nsn (uH c N.now (fL c N.now q N.ts (n.take k)).1 q n[k]).2.2 ⟨1,q,(uH c N.now (fL c N.now q N.ts (n.take k)).1 q n[k]).2.2,0⟩):=by
    rw[RJ n k m];exact⟨rfl,rfl,rfl⟩
   have m:=z.o.size;clear g0' g1' J s2 s5 s6;generalize uH c N.now (fL c N.now q N.ts (n.take k)).1 q n[k]=J at *;generalize fL c N.now q N.ts (n.take k)=S at *;generalize n[k].bits=bi at *;generalize n[k].B=ls at *;obtain⟨m,J2,J3⟩:=J;obtain⟨J,J,S3⟩:=S;dsimp only at *;obtain⟨q0,q1,q2,q3,q4⟩:=(QB4.o.z z.o).c5;have z3:=kB 1 (m:Nat);have HB:=cB (λW=>gF (m:Nat) W (by omega) (by omega));generalize qB 1 (m:Nat)=m at *;have m1:¬(9223372036854775807<J.size+m.size):=by omega
   have m:yA S3<=500:=by omega
   clear z3 s3 s4;go_upto_region 20 with fail;refine yH (C:=λW=>Code.wp prog _ _ _ W) ?_;intro w8 m X8 J;have B8:=cB (vB z.o m);have P8:=cB (P.o.z B8.o);obtain⟨D,F,G,H,K,L,O,T,U,X,Y,Z,d,B,y4⟩:=P8.o.cells rfl;obtain⟨f,j⟩:=(SB.o.z m).c2;obtain⟨u0,u1⟩:=X8.c2;clear q0 q1 q2 q3 q4 J;have q1:=(QB4.o.z B8.o).cell 1;have H8:=cB m;clear m g0 g1;go_wp2_with fail;refine(HJ1.o _ H8.o).mono ?_;rintro e m ⟨b9,d9,rfl,m,J⟩;have R9:=cB (vB H8.o J);have T9:=cB (m.mono (A':=λg=>v.ownBlock≠some g/\g≠y.1.size) λg h=>h.elim (λh=>h) λh=>⟨λe=>by have:=wG R0.o g e;have:=H8.o.size;omega,by have:=H8.o.size;omega⟩);clear m J f j u0 u1 D F G H K L O T U X Y Z d B y4 q1 HJ1;go_upto_region 21 with fail;refine yH (C:=λW=>Code.wp prog _ _ _ W) ?_;intro m J X10 m;clear m;have R10:=cB (vB R9.o J);have T10:=cB (T9.o.z J);have S10:=cB (SB.o.z R10.o);obtain⟨u0,u1⟩:=X10.c2;obtain⟨f,j⟩:=S10.o.c2;have l:=S10.o.free 0;have m:=S10.o.free 1;clear J X10;go_upto_region 22 with fail;refine aMy (C:=λW=>Code.wp prog _ _ _ W) S10.o ?_;intro w11 S11 T11 F11;have J:=cB ((vB z.o R10.o).trans (T11.below (vB z.o R10.o).size λi hi e=>by omega));have T12:=cB (T10.o.turn T11 λg h e=>h.2 e);have R12:=cB (F11 (eC R0.o R10.o) hX5);have hB11:B5<=w11.1.size:=Ua hB (Ua R10.o.size T11.size);clear f j l m u0 u1 T11 F11;go_wp2_with fail;apply hC (HB.o _);intro w12 o;replace J:=cB (vB J.o o);replace T12:=cB (T12.o.z o);replace R12:=cB (eC R12.o o);have S12:=cB (S11.z o);have q1:=(QB4.o.z J.o).cell 1;have m:B5<=w12.1.size:=Ua hB11 o.size;clear o S11;cases hJ:J3.toList.isEmpty
   .go_wp2_with (at_builtin;refine qM rfl _ _ rfl underlying121 eo rfl (by omega) (by omega) (v:=v) rfl R12.o rfl rfl (cs:=#[zA 1,.string q,.string J3,zA 0]) rfl (by simp[Value.oneCell']) (by omega) (by omega) ?_;intro g5 cap5 w13 HO HT HA);have FL:EG (S3++[⟨1,q,J3,0⟩])=EG S3++[zA 1,.string q,.string J3,zA 0]:=by simp[EG]
    have TT:wK w13 (λg=>(Value.slice (pB g5) (yA S3+1) cap5).ownBlock≠some g/\g≠y.1.size) b9 J2:=(T12.o.lt.turn HT.o λg h e=>h.1.1 e.2).mono λg h=>⟨λe=>by
     obtain rfl:g5=g:=by simpa[Value.ownBlock]using e
     obtain h'|h':=HA.o;exact h.1.1 h';have:=h.2;omega,h.1.2⟩
    exact⟨⟨k+1,b9,d9,_,by omega,by go_num,rfl,by rw[ES.o.2.1],cB (J.o.trans (HT.o.below J.o.size λi hi e=>by have:=e.1;omega)),cB (by rw[ES.o.1];exact HT.o.blk S12.o (λe=>by have:=e.1;omega)),cB (by rw[ES.o.1];exact TT),cB (by rw[ES.o.2.2,nsn,Ja (by rw[hJ];simp),FL,Kb];exact HO.o),Ua m HT.o.size⟩,by simp[intOf];omega⟩
   go_wp2;exact⟨⟨k+1,b9,d9,v,by omega,by go_num,rfl,by rw[ES.o.2.1],J,cB (by rw[ES.o.1];exact S12.o),cB (by rw[ES.o.1];exact T12.o),cB (by rw[ES.o.2.2,nsn,Ma hJ,Cd];exact R12.o),m⟩,by simp[intOf];omega⟩
  .as_aux_lemma=>
   obtain rfl:k=yA n:=by omega
   have hl:fL c N.now q N.ts (n.take (yA n))=W:=by rw[Rb];exact hW.o.symm
   have m:=HBD.o (yA n) (Ia _);rw[hl]at m R0 |-
   clear hl hW HBD HJ HSZ SB T5;obtain⟨J,W2,J⟩:=W;dsimp only at *;obtain⟨-,-,s3,s4,s5,s6⟩:=m;have s7:yA J+dD J<=240000:=by omega
   have HN0:=cB (λW=>gF 0 W (by omega) (by omega));have HN2:=cB (λW=>aLr (yA n:Nat) W (by omega) (by omega));have z0:=kB 1 0;have z2:=kB 2 (yA n:Nat);generalize qB 1 0=S0 at *;generalize qB 2 (yA n:Nat)=U2 at *;obtain⟨H0,m⟩:∃h,h=S0++U2++W2:=⟨_,rfl⟩
   rw[<-m]at E;replace m:=cB m;have m1:¬(9223372036854775807<S0.size+U2.size):=by omega
   have m2:¬(9223372036854775807<S0.size+U2.size+W2.size):=by omega
   clear z0 z2 s3 s4 s5;replace P:=cB (P.o.z z.o);replace I:=cB (I.o.z z.o);have QB5:=cB (QB4.o.z z.o);obtain⟨D,F,G,H,K,L,O,T,U,X,Y,Z,d,B,y4⟩:=P.o.cells rfl;go_upto_region 26 with fail;go_cut [19] (λv wx=>v=.string H0/\tB wr wx)
   case first=>as_aux_lemma=>
    have HK:bB (∀w',tB wr w'->tC w' Q 4 (.slice av (yA n) cv)):=λw' h=>(QB5.o.z h).cell 4;go_region_held3 (λw'=>w'.cell? (dB Q 4)=some (.slice av (yA n) cv))
     (first|with_reducible exact HK.o _ r2|with_reducible exact HK.o _ r1|with_reducible exact HK.o _ bD.drew)
     (first
      |(go_at_call 50;apply hC (HN0.o _);intro u1 o;have r1:tB wr u1:=(by with_reducible exact vB bD.drew o))
      |(go_at_call 54;with_reducible apply hC (HN2.o _);intro u2 o;have r2:tB wr u2:=(by with_reducible exact vB r1 o)))
    go_wp2_with fail;go_meet;exact⟨by rw[m.o],r2⟩
   obtain⟨rfl,o⟩:=hcut;rename World=>w6;replace P:=cB (P.o.z o);replace I:=cB (I.o.z o);replace R0:=cB (eC R0.o o);obtain⟨ra,rcap,rfl⟩:=fZ R0.o;have RI:=cB (KN R0.o);clear o D F G H K L O T U X Y Z d B y4 HN0 HN2 m1 m2 QB5 QB4 SM z;obtain⟨D,F,G,H,K,L,O,T,U,X,Y,Z,d,B,y4⟩:=P.o.cells rfl;by_cases h0:J=[]
   .obtain rfl:V=(N,H0):=E.trans (Ma h0);subst h0;have bx:=P.o.R.box rfl;go_wp2;exact cM rfl rfl rfl rfl P.o I.o
   have m:=cB (λW(h:nQ W a1 b1 N)(hr:pI W ra J)=>YZ c (ca:=c1) (cb:=d1) (capr:=rcap) h hr s7 s6);replace E:=E.trans (Ja h0);unfold RN at m;generalize zF c N J=R at *;obtain⟨M,code⟩:=R;replace E:V=(M,bN M code H0):=E;subst E;dsimp only at m;unfold jE at m;have h1:¬yA J=0:=λe=>h0 (Nb.1 e);have h2:¬((yA J:Nat):Int)=0:=by omega
   go_wp2_with fail;refine(m.o _ I.o RI.o.recs).mono ?_;rintro e w7 ⟨h,J,b5,d5,rfl,hF,hT,o⟩;replace P:=cB (P.o.z o);have F5:=cB hF;have T5:=cB hT;clear o hF hT m I D F G H K L O T U X Y Z d B y4;go_upto_region 30 with fail;refine GN (C:=λW=>Code.wp prog _ _ _ W) ?_;intro w8 t d;have m:w7.1.size≠w.1.size+1+1:=by have:=P.o.lt;omega
   replace P:=cB (P.o.z t);replace F5:=cB (F5.o.z t);replace T5:=cB (T5.o.z t);have m:=d;have m:=eF h J b5 d5 M 42;have m:=lE h J b5 d5 M;clear rN fN;replace d:=cB d;clear t;generalize w7.1.size=d at *;go_wp2_with fail;refine(uW h b5 J d5 M _ _ _ F5.o T5.o).mono ?_;rintro e u2 ⟨a6,d,b6,d,rfl,hF,hT,o⟩;replace P:=cB (P.o.z o);have bx:=P.o.R.box rfl;go_wp2;exact bU rfl rfl rfl rfl P.o.R (kF _ _ _ _ _) (by omega) P.o.B hF hT
end
