import Derived.Test.YtbfnhppoecdnoaaGreatDoorJ46
set_option maxRecDepth 100000
set_option maxHeartbeats 8000000
open List renaming length->vA
namespace Go.Proofs.YtbfnhppoecdnoaaGreatDoor
open Go renaming World->eA
open Value renaming string->nA,int->lA
open Obj renaming cells->tA
open IntKind renaming i64->mA
open Go.RowKit Tryz
section
open Go.Maps
attribute [local go_sem] zG tH cO iB.drewI fO.drewI fO.new fO.alloc fO.alloc2
theorem aRm(c:lC)(a b:iC)(ca cb:Nat)(N:oC)(s:gB)(w:eA)(h:dS w a b N)(hs:s.size<=1048576)(hm:ni c N s [1]):
 Calls prog 5 #[oF c,.agg (dC a ca b cb N),nA s] w fun e w'=>SaV (rJ c N s).1 (nA (rJ c N s).2) w e w':=by
 have o:=h.bulk;have HCP:=yA (fun W(hW:kB w W)=>iO a b ca cb N W (h.files.z hW) h.fit.len (h.tens.z hW) (by omega) (tP (by omega)));have HCF:=yA (fun W=>pM c W);have HST:=yA (fun W b cb(hT:nC W b N.ts)=>jG c N.now b cb N.ts W hT (fP (show vA N.ts+nB N.ts<=1900000 by omega)).2.1 (by omega));have HDR:=yA (fun W=>qS s W hs);have HE:=yA (show rJ c N s=dK c N (aG s).1/\pH c=true/\N.up=true/\kC c N.now N.ts=true/\(aG s).2=true/\(aG s).1.K∈[(1:Int)] from⟨hm.ans,hm⟩);clear hm;have HI:=yA (fun W a b(h1:eB W a N.d.fs)(h2:nC W b N.ts)=>(⟨h1,h.fit,h2,h.bulk,h.rng,h.lsn,h.now⟩:dS W a b N));have HRK:=yA (fun hk=>qX (s:=s) hk);clear h o;unfold tO at HDR;generalize rJ c N s=V at *;generalize aG s=D at *;obtain⟨D,dk⟩:=D;dsimp only at *;unfold oF at *;have fz:=jP;have HB0:=yA (NP.new (w:=w) (c:=c) (cs:=dC a ca b cb N));have rN:=tF a ca b cb N 43;have fN:=iF a ca b cb N;go_enter func5,ntmps5;go_upto_region 1 with fail;generalize (((w.alloc (tA #[lA mA c.w,lA mA c.tl,lA mA c.ml,lA mA c.sh,lA mA c.ha,lA mA c.sg] 46)).alloc (tA (dC a ca b cb N) 43)).alloc (tA (dC none 0 none 0 qK) 43))=W0 at *;have r:=HB0.o.cells rfl;go_wp2_with fail;refine(HCP.o _ HB0.o.B).mono ?_;rintro e w1 ⟨a1,c1,b1,d1,rfl,hF,hT,o⟩;have P:=yA (HB0.o.z o);clear r;have r:=P.o.cells rfl;clear o HB0 HCP rN fN;go_upto_region 2 with fail;refine nZ (C:=fun W=>Code.wp prog _ _ _ W) P.o.N ?_;intro w2 N2 T2;have I:=yA (HI.o w2 a1 b1 (hF.files.store P.o.N (bH _ _ _ _ _) T2) (hT.tens.store P.o.N (bH _ _ _ _ _) T2));replace P:=yA (P.o.put N2 T2);clear hF hT N2 T2 HI r;have r:=P.o.cells rfl;have rN:=tF a1 c1 b1 d1 N 43;have fN:=iF a1 c1 b1 d1 N;obtain⟨E,v0,v1,v2,v3,K⟩:=HE.o;replace K:=yA K;clear HE
 rw[v1]at rN fN;rw[v0]at HCF;rw[v2]at HST;go_wp2_with(first
  |(go_at_call 15;apply aC (HCF.o _);intro O o;replace P:=yA (P.o.z o);replace I:=yA (I.o.z o);clear o r;have r:=P.o.cells rfl)
  |(go_at_call 16;apply aC (HST.o _ _ _ I.o.tens);intro O o;replace P:=yA (P.o.z o);replace I:=yA (I.o.z o);clear o r;have r:=P.o.cells rfl))
 refine(HDR.o _).mono ?_;rintro e w3 ⟨av,cv,rfl,ho,o⟩;obtain⟨k,q,me,nu,n⟩:=D;obtain rfl:dk=true:=v3;have hok:=HRK.o rfl;dsimp only at *;obtain⟨⟨hk,hk1,hk2,hk3,hk4,hk5,hk6,hk7,hk8⟩,hsz,hnu⟩:=hok;dsimp only at *;have SM:=yA ho.P;replace P:=yA (P.o.z o);replace I:=yA (I.o.z o);clear ho o HDR HRK HCF HST r;go_upto_region 7 with fail;refine tL (C:=fun W=>Code.wp prog _ _ _ W) ?_;intro y hb4 QB hz4;clear hz4;replace P:=yA (P.o.z hb4);replace I:=yA (I.o.z hb4);replace SM:=yA (SM.o.z hb4);have hQ:=zA QB;clear hb4;generalize w3.1.size=Q at *;clear w3;obtain⟨q0,q1,q2,q3,q4⟩:=QB.c5;have r:=P.o.cells rfl;go_cut [72] (fun v O=>v=.bool (N.deg&&decide (k<=4))/\O=y)
 case first=>as_aux_lemma=>
  go_wp2;all_goals go_meet
  all_goals simp_all
 obtain⟨rfl,rfl⟩:=hcut;rename eA=>y;go_upto_if 72 with fail;go_cut [] (fun O=>O=y/\(N.deg&&decide (k<=4))=false)
 case first=>as_aux_lemma=>
  cases hd:(N.deg&&decide (k<=4))
  .go_wp2;go_meet;exact⟨rfl,hd⟩
  have E2:V=(N,pB 1 3):=by rw[E,dK];exact Ma (by simpa using hd)
  subst E2;go_wp2;have U:=yA (P.o.held (dC a1 c1 b1 d1 N));go_region_held3 (fun w'=>iB w' (w.1.size+1) (dC a1 c1 b1 d1 N) 43)
   (first|with_reducible exact(U.o _ F).1|with_reducible exact(U.o _ eD.drew).1|exact(U.o _ F).2)
   (first|(go_at_call 17;refine aC (qE _ _ (by omega) (by omega)) ?_;intro u1 o;have F:kB y u1:=(by with_reducible exact oB eD.drew o);have bx:=(P.o.z F).R.box rfl))
  go_wp2;exact oJ rfl rfl rfl rfl (P.o.z F) (I.o.z F)
 obtain⟨rfl,hd⟩:=hcut;rename eA=>y;replace hd:=yA hd;go_upto_region 9 with fail;go_cut [10] (fun v O=>v=.bool (nQ k)/\O=y)
 case first=>as_aux_lemma=>
  go_wp2;all_goals go_meet
  all_goals(unfold nQ;simp_all)
 obtain⟨rfl,rfl⟩:=hcut;rename eA=>y;have HTN:=yA (fun W=>cG q W (by unfold maxLen;omega));go_upto_region 10 with fail;go_cut [10,89] (fun u v O=>u=.bool (nQ k)/\v=.bool (nQ k&&!tC q)/\O=y)
 case first=>as_aux_lemma=>
  cases L:nQ k
  .go_wp2;go_meet;exact⟨by rw[L],by rw[L];rfl,rfl⟩
  go_wp2_with (go_at_call 19;refine wE (HTN.o _) ?_);go_meet;exact⟨by rw[L],by rw[L];simp,rfl⟩
 obtain⟨rfl,rfl,rfl⟩:=hcut;rename eA=>y;go_upto_if 89 with fail;go_cut [] (fun O=>O=y/\(nQ k&&!tC q)=false)
 case first=>as_aux_lemma=>
  cases L:(nQ k&&!tC q)
  .go_wp2;go_meet;exact⟨rfl,L⟩
  have E2:V=(N,pB 1 2):=by
   rw[E,dK,Ja (by have:=hd.o;simp at this;simpa using this)];exact Ma (by unfold nQ at L;simpa using L)
  subst E2;go_wp2;have U:=yA (P.o.held (dC a1 c1 b1 d1 N));go_region_held3 (fun w'=>iB w' (w.1.size+1) (dC a1 c1 b1 d1 N) 43)
   (first|with_reducible exact(U.o _ F).1|with_reducible exact(U.o _ eD.drew).1|exact(U.o _ F).2)
   (first|(go_at_call 17;refine aC (qE _ _ (by omega) (by omega)) ?_;intro u1 o;have F:kB y u1:=(by with_reducible exact oB eD.drew o);have bx:=(P.o.z F).R.box rfl))
  go_wp2;exact oJ rfl rfl rfl rfl (P.o.z F) (I.o.z F)
 obtain⟨rfl,L⟩:=hcut;rename eA=>y;replace L:=yA L;rw[dK,Ja (by have:=hd.o;simpa using this),Ja (by have:=L.o;unfold nQ at this;simpa using this)]at E;dsimp only at E;clear hd L hk1 hk2 hk3;replace K:=K.o;simp only[Lb,Ed,Bf]at K;subst K
 as_aux_lemma=>
 have hex:q.size+(sE n).size+4<=60000:=by
  have e:dW ⟨1,q,me,nu,n⟩=pB 1 1++kO q++pB 2 (vA n:Nat)++sE n:=by simp[dW,qU,oU,zU,Wa]
  rw[e]at hsz;simp only[Ka,qB,lH]at hsz;omega
 obtain⟨W,hW⟩:∃W,W=vM c N.now q N.ts n:=⟨_,rfl⟩
 replace E:V=if W.2.2=[] then(N,pB 1 0++pB 2 (vA n:Nat)++W.2.1) else((pF c N W.2.2).1,uN (pF c N W.2.2).1 (pF c N W.2.2).2 (pB 1 0++pB 2 (vA n:Nat)++W.2.1)):=by rw[hW];exact E
 replace hW:=yA hW;have T:=yA (aMw v2 q n (by omega) hk7 (by omega));have hI:=I.o.bulk;have HSZ:xA (∀k(h:k<vA n),eH n[k]<=300000):=fun k h=>by
  have h1:=jQ n[k];have h2:=tX n k h;have h3:=wM (n.take (k+1)) (n.drop (k+1));rw[Za,h2]at h3;have h4:=Kd ByteArray.size h3;simp only[Ka]at h4;show vA n[k].B+nD n[k].B<=_;omega
 have HJ:=yA (fun W5(A:Nat->Prop) b5 d5 k la lc x(ht:bL W5 A b5 (vM c N.now q N.ts (n.take k)).1)(hl:yD W5 la x.B)(hlc:vA x.B<=lc)(hk:k<=vA n)(hx:eH x<=300000)=>WX c N.now b5 d5 (vM c N.now q N.ts (n.take k)).1 q x la lc W5 ht hl hlc (by have:=(T.o k hk).2.1;omega) (by omega) hx (T.o k hk).1);unfold oF at HJ;have H:=yA QB;go_upto_region 15 with fail;refine tL (C:=fun W=>Code.wp prog _ _ _ W) ?_;intro w5 o SB hz5;have hX5:=zA SB;have T5:=yA (I.o.tens.toN.z o);have z:=yA o;clear q0 q1 q2 q3 q4;obtain⟨q0,q1,q2,q3,q4⟩:=(H.o.z o).c5;have hQ5:Q<w5.1.size:=by omega
 clear o hz5 r;go_upto_block 1 with fail;have Y:=yA (eA.ownsRow_made (e:=71) (size:=4) w5 #[] 0 (Ia _) (by simp[maxLen]) (by simp));have t:=yG w5 (tA #[] 71);replace z:=yA (oB z.o t);replace T5:=yA (T5.o.z t);replace SB:=yA (SB.z t);have hB5:=t.size;clear t q0 q1 q2 q3 q4 hQ5;generalize w5.alloc (tA #[] 71)=w6 at *;generalize w5.1.size=B5 at *;go_wp2_with fail;go_loopw [12,13,102] (fun vd rc i wz=>∃(k:Nat)(b5:iC)(d5:Nat)(v:Value),k<=vA n/\i=lA mA k/\v=rc/\vd=nA (vM c N.now q N.ts (n.take k)).2.1/\xA (kB y wz)/\xA (iB wz y.1.size #[lA mA N.now,.slice b5 (vA (vM c N.now q N.ts (n.take k)).1) d5] 41)/\xA (bL wz (fun g=>v.ownBlock≠some g/\g≠y.1.size) b5 (vM c N.now q N.ts (n.take k)).1)/\xA (wz.ownsRow B5 71 4 v (vA (vM c N.now q N.ts (n.take k)).2.2) (IA (vM c N.now q N.ts (n.take k)).2.2))/\B5<=wz.1.size) (fun _ _ i _=>vA n-(intOf i).toNat)
 case atStart=>exact⟨0,b1,d1,_,Oa _,rfl,rfl,rfl,z,SB,yA (T5.o.mono fun g(h:g<y.1.size)=>⟨fun e=>by have:=qI Y.o g e;omega,by omega⟩),Y,by omega⟩
 case round=>
  clear z SB T5 Y;obtain⟨k,b5,d5,v,hk,rfl,rfl,rfl,z,SB,T5,Y,hB⟩:=hrel;by_cases hlt:k<vA n
  .as_aux_lemma=>
   obtain⟨b6,o6,a6,k6,rfl,t,g0',g1',hl6,hc6⟩:=SM.o.atc hlt;have g0:=(z.o.cell (p:=⟨b6,o6+k*2,none⟩) t).trans g0';have g1:=(z.o.cell (p:=⟨b6,o6+k*2+1,none⟩) t).trans g1';have HJ1:=yA (fun W5(hW:kB wr W5)=>HJ.o W5 _ b5 d5 k a6 k6 n[k] (T5.o.z hW) (hl6.z (z.o.trans (hW.mono z.o.size))) hc6 hk (HSZ.o k hlt));obtain⟨s1,s2,s3,s4,s5,s6⟩:=T.o k hk;obtain⟨_,_,_,jc⟩:=xq s1 q n[k];have ES:xA ((vM c N.now q N.ts (n.take (k+1))).1=(mI c N.now (vM c N.now q N.ts (n.take k)).1 q n[k]).2.1/\(vM c N.now q N.ts (n.take (k+1))).2.1=(vM c N.now q N.ts (n.take k)).2.1++pB 1 ((mI c N.now (vM c N.now q N.ts (n.take k)).1 q n[k]).1:Nat)/\(vM c N.now q N.ts (n.take (k+1))).2.2=(vM c N.now q N.ts (n.take k)).2.2++nsn (mI c N.now (vM c N.now q N.ts (n.take k)).1 q n[k]).2.2 ⟨1,q,(mI c N.now (vM c N.now q N.ts (n.take k)).1 q n[k]).2.2,0⟩):=by
    rw[VU n k hlt];exact⟨rfl,rfl,rfl⟩
   have hwr:=z.o.size;clear g0' g1' s1 s2 s5 s6;generalize mI c N.now (vM c N.now q N.ts (n.take k)).1 q n[k]=J at *;generalize vM c N.now q N.ts (n.take k)=S at *;generalize n[k].bits=bi at *;generalize n[k].B=ls at *;obtain⟨J1,J2,J3⟩:=J;obtain⟨S1,S2,S3⟩:=S;dsimp only at *;obtain⟨q0,q1,q2,q3,q4⟩:=(H.o.z z.o).c5;have z3:=qB 1 (J1:Nat);have HB:=yA (fun W=>qE (J1:Nat) W (by omega) (by omega));generalize pB 1 (J1:Nat)=U3 at *;have m1:¬(9223372036854775807<S2.size+U3.size):=by omega
   have hn3:vA S3<=500:=by omega
   clear z3 s3 s4;go_upto_region 20 with fail;refine tL (C:=fun W=>Code.wp prog _ _ _ W) ?_;intro w8 hb8 X8 hz8;have B8:=yA (oB z.o hb8);have P8:=yA (P.o.z B8.o);have r:=P8.o.cells rfl;obtain⟨f,j⟩:=(SB.o.z hb8).c2;obtain⟨u0,u1⟩:=X8.c2;clear q0 q1 q2 q3 q4 hz8;have q1:=(H.o.z B8.o).cell 1;have H8:=yA hb8;clear hb8 g0 g1;go_wp2_with fail;refine(HJ1.o _ H8.o).mono ?_;rintro e w9 ⟨b9,d9,rfl,hT9,hb9⟩;have R9:=yA (oB H8.o hb9);have T9:=yA (hT9.mono (A':=fun g=>v.ownBlock≠some g/\g≠y.1.size) fun g h=>h.elim (fun h=>h) fun h=>⟨fun e=>by have:=nG Y.o g e;have:=H8.o.size;omega,by have:=H8.o.size;omega⟩);clear hT9 hb9 f j u0 u1 q1 HJ1 r;go_upto_region 21 with fail;refine tL (C:=fun W=>Code.wp prog _ _ _ W) ?_;intro w10 hb10 X10 hz10;clear hz10;have Z:=yA (oB R9.o hb10);have T10:=yA (T9.o.z hb10);have S10:=yA (SB.o.z Z.o);obtain⟨u0,u1⟩:=X10.c2;obtain⟨f,j⟩:=S10.o.c2;have l:=S10.o.free 0;have m:=S10.o.free 1;clear hb10 X10;go_upto_region 22 with fail;refine aTu (C:=fun W=>Code.wp prog _ _ _ W) S10.o ?_;intro w11 S11 T11 F11;have G:=yA ((oB z.o Z.o).trans (T11.below (oB z.o Z.o).size fun i hi e=>by omega));have T12:=yA (T10.o.turn T11 fun g h e=>h.2 e);have R12:=yA (F11 (jC Y.o Z.o) hX5);have hB11:B5<=w11.1.size:=Ua hB (Ua Z.o.size T11.size);clear f j l m u0 u1 T11 F11;go_wp2_with fail;apply aC (HB.o _);intro w12 o;replace G:=yA (oB G.o o);replace T12:=yA (T12.o.z o);replace R12:=yA (jC R12.o o);have S12:=yA (S11.z o);have q1:=(H.o.z G.o).cell 1;have hB12:B5<=w12.1.size:=Ua hB11 o.size;clear o S11;cases hJ:J3.toList.isEmpty
   .go_wp2_with (at_builtin;refine eO rfl _ _ rfl underlying64 og rfl (by omega) (by omega) (v:=v) rfl R12.o rfl rfl (cs:=#[lA mA 1,nA q,nA J3,lA mA 0]) rfl (by simp[Value.oneCell']) (by omega) (by omega) ?_;intro g5 cap5 w13 HO HT HA);have FL:IA (S3++[⟨1,q,J3,0⟩])=IA S3++[lA mA 1,nA q,nA J3,lA mA 0]:=by simp[IA]
    have TT:bL w13 (fun g=>(Value.slice (some ⟨g5,0,none⟩) (vA S3+1) cap5).ownBlock≠some g/\g≠y.1.size) b9 J2:=(T12.o.lt.turn HT.o fun g h e=>h.1.1 e.2).mono fun g h=>⟨fun e=>by
     obtain rfl:g5=g:=by simpa[Value.ownBlock]using e
     rcases HA.o with h'|h';exact h.1.1 h';have:=h.2;omega,h.1.2⟩
    exact⟨⟨k+1,b9,d9,_,by omega,by go_num,rfl,by rw[ES.o.2.1],yA (G.o.trans (HT.o.below G.o.size fun i hi e=>by have:=e.1;omega)),yA (by rw[ES.o.1];exact HT.o.blk S12.o (fun e=>by have:=e.1;omega)),yA (by rw[ES.o.1];exact TT),yA (by rw[ES.o.2.2,nsn,Ja (by rw[hJ];simp),FL,Kb];exact HO.o),Ua hB12 HT.o.size⟩,by simp[intOf];omega⟩
   go_wp2;exact⟨⟨k+1,b9,d9,v,by omega,by go_num,rfl,by rw[ES.o.2.1],G,yA (by rw[ES.o.1];exact S12.o),yA (by rw[ES.o.1];exact T12.o),yA (by rw[ES.o.2.2,nsn,Ma hJ,Cd];exact R12.o),hB12⟩,by simp[intOf];omega⟩
  .as_aux_lemma=>
   obtain rfl:k=vA n:=by omega
   have hl:vM c N.now q N.ts (n.take (vA n))=W:=by rw[Rb];exact hW.o.symm
   have hbd:=T.o (vA n) (Ia _);rw[hl]at hbd Y |-
   clear hl hW T HJ HSZ SB T5;obtain⟨W1,W2,W3⟩:=W;dsimp only at *;obtain⟨-,-,s3,s4,s5,s6⟩:=hbd;have s7:vA W3+sD W3<=240000:=by omega
   have HN0:=yA (fun W=>qE 0 W (by omega) (by omega));have HN2:=yA (fun W=>aSf (vA n:Nat) W (by omega) (by omega));have z0:=qB 1 0;have z2:=qB 2 (vA n:Nat);generalize pB 1 0=S0 at *;generalize pB 2 (vA n:Nat)=U2 at *;obtain⟨H0,hH0⟩:∃h,h=S0++U2++W2:=⟨_,rfl⟩
   rw[<-hH0]at E;replace hH0:=yA hH0;have m1:¬(9223372036854775807<S0.size+U2.size):=by omega
   have m2:¬(9223372036854775807<S0.size+U2.size+W2.size):=by omega
   clear z0 z2 s3 s4 s5;replace P:=yA (P.o.z z.o);replace I:=yA (I.o.z z.o);have QB5:=yA (H.o.z z.o);have r:=P.o.cells rfl;go_upto_region 26 with fail;go_cut [19] (fun v O=>v=nA H0/\kB wr O)
   case first=>as_aux_lemma=>
    have U:xA (∀w',kB wr w'->cC w' Q 4 (.slice av (vA n) cv)):=fun w' h=>(QB5.o.z h).cell 4;go_region_held3 (fun w'=>w'.cell? ⟨Q,4,none⟩=some (.slice av (vA n) cv))
     (first|with_reducible exact U.o _ r2|with_reducible exact U.o _ F|with_reducible exact U.o _ eD.drew)
     (first
      |(go_at_call 17;apply aC (HN0.o _);intro u1 o;have F:kB wr u1:=(by with_reducible exact oB eD.drew o))
      |(go_at_call 21;with_reducible apply aC (HN2.o _);intro u2 o;have r2:kB wr u2:=(by with_reducible exact oB F o)))
    go_wp2_with fail;go_meet;exact⟨by rw[hH0.o],r2⟩
   obtain⟨rfl,o⟩:=hcut;rename eA=>w6;replace P:=yA (P.o.z o);replace I:=yA (I.o.z o);replace Y:=yA (jC Y.o o);obtain⟨ra,rcap,rfl⟩:=AZ Y.o;have RI:=yA (NN Y.o);clear o HN0 HN2 m1 m2 QB5 H SM z r;have r:=P.o.cells rfl;by_cases h0:W3=[]
   .obtain rfl:V=(N,H0):=E.trans (Ma h0);subst h0;have bx:=P.o.R.box rfl;go_wp2;exact oJ rfl rfl rfl rfl P.o I.o
   have X:=yA (fun W(h:dS W a1 b1 N)(hr:wI W ra W3)=>gc c (ca:=c1) (cb:=d1) (capr:=rcap) h hr s7 s6);replace E:=E.trans (Ja h0);unfold SaV at X;generalize pF c N W3=R at *;obtain⟨M,code⟩:=R;replace E:V=(M,uN M code H0):=E;subst E;dsimp only at X;unfold oF at X;have h1:¬vA W3=0:=fun e=>h0 (Nb.1 e);have h2:¬((vA W3:Nat):Int)=0:=by omega
   go_wp2_with fail;refine(X.o _ I.o RI.o.recs).mono ?_;rintro e w7 ⟨a5,c5,b5,d5,rfl,hF,hT,o⟩;replace P:=yA (P.o.z o);have F5:=yA hF;have T5:=yA hT;clear o hF hT X I r;go_upto_region 30 with fail;refine cc (C:=fun W=>Code.wp prog _ _ _ W) ?_;intro w8 t XA;have hXR:w7.1.size≠w.1.size+1+1:=by have:=P.o.lt;omega
   replace P:=yA (P.o.z t);replace F5:=yA (F5.o.z t);replace T5:=yA (T5.o.z t);have xa:=XA;have rM:=tF a5 c5 b5 d5 M 43;have fM:=iF a5 c5 b5 d5 M;clear rN fN;replace XA:=yA XA;clear t;generalize w7.1.size=X5 at *;go_wp2_with fail;refine(eY a5 b5 c5 d5 M _ _ _ F5.o T5.o).mono ?_;rintro e u2 ⟨a6,c6,b6,d6,rfl,hF,hT,o⟩;replace P:=yA (P.o.z o);have bx:=P.o.R.box rfl;go_wp2;exact iV rfl rfl rfl rfl P.o.R (bH _ _ _ _ _) (by omega) P.o.B hF hT
end
