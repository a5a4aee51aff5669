import Derived.Test.YtbfnhppoecdnoaaGreatDoorJ46
set_option maxRecDepth 100000
set_option maxHeartbeats 8000000
open ByteArray renaming empty->kA
namespace Go.Proofs.YtbfnhppoecdnoaaGreatDoor
open Value renaming string->nA,int->lA
open Obj renaming cells->tA
open IntKind renaming i64->mA
open Go.RowKit Tryz
section
open Go.Maps
attribute [local go_sem] zG tH cO iB.drewI fO.drewI fO.new fO.alloc fO.alloc2
theorem aRn(c:lC)(a b:iC)(ca cb:Nat)(N:oC)(s:gB)(w:World)(h:dS w a b N)(hs:s.size<=1048576)(hm:ni c N s [2,3,4]):
 Calls prog 5 #[oF c,.agg (dC a ca b cb N),nA s] w fun e q=>SaV (rJ c N s).1 (nA (rJ c N s).2) w e q:=by
 have i:=h.bulk;have HCP:=yA (fun W(hW:kB w W)=>iO a b ca cb N W (h.files.z hW) h.fit.len (h.tens.z hW) (by omega) (tP (by omega)));have HCF:=yA (fun W=>pM c W);have HST:=yA (fun W b cb(t:nC W b N.ts)=>jG c N.now b cb N.ts W t (fP (show N.ts.length+nB N.ts<=1900000 by omega)).2.1 (by omega));have HDR:=yA (fun W=>qS s W hs);have HE:=yA (show rJ c N s=dK c N (aG s).1/\pH c=true/\N.up=true/\kC c N.now N.ts=true/\(aG s).2=true/\(aG s).1.K∈[(2:Int),3,4] from⟨hm.ans,hm⟩);clear hm;have HI:=yA (fun W a b(h1:eB W a N.d.fs)(h2:nC W b N.ts)=>(⟨h1,h.fit,h2,h.bulk,h.rng,h.lsn,h.now⟩:dS W a b N));have HRK:=yA (fun hk=>qX (s:=s) hk);clear h i;unfold tO at HDR;generalize rJ c N s=V at *;generalize aG s=D at *;obtain⟨D,dk⟩:=D;dsimp only at *;unfold oF at *;have fz:=jP;have HB0:=yA (NP.new (w:=w) (c:=c) (cs:=dC a ca b cb N));have rN:=tF a ca b cb N 43;have fN:=iF a ca b cb N;go_enter func5,ntmps5;go_upto_region 1 with fail;generalize (((w.alloc (tA #[lA mA c.w,lA mA c.tl,lA mA c.ml,lA mA c.sh,lA mA c.ha,lA mA c.sg] 46)).alloc (tA (dC a ca b cb N) 43)).alloc (tA (dC none 0 none 0 qK) 43))=W0 at *;have m:=HB0.o.cells rfl;go_wp2_with fail;refine(HCP.o _ HB0.o.B).mono ?_;rintro e w1 ⟨z,Y,r,L,rfl,A,t,i⟩;have P:=yA (HB0.o.z i);clear m;have m:=P.o.cells rfl;clear i HB0 HCP rN fN;go_upto_region 2 with fail;refine nZ (C:=fun W=>Code.wp prog _ _ _ W) P.o.N ?_;intro w2 N2 T2;have I:=yA (HI.o w2 z r (A.files.store P.o.N (bH _ _ _ _ _) T2) (t.tens.store P.o.N (bH _ _ _ _ _) T2));replace P:=yA (P.o.put N2 T2);clear A t N2 T2 HI m;have m:=P.o.cells rfl;have rN:=tF z Y r L N 43;have fN:=iF z Y r L N;obtain⟨E,v0,v1,v2,v3,Z⟩:=HE.o;replace Z:=yA Z;clear HE
 rw[v1]at rN fN;rw[v0]at HCF;rw[v2]at HST;go_wp2_with(first
  |(go_at_call 15;apply aC (HCF.o _);intro wx i;replace P:=yA (P.o.z i);replace I:=yA (I.o.z i);clear i m;have m:=P.o.cells rfl)
  |(go_at_call 16;apply aC (HST.o _ _ _ I.o.tens);intro wx i;replace P:=yA (P.o.z i);replace I:=yA (I.o.z i);clear i m;have m:=P.o.cells rfl))
 refine(HDR.o _).mono ?_;rintro e w3 ⟨av,cv,rfl,ho,i⟩;obtain⟨k,te,me,x,xs⟩:=D;obtain rfl:dk=true:=v3;have hok:=HRK.o rfl;dsimp only at *;obtain⟨⟨hk,hk1,hk2,hk3,hk4,hk5,hk6,hk7,hk8⟩,hsz,hnu⟩:=hok;dsimp only at *;have SM:=yA ho.P;replace P:=yA (P.o.z i);replace I:=yA (I.o.z i);clear ho i HDR HRK HCF HST m;go_upto_region 7 with fail;refine tL (C:=fun W=>Code.wp prog _ _ _ W) ?_;intro X hb4 G hz4;clear hz4;replace P:=yA (P.o.z hb4);replace I:=yA (I.o.z hb4);replace SM:=yA (SM.o.z hb4);have hQ:=zA G;clear hb4;generalize w3.1.size=Q at *;clear w3;have O:=G.c5;have m:=P.o.cells rfl;go_cut [72] (fun v wx=>v=.bool (N.deg&&decide (k<=4))/\wx=X)
 case first=>as_aux_lemma=>
  go_wp2;all_goals go_meet
  all_goals simp_all
 obtain⟨rfl,rfl⟩:=hcut;rename World=>X;go_upto_if 72 with fail;go_cut [] (fun wx=>wx=X/\(N.deg&&decide (k<=4))=false)
 case first=>as_aux_lemma=>
  cases hd:(N.deg&&decide (k<=4))
  .go_wp2;go_meet;exact⟨rfl,hd⟩
  have E2:V=(N,pB 1 3):=by rw[E,dK];exact Ma (by simpa using hd)
  subst E2;go_wp2;have K:=yA (P.o.held (dC z Y r L N));go_region_held3 (fun q=>iB q (w.1.size+1) (dC z Y r L N) 43)
   (first|with_reducible exact(K.o _ l).1|with_reducible exact(K.o _ eD.drew).1|exact(K.o _ l).2)
   (first|(go_at_call 17;refine aC (qE _ _ (by omega) (by omega)) ?_;intro u1 i;have l:kB X u1:=(by with_reducible exact oB eD.drew i);have bx:=(P.o.z l).R.box rfl))
  go_wp2;exact oJ rfl rfl rfl rfl (P.o.z l) (I.o.z l)
 obtain⟨rfl,hd⟩:=hcut;rename World=>X;replace hd:=yA hd;go_upto_region 9 with fail;go_cut [10] (fun v wx=>v=.bool (nQ k)/\wx=X)
 case first=>as_aux_lemma=>
  go_wp2;all_goals go_meet
  all_goals(unfold nQ;simp_all)
 obtain⟨rfl,rfl⟩:=hcut;rename World=>X;have HTN:=yA (fun W=>cG te W (by unfold maxLen;omega));go_upto_region 10 with fail;go_cut [10,89] (fun u v wx=>u=.bool (nQ k)/\v=.bool (nQ k&&!tC te)/\wx=X)
 case first=>as_aux_lemma=>
  cases hn:nQ k
  .go_wp2;go_meet;exact⟨by rw[hn],by rw[hn];rfl,rfl⟩
  go_wp2_with (go_at_call 19;refine wE (HTN.o _) ?_);go_meet;exact⟨by rw[hn],by rw[hn];simp,rfl⟩
 obtain⟨rfl,rfl,rfl⟩:=hcut;rename World=>X;go_upto_if 89 with fail;go_cut [] (fun wx=>wx=X/\(nQ k&&!tC te)=false)
 case first=>as_aux_lemma=>
  cases hn:(nQ k&&!tC te)
  .go_wp2;go_meet;exact⟨rfl,hn⟩
  have E2:V=(N,pB 1 2):=by
   rw[E,dK,Ja (by have:=hd.o;simp at this;simpa using this)];exact Ma (by unfold nQ at hn;simpa using hn)
  subst E2;go_wp2;have K:=yA (P.o.held (dC z Y r L N));go_region_held3 (fun q=>iB q (w.1.size+1) (dC z Y r L N) 43)
   (first|with_reducible exact(K.o _ l).1|with_reducible exact(K.o _ eD.drew).1|exact(K.o _ l).2)
   (first|(go_at_call 17;refine aC (qE _ _ (by omega) (by omega)) ?_;intro u1 i;have l:kB X u1:=(by with_reducible exact oB eD.drew i);have bx:=(P.o.z l).R.box rfl))
  go_wp2;exact oJ rfl rfl rfl rfl (P.o.z l) (I.o.z l)
 obtain⟨rfl,hn⟩:=hcut;rename World=>X;replace hn:=yA hn;rw[dK,Ja (by have:=hd.o;simpa using this),Ja (by have:=hn.o;unfold nQ at this;simpa using this)]at E;dsimp only at E;clear hd hn hk1 hk2 hk3;replace Z:=Z.o;simp only[Lb,Ed,Bf]at Z;rcases Z with rfl|rfl|rfl
 .as_aux_lemma=>
  replace E:V=if (DU c N.now N.ts x).2.2=false then(N,pB 1 2) else((pF c N [⟨2,kA,kA,x⟩]).1,uN (pF c N [⟨2,kA,kA,x⟩]).1 (pF c N [⟨2,kA,kA,x⟩]).2 (pB 1 0)):=E;have p:=yA (fun W(h:dS W z r N)=>JM c N.now r L N.ts x W h.tens (by have:=h.bulk;omega) v2);have o:=yA (fun W g(h:dS W z r N)(hr:wI W (some ⟨g,0,none⟩) [⟨2,kA,kA,x⟩])=>gc c (ca:=Y) (cb:=L) (capr:=1) h hr (by simp[sD]) (gr (by omega) hnu));unfold tU at p;unfold SaV at o;generalize DU c N.now N.ts x=TK at *;generalize pF c N [⟨2,kA,kA,x⟩]=R at *;obtain⟨n9,f,o9⟩:=TK;obtain⟨M,T⟩:=R;dsimp only at p o E;unfold oF at p o;go_wp2_with fail;refine(p.o _ I.o).mono ?_;rintro e w5 ⟨H,J,rfl,ho,i⟩;replace P:=yA (P.o.z i);replace I:=yA (I.o.z i);replace G:=G.z i;clear ho i p SM m O;go_upto_region 33 with fail;refine tL (C:=fun W=>Code.wp prog _ _ _ W) ?_;intro y j X6 hz6;clear X6 hz6;replace P:=yA (P.o.z j);replace I:=yA (I.o.z j);replace G:=G.z j;have hQ6:=zA G;clear j;have O:=G.c5;have m:=P.o.cells rfl;cases o9
  .obtain rfl:V=(N,pB 1 2):=E;go_wp2;have K:=yA (P.o.held (dC z Y r L N));go_region_held3 (fun q=>iB q (w.1.size+1) (dC z Y r L N) 43)
    (first|with_reducible exact(K.o _ l).1|with_reducible exact(K.o _ eD.drew).1|exact(K.o _ l).2)
    (first|(go_at_call 17;refine aC (qE _ _ (by omega) (by omega)) ?_;intro u1 i;have l:kB y u1:=(by with_reducible exact oB eD.drew i);have bx:=(P.o.z l).R.box rfl))
   go_wp2;exact oJ rfl rfl rfl rfl (P.o.z l) (I.o.z l)
  replace E:V=(M,uN M T (pB 1 0)):=E;subst E;go_wp2_with fail;have H7:=o.o _ y.1.size (I.o.z (yG y (tA #[lA mA 2,nA ⟨#[]⟩,nA ⟨#[]⟩,lA mA x] 71))) (UO (iB.new y _ _));refine H7.mono ?_;clear H7;rintro e w7 ⟨H,J,S,U,rfl,A,t,i⟩;replace i:=oB vB i;replace P:=yA (P.o.z i);have F5:=yA A;have T5:=yA t;clear i A t o I G m O;go_upto_region 36 with fail;refine cc (C:=fun W=>Code.wp prog _ _ _ W) ?_;intro w8 j XA;have hXR:w7.1.size≠w.1.size+1+1:=by have:=P.o.lt;omega
  replace P:=yA (P.o.z j);replace F5:=yA (F5.o.z j);replace T5:=yA (T5.o.z j);have rM:=tF H J S U M 43;have fM:=iF H J S U M;clear rN fN;replace XA:=yA XA;clear j;generalize w7.1.size=X5 at *;have n:=yA (fun q(h:kB w8 q)=>XA.o.z h);go_region_held3 (fun q=>iB q X5 (dC H J S U M) 43)
   (first|with_reducible exact n.o _ F|with_reducible exact n.o _ l|with_reducible exact n.o _ eD.drew|exact(sI _ _ _).blk (n.o _ F) hXR)
   (first
    |(go_at_call 17;refine aC (qE _ _ (by omega) (by omega)) ?_;intro u1 i;have l:kB w8 u1:=(by with_reducible exact oB eD.drew i))
    |(go_at_call 23;refine(eY H S J U M _ _ _ (F5.o.z l) (T5.o.z l)).mono ?_;rintro e u2 ⟨a6,c6,b6,d6,rfl,A,t,i⟩;have F:kB w8 u2:=(by with_reducible exact oB l i);have bx:=(P.o.z F).R.box rfl))
  go_wp2;exact iV rfl rfl rfl rfl (P.o.z F).R (bH _ _ _ _ _) (by omega) (P.o.z F).B A t
 .as_aux_lemma=>
  replace E:V=if (pS c N.now N.ts te me x).2.2=false then(N,pB 1 2) else((pF c N [⟨3,te,me,x⟩]).1,uN (pF c N [⟨3,te,me,x⟩]).1 (pF c N [⟨3,te,me,x⟩]).2 (pB 1 0)):=E;have p:=yA (fun W(h:dS W z r N)=>xW c N.now r L N.ts te me x W h.tens (by have:=h.bulk;omega) (by omega) (by omega) v2);have o:=yA (fun W g(h:dS W z r N)(hr:wI W (some ⟨g,0,none⟩) [⟨3,te,me,x⟩])=>gc c (ca:=Y) (cb:=L) (capr:=1) h hr (by simp[sD];omega) (gr (by omega) hnu));unfold tU at p;unfold SaV at o;generalize pS c N.now N.ts te me x=TK at *;generalize pF c N [⟨3,te,me,x⟩]=R at *;obtain⟨n9,f,o9⟩:=TK;obtain⟨M,T⟩:=R;dsimp only at p o E;unfold oF at p o;go_wp2_with fail;refine(p.o _ I.o).mono ?_;rintro e w5 ⟨H,J,rfl,ho,i⟩;replace P:=yA (P.o.z i);replace I:=yA (I.o.z i);replace G:=G.z i;clear ho i p SM m O;go_upto_region 39 with fail;refine tL (C:=fun W=>Code.wp prog _ _ _ W) ?_;intro y j X6 hz6;clear X6 hz6;replace P:=yA (P.o.z j);replace I:=yA (I.o.z j);replace G:=G.z j;have hQ6:=zA G;clear j;have O:=G.c5;have m:=P.o.cells rfl;cases o9
  .obtain rfl:V=(N,pB 1 2):=E;go_wp2;have K:=yA (P.o.held (dC z Y r L N));go_region_held3 (fun q=>iB q (w.1.size+1) (dC z Y r L N) 43)
    (first|with_reducible exact(K.o _ l).1|with_reducible exact(K.o _ eD.drew).1|exact(K.o _ l).2)
    (first|(go_at_call 17;refine aC (qE _ _ (by omega) (by omega)) ?_;intro u1 i;have l:kB y u1:=(by with_reducible exact oB eD.drew i);have bx:=(P.o.z l).R.box rfl))
   go_wp2;exact oJ rfl rfl rfl rfl (P.o.z l) (I.o.z l)
  replace E:V=(M,uN M T (pB 1 0)):=E;subst E;go_wp2_with fail;have H7:=o.o _ y.1.size (I.o.z (yG y (tA #[lA mA 3,nA te,nA me,lA mA x] 71))) (UO (iB.new y _ _));refine H7.mono ?_;clear H7;rintro e w7 ⟨H,J,S,U,rfl,A,t,i⟩;replace i:=oB vB i;replace P:=yA (P.o.z i);have F5:=yA A;have T5:=yA t;clear i A t o I G m O;go_upto_region 42 with fail;refine cc (C:=fun W=>Code.wp prog _ _ _ W) ?_;intro w8 j XA;have hXR:w7.1.size≠w.1.size+1+1:=by have:=P.o.lt;omega
  replace P:=yA (P.o.z j);replace F5:=yA (F5.o.z j);replace T5:=yA (T5.o.z j);have rM:=tF H J S U M 43;have fM:=iF H J S U M;clear rN fN;replace XA:=yA XA;clear j;generalize w7.1.size=X5 at *;have n:=yA (fun q(h:kB w8 q)=>XA.o.z h);go_region_held3 (fun q=>iB q X5 (dC H J S U M) 43)
   (first|with_reducible exact n.o _ F|with_reducible exact n.o _ l|with_reducible exact n.o _ eD.drew|exact(sI _ _ _).blk (n.o _ F) hXR)
   (first
    |(go_at_call 17;refine aC (qE _ _ (by omega) (by omega)) ?_;intro u1 i;have l:kB w8 u1:=(by with_reducible exact oB eD.drew i))
    |(go_at_call 23;refine(eY H S J U M _ _ _ (F5.o.z l) (T5.o.z l)).mono ?_;rintro e u2 ⟨a6,c6,b6,d6,rfl,A,t,i⟩;have F:kB w8 u2:=(by with_reducible exact oB l i);have bx:=(P.o.z F).R.box rfl))
  go_wp2;exact iV rfl rfl rfl rfl (P.o.z F).R (bH _ _ _ _ _) (by omega) (P.o.z F).B A t
 .as_aux_lemma=>
  replace E:V=((GN c N).1,uN (GN c N).1 (GN c N).2 (pB 1 0)):=E;have HCK:=yA (fun W(h:dS W z r N)=>aAa c z r Y L N W ⟨h.files,h.fit,h.tens,by have:=h.bulk;omega,h.rng,h.lsn,h.now⟩);unfold aAs SaV at HCK;generalize GN c N=R at *;obtain⟨M,T⟩:=R;subst E;dsimp only at HCK;unfold oF at HCK;go_wp2_with fail;refine(HCK.o _ I.o).mono ?_;rintro e w5 ⟨H,J,S,U,rfl,A,t,i⟩;replace P:=yA (P.o.z i);have F5:=yA A;have T5:=yA t;clear i A t HCK I SM m O;go_upto_region 45 with fail;refine cc (C:=fun W=>Code.wp prog _ _ _ W) ?_;intro y j XA;have hXR:w5.1.size≠w.1.size+1+1:=by have:=P.o.lt;omega
  replace P:=yA (P.o.z j);replace F5:=yA (F5.o.z j);replace T5:=yA (T5.o.z j);have rM:=tF H J S U M 43;have fM:=iF H J S U M;clear rN fN;replace XA:=yA XA;clear j;generalize w5.1.size=X5 at *;have n:=yA (fun q(h:kB y q)=>XA.o.z h);go_region_held3 (fun q=>iB q X5 (dC H J S U M) 43)
   (first|with_reducible exact n.o _ F|with_reducible exact n.o _ l|with_reducible exact n.o _ eD.drew|exact(sI _ _ _).blk (n.o _ F) hXR)
   (first
    |(go_at_call 17;refine aC (qE _ _ (by omega) (by omega)) ?_;intro u1 i;have l:kB y u1:=(by with_reducible exact oB eD.drew i))
    |(go_at_call 23;refine(eY H S J U M _ _ _ (F5.o.z l) (T5.o.z l)).mono ?_;rintro e u2 ⟨a6,c6,b6,d6,rfl,A,t,i⟩;have F:kB y u2:=(by with_reducible exact oB l i);have bx:=(P.o.z F).R.box rfl))
  go_wp2;exact iV rfl rfl rfl rfl (P.o.z F).R (bH _ _ _ _ _) (by omega) (P.o.z F).B A t
end
