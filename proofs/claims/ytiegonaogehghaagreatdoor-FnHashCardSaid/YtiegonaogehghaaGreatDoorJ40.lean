import Derived.Test.YtiegonaogehghaaGreatDoorJ38
set_option maxRecDepth 100000
set_option maxHeartbeats 8000000
open ByteArray renaming empty->kA
namespace Go.Proofs.YtiegonaogehghaaGreatDoor
open Value renaming string->oA
open Obj renaming cells->vA
open Go.RowKit Tryz
section
open Go.Maps
attribute [local go_sem] wF uG fK gB.drewI oK.drewI oK.new oK.alloc oK.alloc2
theorem aKu(c:gC)(a b:jC)(ca cb:Nat)(N:pC)(r:dG)(w:World)(h:nQ w a b N)(d:aKs c N r [2,3,4]):
 Calls prog 14 #[jE c,.agg (dC a ca b cb N),oA (uK r)] w λe p=>RN (nI c N r).1 (oA (nI c N r).2) w e p:=by
 have i:=h.bulk;have I:=cB (λW(m:tB w W)=>pN a b ca cb N W (h.files.z m) h.fit.len (h.tens.z m) (by omega) (yO (by omega)));have HCF:=cB (λW=>yJ c W);have HST:=cB (λW b cb(t:uC W b N.ts)=>jH c N.now b cb N.ts W t (rP (show N.ts.length+aC N.ts<=1900000 by omega)).2.1 (by omega));have o:=cB (λW=>iZ r W d.2.2.2.1);have HRK:=cB (Vc d.2.2.2.1.ok (Vc d.2.2.2.1.sz d.2.2.2.1.U));obtain⟨V,m⟩:∃V,V=nI c N r:=⟨_,rfl⟩
 obtain⟨s,B⟩:∃s,s=uK r:=⟨_,rfl⟩
 rw[<-m,<-B];rw[<-B]at o;have HE:=cB (show V=nI c N r/\cF c=true/\N.up=true/\kC c N.now N.ts=true/\r.K∈[(2:Int),3,4] from⟨m,d.1,d.2.1,d.2.2.1,d.2.2.2.2⟩);clear d m B;have HI:=cB (λW a b(d:rB W a N.d.fs)(m:uC W b N.ts)=>(⟨d,h.fit,m,h.bulk,h.rng,h.lsn,h.now⟩:nQ W a b N));clear h i;unfold bh at o;unfold jE at *;have d:=yK;have m:=cB (NP.new (w:=w) (c:=c) (cs:=dC a ca b cb N));have rN:=eF a ca b cb N 42;have fN:=lE a ca b cb N;go_enter func14,ntmps14;go_upto_region 1 with fail;generalize (((w.alloc (vA #[zA c.w,zA c.tl,zA c.ml,zA c.sh,zA c.ha,zA c.sg] 24)).alloc (vA (dC a ca b cb N) 42)).alloc (vA (dC none 0 none 0 xK) 42))=d at *;obtain⟨F,G,H,J,K,L,O,S,T,U,X,Y,Z,d,B⟩:=m.o.cells rfl;go_wp2_with fail;refine(I.o _ m.o.B).mono ?_;rintro e w1 ⟨z,c1,q,d1,rfl,A,t,i⟩;have P:=cB (m.o.z i);clear F G H J K L O S T U X Y Z d B;obtain⟨F,G,H,J,K,L,O,S,T,U,X,Y,Z,d,B⟩:=P.o.cells rfl;clear i m I rN fN;go_upto_region 2 with fail;refine jU (C:=λW=>Code.wp prog _ _ _ W) P.o.N ?_;intro w2 N2 m;have I:=cB (HI.o w2 z q (A.files.store P.o.N (kF _ _ _ _ _) m) (t.tens.store P.o.N (kF _ _ _ _ _) m));replace P:=cB (P.o.put N2 m);clear F G H J K L O S T U X Y Z d B A t N2 m HI;obtain⟨F,G,H,J,K,L,O,S,T,U,X,Y,Z,d,B⟩:=P.o.cells rfl;have rN:=eF z c1 q d1 N 42;have fN:=lE z c1 q d1 N;obtain⟨E,v0,v1,v2,m⟩:=HE.o;replace m:=cB m;clear HE
 rw[v1]at rN fN;rw[v0]at HCF;rw[v2]at HST;go_wp2_with(first
  |(go_at_call 38;apply hC (HCF.o _);intro wx i;replace P:=cB (P.o.z i);replace I:=cB (I.o.z i);clear i F G H J K L O S T U X Y Z d B;obtain⟨F,G,H,J,K,L,O,S,T,U,X,Y,Z,d,B⟩:=P.o.cells rfl)
  |(go_at_call 49;apply hC (HST.o _ _ _ I.o.tens);intro wx i;replace P:=cB (P.o.z i);replace I:=cB (I.o.z i);clear i F G H J K L O S T U X Y Z d B;obtain⟨F,G,H,J,K,L,O,S,T,U,X,Y,Z,d,B⟩:=P.o.cells rfl))
 refine(o.o _).mono ?_;rintro e w3 ⟨av,cv,rfl,ho,i⟩;obtain⟨k,te,me,x,xs⟩:=r;have hok:=HRK.o;dsimp only at *;obtain⟨⟨hk,hk1,hk2,hk3,hk4,hk5,hk6,hk7,hk8⟩,hsz,hnu⟩:=hok;dsimp only at *;have SM:=cB ho.P;replace P:=cB (P.o.z i);replace I:=cB (I.o.z i);clear ho i F G H J K L O S T U X Y Z d B o HRK HCF HST;go_upto_region 7 with fail;refine yH (C:=λW=>Code.wp prog _ _ _ W) ?_;intro w4 o QB hz4;clear hz4;replace P:=cB (P.o.z o);replace I:=cB (I.o.z o);replace SM:=cB (SM.o.z o);have hQ:=aB QB;clear o;generalize w3.1.size=Q at *;clear w3;obtain⟨q0,q1,q2,q3,q4⟩:=QB.c5;obtain⟨F,G,H,J,K,L,O,S,T,U,X,Y,Z,d,B⟩:=P.o.cells rfl;go_cut [72] (λv wx=>v=.bool (N.deg&&decide (k<=4))/\wx=w4)
 case first=>as_aux_lemma=>
  go_wp2;all_goals go_meet
  all_goals simp_all
 obtain⟨rfl,rfl⟩:=hcut;rename World=>w4;go_upto_if 72 with fail;go_cut [] (λwx=>wx=w4/\(N.deg&&decide (k<=4))=false)
 case first=>as_aux_lemma=>
  cases hd:(N.deg&&decide (k<=4))
  .go_wp2;go_meet;exact⟨rfl,hd⟩
  have E2:V=(N,qB 1 3):=by rw[E,nI];exact Ma (by simpa using hd)
  subst E2;go_wp2;have HK:=cB (P.o.held (dC z c1 q d1 N));go_region_held3 (λp=>gB p (w.1.size+1) (dC z c1 q d1 N) 42)
   (first|with_reducible exact(HK.o _ l).1|with_reducible exact(HK.o _ bD.drew).1|exact(HK.o _ l).2)
   (first|(go_at_call 50;refine hC (gF _ _ (by omega) (by omega)) ?_;intro u1 i;have l:tB w4 u1:=(by with_reducible exact vB bD.drew i);have bx:=(P.o.z l).R.box rfl))
  go_wp2;exact cM rfl rfl rfl rfl (P.o.z l) (I.o.z l)
 obtain⟨rfl,hd⟩:=hcut;rename World=>w4;replace hd:=cB hd;go_upto_region 9 with fail;go_cut [10] (λv wx=>v=.bool (vP k)/\wx=w4)
 case first=>as_aux_lemma=>
  go_wp2;all_goals go_meet
  all_goals(unfold vP;simp_all)
 obtain⟨rfl,rfl⟩:=hcut;rename World=>w4;have HTN:=cB (λW=>iG te W (by unfold maxLen;omega));go_upto_region 10 with fail;go_cut [10,89] (λu v wx=>u=.bool (vP k)/\v=.bool (vP k&&!oC te)/\wx=w4)
 case first=>as_aux_lemma=>
  cases o:vP k
  .go_wp2;go_meet;exact⟨by rw[o],by rw[o];rfl,rfl⟩
  go_wp2_with (go_at_call 52;refine oD (HTN.o _) ?_);go_meet;exact⟨by rw[o],by rw[o];simp,rfl⟩
 obtain⟨rfl,rfl,rfl⟩:=hcut;rename World=>w4;go_upto_if 89 with fail;go_cut [] (λwx=>wx=w4/\(vP k&&!oC te)=false)
 case first=>as_aux_lemma=>
  cases o:(vP k&&!oC te)
  .go_wp2;go_meet;exact⟨rfl,o⟩
  have E2:V=(N,qB 1 2):=by
   rw[E,nI,Ja (by have:=hd.o;simp at this;simpa using this)];exact Ma (by unfold vP at o;simpa using o)
  subst E2;go_wp2;have HK:=cB (P.o.held (dC z c1 q d1 N));go_region_held3 (λp=>gB p (w.1.size+1) (dC z c1 q d1 N) 42)
   (first|with_reducible exact(HK.o _ l).1|with_reducible exact(HK.o _ bD.drew).1|exact(HK.o _ l).2)
   (first|(go_at_call 50;refine hC (gF _ _ (by omega) (by omega)) ?_;intro u1 i;have l:tB w4 u1:=(by with_reducible exact vB bD.drew i);have bx:=(P.o.z l).R.box rfl))
  go_wp2;exact cM rfl rfl rfl rfl (P.o.z l) (I.o.z l)
 obtain⟨rfl,o⟩:=hcut;rename World=>w4;replace o:=cB o;rw[nI,Ja (by have:=hd.o;simpa using this),Ja (by have:=o.o;unfold vP at this;simpa using this)]at E;dsimp only at E;clear hd o hk1 hk2 hk3;replace m:=m.o;simp only[Lb,Ed,Bf]at m;obtain rfl|rfl|rfl:=m
 .as_aux_lemma=>
  replace E:V=if (uV c N.now N.ts x).2.2=false then(N,qB 1 2) else((zF c N [⟨2,kA,kA,x⟩]).1,bN (zF c N [⟨2,kA,kA,x⟩]).1 (zF c N [⟨2,kA,kA,x⟩]).2 (qB 1 0)):=E;have o:=cB (λW(h:nQ W z q N)=>FW c N.now q d1 N.ts x W h.tens (by have:=h.bulk;omega) v2);have n:=cB (λW g(h:nQ W z q N)(hr:pI W (pB g) [⟨2,kA,kA,x⟩])=>YZ c (ca:=c1) (cb:=d1) (capr:=1) h hr (by simp[dD]) (ZJ (by omega) hnu));unfold nT at o;unfold RN at n;generalize uV c N.now N.ts x=TK at *;generalize zF c N [⟨2,kA,kA,x⟩]=R at *;obtain⟨n9,f,o9⟩:=TK;obtain⟨M,code⟩:=R;dsimp only at o n E;unfold jE at o n;go_wp2_with fail;refine(o.o _ I.o).mono ?_;rintro e w5 ⟨a5,c5,rfl,ho,i⟩;replace P:=cB (P.o.z i);replace I:=cB (I.o.z i);replace QB:=QB.z i;clear ho i o SM F G H J K L O S T U X Y Z d B q0 q1 q2 q3 q4;go_upto_region 33 with fail;refine yH (C:=λW=>Code.wp prog _ _ _ W) ?_;intro y j X6 hz6;clear X6 hz6;replace P:=cB (P.o.z j);replace I:=cB (I.o.z j);replace QB:=QB.z j;have hQ6:=aB QB;clear j;obtain⟨q0,q1,q2,q3,q4⟩:=QB.c5;obtain⟨F,G,H,J,K,L,O,S,T,U,X,Y,Z,d,B⟩:=P.o.cells rfl;cases o9
  .obtain rfl:V=(N,qB 1 2):=E;go_wp2;have HK:=cB (P.o.held (dC z c1 q d1 N));go_region_held3 (λp=>gB p (w.1.size+1) (dC z c1 q d1 N) 42)
    (first|with_reducible exact(HK.o _ l).1|with_reducible exact(HK.o _ bD.drew).1|exact(HK.o _ l).2)
    (first|(go_at_call 50;refine hC (gF _ _ (by omega) (by omega)) ?_;intro u1 i;have l:tB y u1:=(by with_reducible exact vB bD.drew i);have bx:=(P.o.z l).R.box rfl))
   go_wp2;exact cM rfl rfl rfl rfl (P.o.z l) (I.o.z l)
  replace E:V=(M,bN M code (qB 1 0)):=E;subst E;go_wp2_with fail;have H7:=n.o _ y.1.size (I.o.z (pF y (vA #[zA 2,oA ⟨#[]⟩,oA ⟨#[]⟩,zA x] 132))) (QD (gB.new y _ _));refine H7.mono ?_;clear H7;rintro e w7 ⟨a5,c5,b5,d5,rfl,A,t,i⟩;replace i:=vB yB i;replace P:=cB (P.o.z i);have F5:=cB A;have T5:=cB t;clear i A t n I F G H J K L O S T U X Y Z d B q0 q1 q2 q3 q4 QB;go_upto_region 36 with fail;refine GN (C:=λW=>Code.wp prog _ _ _ W) ?_;intro w8 j XA;have hXR:w7.1.size≠w.1.size+1+1:=by have:=P.o.lt;omega
  replace P:=cB (P.o.z j);replace F5:=cB (F5.o.z j);replace T5:=cB (T5.o.z j);have rM:=eF a5 c5 b5 d5 M 42;have fM:=lE a5 c5 b5 d5 M;clear rN fN;replace XA:=cB XA;clear j;generalize w7.1.size=X5 at *;have m:=cB (λp(h:tB w8 p)=>XA.o.z h);go_region_held3 (λp=>gB p X5 (dC a5 c5 b5 d5 M) 42)
   (first|with_reducible exact m.o _ D|with_reducible exact m.o _ l|with_reducible exact m.o _ bD.drew|exact(lG _ _ _).blk (m.o _ D) hXR)
   (first
    |(go_at_call 50;refine hC (gF _ _ (by omega) (by omega)) ?_;intro u1 i;have l:tB w8 u1:=(by with_reducible exact vB bD.drew i))
    |(go_at_call 56;refine(uW a5 b5 c5 d5 M _ _ _ (F5.o.z l) (T5.o.z l)).mono ?_;rintro e u2 ⟨a6,c6,b6,d6,rfl,A,t,i⟩;have D:tB w8 u2:=(by with_reducible exact vB l i);have bx:=(P.o.z D).R.box rfl))
  go_wp2;exact bU rfl rfl rfl rfl (P.o.z D).R (kF _ _ _ _ _) (by omega) (P.o.z D).B A t
 .as_aux_lemma=>
  replace E:V=if (kN c N.now N.ts te me x).2.2=false then(N,qB 1 2) else((zF c N [⟨3,te,me,x⟩]).1,bN (zF c N [⟨3,te,me,x⟩]).1 (zF c N [⟨3,te,me,x⟩]).2 (qB 1 0)):=E;have o:=cB (λW(h:nQ W z q N)=>rV c N.now q d1 N.ts te me x W h.tens (by have:=h.bulk;omega) (by omega) (by omega) v2);have n:=cB (λW g(h:nQ W z q N)(hr:pI W (pB g) [⟨3,te,me,x⟩])=>YZ c (ca:=c1) (cb:=d1) (capr:=1) h hr (by simp[dD];omega) (ZJ (by omega) hnu));unfold nT at o;unfold RN at n;generalize kN c N.now N.ts te me x=TK at *;generalize zF c N [⟨3,te,me,x⟩]=R at *;obtain⟨n9,f,o9⟩:=TK;obtain⟨M,code⟩:=R;dsimp only at o n E;unfold jE at o n;go_wp2_with fail;refine(o.o _ I.o).mono ?_;rintro e w5 ⟨a5,c5,rfl,ho,i⟩;replace P:=cB (P.o.z i);replace I:=cB (I.o.z i);replace QB:=QB.z i;clear ho i o SM F G H J K L O S T U X Y Z d B q0 q1 q2 q3 q4;go_upto_region 39 with fail;refine yH (C:=λW=>Code.wp prog _ _ _ W) ?_;intro y j X6 hz6;clear X6 hz6;replace P:=cB (P.o.z j);replace I:=cB (I.o.z j);replace QB:=QB.z j;have hQ6:=aB QB;clear j;obtain⟨q0,q1,q2,q3,q4⟩:=QB.c5;obtain⟨F,G,H,J,K,L,O,S,T,U,X,Y,Z,d,B⟩:=P.o.cells rfl;cases o9
  .obtain rfl:V=(N,qB 1 2):=E;go_wp2;have HK:=cB (P.o.held (dC z c1 q d1 N));go_region_held3 (λp=>gB p (w.1.size+1) (dC z c1 q d1 N) 42)
    (first|with_reducible exact(HK.o _ l).1|with_reducible exact(HK.o _ bD.drew).1|exact(HK.o _ l).2)
    (first|(go_at_call 50;refine hC (gF _ _ (by omega) (by omega)) ?_;intro u1 i;have l:tB y u1:=(by with_reducible exact vB bD.drew i);have bx:=(P.o.z l).R.box rfl))
   go_wp2;exact cM rfl rfl rfl rfl (P.o.z l) (I.o.z l)
  replace E:V=(M,bN M code (qB 1 0)):=E;subst E;go_wp2_with fail;have H7:=n.o _ y.1.size (I.o.z (pF y (vA #[zA 3,oA te,oA me,zA x] 132))) (QD (gB.new y _ _));refine H7.mono ?_;clear H7;rintro e w7 ⟨a5,c5,b5,d5,rfl,A,t,i⟩;replace i:=vB yB i;replace P:=cB (P.o.z i);have F5:=cB A;have T5:=cB t;clear i A t n I F G H J K L O S T U X Y Z d B q0 q1 q2 q3 q4 QB;go_upto_region 42 with fail;refine GN (C:=λW=>Code.wp prog _ _ _ W) ?_;intro w8 j XA;have hXR:w7.1.size≠w.1.size+1+1:=by have:=P.o.lt;omega
  replace P:=cB (P.o.z j);replace F5:=cB (F5.o.z j);replace T5:=cB (T5.o.z j);have rM:=eF a5 c5 b5 d5 M 42;have fM:=lE a5 c5 b5 d5 M;clear rN fN;replace XA:=cB XA;clear j;generalize w7.1.size=X5 at *;have m:=cB (λp(h:tB w8 p)=>XA.o.z h);go_region_held3 (λp=>gB p X5 (dC a5 c5 b5 d5 M) 42)
   (first|with_reducible exact m.o _ D|with_reducible exact m.o _ l|with_reducible exact m.o _ bD.drew|exact(lG _ _ _).blk (m.o _ D) hXR)
   (first
    |(go_at_call 50;refine hC (gF _ _ (by omega) (by omega)) ?_;intro u1 i;have l:tB w8 u1:=(by with_reducible exact vB bD.drew i))
    |(go_at_call 56;refine(uW a5 b5 c5 d5 M _ _ _ (F5.o.z l) (T5.o.z l)).mono ?_;rintro e u2 ⟨a6,c6,b6,d6,rfl,A,t,i⟩;have D:tB w8 u2:=(by with_reducible exact vB l i);have bx:=(P.o.z D).R.box rfl))
  go_wp2;exact bU rfl rfl rfl rfl (P.o.z D).R (kF _ _ _ _ _) (by omega) (P.o.z D).B A t
 .as_aux_lemma=>
  replace E:V=((DF c N).1,bN (DF c N).1 (DF c N).2 (qB 1 0)):=E;have o:=cB (λW(h:nQ W z q N)=>qg c z q c1 d1 N W ⟨h.files,h.fit,h.tens,by have:=h.bulk;omega,h.rng,h.lsn,h.now⟩);unfold qu RN at o;generalize DF c N=R at *;obtain⟨M,code⟩:=R;subst E;dsimp only at o;unfold jE at o;go_wp2_with fail;refine(o.o _ I.o).mono ?_;rintro e w5 ⟨a5,c5,b5,d5,rfl,A,t,i⟩;replace P:=cB (P.o.z i);have F5:=cB A;have T5:=cB t;clear i A t o I SM F G H J K L O S T U X Y Z d B q0 q1 q2 q3 q4;go_upto_region 45 with fail;refine GN (C:=λW=>Code.wp prog _ _ _ W) ?_;intro y j XA;have hXR:w5.1.size≠w.1.size+1+1:=by have:=P.o.lt;omega
  replace P:=cB (P.o.z j);replace F5:=cB (F5.o.z j);replace T5:=cB (T5.o.z j);have rM:=eF a5 c5 b5 d5 M 42;have fM:=lE a5 c5 b5 d5 M;clear rN fN;replace XA:=cB XA;clear j;generalize w5.1.size=X5 at *;have m:=cB (λp(h:tB y p)=>XA.o.z h);go_region_held3 (λp=>gB p X5 (dC a5 c5 b5 d5 M) 42)
   (first|with_reducible exact m.o _ D|with_reducible exact m.o _ l|with_reducible exact m.o _ bD.drew|exact(lG _ _ _).blk (m.o _ D) hXR)
   (first
    |(go_at_call 50;refine hC (gF _ _ (by omega) (by omega)) ?_;intro u1 i;have l:tB y u1:=(by with_reducible exact vB bD.drew i))
    |(go_at_call 56;refine(uW a5 b5 c5 d5 M _ _ _ (F5.o.z l) (T5.o.z l)).mono ?_;rintro e u2 ⟨a6,c6,b6,d6,rfl,A,t,i⟩;have D:tB y u2:=(by with_reducible exact vB l i);have bx:=(P.o.z D).R.box rfl))
  go_wp2;exact bU rfl rfl rfl rfl (P.o.z D).R (kF _ _ _ _ _) (by omega) (P.o.z D).B A t
end
