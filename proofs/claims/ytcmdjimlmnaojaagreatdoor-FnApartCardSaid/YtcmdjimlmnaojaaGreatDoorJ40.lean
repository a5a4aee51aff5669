import Derived.Test.YtcmdjimlmnaojaaGreatDoorJ38
set_option maxRecDepth 100000
set_option maxHeartbeats 8000000
open ByteArray renaming empty->lA
namespace Go.Proofs.YtcmdjimlmnaojaaGreatDoor
open Value renaming string->pA
open Obj renaming cells->xA
open Go.RowKit Tryz
section
open Go.Maps
attribute [local go_sem] fG dH lK jB.drewI sK.drewI sK.new sK.alloc sK.alloc2
theorem aKt(c:lC)(a b:nC)(ca cb:Nat)(N:sC)(r:eG)(w:World)(h:rQ w a b N)(d:aKr c N r [2,3,4]):
 Calls prog 13 #[uE c,.agg (gC a ca b cb N),pA (wK r)] w λe p=>RT (lI c N r).1 (pA (lI c N r).2) w e p:=by
 have i:=h.bulk;have I:=dB (λW(m:xB w W)=>vN a b ca cb N W (h.files.z m) h.fit.len (h.tens.z m) (by omega) (dP (by omega)));have HCF:=dB (λW=>fK c W);have HST:=dB (λW b cb(t:aD W b N.ts)=>tH c N.now b cb N.ts W t (gR (show N.ts.length+eC N.ts<=1900000 by omega)).2.1 (by omega));have o:=dB (λW=>kZ r W d.2.2.2.1);have HRK:=dB (Vc d.2.2.2.1.ok (Vc d.2.2.2.1.sz d.2.2.2.1.U));obtain⟨V,m⟩:∃V,V=lI c N r:=⟨_,rfl⟩
 obtain⟨s,B⟩:∃s,s=wK r:=⟨_,rfl⟩
 rw[<-m,<-B];rw[<-B]at o;have HE:=dB (show V=lI c N r/\lG c=true/\N.up=true/\iC c N.now N.ts=true/\r.K∈[(2:Int),3,4] from⟨m,d.1,d.2.1,d.2.2.1,d.2.2.2.2⟩);clear d m B;have HI:=dB (λW a b(d:uB W a N.d.fs)(m:aD W b N.ts)=>(⟨d,h.fit,m,h.bulk,h.rng,h.lsn,h.now⟩:rQ W a b N));clear h i;unfold bj at o;unfold uE at *;have d:=cL;have m:=dB (NP.new (w:=w) (c:=c) (cs:=gC a ca b cb N));have rN:=jF a ca b cb N 42;have fN:=rE a ca b cb N;go_enter func13,ntmps13;go_upto_region 1 with fail;generalize (((w.alloc (xA #[aB c.w,aB c.tl,aB c.ml,aB c.sh,aB c.ha,aB c.sg] 24)).alloc (xA (gC a ca b cb N) 42)).alloc (xA (gC none 0 none 0 bL) 42))=d at *;obtain⟨F,G,H,J,K,L,O,S,T,U,X,Y,Z,d,B⟩:=m.o.cells rfl;go_wp2_with fail;refine(I.o _ m.o.B).mono ?_;rintro e w1 ⟨z,c1,q,d1,rfl,A,t,i⟩;have P:=dB (m.o.z i);clear F G H J K L O S T U X Y Z d B;obtain⟨F,G,H,J,K,L,O,S,T,U,X,Y,Z,d,B⟩:=P.o.cells rfl;clear i m I rN fN;go_upto_region 2 with fail;refine kU (C:=λW=>Code.wp prog _ _ _ W) P.o.N ?_;intro w2 N2 m;have I:=dB (HI.o w2 z q (A.files.store P.o.N (rF _ _ _ _ _) m) (t.tens.store P.o.N (rF _ _ _ _ _) m));replace P:=dB (P.o.put N2 m);clear F G H J K L O S T U X Y Z d B A t N2 m HI;obtain⟨F,G,H,J,K,L,O,S,T,U,X,Y,Z,d,B⟩:=P.o.cells rfl;have rN:=jF z c1 q d1 N 42;have fN:=rE z c1 q d1 N;obtain⟨E,v0,v1,v2,m⟩:=HE.o;replace m:=dB m;clear HE
 rw[v1]at rN fN;rw[v0]at HCF;rw[v2]at HST;go_wp2_with(first
  |(go_at_call 33;apply jC (HCF.o _);intro wx i;replace P:=dB (P.o.z i);replace I:=dB (I.o.z i);clear i F G H J K L O S T U X Y Z d B;obtain⟨F,G,H,J,K,L,O,S,T,U,X,Y,Z,d,B⟩:=P.o.cells rfl)
  |(go_at_call 44;apply jC (HST.o _ _ _ I.o.tens);intro wx i;replace P:=dB (P.o.z i);replace I:=dB (I.o.z i);clear i F G H J K L O S T U X Y Z d B;obtain⟨F,G,H,J,K,L,O,S,T,U,X,Y,Z,d,B⟩:=P.o.cells rfl))
 refine(o.o _).mono ?_;rintro e w3 ⟨av,cv,rfl,ho,i⟩;obtain⟨k,te,me,x,xs⟩:=r;have hok:=HRK.o;dsimp only at *;obtain⟨⟨hk,hk1,hk2,hk3,hk4,hk5,hk6,hk7,hk8⟩,hsz,hnu⟩:=hok;dsimp only at *;have SM:=dB ho.P;replace P:=dB (P.o.z i);replace I:=dB (I.o.z i);clear ho i F G H J K L O S T U X Y Z d B o HRK HCF HST;go_upto_region 7 with fail;refine zI (C:=λW=>Code.wp prog _ _ _ W) ?_;intro w4 o QB hz4;clear hz4;replace P:=dB (P.o.z o);replace I:=dB (I.o.z o);replace SM:=dB (SM.o.z o);have hQ:=bB QB;clear o;generalize w3.1.size=Q at *;clear w3;obtain⟨q0,q1,q2,q3,q4⟩:=QB.c5;obtain⟨F,G,H,J,K,L,O,S,T,U,X,Y,Z,d,B⟩:=P.o.cells rfl;go_cut [72] (λv wx=>v=.bool (N.deg&&decide (k<=4))/\wx=w4)
 case first=>as_aux_lemma=>
  go_wp2;all_goals go_meet
  all_goals simp_all
 obtain⟨rfl,rfl⟩:=hcut;rename World=>w4;go_upto_if 72 with fail;go_cut [] (λwx=>wx=w4/\(N.deg&&decide (k<=4))=false)
 case first=>as_aux_lemma=>
  cases hd:(N.deg&&decide (k<=4))
  .go_wp2;go_meet;exact⟨rfl,hd⟩
  have E2:V=(N,tB 1 3):=by rw[E,lI];exact Ma (by simpa using hd)
  subst E2;go_wp2;have HK:=dB (P.o.held (gC z c1 q d1 N));go_region_held3 (λp=>jB p (w.1.size+1) (gC z c1 q d1 N) 42)
   (first|with_reducible exact(HK.o _ l).1|with_reducible exact(HK.o _ gD.drew).1|exact(HK.o _ l).2)
   (first|(go_at_call 45;refine jC (mF _ _ (by omega) (by omega)) ?_;intro u1 i;have l:xB w4 u1:=(by with_reducible exact aC gD.drew i);have bx:=(P.o.z l).R.box rfl))
  go_wp2;exact lM rfl rfl rfl rfl (P.o.z l) (I.o.z l)
 obtain⟨rfl,hd⟩:=hcut;rename World=>w4;replace hd:=dB hd;go_upto_region 9 with fail;go_cut [10] (λv wx=>v=.bool (xP k)/\wx=w4)
 case first=>as_aux_lemma=>
  go_wp2;all_goals go_meet
  all_goals(unfold xP;simp_all)
 obtain⟨rfl,rfl⟩:=hcut;rename World=>w4;have HTN:=dB (λW=>rG te W (by unfold maxLen;omega));go_upto_region 10 with fail;go_cut [10,89] (λu v wx=>u=.bool (xP k)/\v=.bool (xP k&&!uC te)/\wx=w4)
 case first=>as_aux_lemma=>
  cases o:xP k
  .go_wp2;go_meet;exact⟨by rw[o],by rw[o];rfl,rfl⟩
  go_wp2_with (go_at_call 47;refine rD (HTN.o _) ?_);go_meet;exact⟨by rw[o],by rw[o];simp,rfl⟩
 obtain⟨rfl,rfl,rfl⟩:=hcut;rename World=>w4;go_upto_if 89 with fail;go_cut [] (λwx=>wx=w4/\(xP k&&!uC te)=false)
 case first=>as_aux_lemma=>
  cases o:(xP k&&!uC te)
  .go_wp2;go_meet;exact⟨rfl,o⟩
  have E2:V=(N,tB 1 2):=by
   rw[E,lI,Ja (by have:=hd.o;simp at this;simpa using this)];exact Ma (by unfold xP at o;simpa using o)
  subst E2;go_wp2;have HK:=dB (P.o.held (gC z c1 q d1 N));go_region_held3 (λp=>jB p (w.1.size+1) (gC z c1 q d1 N) 42)
   (first|with_reducible exact(HK.o _ l).1|with_reducible exact(HK.o _ gD.drew).1|exact(HK.o _ l).2)
   (first|(go_at_call 45;refine jC (mF _ _ (by omega) (by omega)) ?_;intro u1 i;have l:xB w4 u1:=(by with_reducible exact aC gD.drew i);have bx:=(P.o.z l).R.box rfl))
  go_wp2;exact lM rfl rfl rfl rfl (P.o.z l) (I.o.z l)
 obtain⟨rfl,o⟩:=hcut;rename World=>w4;replace o:=dB o;rw[lI,Ja (by have:=hd.o;simpa using this),Ja (by have:=o.o;unfold xP at this;simpa using this)]at E;dsimp only at E;clear hd o hk1 hk2 hk3;replace m:=m.o;simp only[Lb,Ed,Bf]at m;obtain rfl|rfl|rfl:=m
 .as_aux_lemma=>
  replace E:V=if (BL c N.now N.ts x).2.2=false then(N,tB 1 2) else((nF c N [⟨2,lA,lA,x⟩]).1,aL (nF c N [⟨2,lA,lA,x⟩]).1 (nF c N [⟨2,lA,lA,x⟩]).2 (tB 1 0)):=E;have o:=dB (λW(h:rQ W z q N)=>GA c N.now q d1 N.ts x W h.tens (by have:=h.bulk;omega) v2);have n:=dB (λW g(h:rQ W z q N)(hr:yI W (vB g) [⟨2,lA,lA,x⟩])=>YV c (ca:=c1) (cb:=d1) (capr:=1) h hr (by simp[eD]) (ZH (by omega) hnu));unfold oT at o;unfold RT at n;generalize BL c N.now N.ts x=TK at *;generalize nF c N [⟨2,lA,lA,x⟩]=R at *;obtain⟨n9,f,o9⟩:=TK;obtain⟨M,code⟩:=R;dsimp only at o n E;unfold uE at o n;go_wp2_with fail;refine(o.o _ I.o).mono ?_;rintro e w5 ⟨a5,c5,rfl,ho,i⟩;replace P:=dB (P.o.z i);replace I:=dB (I.o.z i);replace QB:=QB.z i;clear ho i o SM F G H J K L O S T U X Y Z d B q0 q1 q2 q3 q4;go_upto_region 33 with fail;refine zI (C:=λW=>Code.wp prog _ _ _ W) ?_;intro y j X6 hz6;clear X6 hz6;replace P:=dB (P.o.z j);replace I:=dB (I.o.z j);replace QB:=QB.z j;have hQ6:=bB QB;clear j;obtain⟨q0,q1,q2,q3,q4⟩:=QB.c5;obtain⟨F,G,H,J,K,L,O,S,T,U,X,Y,Z,d,B⟩:=P.o.cells rfl;cases o9
  .obtain rfl:V=(N,tB 1 2):=E;go_wp2;have HK:=dB (P.o.held (gC z c1 q d1 N));go_region_held3 (λp=>jB p (w.1.size+1) (gC z c1 q d1 N) 42)
    (first|with_reducible exact(HK.o _ l).1|with_reducible exact(HK.o _ gD.drew).1|exact(HK.o _ l).2)
    (first|(go_at_call 45;refine jC (mF _ _ (by omega) (by omega)) ?_;intro u1 i;have l:xB y u1:=(by with_reducible exact aC gD.drew i);have bx:=(P.o.z l).R.box rfl))
   go_wp2;exact lM rfl rfl rfl rfl (P.o.z l) (I.o.z l)
  replace E:V=(M,aL M code (tB 1 0)):=E;subst E;go_wp2_with fail;have H7:=n.o _ y.1.size (I.o.z (zF y (xA #[aB 2,pA ⟨#[]⟩,pA ⟨#[]⟩,aB x] 119))) (QL (jB.new y _ _));refine H7.mono ?_;clear H7;rintro e w7 ⟨a5,c5,b5,d5,rfl,A,t,i⟩;replace i:=aC bC i;replace P:=dB (P.o.z i);have F5:=dB A;have T5:=dB t;clear i A t n I F G H J K L O S T U X Y Z d B q0 q1 q2 q3 q4 QB;go_upto_region 36 with fail;refine GW (C:=λW=>Code.wp prog _ _ _ W) ?_;intro w8 j XA;have hXR:w7.1.size≠w.1.size+1+1:=by have:=P.o.lt;omega
  replace P:=dB (P.o.z j);replace F5:=dB (F5.o.z j);replace T5:=dB (T5.o.z j);have rM:=jF a5 c5 b5 d5 M 42;have fM:=rE a5 c5 b5 d5 M;clear rN fN;replace XA:=dB XA;clear j;generalize w7.1.size=X5 at *;have m:=dB (λp(h:xB w8 p)=>XA.o.z h);go_region_held3 (λp=>jB p X5 (gC a5 c5 b5 d5 M) 42)
   (first|with_reducible exact m.o _ D|with_reducible exact m.o _ l|with_reducible exact m.o _ gD.drew|exact(uG _ _ _).blk (m.o _ D) hXR)
   (first
    |(go_at_call 45;refine jC (mF _ _ (by omega) (by omega)) ?_;intro u1 i;have l:xB w8 u1:=(by with_reducible exact aC gD.drew i))
    |(go_at_call 51;refine(uW a5 b5 c5 d5 M _ _ _ (F5.o.z l) (T5.o.z l)).mono ?_;rintro e u2 ⟨a6,c6,b6,d6,rfl,A,t,i⟩;have D:xB w8 u2:=(by with_reducible exact aC l i);have bx:=(P.o.z D).R.box rfl))
  go_wp2;exact cU rfl rfl rfl rfl (P.o.z D).R (rF _ _ _ _ _) (by omega) (P.o.z D).B A t
 .as_aux_lemma=>
  replace E:V=if (zR c N.now N.ts te me x).2.2=false then(N,tB 1 2) else((nF c N [⟨3,te,me,x⟩]).1,aL (nF c N [⟨3,te,me,x⟩]).1 (nF c N [⟨3,te,me,x⟩]).2 (tB 1 0)):=E;have o:=dB (λW(h:rQ W z q N)=>qV c N.now q d1 N.ts te me x W h.tens (by have:=h.bulk;omega) (by omega) (by omega) v2);have n:=dB (λW g(h:rQ W z q N)(hr:yI W (vB g) [⟨3,te,me,x⟩])=>YV c (ca:=c1) (cb:=d1) (capr:=1) h hr (by simp[eD];omega) (ZH (by omega) hnu));unfold oT at o;unfold RT at n;generalize zR c N.now N.ts te me x=TK at *;generalize nF c N [⟨3,te,me,x⟩]=R at *;obtain⟨n9,f,o9⟩:=TK;obtain⟨M,code⟩:=R;dsimp only at o n E;unfold uE at o n;go_wp2_with fail;refine(o.o _ I.o).mono ?_;rintro e w5 ⟨a5,c5,rfl,ho,i⟩;replace P:=dB (P.o.z i);replace I:=dB (I.o.z i);replace QB:=QB.z i;clear ho i o SM F G H J K L O S T U X Y Z d B q0 q1 q2 q3 q4;go_upto_region 39 with fail;refine zI (C:=λW=>Code.wp prog _ _ _ W) ?_;intro y j X6 hz6;clear X6 hz6;replace P:=dB (P.o.z j);replace I:=dB (I.o.z j);replace QB:=QB.z j;have hQ6:=bB QB;clear j;obtain⟨q0,q1,q2,q3,q4⟩:=QB.c5;obtain⟨F,G,H,J,K,L,O,S,T,U,X,Y,Z,d,B⟩:=P.o.cells rfl;cases o9
  .obtain rfl:V=(N,tB 1 2):=E;go_wp2;have HK:=dB (P.o.held (gC z c1 q d1 N));go_region_held3 (λp=>jB p (w.1.size+1) (gC z c1 q d1 N) 42)
    (first|with_reducible exact(HK.o _ l).1|with_reducible exact(HK.o _ gD.drew).1|exact(HK.o _ l).2)
    (first|(go_at_call 45;refine jC (mF _ _ (by omega) (by omega)) ?_;intro u1 i;have l:xB y u1:=(by with_reducible exact aC gD.drew i);have bx:=(P.o.z l).R.box rfl))
   go_wp2;exact lM rfl rfl rfl rfl (P.o.z l) (I.o.z l)
  replace E:V=(M,aL M code (tB 1 0)):=E;subst E;go_wp2_with fail;have H7:=n.o _ y.1.size (I.o.z (zF y (xA #[aB 3,pA te,pA me,aB x] 119))) (QL (jB.new y _ _));refine H7.mono ?_;clear H7;rintro e w7 ⟨a5,c5,b5,d5,rfl,A,t,i⟩;replace i:=aC bC i;replace P:=dB (P.o.z i);have F5:=dB A;have T5:=dB t;clear i A t n I F G H J K L O S T U X Y Z d B q0 q1 q2 q3 q4 QB;go_upto_region 42 with fail;refine GW (C:=λW=>Code.wp prog _ _ _ W) ?_;intro w8 j XA;have hXR:w7.1.size≠w.1.size+1+1:=by have:=P.o.lt;omega
  replace P:=dB (P.o.z j);replace F5:=dB (F5.o.z j);replace T5:=dB (T5.o.z j);have rM:=jF a5 c5 b5 d5 M 42;have fM:=rE a5 c5 b5 d5 M;clear rN fN;replace XA:=dB XA;clear j;generalize w7.1.size=X5 at *;have m:=dB (λp(h:xB w8 p)=>XA.o.z h);go_region_held3 (λp=>jB p X5 (gC a5 c5 b5 d5 M) 42)
   (first|with_reducible exact m.o _ D|with_reducible exact m.o _ l|with_reducible exact m.o _ gD.drew|exact(uG _ _ _).blk (m.o _ D) hXR)
   (first
    |(go_at_call 45;refine jC (mF _ _ (by omega) (by omega)) ?_;intro u1 i;have l:xB w8 u1:=(by with_reducible exact aC gD.drew i))
    |(go_at_call 51;refine(uW a5 b5 c5 d5 M _ _ _ (F5.o.z l) (T5.o.z l)).mono ?_;rintro e u2 ⟨a6,c6,b6,d6,rfl,A,t,i⟩;have D:xB w8 u2:=(by with_reducible exact aC l i);have bx:=(P.o.z D).R.box rfl))
  go_wp2;exact cU rfl rfl rfl rfl (P.o.z D).R (rF _ _ _ _ _) (by omega) (P.o.z D).B A t
 .as_aux_lemma=>
  replace E:V=((DJ c N).1,aL (DJ c N).1 (DJ c N).2 (tB 1 0)):=E;have o:=dB (λW(h:rQ W z q N)=>qf c z q c1 d1 N W ⟨h.files,h.fit,h.tens,by have:=h.bulk;omega,h.rng,h.lsn,h.now⟩);unfold qu RT at o;generalize DJ c N=R at *;obtain⟨M,code⟩:=R;subst E;dsimp only at o;unfold uE at o;go_wp2_with fail;refine(o.o _ I.o).mono ?_;rintro e w5 ⟨a5,c5,b5,d5,rfl,A,t,i⟩;replace P:=dB (P.o.z i);have F5:=dB A;have T5:=dB t;clear i A t o I SM F G H J K L O S T U X Y Z d B q0 q1 q2 q3 q4;go_upto_region 45 with fail;refine GW (C:=λW=>Code.wp prog _ _ _ W) ?_;intro y j XA;have hXR:w5.1.size≠w.1.size+1+1:=by have:=P.o.lt;omega
  replace P:=dB (P.o.z j);replace F5:=dB (F5.o.z j);replace T5:=dB (T5.o.z j);have rM:=jF a5 c5 b5 d5 M 42;have fM:=rE a5 c5 b5 d5 M;clear rN fN;replace XA:=dB XA;clear j;generalize w5.1.size=X5 at *;have m:=dB (λp(h:xB y p)=>XA.o.z h);go_region_held3 (λp=>jB p X5 (gC a5 c5 b5 d5 M) 42)
   (first|with_reducible exact m.o _ D|with_reducible exact m.o _ l|with_reducible exact m.o _ gD.drew|exact(uG _ _ _).blk (m.o _ D) hXR)
   (first
    |(go_at_call 45;refine jC (mF _ _ (by omega) (by omega)) ?_;intro u1 i;have l:xB y u1:=(by with_reducible exact aC gD.drew i))
    |(go_at_call 51;refine(uW a5 b5 c5 d5 M _ _ _ (F5.o.z l) (T5.o.z l)).mono ?_;rintro e u2 ⟨a6,c6,b6,d6,rfl,A,t,i⟩;have D:xB y u2:=(by with_reducible exact aC l i);have bx:=(P.o.z D).R.box rfl))
  go_wp2;exact cU rfl rfl rfl rfl (P.o.z D).R (rF _ _ _ _ _) (by omega) (P.o.z D).B A t
end
