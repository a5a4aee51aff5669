import Derived.Test.YtejebmgbenmimaaGreatDoorJ45
set_option maxRecDepth 100000
set_option maxHeartbeats 8000000
open ByteArray renaming empty->pA
namespace Go.Proofs.YtejebmgbenmimaaGreatDoor
open Value renaming string->tA
open Obj renaming cells->aB
open Go.RowKit Tryz
section
open Go.Maps
attribute [local go_sem] lG jH uK rB.drewI dL.drewI dL.new dL.alloc dL.alloc2
theorem aIu(c:kC)(a b:nC)(ca cb:Nat)(N:vC)(r:fH)(w:World)(h:jR w a b N)(d:aIs c N r [2,3,4]):
 Calls prog 18 #[oE c,.agg (sC a ca b cb N),tA (oK r)] w λe t=>MJ (lJ c N r).1 (tA (lJ c N r).2) w e t:=by
 have i:=h.bulk;have G:=gB (λW(m:zB w W)=>yS a b ca cb N W (h.files.z m) h.fit.len (h.tens.z m) (by omega) (cU (by omega)));have HCF:=gB (λW=>xL c W);have HST:=gB (λW b cb(q:uC W b N.ts)=>rH c N.now b cb N.ts W q (nO (show N.ts.length+fC N.ts<=1900000 by omega)).2.1 (by omega));have o:=gB (λW=>mZ r W d.2.2.1);have HRK:=gB (Vc d.2.2.1.ok (Vc d.2.2.1.sz d.2.2.1.U));obtain⟨V,m⟩:∃V,V=lJ c N r:=⟨_,rfl⟩
 obtain⟨s,B⟩:∃s,s=oK r:=⟨_,rfl⟩
 rw[<-m,<-B];rw[<-B]at o;have HE:=gB (show V=lJ c N r/\yi c N r/\pC c N.now N.ts=true/\r.K∈[(2:Int),3,4] from⟨m,d.1,d.2.1,d.2.2.2⟩);clear d m B;have HI:=gB (λW a b(d:wB W a N.d.fs)(m:uC W b N.ts)=>(⟨d,h.fit,m,h.bulk,h.rng,h.lsn,h.now⟩:jR W a b N));clear h i;unfold ZY at o;unfold oE at *;have d:=cK;have m:=gB (NP.new (w:=w) (c:=c) (cs:=sC a ca b cb N));have rN:=rF a ca b cb N 42;have fN:=vE a ca b cb N;go_enter func18,ntmps18;go_upto_region 1 with fail;generalize (((w.alloc (aB #[dB c.w,dB c.tl,dB c.ml,dB c.sh,dB c.ha,dB c.sg] 24)).alloc (aB (sC a ca b cb N) 42)).alloc (aB (sC none 0 none 0 yN) 42))=d at *;obtain⟨D,F,H,J,K,L,O,S,T,U,X,Y,Z,d,B⟩:=m.o.cells rfl;go_wp2_with fail;refine(G.o _ m.o.B).mono ?_;rintro e w1 ⟨a1,c1,y,d1,rfl,z,q,i⟩;have P:=gB (m.o.z i);clear D F H J K L O S T U X Y Z d B;obtain⟨D,F,H,J,K,L,O,S,T,U,X,Y,Z,d,B⟩:=P.o.cells rfl;clear i m G rN fN;go_upto_region 2 with fail;refine bW (C:=λW=>Code.wp prog _ _ _ W) P.o.N ?_;intro w2 G m;have I:=gB (HI.o w2 a1 y (z.files.store P.o.N (dG _ _ _ _ _) m) (q.tens.store P.o.N (dG _ _ _ _ _) m));replace P:=gB (P.o.put G m);clear D F H J K L O S T U X Y Z d B z q G m HI;obtain⟨D,F,H,J,K,L,O,S,T,U,X,Y,Z,d,B⟩:=P.o.cells rfl;have rN:=rF a1 c1 y d1 N 42;have fN:=vE a1 c1 y d1 N;obtain⟨E,G,v2,m⟩:=HE.o;replace G:=gB G;replace m:=gB m;clear HE
 rw[G.o.up,G.o.dg]at rN fN;rw[G.o.cf]at HCF;rw[v2]at HST;go_wp2_with(first
  |(go_at_call 53;apply oC (HCF.o _);intro wx i;replace P:=gB (P.o.z i);replace I:=gB (I.o.z i);clear i D F H J K L O S T U X Y Z d B;obtain⟨D,F,H,J,K,L,O,S,T,U,X,Y,Z,d,B⟩:=P.o.cells rfl)
  |(go_at_call 44;apply oC (HST.o _ _ _ I.o.tens);intro wx i;replace P:=gB (P.o.z i);replace I:=gB (I.o.z i);clear i D F H J K L O S T U X Y Z d B;obtain⟨D,F,H,J,K,L,O,S,T,U,X,Y,Z,d,B⟩:=P.o.cells rfl))
 refine(o.o _).mono ?_;rintro e w3 ⟨av,cv,rfl,ho,i⟩;obtain⟨k,te,me,x,xs⟩:=r;have hok:=HRK.o;dsimp only at *;obtain⟨⟨hk,hk1,hk2,hk3,hk4,hk5,hk6,hk7,hk8⟩,hsz,hnu⟩:=hok;dsimp only at *;have SM:=gB ho.P;replace P:=gB (P.o.z i);have hQ2:=P.o.lt;replace I:=gB (I.o.z i);clear ho i D F H J K L O S T U X Y Z d B o HRK HCF HST;go_upto_region 7 with fail;refine uI (C:=λW=>Code.wp prog _ _ _ W) ?_;intro w4 o QB hz4;clear hz4;replace P:=gB (P.o.z o);replace I:=gB (I.o.z o);replace SM:=gB (SM.o.z o);have hQ:=eB QB;clear o;generalize w3.1.size=Q at *;clear w3;obtain⟨q0,q1,q2,q3,q4⟩:=QB.c5;obtain⟨D,F,H,J,K,L,O,S,T,U,X,Y,Z,d,B⟩:=P.o.cells rfl;go_upto_region 9 with fail;go_cut [10] (λv wx=>v=.bool (pP k)/\wx=w4)
 case first=>as_aux_lemma=>
  go_wp2;all_goals go_meet
  all_goals(unfold pP;simp_all)
 obtain⟨rfl,rfl⟩:=hcut;rename World=>w4;have HTN:=gB (λW=>qG te W (by unfold maxLen;omega));go_upto_region 10 with fail;go_cut [10,89] (λu v wx=>u=.bool (pP k)/\v=.bool (pP k&&!xC te)/\wx=w4)
 case first=>as_aux_lemma=>
  cases o:pP k
  .go_wp2;go_meet;exact⟨by rw[o],by rw[o];rfl,rfl⟩
  go_wp2_with (go_at_call 66;refine tD (HTN.o _) ?_);go_meet;exact⟨by rw[o],by rw[o];simp,rfl⟩
 obtain⟨rfl,rfl,rfl⟩:=hcut;rename World=>w4;go_upto_if 89 with fail;go_cut [] (λwx=>wx=w4/\(pP k&&!xC te)=false)
 case first=>as_aux_lemma=>
  cases o:(pP k&&!xC te)
  .go_wp2;go_meet;exact⟨rfl,o⟩
  have E2:V=(N,uB 1 2):=by
   rw[E,lJ,Ja (by simp[G.o.dg])];exact Ma (by unfold pP at o;simpa using o)
  subst E2;go_wp2;have HK:=gB (P.o.held (sC a1 c1 y d1 N));go_region_held3 (λt=>rB t (w.1.size+1) (sC a1 c1 y d1 N) 42)
   (first|with_reducible exact(HK.o _ l).1|with_reducible exact(HK.o _ jD.drew).1|exact(HK.o _ l).2)
   (first|(go_at_call 64;refine oC (xG _ _ (by omega) (by omega)) ?_;intro u1 i;have l:zB w4 u1:=(by with_reducible exact xB jD.drew i);have bx:=(P.o.z l).R.box rfl))
  go_wp2;exact pR rfl rfl rfl rfl (P.o.z l) (I.o.z l)
 obtain⟨rfl,o⟩:=hcut;rename World=>w4;replace o:=gB o;rw[lJ,Ja (by simp[G.o.dg]),Ja (by have:=o.o;unfold pP at this;simpa using this)]at E;dsimp only at E;clear o hk1 hk2 hk3;replace m:=m.o;simp only[Lb,Ed,Bf]at m;obtain rfl|rfl|rfl:=m
 .as_aux_lemma=>
  replace E:V=if (pZ c N.now N.ts x).2.2=false then(N,uB 1 2) else((fG c N [⟨2,pA,pA,x⟩]).1,cN (fG c N [⟨2,pA,pA,x⟩]).1 (fG c N [⟨2,pA,pA,x⟩]).2 (uB 1 0)):=E;have o:=gB (λW(h:jR W a1 y N)=>dX c N.now y d1 N.ts x W h.tens (by have:=h.bulk;omega) v2);have n:=gB (λW g(h:jR W a1 y N)(hr:lI W (cC g) [⟨2,pA,pA,x⟩])=>YA c (ca:=c1) (cb:=d1) (capr:=1) h hr (by simp[iD]) (LV (by omega) hnu) G.o.cf G.o.b G.o.tk);unfold iS at o;unfold MJ at n;generalize pZ c N.now N.ts x=TK at *;generalize fG c N [⟨2,pA,pA,x⟩]=R at *;obtain⟨n9,f,o9⟩:=TK;obtain⟨M,code⟩:=R;dsimp only at o n E;unfold oE at o n;go_wp2_with fail;refine(o.o _ I.o).mono ?_;rintro e w5 ⟨a5,c5,rfl,ho,i⟩;replace P:=gB (P.o.z i);replace I:=gB (I.o.z i);replace QB:=QB.z i;clear ho i o SM D F H J K L O S T U X Y Z d B q0 q1 q2 q3 q4;go_upto_region 33 with fail;refine uI (C:=λW=>Code.wp prog _ _ _ W) ?_;intro p j X6 hz6;clear X6 hz6;replace P:=gB (P.o.z j);replace I:=gB (I.o.z j);replace QB:=QB.z j;have hQ6:=eB QB;have hQ7:¬Q=p.1.size:=by omega
  clear j;obtain⟨q0,q1,q2,q3,q4⟩:=QB.c5;obtain⟨D,F,H,J,K,L,O,S,T,U,X,Y,Z,d,B⟩:=P.o.cells rfl;cases o9
  .obtain rfl:V=(N,uB 1 2):=E;go_wp2;have HK:=gB (P.o.held (sC a1 c1 y d1 N));go_region_held3 (λt=>rB t (w.1.size+1) (sC a1 c1 y d1 N) 42)
    (first|with_reducible exact(HK.o _ l).1|with_reducible exact(HK.o _ jD.drew).1|exact(HK.o _ l).2)
    (first|(go_at_call 64;refine oC (xG _ _ (by omega) (by omega)) ?_;intro u1 i;have l:zB p u1:=(by with_reducible exact xB jD.drew i);have bx:=(P.o.z l).R.box rfl))
   go_wp2;exact pR rfl rfl rfl rfl (P.o.z l) (I.o.z l)
  replace E:V=(M,cN M code (uB 1 0)):=E;subst E;go_wp2_with fail;have H7:=n.o _ p.1.size (I.o.z (uF p (aB #[dB 2,tA ⟨#[]⟩,tA ⟨#[]⟩,dB x] 56))) (FE (rB.new p _ _));refine H7.mono ?_;clear H7;rintro e w7 ⟨a5,c5,b5,d5,rfl,z,q,i⟩;replace i:=xB aC i;replace P:=gB (P.o.z i);have F5:=gB z;have T5:=gB q;clear i z q n I D F H J K L O S T U X Y Z d B q0 q1 q2 q3 q4 QB;go_upto_region 36 with fail;refine dY (C:=λW=>Code.wp prog _ _ _ W) ?_;intro w8 j XA;have hXR:w7.1.size≠w.1.size+1+1:=by have:=P.o.lt;omega
  replace P:=gB (P.o.z j);replace F5:=gB (F5.o.z j);replace T5:=gB (T5.o.z j);have xa:=XA;have rM:=rF a5 c5 b5 d5 M 42;have fM:=vE a5 c5 b5 d5 M;clear rN fN;replace XA:=gB XA;clear j;generalize w7.1.size=X5 at *;have m:=gB (λt(h:zB w8 t)=>XA.o.z h);go_region_held3 (λt=>rB t X5 (sC a5 c5 b5 d5 M) 42)
   (first|with_reducible exact m.o _ A|with_reducible exact m.o _ l|with_reducible exact m.o _ jD.drew|exact(eH _ _ _).blk (m.o _ A) hXR)
   (first
    |(go_at_call 64;refine oC (xG _ _ (by omega) (by omega)) ?_;intro u1 i;have l:zB w8 u1:=(by with_reducible exact xB jD.drew i))
    |(go_at_call 70;refine(vW a5 b5 c5 d5 M _ _ _ (F5.o.z l) (T5.o.z l)).mono ?_;rintro e u2 ⟨a6,c6,b6,d6,rfl,z,q,i⟩;have A:zB w8 u2:=(by with_reducible exact xB l i);have bx:=(P.o.z A).R.box rfl))
  go_wp2;exact aU rfl rfl rfl rfl (P.o.z A).R (dG _ _ _ _ _) (by omega) (P.o.z A).B z q
 .as_aux_lemma=>
  replace E:V=if (xR c N.now N.ts te me x).2.2=false then(N,uB 1 2) else((fG c N [⟨3,te,me,x⟩]).1,cN (fG c N [⟨3,te,me,x⟩]).1 (fG c N [⟨3,te,me,x⟩]).2 (uB 1 0)):=E;have o:=gB (λW(h:jR W a1 y N)=>pV c N.now y d1 N.ts te me x W h.tens (by have:=h.bulk;omega) (by omega) (by omega) v2);have n:=gB (λW g(h:jR W a1 y N)(hr:lI W (cC g) [⟨3,te,me,x⟩])=>YA c (ca:=c1) (cb:=d1) (capr:=1) h hr (by simp[iD];omega) (LV (by omega) hnu) G.o.cf G.o.b G.o.lm);unfold iS at o;unfold MJ at n;generalize xR c N.now N.ts te me x=TK at *;generalize fG c N [⟨3,te,me,x⟩]=R at *;obtain⟨n9,f,o9⟩:=TK;obtain⟨M,code⟩:=R;dsimp only at o n E;unfold oE at o n;go_wp2_with fail;refine(o.o _ I.o).mono ?_;rintro e w5 ⟨a5,c5,rfl,ho,i⟩;replace P:=gB (P.o.z i);replace I:=gB (I.o.z i);replace QB:=QB.z i;clear ho i o SM D F H J K L O S T U X Y Z d B q0 q1 q2 q3 q4;go_upto_region 39 with fail;refine uI (C:=λW=>Code.wp prog _ _ _ W) ?_;intro p j X6 hz6;clear X6 hz6;replace P:=gB (P.o.z j);replace I:=gB (I.o.z j);replace QB:=QB.z j;have hQ6:=eB QB;have hQ7:¬Q=p.1.size:=by omega
  clear j;obtain⟨q0,q1,q2,q3,q4⟩:=QB.c5;obtain⟨D,F,H,J,K,L,O,S,T,U,X,Y,Z,d,B⟩:=P.o.cells rfl;cases o9
  .obtain rfl:V=(N,uB 1 2):=E;go_wp2;have HK:=gB (P.o.held (sC a1 c1 y d1 N));go_region_held3 (λt=>rB t (w.1.size+1) (sC a1 c1 y d1 N) 42)
    (first|with_reducible exact(HK.o _ l).1|with_reducible exact(HK.o _ jD.drew).1|exact(HK.o _ l).2)
    (first|(go_at_call 64;refine oC (xG _ _ (by omega) (by omega)) ?_;intro u1 i;have l:zB p u1:=(by with_reducible exact xB jD.drew i);have bx:=(P.o.z l).R.box rfl))
   go_wp2;exact pR rfl rfl rfl rfl (P.o.z l) (I.o.z l)
  replace E:V=(M,cN M code (uB 1 0)):=E;subst E;go_wp2_with fail;have H7:=n.o _ p.1.size (I.o.z (uF p (aB #[dB 3,tA te,tA me,dB x] 56))) (FE (rB.new p _ _));refine H7.mono ?_;clear H7;rintro e w7 ⟨a5,c5,b5,d5,rfl,z,q,i⟩;replace i:=xB aC i;replace P:=gB (P.o.z i);have F5:=gB z;have T5:=gB q;clear i z q n I D F H J K L O S T U X Y Z d B q0 q1 q2 q3 q4 QB;go_upto_region 42 with fail;refine dY (C:=λW=>Code.wp prog _ _ _ W) ?_;intro w8 j XA;have hXR:w7.1.size≠w.1.size+1+1:=by have:=P.o.lt;omega
  replace P:=gB (P.o.z j);replace F5:=gB (F5.o.z j);replace T5:=gB (T5.o.z j);have xa:=XA;have rM:=rF a5 c5 b5 d5 M 42;have fM:=vE a5 c5 b5 d5 M;clear rN fN;replace XA:=gB XA;clear j;generalize w7.1.size=X5 at *;have m:=gB (λt(h:zB w8 t)=>XA.o.z h);go_region_held3 (λt=>rB t X5 (sC a5 c5 b5 d5 M) 42)
   (first|with_reducible exact m.o _ A|with_reducible exact m.o _ l|with_reducible exact m.o _ jD.drew|exact(eH _ _ _).blk (m.o _ A) hXR)
   (first
    |(go_at_call 64;refine oC (xG _ _ (by omega) (by omega)) ?_;intro u1 i;have l:zB w8 u1:=(by with_reducible exact xB jD.drew i))
    |(go_at_call 70;refine(vW a5 b5 c5 d5 M _ _ _ (F5.o.z l) (T5.o.z l)).mono ?_;rintro e u2 ⟨a6,c6,b6,d6,rfl,z,q,i⟩;have A:zB w8 u2:=(by with_reducible exact xB l i);have bx:=(P.o.z A).R.box rfl))
  go_wp2;exact aU rfl rfl rfl rfl (P.o.z A).R (dG _ _ _ _ _) (by omega) (P.o.z A).B z q
 .as_aux_lemma=>
  replace E:V=((IV c N).1,cN (IV c N).1 (IV c N).2 (uB 1 0)):=E;have o:=gB (λW(h:jR W a1 y N)=>xj c a1 y c1 d1 N W ⟨h.files,h.fit,h.tens,by have:=h.bulk;omega,h.rng,h.lsn,h.now⟩ G.o.ck);unfold oi MJ at o;generalize IV c N=R at *;obtain⟨M,code⟩:=R;subst E;dsimp only at o;unfold oE at o;go_wp2_with fail;refine(o.o _ I.o).mono ?_;rintro e w5 ⟨a5,c5,b5,d5,rfl,z,q,i⟩;replace P:=gB (P.o.z i);have F5:=gB z;have T5:=gB q;clear i z q o I SM D F H J K L O S T U X Y Z d B q0 q1 q2 q3 q4;go_upto_region 45 with fail;refine dY (C:=λW=>Code.wp prog _ _ _ W) ?_;intro p j XA;have hXR:w5.1.size≠w.1.size+1+1:=by have:=P.o.lt;omega
  replace P:=gB (P.o.z j);replace F5:=gB (F5.o.z j);replace T5:=gB (T5.o.z j);have xa:=XA;have rM:=rF a5 c5 b5 d5 M 42;have fM:=vE a5 c5 b5 d5 M;clear rN fN;replace XA:=gB XA;clear j;generalize w5.1.size=X5 at *;have m:=gB (λt(h:zB p t)=>XA.o.z h);go_region_held3 (λt=>rB t X5 (sC a5 c5 b5 d5 M) 42)
   (first|with_reducible exact m.o _ A|with_reducible exact m.o _ l|with_reducible exact m.o _ jD.drew|exact(eH _ _ _).blk (m.o _ A) hXR)
   (first
    |(go_at_call 64;refine oC (xG _ _ (by omega) (by omega)) ?_;intro u1 i;have l:zB p u1:=(by with_reducible exact xB jD.drew i))
    |(go_at_call 70;refine(vW a5 b5 c5 d5 M _ _ _ (F5.o.z l) (T5.o.z l)).mono ?_;rintro e u2 ⟨a6,c6,b6,d6,rfl,z,q,i⟩;have A:zB p u2:=(by with_reducible exact xB l i);have bx:=(P.o.z A).R.box rfl))
  go_wp2;exact aU rfl rfl rfl rfl (P.o.z A).R (dG _ _ _ _ _) (by omega) (P.o.z A).B z q
end
