import Derived.Test.YtejebmgbenmimaaGreatDoorJ45
set_option maxRecDepth 100000
set_option maxHeartbeats 8000000
namespace Go.Proofs.YtejebmgbenmimaaGreatDoor
open Go.RowKit Tryz
section
open Go.Maps
attribute [local go_sem] lG jH uK rB.drewI dL.drewI dL.new dL.alloc dL.alloc2
theorem aIv(c:kC)(a b:nC)(ca cb:Nat)(N:vC)(r:fH)(w:World)(h:jR w a b N)(hm:aIs c N r [5,6]):
 Calls prog 18 #[oE c,.agg (sC a ca b cb N),.string (oK r)] w λe Y=>MJ (lJ c N r).1 (.string (lJ c N r).2) w e Y:=by
 have f:=h.bulk;have HCP:=gB (λW(hW:zB w W)=>yS a b ca cb N W (h.files.z hW) h.fit.len (h.tens.z hW) (by omega) (cU (by omega)));have HCF:=gB (λW=>xL c W);have HST:=gB (λW b cb(hT:uC W b N.ts)=>rH c N.now b cb N.ts W hT (nO (show N.ts.length+fC N.ts<=1900000 by omega)).2.1 (by omega));have HDR:=gB (λW=>mZ r W hm.2.2.1);have HRK:=gB (Vc hm.2.2.1.ok (Vc hm.2.2.1.sz hm.2.2.1.U));obtain⟨V,hV⟩:∃V,V=lJ c N r:=⟨_,rfl⟩
 obtain⟨s,hS⟩:∃s,s=oK r:=⟨_,rfl⟩
 rw[<-hV,<-hS];rw[<-hS]at HDR;have HE:=gB (show V=lJ c N r/\yi c N r/\pC c N.now N.ts=true/\r.K∈[(5:Int),6] from⟨hV,hm.1,hm.2.1,hm.2.2.2⟩);clear hm hV hS;have HI:=gB (λW a b(h1:wB W a N.d.fs)(h2:uC W b N.ts)=>(⟨h1,h.fit,h2,h.bulk,h.rng,h.lsn,h.now⟩:jR W a b N));clear h f;unfold ZY at HDR;unfold oE at *;have fz:=cK;have HB0:=gB (NP.new (w:=w) (c:=c) (cs:=sC a ca b cb N));have rN:=rF a ca b cb N 42;have fN:=vE a ca b cb N;go_enter func18,ntmps18;go_upto_region 1 with fail;generalize (((w.alloc (.cells #[.int .i64 c.w,.int .i64 c.tl,.int .i64 c.ml,.int .i64 c.sh,.int .i64 c.ha,.int .i64 c.sg] 24)).alloc (.cells (sC a ca b cb N) 42)).alloc (.cells (sC none 0 none 0 yN) 42))=W0 at *;obtain⟨x,y,z,A,D,F,H,J,o,K,L,M,O,S,T⟩:=HB0.o.cells rfl;go_wp2_with fail;refine(HCP.o _ HB0.o.B).mono ?_;rintro e w1 ⟨U,c1,p,Z,rfl,hF,hT,f⟩;have P:=gB (HB0.o.z f);clear x y z A D F H J o K L M O S T;obtain⟨x,y,z,A,D,F,H,J,o,K,L,M,O,S,T⟩:=P.o.cells rfl;clear f HB0 HCP rN fN;go_upto_region 2 with fail;refine bW (C:=λW=>Code.wp prog _ _ _ W) P.o.N ?_;intro w2 N2 T2;have I:=gB (HI.o w2 U p (hF.files.store P.o.N (dG _ _ _ _ _) T2) (hT.tens.store P.o.N (dG _ _ _ _ _) T2));replace P:=gB (P.o.put N2 T2);clear x y z A D F H J o K L M O S T hF hT N2 T2 HI;obtain⟨x,y,z,A,D,F,H,J,o,K,L,M,O,S,T⟩:=P.o.cells rfl;have rN:=rF U c1 p Z N 42;have fN:=vE U c1 p Z N;obtain⟨E,G,v2,a0⟩:=HE.o;replace G:=gB G;replace a0:=gB a0;clear HE
 rw[G.o.up,G.o.dg]at rN fN;rw[G.o.cf]at HCF;rw[v2]at HST;go_wp2_with(first
  |(go_at_call 53;apply oC (HCF.o _);intro wx f;replace P:=gB (P.o.z f);replace I:=gB (I.o.z f);clear f x y z A D F H J o K L M O S T;obtain⟨x,y,z,A,D,F,H,J,o,K,L,M,O,S,T⟩:=P.o.cells rfl)
  |(go_at_call 44;apply oC (HST.o _ _ _ I.o.tens);intro wx f;replace P:=gB (P.o.z f);replace I:=gB (I.o.z f);clear f x y z A D F H J o K L M O S T;obtain⟨x,y,z,A,D,F,H,J,o,K,L,M,O,S,T⟩:=P.o.cells rfl))
 refine(HDR.o _).mono ?_;rintro e w3 ⟨av,cv,rfl,ho,f⟩;obtain⟨k,X,me,nu,xs⟩:=r;have hok:=HRK.o;dsimp only at *;obtain⟨⟨hk,hk1,hk2,hk3,hk4,hk5,hk6,hk7,hk8⟩,hsz,hnu⟩:=hok;dsimp only at *;have SM:=gB ho.P;replace P:=gB (P.o.z f);have hQ2:=P.o.lt;replace I:=gB (I.o.z f);clear ho f x y z A D F H J o K L M O S T HDR HRK HCF HST;go_upto_region 7 with fail;refine uI (C:=λW=>Code.wp prog _ _ _ W) ?_;intro w4 hb4 QB hz4;clear hz4;replace P:=gB (P.o.z hb4);replace I:=gB (I.o.z hb4);replace SM:=gB (SM.o.z hb4);have hQ:=eB QB;clear hb4;generalize w3.1.size=Q at *;clear w3;obtain⟨q0,q1,q2,q3,q4⟩:=QB.c5;obtain⟨x,y,z,A,D,F,H,J,o,K,L,M,O,S,T⟩:=P.o.cells rfl;go_upto_region 9 with fail;go_cut [10] (λv wx=>v=.bool (pP k)/\wx=w4)
 case first=>as_aux_lemma=>
  go_wp2;all_goals go_meet
  all_goals(unfold pP;simp_all)
 obtain⟨rfl,rfl⟩:=hcut;rename World=>w4;have HTN:=gB (λW=>qG X W (by unfold maxLen;omega));go_upto_region 10 with fail;go_cut [10,89] (λu v wx=>u=.bool (pP k)/\v=.bool (pP k&&!xC X)/\wx=w4)
 case first=>as_aux_lemma=>
  cases hn:pP k
  .go_wp2;go_meet;exact⟨by rw[hn],by rw[hn];rfl,rfl⟩
  go_wp2_with (go_at_call 66;refine tD (HTN.o _) ?_);go_meet;exact⟨by rw[hn],by rw[hn];simp,rfl⟩
 obtain⟨rfl,rfl,rfl⟩:=hcut;rename World=>w4;go_upto_if 89 with fail;go_cut [] (λwx=>wx=w4/\(pP k&&!xC X)=false)
 case first=>as_aux_lemma=>
  cases hn:(pP k&&!xC X)
  .go_wp2;go_meet;exact⟨rfl,hn⟩
  have E2:V=(N,uB 1 2):=by
   rw[E,lJ,Ja (by simp[G.o.dg])];exact Ma (by unfold pP at hn;simpa using hn)
  subst E2;go_wp2;have l:=gB (P.o.held (sC U c1 p Z N));go_region_held3 (λY=>rB Y (w.1.size+1) (sC U c1 p Z N) 42)
   (first|with_reducible exact(l.o _ m).1|with_reducible exact(l.o _ jD.drew).1|exact(l.o _ m).2)
   (first|(go_at_call 64;refine oC (xG _ _ (by omega) (by omega)) ?_;intro u1 f;have m:zB w4 u1:=(by with_reducible exact xB jD.drew f);have bx:=(P.o.z m).R.box rfl))
  go_wp2;exact pR rfl rfl rfl rfl (P.o.z m) (I.o.z m)
 obtain⟨rfl,hn⟩:=hcut;rename World=>w4;replace hn:=gB hn;rw[lJ,Ja (by simp[G.o.dg]),Ja (by have:=hn.o;unfold pP at this;simpa using this)]at E;dsimp only at E;clear hn hk1 hk2 hk3;replace a0:=a0.o;simp only[Lb,Ed,Bf]at a0;obtain rfl|rfl:=a0
 .as_aux_lemma=>
  replace E:V=if (sH c N.now N.ts X me).1<0 then(N,uB 1 2) else(N,uB 1 0++uB 8 (sH c N.now N.ts X me).1++uB 8 (sH c N.now N.ts X me).2):=E;have HCO:=gB (λW(h:jR W U p N)=>LF c N.now p Z N.ts X me W h.tens (nO (show N.ts.length+fC N.ts<=1900000 by have:=h.bulk;omega)).2.1 (by have:=h.bulk;omega) (by omega) (by omega));have hcr:=aEp v2 X me (by have:=I.o.bulk;omega);unfold oE at HCO;generalize sH c N.now N.ts X me=R at *;obtain⟨cn,lm⟩:=R;dsimp only at *;have HN1:=gB (λW=>YB cn W (by omega) (by omega));have HN2:=gB (λW=>YB lm W (by omega) (by omega));have HN0:=gB (λW=>xG 0 W (by omega) (by omega));have z0:=oB 1 0;have z1:=oB 8 cn;have z2:=oB 8 lm;go_wp2_with fail;apply oC (HCO.o _ I.o);intro t f;replace P:=gB (P.o.z f);replace I:=gB (I.o.z f);clear f HCO SM x y z A D F H J o K L M O S T q0 q1 q2 q3 q4 QB;obtain⟨x,y,z,A,D,F,H,J,o,K,L,M,O,S,T⟩:=P.o.cells rfl;by_cases hc:cn<0
  .obtain rfl:V=(N,uB 1 2):=E.trans (Ma hc);go_wp2;have l:=gB (P.o.held (sC U c1 p Z N));go_region_held3 (λY=>rB Y (w.1.size+1) (sC U c1 p Z N) 42)
    (first|with_reducible exact(l.o _ m).1|with_reducible exact(l.o _ jD.drew).1|exact(l.o _ m).2)
    (first|(go_at_call 64;refine oC (xG _ _ (by omega) (by omega)) ?_;intro u1 f;have m:zB t u1:=(by with_reducible exact xB jD.drew f);have bx:=(P.o.z m).R.box rfl))
   go_wp2;exact pR rfl rfl rfl rfl (P.o.z m) (I.o.z m)
  replace E:V=(N,uB 1 0++uB 8 cn++uB 8 lm):=E.trans (Ja hc);generalize uB 1 0=S0 at *;generalize uB 8 cn=S1 at *;generalize uB 8 lm=S2 at *;subst E;have m1:¬(9223372036854775807<S0.size+S1.size):=by omega
  have m2:¬(9223372036854775807<(S0++S1).size+S2.size):=by rw[Ka];omega
  have l:=gB (P.o.held (sC U c1 p Z N));go_wp2;go_region_held3 (λY=>rB Y (w.1.size+1) (sC U c1 p Z N) 42)
   (first|with_reducible exact(l.o _ r3).1|with_reducible exact(l.o _ r2).1|with_reducible exact(l.o _ m).1|with_reducible exact(l.o _ jD.drew).1|exact(l.o _ r3).2)
   (first
    |(go_at_call 64;apply oC (HN0.o _);intro u1 f;have m:zB t u1:=(by with_reducible exact xB jD.drew f))
    |((fail_if_success (have q:=r2));go_at_call 68;with_reducible apply oC (HN1.o _);intro u2 f;have r2:zB t u2:=(by with_reducible exact xB m f))
    |(go_at_call 68;with_reducible apply oC (HN2.o _);intro u3 f;have r3:zB t u3:=(by with_reducible exact xB r2 f);have bx:=(P.o.z r3).R.box rfl))
  go_wp2;exact pR rfl rfl rfl rfl (P.o.z r3) (I.o.z r3)
 .as_aux_lemma=>
  replace E:V=(N,uB 1 0++uB 8 N.now++uB 4 ((eC N.ts X).Z.length:Nat)++nE (eC N.ts X).Z):=E;have HLT:=gB (λW(h:jR W U p N)=>uW N.now p Z N.ts X W h.tens (by have:=h.bulk;omega));obtain⟨hfs,hrg⟩:=aDj v2 X (by have:=I.o.bulk;omega);unfold aDy at HLT;generalize eC N.ts X=g at *;have HN0:=gB (λW=>xG 0 W (by omega) (by omega));have HN1:=gB (λW=>YB N.now W I.o.now.1 I.o.now.2);have HN2:=gB (λW=>aJr (g.Z.length:Nat) W (by omega) (by omega));have z0:=oB 1 0;have z1:=oB 8 N.now;have z2:=oB 4 (g.Z.length:Nat);generalize uB 1 0=S0 at *;generalize uB 8 N.now=S1 at *;generalize uB 4 (g.Z.length:Nat)=S2 at *;obtain⟨H0,hH0⟩:∃h,h=S0++S1++S2:=⟨_,rfl⟩
  rw[<-hH0]at E;obtain⟨ST,hST⟩:∃h,h=H0++nE g.Z:=⟨_,rfl⟩
  rw[<-hST]at E;replace hH0:=gB hH0;replace hST:=gB hST;subst E;go_wp2_with fail;refine(HLT.o _ I.o).mono ?_;rintro e t ⟨⟨a5,c5,a6,c6,rfl,hp5,hp6⟩,f⟩;have PI:=gB hp6;replace P:=gB (P.o.z f);replace I:=gB (I.o.z f);clear f hp5 hp6 HLT SM x y z A D F H J o K L M O S T q0 q1 q2 q3 q4 QB;obtain⟨x,y,z,A,D,F,H,J,o,K,L,M,O,S,T⟩:=P.o.cells rfl;have hfd:=NS (.string g.N) (.int .i64 g.L) (.slice a5 g.M.length c5) (.slice a6 g.Z.length c6);go_upto_region 52 with fail;clear hfd;go_cut [35] (λv wx=>v=.string H0/\zB t wx)
  case first=>as_aux_lemma=>
   have m1:¬(9223372036854775807<S0.size+S1.size):=by omega
   have m2:¬(9223372036854775807<(S0++S1).size+S2.size):=by rw[Ka];omega
   have l:=gB (P.o.held (sC U c1 p Z N));go_region_held3 (λY=>rB Y (w.1.size+1) (sC U c1 p Z N) 42)
    (first|with_reducible exact(l.o _ r3).1|with_reducible exact(l.o _ r2).1|with_reducible exact(l.o _ m).1|with_reducible exact(l.o _ jD.drew).1)
    (first
     |(go_at_call 64;apply oC (HN0.o _);intro u1 f;have m:zB t u1:=(by with_reducible exact xB jD.drew f))
     |((fail_if_success (have q:=r2));go_at_call 68;with_reducible apply oC (HN1.o _);intro u2 f;have r2:zB t u2:=(by with_reducible exact xB m f))
     |(go_at_call 68;with_reducible apply oC (HN2.o _);intro u3 f;have r3:zB t u3:=(by with_reducible exact xB r2 f)))
   go_wp2_with fail;go_meet;exact⟨by rw[hH0.o],r3⟩
  obtain⟨rfl,f⟩:=hcut;rename World=>w6;replace P:=gB (P.o.z f);replace I:=gB (I.o.z f);replace PI:=gB (PI.o.z f);have hH:H0.size<=100:=by rw[hH0.o];simp only[Ka];omega
  clear f x y z A D F H J o K L M O S T HN0 HN1 HN2 z0 z1 z2;go_wp2_with fail;go_loopw [35,284] (λrp i wz=>∃(j:Nat)(st:vB),j<=g.Z.length/\i=.int .i64 j/\rp=.string st/\fB (st=H0++nE (g.Z.take j))/\fB (NP w wz c (sC U c1 p Z N))/\fB (jR wz U p N)/\fB (jC wz a6 g.Z)) (λ_ i _=>g.Z.length-(intOf i).toNat)
  case atStart=>exact⟨0,H0,Oa _,rfl,rfl,by show _=_;simp[nE],P,I,PI⟩
  case round=>
   clear P I PI;obtain⟨j,st,hj,rfl,rfl,HE,P,I,PI⟩:=hrel;obtain⟨x,y,z,A,D,F,H,J,o,K,L,M,O,S,T⟩:=P.o.cells rfl;have hst:st.size<=20000000:=by
    have h1:=pS (g.Z.take j);have h2:=lM g.Z j;rw[HE.o,Ka];rw[Hb]at h1;omega
   by_cases hlt:j<g.Z.length
   .obtain ⟨b5,o5,rfl,hb5,g0,g1⟩:=PI.o.at hlt;have hps:=oU g.Z j hlt;have hrj:=hrg j hlt;have HS:=gB (λW=>bO g.Z[j].s W (by omega));have HL:=gB (λW=>YB g.Z[j].n W hrj.1 hrj.2);have z3:=kF g.Z[j].s;have z4:=oB 8 g.Z[j].n;have E3:fB (∀U3 U4,U3=eG g.Z[j].s->U4=uB 8 g.Z[j].n->st++(U3++U4)=H0++nE (g.Z.take (j+1))):=λU3 U4 e1 e2=>by rw[NK _ _ hlt,HE.o,e1,e2,KY];simp only[Wa]
    generalize eG g.Z[j].s=U3 at *;generalize uB 8 g.Z[j].n=U4 at *;replace E3:=gB (E3.o U3 U4 rfl rfl);generalize g.Z[j].s=ks at *;generalize g.Z[j].n=kn at *;have m1:¬(9223372036854775807<U3.size+U4.size):=by omega
    have m2:¬(9223372036854775807<st.size+(U3.size+U4.size)):=by omega
    clear z3 z4 hps hst;go_upto_region 56 with fail;refine uI (C:=λW=>Code.wp prog _ _ _ W) ?_;intro w8 hb8 X8 hz8;clear hz8;replace P:=gB (P.o.z hb8);replace I:=gB (I.o.z hb8);replace PI:=gB (PI.o.z hb8);have o:=X8;clear x y z A D F H J o K L M O S T g0 g1 hb8;generalize wr.1.size=X5 at *;have l:=gB (λY(h:zB w8 Y)=>(X8.z h).c2);obtain⟨h0,h1⟩:=X8.c2;go_region_held3 (λY=>Y.cell? ⟨X5,0,none⟩=some (.string ks)/\Y.cell? ⟨X5,1,none⟩=some (.int .i64 kn))
     (first|with_reducible exact l.o _ r2|with_reducible exact l.o _ m|with_reducible exact l.o _ jD.drew)
     (first
      |(go_at_call 75;apply oC (HS.o _);intro u1 f;have m:zB w8 u1:=(by with_reducible exact xB jD.drew f))
      |(go_at_call 68;with_reducible apply oC (HL.o _);intro u2 f;have r2:zB w8 u2:=(by with_reducible exact xB m f)))
    replace P:=gB (P.o.z r2);replace I:=gB (I.o.z r2);replace PI:=gB (PI.o.z r2);generalize st++(U3++U4)=st5 at *;go_wp2;exact⟨⟨j+1,st5,by omega,by go_num,rfl,E3,P,I,PI⟩,by simp[intOf];omega⟩
   obtain rfl:st=ST:=by rw[hST.o,HE.o,Ra (by omega)]
   go_wp2;exact pR rfl rfl rfl rfl P.o I.o
end
