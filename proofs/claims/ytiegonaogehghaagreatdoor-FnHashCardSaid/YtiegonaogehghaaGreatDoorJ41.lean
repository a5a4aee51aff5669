import Derived.Test.YtiegonaogehghaaGreatDoorJ38
set_option maxRecDepth 100000
set_option maxHeartbeats 8000000
namespace Go.Proofs.YtiegonaogehghaaGreatDoor
open Go.RowKit Tryz
section
open Go.Maps
attribute [local go_sem] wF uG fK gB.drewI oK.drewI oK.new oK.alloc oK.alloc2
theorem aKv(c:gC)(a b:jC)(ca cb:Nat)(N:pC)(r:dG)(w:World)(h:nQ w a b N)(hm:aKs c N r [5,6]):
 Calls prog 14 #[jE c,.agg (dC a ca b cb N),.string (uK r)] w λe U=>RN (nI c N r).1 (.string (nI c N r).2) w e U:=by
 have f:=h.bulk;have HCP:=cB (λW(hW:tB w W)=>pN a b ca cb N W (h.files.z hW) h.fit.len (h.tens.z hW) (by omega) (yO (by omega)));have HCF:=cB (λW=>yJ c W);have HST:=cB (λW b cb(hT:uC W b N.ts)=>jH c N.now b cb N.ts W hT (rP (show N.ts.length+aC N.ts<=1900000 by omega)).2.1 (by omega));have HDR:=cB (λW=>iZ r W hm.2.2.2.1);have HRK:=cB (Vc hm.2.2.2.1.ok (Vc hm.2.2.2.1.sz hm.2.2.2.1.U));obtain⟨V,hV⟩:∃V,V=nI c N r:=⟨_,rfl⟩
 obtain⟨s,hS⟩:∃s,s=uK r:=⟨_,rfl⟩
 rw[<-hV,<-hS];rw[<-hS]at HDR;have HE:=cB (show V=nI c N r/\cF c=true/\N.up=true/\kC c N.now N.ts=true/\r.K∈[(5:Int),6] from⟨hV,hm.1,hm.2.1,hm.2.2.1,hm.2.2.2.2⟩);clear hm hV hS;have HI:=cB (λW a b(h1:rB W a N.d.fs)(h2:uC W b N.ts)=>(⟨h1,h.fit,h2,h.bulk,h.rng,h.lsn,h.now⟩:nQ W a b N));clear h f;unfold bh at HDR;unfold jE at *;have fz:=yK;have HB0:=cB (NP.new (w:=w) (c:=c) (cs:=dC a ca b cb N));have rN:=eF a ca b cb N 42;have fN:=lE a ca b cb N;go_enter func14,ntmps14;go_upto_region 1 with fail;generalize (((w.alloc (.cells #[.int .i64 c.w,.int .i64 c.tl,.int .i64 c.ml,.int .i64 c.sh,.int .i64 c.ha,.int .i64 c.sg] 24)).alloc (.cells (dC a ca b cb N) 42)).alloc (.cells (dC none 0 none 0 xK) 42))=W0 at *;obtain⟨y,z,A,D,F,G,H,J,p,K,L,M,O,S,T⟩:=HB0.o.cells rfl;go_wp2_with fail;refine(HCP.o _ HB0.o.B).mono ?_;rintro e w1 ⟨t,c1,o,X,rfl,hF,hT,f⟩;have P:=cB (HB0.o.z f);clear y z A D F G H J p K L M O S T;obtain⟨y,z,A,D,F,G,H,J,p,K,L,M,O,S,T⟩:=P.o.cells rfl;clear f HB0 HCP rN fN;go_upto_region 2 with fail;refine jU (C:=λW=>Code.wp prog _ _ _ W) P.o.N ?_;intro w2 N2 T2;have I:=cB (HI.o w2 t o (hF.files.store P.o.N (kF _ _ _ _ _) T2) (hT.tens.store P.o.N (kF _ _ _ _ _) T2));replace P:=cB (P.o.put N2 T2);clear y z A D F G H J p K L M O S T hF hT N2 T2 HI;obtain⟨y,z,A,D,F,G,H,J,p,K,L,M,O,S,T⟩:=P.o.cells rfl;have rN:=eF t c1 o X N 42;have fN:=lE t c1 o X N;obtain⟨E,v0,v1,v2,hkp⟩:=HE.o;replace hkp:=cB hkp;clear HE
 rw[v1]at rN fN;rw[v0]at HCF;rw[v2]at HST;go_wp2_with(first
  |(go_at_call 38;apply hC (HCF.o _);intro wx f;replace P:=cB (P.o.z f);replace I:=cB (I.o.z f);clear f y z A D F G H J p K L M O S T;obtain⟨y,z,A,D,F,G,H,J,p,K,L,M,O,S,T⟩:=P.o.cells rfl)
  |(go_at_call 49;apply hC (HST.o _ _ _ I.o.tens);intro wx f;replace P:=cB (P.o.z f);replace I:=cB (I.o.z f);clear f y z A D F G H J p K L M O S T;obtain⟨y,z,A,D,F,G,H,J,p,K,L,M,O,S,T⟩:=P.o.cells rfl))
 refine(HDR.o _).mono ?_;rintro e w3 ⟨av,cv,rfl,ho,f⟩;obtain⟨k,Y,me,nu,xs⟩:=r;have hok:=HRK.o;dsimp only at *;obtain⟨⟨hk,hk1,hk2,hk3,hk4,hk5,hk6,hk7,hk8⟩,hsz,hnu⟩:=hok;dsimp only at *;have SM:=cB ho.P;replace P:=cB (P.o.z f);replace I:=cB (I.o.z f);clear ho f y z A D F G H J p K L M O S T HDR HRK HCF HST;go_upto_region 7 with fail;refine yH (C:=λW=>Code.wp prog _ _ _ W) ?_;intro Z hb4 QB hz4;clear hz4;replace P:=cB (P.o.z hb4);replace I:=cB (I.o.z hb4);replace SM:=cB (SM.o.z hb4);have hQ:=aB QB;clear hb4;generalize w3.1.size=Q at *;clear w3;obtain⟨q0,q1,q2,q3,q4⟩:=QB.c5;obtain⟨y,z,A,D,F,G,H,J,p,K,L,M,O,S,T⟩:=P.o.cells rfl;go_cut [72] (λv wx=>v=.bool (N.deg&&decide (k<=4))/\wx=Z)
 case first=>as_aux_lemma=>
  go_wp2;all_goals go_meet
  all_goals simp_all
 obtain⟨rfl,rfl⟩:=hcut;rename World=>Z;go_upto_if 72 with fail;go_cut [] (λwx=>wx=Z/\(N.deg&&decide (k<=4))=false)
 case first=>as_aux_lemma=>
  cases hd:(N.deg&&decide (k<=4))
  .go_wp2;go_meet;exact⟨rfl,hd⟩
  have E2:V=(N,qB 1 3):=by rw[E,nI];exact Ma (by simpa using hd)
  subst E2;go_wp2;have l:=cB (P.o.held (dC t c1 o X N));go_region_held3 (λU=>gB U (w.1.size+1) (dC t c1 o X N) 42)
   (first|with_reducible exact(l.o _ m).1|with_reducible exact(l.o _ bD.drew).1|exact(l.o _ m).2)
   (first|(go_at_call 50;refine hC (gF _ _ (by omega) (by omega)) ?_;intro u1 f;have m:tB Z u1:=(by with_reducible exact vB bD.drew f);have bx:=(P.o.z m).R.box rfl))
  go_wp2;exact cM rfl rfl rfl rfl (P.o.z m) (I.o.z m)
 obtain⟨rfl,hd⟩:=hcut;rename World=>Z;replace hd:=cB hd;go_upto_region 9 with fail;go_cut [10] (λv wx=>v=.bool (vP k)/\wx=Z)
 case first=>as_aux_lemma=>
  go_wp2;all_goals go_meet
  all_goals(unfold vP;simp_all)
 obtain⟨rfl,rfl⟩:=hcut;rename World=>Z;have HTN:=cB (λW=>iG Y W (by unfold maxLen;omega));go_upto_region 10 with fail;go_cut [10,89] (λu v wx=>u=.bool (vP k)/\v=.bool (vP k&&!oC Y)/\wx=Z)
 case first=>as_aux_lemma=>
  cases hn:vP k
  .go_wp2;go_meet;exact⟨by rw[hn],by rw[hn];rfl,rfl⟩
  go_wp2_with (go_at_call 52;refine oD (HTN.o _) ?_);go_meet;exact⟨by rw[hn],by rw[hn];simp,rfl⟩
 obtain⟨rfl,rfl,rfl⟩:=hcut;rename World=>Z;go_upto_if 89 with fail;go_cut [] (λwx=>wx=Z/\(vP k&&!oC Y)=false)
 case first=>as_aux_lemma=>
  cases hn:(vP k&&!oC Y)
  .go_wp2;go_meet;exact⟨rfl,hn⟩
  have E2:V=(N,qB 1 2):=by
   rw[E,nI,Ja (by have:=hd.o;simp at this;simpa using this)];exact Ma (by unfold vP at hn;simpa using hn)
  subst E2;go_wp2;have l:=cB (P.o.held (dC t c1 o X N));go_region_held3 (λU=>gB U (w.1.size+1) (dC t c1 o X N) 42)
   (first|with_reducible exact(l.o _ m).1|with_reducible exact(l.o _ bD.drew).1|exact(l.o _ m).2)
   (first|(go_at_call 50;refine hC (gF _ _ (by omega) (by omega)) ?_;intro u1 f;have m:tB Z u1:=(by with_reducible exact vB bD.drew f);have bx:=(P.o.z m).R.box rfl))
  go_wp2;exact cM rfl rfl rfl rfl (P.o.z m) (I.o.z m)
 obtain⟨rfl,hn⟩:=hcut;rename World=>Z;replace hn:=cB hn;rw[nI,Ja (by have:=hd.o;simpa using this),Ja (by have:=hn.o;unfold vP at this;simpa using this)]at E;dsimp only at E;clear hd hn hk1 hk2 hk3;replace hkp:=hkp.o;simp only[Lb,Ed,Bf]at hkp;obtain rfl|rfl:=hkp
 .as_aux_lemma=>
  replace E:V=if (fG c N.now N.ts Y me).1<0 then(N,qB 1 2) else(N,qB 1 0++qB 8 (fG c N.now N.ts Y me).1++qB 8 (fG c N.now N.ts Y me).2):=E;have HCO:=cB (λW(h:nQ W t o N)=>LK c N.now o X N.ts Y me W h.tens (rP (show N.ts.length+aC N.ts<=1900000 by have:=h.bulk;omega)).2.1 (by have:=h.bulk;omega) (by omega) (by omega));have hcr:=aGr v2 Y me (by have:=I.o.bulk;omega);unfold jE at HCO;generalize fG c N.now N.ts Y me=R at *;obtain⟨cn,lm⟩:=R;dsimp only at *;have HN1:=cB (λW=>ZA cn W (by omega) (by omega));have HN2:=cB (λW=>ZA lm W (by omega) (by omega));have HN0:=cB (λW=>gF 0 W (by omega) (by omega));have z0:=kB 1 0;have z1:=kB 8 cn;have z2:=kB 8 lm;go_wp2_with fail;apply hC (HCO.o _ I.o);intro x f;replace P:=cB (P.o.z f);replace I:=cB (I.o.z f);clear f HCO SM y z A D F G H J p K L M O S T q0 q1 q2 q3 q4 QB;obtain⟨y,z,A,D,F,G,H,J,p,K,L,M,O,S,T⟩:=P.o.cells rfl;by_cases hc:cn<0
  .obtain rfl:V=(N,qB 1 2):=E.trans (Ma hc);go_wp2;have l:=cB (P.o.held (dC t c1 o X N));go_region_held3 (λU=>gB U (w.1.size+1) (dC t c1 o X N) 42)
    (first|with_reducible exact(l.o _ m).1|with_reducible exact(l.o _ bD.drew).1|exact(l.o _ m).2)
    (first|(go_at_call 50;refine hC (gF _ _ (by omega) (by omega)) ?_;intro u1 f;have m:tB x u1:=(by with_reducible exact vB bD.drew f);have bx:=(P.o.z m).R.box rfl))
   go_wp2;exact cM rfl rfl rfl rfl (P.o.z m) (I.o.z m)
  replace E:V=(N,qB 1 0++qB 8 cn++qB 8 lm):=E.trans (Ja hc);generalize qB 1 0=S0 at *;generalize qB 8 cn=S1 at *;generalize qB 8 lm=S2 at *;subst E;have m1:¬(9223372036854775807<S0.size+S1.size):=by omega
  have m2:¬(9223372036854775807<(S0++S1).size+S2.size):=by rw[Ka];omega
  have l:=cB (P.o.held (dC t c1 o X N));go_wp2;go_region_held3 (λU=>gB U (w.1.size+1) (dC t c1 o X N) 42)
   (first|with_reducible exact(l.o _ r3).1|with_reducible exact(l.o _ r2).1|with_reducible exact(l.o _ m).1|with_reducible exact(l.o _ bD.drew).1|exact(l.o _ r3).2)
   (first
    |(go_at_call 50;apply hC (HN0.o _);intro u1 f;have m:tB x u1:=(by with_reducible exact vB bD.drew f))
    |((fail_if_success (have q:=r2));go_at_call 54;with_reducible apply hC (HN1.o _);intro u2 f;have r2:tB x u2:=(by with_reducible exact vB m f))
    |(go_at_call 54;with_reducible apply hC (HN2.o _);intro u3 f;have r3:tB x u3:=(by with_reducible exact vB r2 f);have bx:=(P.o.z r3).R.box rfl))
  go_wp2;exact cM rfl rfl rfl rfl (P.o.z r3) (I.o.z r3)
 .as_aux_lemma=>
  replace E:V=(N,qB 1 0++qB 8 N.now++qB 4 ((xB N.ts Y).Z.length:Nat)++oG (xB N.ts Y).Z):=E;have HLT:=cB (λW(h:nQ W t o N)=>tW N.now o X N.ts Y W h.tens (by have:=h.bulk;omega));obtain⟨hfs,hrg⟩:=aFm v2 Y (by have:=I.o.bulk;omega);unfold aGb at HLT;generalize xB N.ts Y=g at *;have HN0:=cB (λW=>gF 0 W (by omega) (by omega));have HN1:=cB (λW=>ZA N.now W I.o.now.1 I.o.now.2);have HN2:=cB (λW=>aLs (g.Z.length:Nat) W (by omega) (by omega));have z0:=kB 1 0;have z1:=kB 8 N.now;have z2:=kB 4 (g.Z.length:Nat);generalize qB 1 0=S0 at *;generalize qB 8 N.now=S1 at *;generalize qB 4 (g.Z.length:Nat)=S2 at *;obtain⟨H0,hH0⟩:∃h,h=S0++S1++S2:=⟨_,rfl⟩
  rw[<-hH0]at E;obtain⟨ST,hST⟩:∃h,h=H0++oG g.Z:=⟨_,rfl⟩
  rw[<-hST]at E;replace hH0:=cB hH0;replace hST:=cB hST;subst E;go_wp2_with fail;refine(HLT.o _ I.o).mono ?_;rintro e x ⟨⟨a5,c5,a6,c6,rfl,hp5,hp6⟩,f⟩;have PI:=cB hp6;replace P:=cB (P.o.z f);replace I:=cB (I.o.z f);clear f hp5 hp6 HLT SM y z A D F G H J p K L M O S T q0 q1 q2 q3 q4 QB;obtain⟨y,z,A,D,F,G,H,J,p,K,L,M,O,S,T⟩:=P.o.cells rfl;have hfd:=OB (.string g.N) (.int .i64 g.L) (.slice a5 g.M.length c5) (.slice a6 g.Z.length c6);go_upto_region 52 with fail;clear hfd;go_cut [35] (λv wx=>v=.string H0/\tB x wx)
  case first=>as_aux_lemma=>
   have m1:¬(9223372036854775807<S0.size+S1.size):=by omega
   have m2:¬(9223372036854775807<(S0++S1).size+S2.size):=by rw[Ka];omega
   have l:=cB (P.o.held (dC t c1 o X N));go_region_held3 (λU=>gB U (w.1.size+1) (dC t c1 o X N) 42)
    (first|with_reducible exact(l.o _ r3).1|with_reducible exact(l.o _ r2).1|with_reducible exact(l.o _ m).1|with_reducible exact(l.o _ bD.drew).1)
    (first
     |(go_at_call 50;apply hC (HN0.o _);intro u1 f;have m:tB x u1:=(by with_reducible exact vB bD.drew f))
     |((fail_if_success (have q:=r2));go_at_call 54;with_reducible apply hC (HN1.o _);intro u2 f;have r2:tB x u2:=(by with_reducible exact vB m f))
     |(go_at_call 54;with_reducible apply hC (HN2.o _);intro u3 f;have r3:tB x u3:=(by with_reducible exact vB r2 f)))
   go_wp2_with fail;go_meet;exact⟨by rw[hH0.o],r3⟩
  obtain⟨rfl,f⟩:=hcut;rename World=>w6;replace P:=cB (P.o.z f);replace I:=cB (I.o.z f);replace PI:=cB (PI.o.z f);have hH:H0.size<=100:=by rw[hH0.o];simp only[Ka];omega
  clear f y z A D F G H J p K L M O S T HN0 HN1 HN2 z0 z1 z2;go_wp2_with fail;go_loopw [35,284] (λrp i wz=>∃(j:Nat)(st:nB),j<=g.Z.length/\i=.int .i64 j/\rp=.string st/\bB (st=H0++oG (g.Z.take j))/\bB (NP w wz c (dC t c1 o X N))/\bB (nQ wz t o N)/\bB (lC wz a6 g.Z)) (λ_ i _=>g.Z.length-(intOf i).toNat)
  case atStart=>exact⟨0,H0,Oa _,rfl,rfl,by show _=_;simp[oG],P,I,PI⟩
  case round=>
   clear P I PI;obtain⟨j,st,hj,rfl,rfl,HE,P,I,PI⟩:=hrel;obtain⟨y,z,A,D,F,G,H,J,p,K,L,M,O,S,T⟩:=P.o.cells rfl;have hst:st.size<=20000000:=by
    have h1:=BS (g.Z.take j);have h2:=gM g.Z j;rw[HE.o,Ka];rw[Hb]at h1;omega
   by_cases hlt:j<g.Z.length
   .obtain ⟨b5,o5,rfl,hb5,g0,g1⟩:=PI.o.at hlt;have hps:=rU g.Z j hlt;have hrj:=hrg j hlt;have HS:=cB (λW=>aO g.Z[j].s W (by omega));have HL:=cB (λW=>ZA g.Z[j].n W hrj.1 hrj.2);have z3:=bF g.Z[j].s;have z4:=kB 8 g.Z[j].n;have E3:bB (∀U3 U4,U3=vF g.Z[j].s->U4=qB 8 g.Z[j].n->st++(U3++U4)=H0++oG (g.Z.take (j+1))):=λU3 U4 e1 e2=>by rw[NS _ _ hlt,HE.o,e1,e2,NR];simp only[Wa]
    generalize vF g.Z[j].s=U3 at *;generalize qB 8 g.Z[j].n=U4 at *;replace E3:=cB (E3.o U3 U4 rfl rfl);generalize g.Z[j].s=ks at *;generalize g.Z[j].n=kn at *;have m1:¬(9223372036854775807<U3.size+U4.size):=by omega
    have m2:¬(9223372036854775807<st.size+(U3.size+U4.size)):=by omega
    clear z3 z4 hps hst;go_upto_region 56 with fail;refine yH (C:=λW=>Code.wp prog _ _ _ W) ?_;intro w8 hb8 X8 hz8;clear hz8;replace P:=cB (P.o.z hb8);replace I:=cB (I.o.z hb8);replace PI:=cB (PI.o.z hb8);have p:=X8;clear y z A D F G H J p K L M O S T g0 g1 hb8;generalize wr.1.size=X5 at *;have l:=cB (λU(h:tB w8 U)=>(X8.z h).c2);obtain⟨h0,h1⟩:=X8.c2;go_region_held3 (λU=>U.cell? ⟨X5,0,none⟩=some (.string ks)/\U.cell? ⟨X5,1,none⟩=some (.int .i64 kn))
     (first|with_reducible exact l.o _ r2|with_reducible exact l.o _ m|with_reducible exact l.o _ bD.drew)
     (first
      |(go_at_call 62;apply hC (HS.o _);intro u1 f;have m:tB w8 u1:=(by with_reducible exact vB bD.drew f))
      |(go_at_call 54;with_reducible apply hC (HL.o _);intro u2 f;have r2:tB w8 u2:=(by with_reducible exact vB m f)))
    replace P:=cB (P.o.z r2);replace I:=cB (I.o.z r2);replace PI:=cB (PI.o.z r2);generalize st++(U3++U4)=st5 at *;go_wp2;exact⟨⟨j+1,st5,by omega,by go_num,rfl,E3,P,I,PI⟩,by simp[intOf];omega⟩
   obtain rfl:st=ST:=by rw[hST.o,HE.o,Ra (by omega)]
   go_wp2;exact cM rfl rfl rfl rfl P.o I.o
end
