import Derived.Test.YtbfnhppoecdnoaaGreatDoorJ46
set_option maxRecDepth 100000
set_option maxHeartbeats 8000000
namespace Go.Proofs.YtbfnhppoecdnoaaGreatDoor
open Go.RowKit Tryz
section
open Go.Maps
attribute [local go_sem] zG tH cO iB.drewI fO.drewI fO.new fO.alloc fO.alloc2
theorem aRo(c:lC)(a b:iC)(ca cb:Nat)(N:oC)(s:gB)(w:World)(h:dS w a b N)(hs:s.size<=1048576)(hm:ni c N s [5,6]):
 Calls prog 5 #[oF c,.agg (dC a ca b cb N),.string s] w fun e U=>SaV (rJ c N s).1 (.string (rJ c N s).2) w e U:=by
 have f:=h.bulk;have HCP:=yA (fun W(hW:kB w W)=>iO a b ca cb N W (h.files.z hW) h.fit.len (h.tens.z hW) (by omega) (tP (by omega)));have HCF:=yA (fun W=>pM c W);have HST:=yA (fun W b cb(hT:nC W b N.ts)=>jG c N.now b cb N.ts W hT (fP (show N.ts.length+nB N.ts<=1900000 by omega)).2.1 (by omega));have HDR:=yA (fun W=>qS s W hs);have HE:=yA (show rJ c N s=dK c N (aG s).1/\pH c=true/\N.up=true/\kC c N.now N.ts=true/\(aG s).2=true/\(aG s).1.K∈[(5:Int),6] from⟨hm.ans,hm⟩);clear hm;have HI:=yA (fun W a b(h1:eB W a N.d.fs)(h2:nC W b N.ts)=>(⟨h1,h.fit,h2,h.bulk,h.rng,h.lsn,h.now⟩:dS W a b N));have HRK:=yA (fun hk=>qX (s:=s) hk);clear h f;unfold tO at HDR;generalize rJ c N s=V at *;generalize aG s=D at *;obtain⟨D,dk⟩:=D;dsimp only at *;unfold oF at *;have fz:=jP;have HB0:=yA (NP.new (w:=w) (c:=c) (cs:=dC a ca b cb N));have rN:=tF a ca b cb N 43;have fN:=iF a ca b cb N;go_enter func5,ntmps5;go_upto_region 1 with fail;generalize (((w.alloc (.cells #[.int .i64 c.w,.int .i64 c.tl,.int .i64 c.ml,.int .i64 c.sh,.int .i64 c.ha,.int .i64 c.sg] 46)).alloc (.cells (dC a ca b cb N) 43)).alloc (.cells (dC none 0 none 0 qK) 43))=W0 at *;obtain⟨x,y,z,A,F,G,H,J,p,K,L,M,O,S,T⟩:=HB0.o.cells rfl;go_wp2_with fail;refine(HCP.o _ HB0.o.B).mono ?_;rintro e w1 ⟨r,c1,o,X,rfl,hF,hT,f⟩;have P:=yA (HB0.o.z f);clear x y z A F G H J p K L M O S T;obtain⟨x,y,z,A,F,G,H,J,p,K,L,M,O,S,T⟩:=P.o.cells rfl;clear f HB0 HCP rN fN;go_upto_region 2 with fail;refine nZ (C:=fun W=>Code.wp prog _ _ _ W) P.o.N ?_;intro w2 N2 T2;have I:=yA (HI.o w2 r o (hF.files.store P.o.N (bH _ _ _ _ _) T2) (hT.tens.store P.o.N (bH _ _ _ _ _) T2));replace P:=yA (P.o.put N2 T2);clear x y z A F G H J p K L M O S T hF hT N2 T2 HI;obtain⟨x,y,z,A,F,G,H,J,p,K,L,M,O,S,T⟩:=P.o.cells rfl;have rN:=tF r c1 o X N 43;have fN:=iF r c1 o X N;obtain⟨E,v0,v1,v2,v3,hkp⟩:=HE.o;replace hkp:=yA hkp;clear HE
 rw[v1]at rN fN;rw[v0]at HCF;rw[v2]at HST;go_wp2_with(first
  |(go_at_call 15;apply aC (HCF.o _);intro wx f;replace P:=yA (P.o.z f);replace I:=yA (I.o.z f);clear f x y z A F G H J p K L M O S T;obtain⟨x,y,z,A,F,G,H,J,p,K,L,M,O,S,T⟩:=P.o.cells rfl)
  |(go_at_call 16;apply aC (HST.o _ _ _ I.o.tens);intro wx f;replace P:=yA (P.o.z f);replace I:=yA (I.o.z f);clear f x y z A F G H J p K L M O S T;obtain⟨x,y,z,A,F,G,H,J,p,K,L,M,O,S,T⟩:=P.o.cells rfl))
 refine(HDR.o _).mono ?_;rintro e w3 ⟨av,cv,rfl,ho,f⟩;obtain⟨k,Y,me,nu,xs⟩:=D;obtain rfl:dk=true:=v3;have hok:=HRK.o rfl;dsimp only at *;obtain⟨⟨hk,hk1,hk2,hk3,hk4,hk5,hk6,hk7,hk8⟩,hsz,hnu⟩:=hok;dsimp only at *;have SM:=yA ho.P;replace P:=yA (P.o.z f);replace I:=yA (I.o.z f);clear ho f x y z A F G H J p K L M O S T HDR HRK HCF HST;go_upto_region 7 with fail;refine tL (C:=fun W=>Code.wp prog _ _ _ W) ?_;intro Z hb4 QB hz4;clear hz4;replace P:=yA (P.o.z hb4);replace I:=yA (I.o.z hb4);replace SM:=yA (SM.o.z hb4);have hQ:=zA QB;clear hb4;generalize w3.1.size=Q at *;clear w3;have x1x:=QB.c5;obtain⟨x,y,z,A,F,G,H,J,p,K,L,M,O,S,T⟩:=P.o.cells rfl;go_cut [72] (fun v wx=>v=.bool (N.deg&&decide (k<=4))/\wx=Z)
 case first=>as_aux_lemma=>
  go_wp2;all_goals go_meet
  all_goals simp_all
 obtain⟨rfl,rfl⟩:=hcut;rename World=>Z;go_upto_if 72 with fail;go_cut [] (fun wx=>wx=Z/\(N.deg&&decide (k<=4))=false)
 case first=>as_aux_lemma=>
  cases hd:(N.deg&&decide (k<=4))
  .go_wp2;go_meet;exact⟨rfl,hd⟩
  have E2:V=(N,pB 1 3):=by rw[E,dK];exact Ma (by simpa using hd)
  subst E2;go_wp2;have l:=yA (P.o.held (dC r c1 o X N));go_region_held3 (fun U=>iB U (w.1.size+1) (dC r c1 o X N) 43)
   (first|with_reducible exact(l.o _ m).1|with_reducible exact(l.o _ eD.drew).1|exact(l.o _ m).2)
   (first|(go_at_call 17;refine aC (qE _ _ (by omega) (by omega)) ?_;intro u1 f;have m:kB Z u1:=(by with_reducible exact oB eD.drew f);have bx:=(P.o.z m).R.box rfl))
  go_wp2;exact oJ rfl rfl rfl rfl (P.o.z m) (I.o.z m)
 obtain⟨rfl,hd⟩:=hcut;rename World=>Z;replace hd:=yA hd;go_upto_region 9 with fail;go_cut [10] (fun v wx=>v=.bool (nQ k)/\wx=Z)
 case first=>as_aux_lemma=>
  go_wp2;all_goals go_meet
  all_goals(unfold nQ;simp_all)
 obtain⟨rfl,rfl⟩:=hcut;rename World=>Z;have HTN:=yA (fun W=>cG Y W (by unfold maxLen;omega));go_upto_region 10 with fail;go_cut [10,89] (fun u v wx=>u=.bool (nQ k)/\v=.bool (nQ k&&!tC Y)/\wx=Z)
 case first=>as_aux_lemma=>
  cases hn:nQ k
  .go_wp2;go_meet;exact⟨by rw[hn],by rw[hn];rfl,rfl⟩
  go_wp2_with (go_at_call 19;refine wE (HTN.o _) ?_);go_meet;exact⟨by rw[hn],by rw[hn];simp,rfl⟩
 obtain⟨rfl,rfl,rfl⟩:=hcut;rename World=>Z;go_upto_if 89 with fail;go_cut [] (fun wx=>wx=Z/\(nQ k&&!tC Y)=false)
 case first=>as_aux_lemma=>
  cases hn:(nQ k&&!tC Y)
  .go_wp2;go_meet;exact⟨rfl,hn⟩
  have E2:V=(N,pB 1 2):=by
   rw[E,dK,Ja (by have:=hd.o;simp at this;simpa using this)];exact Ma (by unfold nQ at hn;simpa using hn)
  subst E2;go_wp2;have l:=yA (P.o.held (dC r c1 o X N));go_region_held3 (fun U=>iB U (w.1.size+1) (dC r c1 o X N) 43)
   (first|with_reducible exact(l.o _ m).1|with_reducible exact(l.o _ eD.drew).1|exact(l.o _ m).2)
   (first|(go_at_call 17;refine aC (qE _ _ (by omega) (by omega)) ?_;intro u1 f;have m:kB Z u1:=(by with_reducible exact oB eD.drew f);have bx:=(P.o.z m).R.box rfl))
  go_wp2;exact oJ rfl rfl rfl rfl (P.o.z m) (I.o.z m)
 obtain⟨rfl,hn⟩:=hcut;rename World=>Z;replace hn:=yA hn;rw[dK,Ja (by have:=hd.o;simpa using this),Ja (by have:=hn.o;unfold nQ at this;simpa using this)]at E;dsimp only at E;clear hd hn hk1 hk2 hk3;replace hkp:=hkp.o;simp only[Lb,Ed,Bf]at hkp;rcases hkp with rfl|rfl
 .as_aux_lemma=>
  replace E:V=if (fH c N.now N.ts Y me).1<0 then(N,pB 1 2) else(N,pB 1 0++pB 8 (fH c N.now N.ts Y me).1++pB 8 (fH c N.now N.ts Y me).2):=E;have HCO:=yA (fun W(h:dS W r o N)=>OV c N.now o X N.ts Y me W h.tens (fP (show N.ts.length+nB N.ts<=1900000 by have:=h.bulk;omega)).2.1 (by have:=h.bulk;omega) (by omega) (by omega));have hcr:=aNt v2 Y me (by have:=I.o.bulk;omega);unfold oF at HCO;generalize fH c N.now N.ts Y me=R at *;obtain⟨cn,lm⟩:=R;dsimp only at *;have HN1:=yA (fun W=>gd cn W (by omega) (by omega));have HN2:=yA (fun W=>gd lm W (by omega) (by omega));have HN0:=yA (fun W=>qE 0 W (by omega) (by omega));have z0:=qB 1 0;have z1:=qB 8 cn;have z2:=qB 8 lm;go_wp2_with fail;apply aC (HCO.o _ I.o);intro t f;replace P:=yA (P.o.z f);replace I:=yA (I.o.z f);clear f HCO SM x y z A F G H J p K L M O S T QB x1x;obtain⟨x,y,z,A,F,G,H,J,p,K,L,M,O,S,T⟩:=P.o.cells rfl;by_cases hc:cn<0
  .obtain rfl:V=(N,pB 1 2):=E.trans (Ma hc);go_wp2;have l:=yA (P.o.held (dC r c1 o X N));go_region_held3 (fun U=>iB U (w.1.size+1) (dC r c1 o X N) 43)
    (first|with_reducible exact(l.o _ m).1|with_reducible exact(l.o _ eD.drew).1|exact(l.o _ m).2)
    (first|(go_at_call 17;refine aC (qE _ _ (by omega) (by omega)) ?_;intro u1 f;have m:kB t u1:=(by with_reducible exact oB eD.drew f);have bx:=(P.o.z m).R.box rfl))
   go_wp2;exact oJ rfl rfl rfl rfl (P.o.z m) (I.o.z m)
  replace E:V=(N,pB 1 0++pB 8 cn++pB 8 lm):=E.trans (Ja hc);generalize pB 1 0=S0 at *;generalize pB 8 cn=S1 at *;generalize pB 8 lm=S2 at *;subst E;have m1:¬(9223372036854775807<S0.size+S1.size):=by omega
  have m2:¬(9223372036854775807<(S0++S1).size+S2.size):=by rw[Ka];omega
  have l:=yA (P.o.held (dC r c1 o X N));go_wp2;go_region_held3 (fun U=>iB U (w.1.size+1) (dC r c1 o X N) 43)
   (first|with_reducible exact(l.o _ r3).1|with_reducible exact(l.o _ r2).1|with_reducible exact(l.o _ m).1|with_reducible exact(l.o _ eD.drew).1|exact(l.o _ r3).2)
   (first
    |(go_at_call 17;apply aC (HN0.o _);intro u1 f;have m:kB t u1:=(by with_reducible exact oB eD.drew f))
    |((fail_if_success (have q:=r2));go_at_call 21;with_reducible apply aC (HN1.o _);intro u2 f;have r2:kB t u2:=(by with_reducible exact oB m f))
    |(go_at_call 21;with_reducible apply aC (HN2.o _);intro u3 f;have r3:kB t u3:=(by with_reducible exact oB r2 f);have bx:=(P.o.z r3).R.box rfl))
  go_wp2;exact oJ rfl rfl rfl rfl (P.o.z r3) (I.o.z r3)
 .as_aux_lemma=>
  replace E:V=(N,pB 1 0++pB 8 N.now++pB 4 ((bC N.ts Y).Z.length:Nat)++qG (bC N.ts Y).Z):=E;have HLT:=yA (fun W(h:dS W r o N)=>dY N.now o X N.ts Y W h.tens (by have:=h.bulk;omega));obtain⟨hfs,hrg⟩:=aMn v2 Y (by have:=I.o.bulk;omega);unfold aNd at HLT;generalize bC N.ts Y=g at *;have HN0:=yA (fun W=>qE 0 W (by omega) (by omega));have HN1:=yA (fun W=>gd N.now W I.o.now.1 I.o.now.2);have HN2:=yA (fun W=>aSg (g.Z.length:Nat) W (by omega) (by omega));have z0:=qB 1 0;have z1:=qB 8 N.now;have z2:=qB 4 (g.Z.length:Nat);generalize pB 1 0=S0 at *;generalize pB 8 N.now=S1 at *;generalize pB 4 (g.Z.length:Nat)=S2 at *;obtain⟨H0,hH0⟩:∃h,h=S0++S1++S2:=⟨_,rfl⟩
  rw[<-hH0]at E;obtain⟨ST,hST⟩:∃h,h=H0++qG g.Z:=⟨_,rfl⟩
  rw[<-hST]at E;replace hH0:=yA hH0;replace hST:=yA hST;subst E;go_wp2_with fail;refine(HLT.o _ I.o).mono ?_;rintro e t ⟨⟨a5,c5,a6,c6,rfl,hp5,hp6⟩,f⟩;have PI:=yA hp6;replace P:=yA (P.o.z f);replace I:=yA (I.o.z f);clear f hp5 hp6 HLT SM x y z A F G H J p K L M O S T QB x1x;obtain⟨x,y,z,A,F,G,H,J,p,K,L,M,O,S,T⟩:=P.o.cells rfl;have hfd:=SA (.string g.N) (.int .i64 g.L) (.slice a5 g.M.length c5) (.slice a6 g.Z.length c6);go_upto_region 52 with fail;clear hfd;go_cut [35] (fun v wx=>v=.string H0/\kB t wx)
  case first=>as_aux_lemma=>
   have m1:¬(9223372036854775807<S0.size+S1.size):=by omega
   have m2:¬(9223372036854775807<(S0++S1).size+S2.size):=by rw[Ka];omega
   have l:=yA (P.o.held (dC r c1 o X N));go_region_held3 (fun U=>iB U (w.1.size+1) (dC r c1 o X N) 43)
    (first|with_reducible exact(l.o _ r3).1|with_reducible exact(l.o _ r2).1|with_reducible exact(l.o _ m).1|with_reducible exact(l.o _ eD.drew).1)
    (first
     |(go_at_call 17;apply aC (HN0.o _);intro u1 f;have m:kB t u1:=(by with_reducible exact oB eD.drew f))
     |((fail_if_success (have q:=r2));go_at_call 21;with_reducible apply aC (HN1.o _);intro u2 f;have r2:kB t u2:=(by with_reducible exact oB m f))
     |(go_at_call 21;with_reducible apply aC (HN2.o _);intro u3 f;have r3:kB t u3:=(by with_reducible exact oB r2 f)))
   go_wp2_with fail;go_meet;exact⟨by rw[hH0.o],r3⟩
  obtain⟨rfl,f⟩:=hcut;rename World=>w6;replace P:=yA (P.o.z f);replace I:=yA (I.o.z f);replace PI:=yA (PI.o.z f);have hH:H0.size<=100:=by rw[hH0.o];simp only[Ka];omega
  clear f x y z A F G H J p K L M O S T HN0 HN1 HN2 z0 z1 z2;go_wp2_with fail;go_loopw [35,284] (fun rp i wz=>∃(j:Nat)(st:gB),j<=g.Z.length/\i=.int .i64 j/\rp=.string st/\xA (st=H0++qG (g.Z.take j))/\xA (NP w wz c (dC r c1 o X N))/\xA (dS wz r o N)/\xA (yB wz a6 g.Z)) (fun _ i _=>g.Z.length-(intOf i).toNat)
  case atStart=>exact⟨0,H0,Oa _,rfl,rfl,by show _=_;simp[qG],P,I,PI⟩
  case round=>
   clear P I PI;obtain⟨j,st,hj,rfl,rfl,HE,P,I,PI⟩:=hrel;obtain⟨x,y,z,A,F,G,H,J,p,K,L,M,O,S,T⟩:=P.o.cells rfl;have hst:st.size<=20000000:=by
    have h1:=EH (g.Z.take j);have h2:=uJ g.Z j;rw[HE.o,Ka];rw[Hb]at h1;omega
   by_cases hlt:j<g.Z.length
   .obtain ⟨b5,o5,rfl,hb5,g0,g1⟩:=PI.o.at hlt;have hps:=wV g.Z j hlt;have hrj:=hrg j hlt;have HS:=yA (fun W=>rO g.Z[j].s W (by omega));have HL:=yA (fun W=>gd g.Z[j].n W hrj.1 hrj.2);have z3:=uF g.Z[j].s;have z4:=qB 8 g.Z[j].n;have E3:xA (∀U3 U4,U3=qF g.Z[j].s->U4=pB 8 g.Z[j].n->st++(U3++U4)=H0++qG (g.Z.take (j+1))):=fun U3 U4 e1 e2=>by rw[RK _ _ hlt,HE.o,e1,e2,VZ];simp only[Wa]
    generalize qF g.Z[j].s=U3 at *;generalize pB 8 g.Z[j].n=U4 at *;replace E3:=yA (E3.o U3 U4 rfl rfl);generalize g.Z[j].s=ks at *;generalize g.Z[j].n=kn at *;have m1:¬(9223372036854775807<U3.size+U4.size):=by omega
    have m2:¬(9223372036854775807<st.size+(U3.size+U4.size)):=by omega
    clear z3 z4 hps hst;go_upto_region 56 with fail;refine tL (C:=fun W=>Code.wp prog _ _ _ W) ?_;intro w8 hb8 X8 hz8;clear hz8;replace P:=yA (P.o.z hb8);replace I:=yA (I.o.z hb8);replace PI:=yA (PI.o.z hb8);have p:=X8;clear x y z A F G H J p K L M O S T g0 g1 hb8;generalize wr.1.size=X5 at *;have l:=yA (fun U(h:kB w8 U)=>(X8.z h).c2);obtain⟨h0,h1⟩:=X8.c2;go_region_held3 (fun U=>U.cell? ⟨X5,0,none⟩=some (.string ks)/\U.cell? ⟨X5,1,none⟩=some (.int .i64 kn))
     (first|with_reducible exact l.o _ r2|with_reducible exact l.o _ m|with_reducible exact l.o _ eD.drew)
     (first
      |(go_at_call 29;apply aC (HS.o _);intro u1 f;have m:kB w8 u1:=(by with_reducible exact oB eD.drew f))
      |(go_at_call 21;with_reducible apply aC (HL.o _);intro u2 f;have r2:kB w8 u2:=(by with_reducible exact oB m f)))
    replace P:=yA (P.o.z r2);replace I:=yA (I.o.z r2);replace PI:=yA (PI.o.z r2);generalize st++(U3++U4)=st5 at *;go_wp2;exact⟨⟨j+1,st5,by omega,by go_num,rfl,E3,P,I,PI⟩,by simp[intOf];omega⟩
   obtain rfl:st=ST:=by rw[hST.o,HE.o,Ra (by omega)]
   go_wp2;exact oJ rfl rfl rfl rfl P.o I.o
end
