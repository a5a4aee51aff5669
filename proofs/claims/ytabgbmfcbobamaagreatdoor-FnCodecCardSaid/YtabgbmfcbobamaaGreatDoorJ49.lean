import Derived.Test.YtabgbmfcbobamaaGreatDoorJ45
set_option maxRecDepth 100000
set_option maxHeartbeats 8000000
namespace Go.Proofs.YtabgbmfcbobamaaGreatDoor
open Go.RowKit Tryz
section
open Go.Maps
attribute [local go_sem] rG sH mN eA.drewI dM.drewI dM.new dM.alloc dM.alloc2
theorem aEe (c:vB) (a b:Option Addr) (ca cb:Nat) (N:yC) (s:ByteArray) (w:World) (h:tO w a b N) (hs:s.size<=1048576) (hm:et c N s [5,6]):
 Calls prog 37 #[iD c,.agg (iB a ca b cb N),.string s] w fun e U=>cz (bM c N s).1 (.string (bM c N s).2) w e U:=by
 have f:=h.bulk;have HCP:=bA (fun W (hW:Below w.heap.size w W)=>fK a b ca cb N W (h.files.later hW) h.fit.len (h.tens.later hW) (by omega) (qR (by omega)));have HCF:=bA (fun W=>kH c W);have HST:=bA (fun W b cb (hT:oB W b N.ts)=>eE c N.now b cb N.ts W hT (xR (show N.ts.length+uA N.ts<=1100000 by omega)).2.1 (by omega));have HDR:=bA (fun W=>dP s W hs);have HE:=bA (show bM c N s=iV c N (nE s).1/\jE c=true/\N.up=true/\gB c N.now N.ts=true/\(nE s).2=true/\(nE s).1.kind∈[(5:Int),6] from⟨hm.ans,hm⟩);clear hm;have HI:=bA (fun W a b (h1:qA W a N.d.fs) (h2:oB W b N.ts)=>(⟨h1,h.fit,h2,h.bulk,h.rng,h.lsn,h.now⟩:tO W a b N));have HRK:=bA (fun hk=>AP (s:=s) hk);clear h f;unfold tK at HDR;generalize bM c N s=V at *;generalize nE s=D at *;obtain⟨D,dk⟩:=D;dsimp only at *;unfold iD at *;have fz:=xO;have HB0:=bA (NP.new (w:=w) (c:=c) (cs:=iB a ca b cb N));have rN:=yE a ca b cb N 82;have fN:=lE a ca b cb N;go_enter func37,ntmps37;go_upto_region 1 with fail;generalize (((w.alloc (.cells #[.int .i64 c.w,.int .i64 c.tl,.int .i64 c.ml,.int .i64 c.sh,.int .i64 c.ha,.int .i64 c.sg] 33)).alloc (.cells (iB a ca b cb N) 82)).alloc (.cells (iB none 0 none 0 lJ) 82))=W0 at *;obtain⟨x,y,z,A,F,G,H,J,p,K,L,M,O,S,T⟩:=HB0.out.cells rfl;go_wp2_with fail;refine(HCP.out _ HB0.out.B).mono ?_;rintro e w1 ⟨r,c1,o,X,rfl,hF,hT,f⟩;have P:=bA (HB0.out.later f);clear x y z A F G H J p K L M O S T;obtain⟨x,y,z,A,F,G,H,J,p,K,L,M,O,S,T⟩:=P.out.cells rfl;clear f HB0 HCP rN fN;go_upto_region 2 with fail;refine DA (C:=fun W=>Code.wp prog _ _ _ W) P.out.N ?_;intro w2 N2 T2;have I:=bA (HI.out w2 r o (hF.files.store P.out.N (mD _ _ _ _ _) T2) (hT.tens.store P.out.N (mD _ _ _ _ _) T2));replace P:=bA (P.out.put N2 T2);clear x y z A F G H J p K L M O S T hF hT N2 T2 HI;obtain⟨x,y,z,A,F,G,H,J,p,K,L,M,O,S,T⟩:=P.out.cells rfl;have rN:=yE r c1 o X N 82;have fN:=lE r c1 o X N;obtain⟨E,v0,v1,v2,v3,hkp⟩:=HE.out;replace hkp:=bA hkp;clear HE
 ·rw[v1]at rN fN;rw[v0]at HCF;rw[v2]at HST;go_wp2_with(first
   |(go_at_call 67;refine(HCF.out _).mono ?_;rintro e wx ⟨rfl,f⟩;replace P:=bA (P.out.later f);replace I:=bA (I.out.later f);clear f x y z A F G H J p K L M O S T;obtain⟨x,y,z,A,F,G,H,J,p,K,L,M,O,S,T⟩:=P.out.cells rfl)
   |(go_at_call 78;refine(HST.out _ _ _ I.out.tens).mono ?_;rintro e wx ⟨rfl,f⟩;replace P:=bA (P.out.later f);replace I:=bA (I.out.later f);clear f x y z A F G H J p K L M O S T;obtain⟨x,y,z,A,F,G,H,J,p,K,L,M,O,S,T⟩:=P.out.cells rfl))
  refine(HDR.out _).mono ?_;rintro e w3 ⟨av,cv,rfl,ho,f⟩;obtain⟨k,Y,me,nu,xs⟩:=D;obtain rfl:dk=true:=v3;have hok:=HRK.out rfl;dsimp only at *;obtain⟨⟨hk,hk1,hk2,hk3,hk4,hk5,hk6,hk7,hk8⟩,hsz,hnu⟩:=hok;dsimp only at *;have SM:=bA ho.smps;replace P:=bA (P.out.later f);replace I:=bA (I.out.later f);clear ho f x y z A F G H J p K L M O S T HDR HRK HCF HST;go_upto_region 7 with fail;refine jF (C:=fun W=>Code.wp prog _ _ _ W) ?_;intro Z hb4 QB hz4;clear hz4;replace P:=bA (P.out.later hb4);replace I:=bA (I.out.later hb4);replace SM:=bA (SM.out.later hb4);have hQ:=aA QB;clear hb4;generalize w3.heap.size=Q at *;clear w3;obtain⟨q0,q1,q2,q3,q4⟩:=QB.c5;obtain⟨x,y,z,A,F,G,H,J,p,K,L,M,O,S,T⟩:=P.out.cells rfl;go_cut [72] (fun v wx=>v=.bool (N.deg&&decide (k<=4))/\wx=Z)
  case first=>as_aux_lemma=>
   go_wp2;all_goals go_meet
   all_goals simp_all
  obtain⟨rfl,rfl⟩:=hcut;rename World=>Z;go_upto_if 72 with fail;go_cut [] (fun wx=>wx=Z/\(N.deg&&decide (k<=4))=false)
  case first=>as_aux_lemma=>
   cases hd:(N.deg&&decide (k<=4))
   ·go_wp2;go_meet;exact⟨rfl,hd⟩
   ·have E2:V=(N,fA 1 3):=by rw[E,iV];exact Qa (by simpa using hd)
    subst E2;go_wp2;have l:=bA (P.out.held (iB r c1 o X N));go_region_held3 (fun U=>eA U (w.heap.size+1) (iB r c1 o X N) 82)
     (first|with_reducible exact(l.out _ m).1|with_reducible exact(l.out _ ((Below.refl _ _).drew)).1|exact(l.out _ m).2)
     (first|(go_at_call 79;refine(aD _ _ (by omega) (by omega)).mono ?_;rintro e u1 ⟨rfl,f⟩;have m:Below Z.heap.size Z u1:=(by with_reducible exact nA ((Below.refl _ _).drew) f);have bx:=(P.out.later m).R.box rfl))
    go_wp2;exact wG rfl rfl rfl rfl (P.out.later m) (I.out.later m)
  obtain⟨rfl,hd⟩:=hcut;rename World=>Z;replace hd:=bA hd;go_upto_region 9 with fail;go_cut [10] (fun v wx=>v=.bool (uM k)/\wx=Z)
  case first=>as_aux_lemma=>
   go_wp2;all_goals go_meet
   all_goals(unfold uM;simp_all)
  obtain⟨rfl,rfl⟩:=hcut;rename World=>Z;have HTN:=bA (fun W=>bE Y W (by unfold maxLen;omega));go_upto_region 10 with fail;go_cut [10,89] (fun u v wx=>u=.bool (uM k)/\v=.bool (uM k&&!yB Y)/\wx=Z)
  case first=>as_aux_lemma=>
   cases hn:uM k
   ·go_wp2;go_meet;exact⟨by rw[hn],by rw[hn];rfl,rfl⟩
   ·go_wp2_with(go_at_call 81;refine pD (HTN.out _) ?_);go_meet;exact⟨by rw[hn],by rw[hn];simp,rfl⟩
  obtain⟨rfl,rfl,rfl⟩:=hcut;rename World=>Z;go_upto_if 89 with fail;go_cut [] (fun wx=>wx=Z/\(uM k&&!yB Y)=false)
  case first=>as_aux_lemma=>
   cases hn:(uM k&&!yB Y)
   ·go_wp2;go_meet;exact⟨rfl,hn⟩
   ·have E2:V=(N,fA 1 2):=by
     rw[E,iV,Oa (by have:=hd.out;simp at this;simpa using this)];exact Qa (by unfold uM at hn;simpa using hn)
    subst E2;go_wp2;have l:=bA (P.out.held (iB r c1 o X N));go_region_held3 (fun U=>eA U (w.heap.size+1) (iB r c1 o X N) 82)
     (first|with_reducible exact(l.out _ m).1|with_reducible exact(l.out _ ((Below.refl _ _).drew)).1|exact(l.out _ m).2)
     (first|(go_at_call 79;refine(aD _ _ (by omega) (by omega)).mono ?_;rintro e u1 ⟨rfl,f⟩;have m:Below Z.heap.size Z u1:=(by with_reducible exact nA ((Below.refl _ _).drew) f);have bx:=(P.out.later m).R.box rfl))
    go_wp2;exact wG rfl rfl rfl rfl (P.out.later m) (I.out.later m)
  obtain⟨rfl,hn⟩:=hcut;rename World=>Z;replace hn:=bA hn;rw[iV,Oa (by have:=hd.out;simpa using this),Oa (by have:=hn.out;unfold uM at this;simpa using this)]at E;dsimp only at E;clear hd hn hk1 hk2 hk3;replace hkp:=hkp.out;simp only[Ab,Kd,Hf]at hkp;rcases hkp with rfl|rfl
  ·as_aux_lemma=>
   replace E:V=if (cF c N.now N.ts Y me).1<0 then(N,fA 1 2) else(N,fA 1 0++fA 8 (cF c N.now N.ts Y me).1++fA 8 (cF c N.now N.ts Y me).2):=E;have HCO:=bA (fun W (h:tO W r o N)=>IF c N.now o X N.ts Y me W h.tens (xR (show N.ts.length+uA N.ts<=1100000 by have:=h.bulk;omega)).2.1 (by have:=h.bulk;omega) (by omega) (by omega));have hcr:=zp v2 Y me (by have:=I.out.bulk;omega);unfold iD at HCO;generalize cF c N.now N.ts Y me=R at *;obtain⟨cn,lm⟩:=R;dsimp only at *;have HN1:=bA (fun W=>UQ cn W (by omega) (by omega));have HN2:=bA (fun W=>UQ lm W (by omega) (by omega));have HN0:=bA (fun W=>aD 0 W (by omega) (by omega));have z0:=iA 1 0;have z1:=iA 8 cn;have z2:=iA 8 lm;go_wp2_with fail;refine(HCO.out _ I.out).mono ?_;rintro e t ⟨rfl,f⟩;replace P:=bA (P.out.later f);replace I:=bA (I.out.later f);clear f HCO SM x y z A F G H J p K L M O S T q0 q1 q2 q3 q4 QB;obtain⟨x,y,z,A,F,G,H,J,p,K,L,M,O,S,T⟩:=P.out.cells rfl;by_cases hc:cn<0
   ·obtain rfl:V=(N,fA 1 2):=E.trans (Qa hc);go_wp2;have l:=bA (P.out.held (iB r c1 o X N));go_region_held3 (fun U=>eA U (w.heap.size+1) (iB r c1 o X N) 82)
     (first|with_reducible exact(l.out _ m).1|with_reducible exact(l.out _ ((Below.refl _ _).drew)).1|exact(l.out _ m).2)
     (first|(go_at_call 79;refine(aD _ _ (by omega) (by omega)).mono ?_;rintro e u1 ⟨rfl,f⟩;have m:Below t.heap.size t u1:=(by with_reducible exact nA ((Below.refl _ _).drew) f);have bx:=(P.out.later m).R.box rfl))
    go_wp2;exact wG rfl rfl rfl rfl (P.out.later m) (I.out.later m)
   ·replace E:V=(N,fA 1 0++fA 8 cn++fA 8 lm):=E.trans (Oa hc);generalize fA 1 0=S0 at *;generalize fA 8 cn=S1 at *;generalize fA 8 lm=S2 at *;subst E;have m1:¬(9223372036854775807<S0.size+S1.size):=by omega
    have m2:¬(9223372036854775807<(S0++S1).size+S2.size):=by rw[Ga];omega
    have l:=bA (P.out.held (iB r c1 o X N));go_wp2;go_region_held3 (fun U=>eA U (w.heap.size+1) (iB r c1 o X N) 82)
     (first|with_reducible exact(l.out _ r3).1|with_reducible exact(l.out _ r2).1|with_reducible exact(l.out _ m).1|with_reducible exact(l.out _ ((Below.refl _ _).drew)).1|exact(l.out _ r3).2)
     (first
      |(go_at_call 79;refine(HN0.out _).mono ?_;rintro e u1 ⟨rfl,f⟩;have m:Below t.heap.size t u1:=(by with_reducible exact nA ((Below.refl _ _).drew) f))
      |((fail_if_success (have q:=r2));go_at_call 26;with_reducible refine(HN1.out _).mono ?_;rintro e u2 ⟨rfl,f⟩;have r2:Below t.heap.size t u2:=(by with_reducible exact nA m f))
      |(go_at_call 26;with_reducible refine(HN2.out _).mono ?_;rintro e u3 ⟨rfl,f⟩;have r3:Below t.heap.size t u3:=(by with_reducible exact nA r2 f);have bx:=(P.out.later r3).R.box rfl))
    go_wp2;exact wG rfl rfl rfl rfl (P.out.later r3) (I.out.later r3)
  ·as_aux_lemma=>
   replace E:V=(N,fA 1 0++fA 8 N.now++fA 4 ((tA N.ts Y).s9.length:Nat)++tC (tA N.ts Y).s9):=E;have HLT:=bA (fun W (h:tO W r o N)=>yT N.now o X N.ts Y W h.tens (by have:=h.bulk;omega));obtain⟨hfs,hrg⟩:=yb v2 Y (by have:=I.out.bulk;omega);unfold zd at HLT;generalize tA N.ts Y=g at *;have HN0:=bA (fun W=>aD 0 W (by omega) (by omega));have HN1:=bA (fun W=>UQ N.now W I.out.now.1 I.out.now.2);have HN2:=bA (fun W=>aEy (g.s9.length:Nat) W (by omega) (by omega));have z0:=iA 1 0;have z1:=iA 8 N.now;have z2:=iA 4 (g.s9.length:Nat);generalize fA 1 0=S0 at *;generalize fA 8 N.now=S1 at *;generalize fA 4 (g.s9.length:Nat)=S2 at *;obtain⟨H0,hH0⟩:∃h,h=S0++S1++S2:=⟨_,rfl⟩
   rw[<-hH0]at E;obtain⟨ST,hST⟩:∃h,h=H0++tC g.s9:=⟨_,rfl⟩
   rw[<-hST]at E;replace hH0:=bA hH0;replace hST:=bA hST;subst E;go_wp2_with fail;refine(HLT.out _ I.out).mono ?_;rintro e t ⟨⟨a5,c5,a6,c6,rfl,hp5,hp6⟩,f⟩;have PI:=bA hp6;replace P:=bA (P.out.later f);replace I:=bA (I.out.later f);clear f hp5 hp6 HLT SM x y z A F G H J p K L M O S T q0 q1 q2 q3 q4 QB;obtain⟨x,y,z,A,F,G,H,J,p,K,L,M,O,S,T⟩:=P.out.cells rfl;have hfd:=eg (.string g.name) (.int .i64 g.l9) (.slice a5 g.m9.length c5) (.slice a6 g.s9.length c6);go_upto_region 52 with fail;clear hfd;go_cut [35] (fun v wx=>v=.string H0/\Below t.heap.size t wx)
   case first=>as_aux_lemma=>
    have m1:¬(9223372036854775807<S0.size+S1.size):=by omega
    have m2:¬(9223372036854775807<(S0++S1).size+S2.size):=by rw[Ga];omega
    have l:=bA (P.out.held (iB r c1 o X N));go_region_held3 (fun U=>eA U (w.heap.size+1) (iB r c1 o X N) 82)
     (first|with_reducible exact(l.out _ r3).1|with_reducible exact(l.out _ r2).1|with_reducible exact(l.out _ m).1|with_reducible exact(l.out _ ((Below.refl _ _).drew)).1)
     (first
      |(go_at_call 79;refine(HN0.out _).mono ?_;rintro e u1 ⟨rfl,f⟩;have m:Below t.heap.size t u1:=(by with_reducible exact nA ((Below.refl _ _).drew) f))
      |((fail_if_success (have q:=r2));go_at_call 26;with_reducible refine(HN1.out _).mono ?_;rintro e u2 ⟨rfl,f⟩;have r2:Below t.heap.size t u2:=(by with_reducible exact nA m f))
      |(go_at_call 26;with_reducible refine(HN2.out _).mono ?_;rintro e u3 ⟨rfl,f⟩;have r3:Below t.heap.size t u3:=(by with_reducible exact nA r2 f)))
    go_wp2_with fail;go_meet;exact⟨by rw[hH0.out],r3⟩
   obtain⟨rfl,f⟩:=hcut;rename World=>w6;replace P:=bA (P.out.later f);replace I:=bA (I.out.later f);replace PI:=bA (PI.out.later f);have hH:H0.size<=100:=by rw[hH0.out];simp only[Ga];omega
   clear f x y z A F G H J p K L M O S T HN0 HN1 HN2 z0 z1 z2;go_wp2_with fail;go_loopw [35,284] (fun rp i wz=>∃(j:Nat) (st:ByteArray),j<=g.s9.length/\i=.int .i64 j/\rp=.string st/\Hid (st=H0++tC (g.s9.take j))/\Hid (NP w wz c (iB r c1 o X N))/\Hid (tO wz r o N)/\Hid (yA wz a6 g.s9)) (fun _ i _=>g.s9.length-(intOf i).toNat)
   case atStart=>exact⟨0,H0,La _,rfl,rfl,by show _=_;simp[tC],P,I,PI⟩
   case round=>
    clear P I PI;obtain⟨j,st,hj,rfl,rfl,HE,P,I,PI⟩:=hrel;obtain⟨x,y,z,A,F,G,H,J,p,K,L,M,O,S,T⟩:=P.out.cells rfl;have hst:st.size<=20000000:=by
     have h1:=mI (g.s9.take j);have h2:=wM g.s9 j;rw[HE.out,Ga];rw[Hb]at h1;omega
    by_cases hlt:j<g.s9.length
    ·obtain⟨b5,o5,rfl,hb5,g0,g1⟩:=PI.out.at hlt;have hps:=zR g.s9 j hlt;have hrj:=hrg j hlt;have HS:=bA (fun W=>pK g.s9[j].s W (by omega));have HL:=bA (fun W=>UQ g.s9[j].n W hrj.1 hrj.2);have z3:=oD g.s9[j].s;have z4:=iA 8 g.s9[j].n;have E3:Hid (∀U3 U4,U3=nD g.s9[j].s->U4=fA 8 g.s9[j].n->st++(U3++U4)=H0++tC (g.s9.take (j+1))):=fun U3 U4 e1 e2=>by rw[fZ _ _ hlt,HE.out,e1,e2,vX];simp only[Gb]
     generalize nD g.s9[j].s=U3 at *;generalize fA 8 g.s9[j].n=U4 at *;replace E3:=bA (E3.out U3 U4 rfl rfl);generalize g.s9[j].s=ks at *;generalize g.s9[j].n=kn at *;have m1:¬(9223372036854775807<U3.size+U4.size):=by omega
     have m2:¬(9223372036854775807<st.size+(U3.size+U4.size)):=by omega
     clear z3 z4 hps hst;go_upto_region 56 with fail;refine jF (C:=fun W=>Code.wp prog _ _ _ W) ?_;intro w8 hb8 X8 hz8;clear hz8;replace P:=bA (P.out.later hb8);replace I:=bA (I.out.later hb8);replace PI:=bA (PI.out.later hb8);have p:=X8;clear x y z A F G H J p K L M O S T g0 g1 hb8;generalize wr.heap.size=X5 at *;have l:=bA (fun U (h:Below w8.heap.size w8 U)=>(X8.later h).c2);obtain⟨h0,h1⟩:=X8.c2;go_region_held3 (fun U=>U.cell? ⟨X5,0,none⟩=some (.string ks)/\U.cell? ⟨X5,1,none⟩=some (.int .i64 kn))
      (first|with_reducible exact l.out _ r2|with_reducible exact l.out _ m|with_reducible exact l.out _ ((Below.refl _ _).drew))
      (first
       |(go_at_call 29;refine(HS.out _).mono ?_;rintro e u1 ⟨rfl,f⟩;have m:Below w8.heap.size w8 u1:=(by with_reducible exact nA ((Below.refl _ _).drew) f))
       |(go_at_call 26;with_reducible refine(HL.out _).mono ?_;rintro e u2 ⟨rfl,f⟩;have r2:Below w8.heap.size w8 u2:=(by with_reducible exact nA m f)))
     replace P:=bA (P.out.later r2);replace I:=bA (I.out.later r2);replace PI:=bA (PI.out.later r2);generalize st++(U3++U4)=st5 at *;go_wp2;exact⟨⟨j+1,st5,by omega,by go_num,rfl,E3,P,I,PI⟩,by simp[intOf];omega⟩
    ·obtain rfl:st=ST:=by rw[hST.out,HE.out,Ua (by omega)]
     go_wp2;exact wG rfl rfl rfl rfl P.out I.out
end
