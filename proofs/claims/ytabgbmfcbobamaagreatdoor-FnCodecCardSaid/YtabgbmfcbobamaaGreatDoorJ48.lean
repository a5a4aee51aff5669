import Derived.Test.YtabgbmfcbobamaaGreatDoorJ45
set_option maxRecDepth 100000
set_option maxHeartbeats 8000000
namespace Go.Proofs.YtabgbmfcbobamaaGreatDoor
open Go.RowKit Tryz
section
open Go.Maps
attribute [local go_sem] rG sH mN eA.drewI dM.drewI dM.new dM.alloc dM.alloc2
theorem aEd (c:vB) (a b:Option Addr) (ca cb:Nat) (N:yC) (s:ByteArray) (w:World) (h:tO w a b N) (hs:s.size<=1048576) (hm:et c N s [2,3,4]):
 Calls prog 37 #[iD c,.agg (iB a ca b cb N),.string s] w fun e p=>cz (bM c N s).1 (.string (bM c N s).2) w e p:=by
 have i:=h.bulk;have HCP:=bA (fun W (hW:Below w.heap.size w W)=>fK a b ca cb N W (h.files.later hW) h.fit.len (h.tens.later hW) (by omega) (qR (by omega)));have HCF:=bA (fun W=>kH c W);have HST:=bA (fun W b cb (r:oB W b N.ts)=>eE c N.now b cb N.ts W r (xR (show N.ts.length+uA N.ts<=1100000 by omega)).2.1 (by omega));have HDR:=bA (fun W=>dP s W hs);have HE:=bA (show bM c N s=iV c N (nE s).1/\jE c=true/\N.up=true/\gB c N.now N.ts=true/\(nE s).2=true/\(nE s).1.kind∈[(2:Int),3,4] from⟨hm.ans,hm⟩);clear hm;have HI:=bA (fun W a b (h1:qA W a N.d.fs) (h2:oB W b N.ts)=>(⟨h1,h.fit,h2,h.bulk,h.rng,h.lsn,h.now⟩:tO W a b N));have HRK:=bA (fun hk=>AP (s:=s) hk);clear h i;unfold tK at HDR;generalize bM c N s=V at *;generalize nE s=D at *;obtain⟨D,dk⟩:=D;dsimp only at *;unfold iD at *;have fz:=xO;have HB0:=bA (NP.new (w:=w) (c:=c) (cs:=iB a ca b cb N));have rN:=yE a ca b cb N 82;have fN:=lE a ca b cb N;go_enter func37,ntmps37;go_upto_region 1 with fail;generalize (((w.alloc (.cells #[.int .i64 c.w,.int .i64 c.tl,.int .i64 c.ml,.int .i64 c.sh,.int .i64 c.ha,.int .i64 c.sg] 33)).alloc (.cells (iB a ca b cb N) 82)).alloc (.cells (iB none 0 none 0 lJ) 82))=W0 at *;obtain⟨F,G,H,J,K,L,O,S,T,U,X,Y,Z,y3,y4⟩:=HB0.out.cells rfl;go_wp2_with fail;refine(HCP.out _ HB0.out.B).mono ?_;rintro e w1 ⟨y,c1,q,d1,rfl,z,r,i⟩;have P:=bA (HB0.out.later i);clear F G H J K L O S T U X Y Z y3 y4;obtain⟨F,G,H,J,K,L,O,S,T,U,X,Y,Z,y3,y4⟩:=P.out.cells rfl;clear i HB0 HCP rN fN;go_upto_region 2 with fail;refine DA (C:=fun W=>Code.wp prog _ _ _ W) P.out.N ?_;intro w2 N2 T2;have I:=bA (HI.out w2 y q (z.files.store P.out.N (mD _ _ _ _ _) T2) (r.tens.store P.out.N (mD _ _ _ _ _) T2));replace P:=bA (P.out.put N2 T2);clear F G H J K L O S T U X Y Z y3 y4 z r N2 T2 HI;obtain⟨F,G,H,J,K,L,O,S,T,U,X,Y,Z,y3,y4⟩:=P.out.cells rfl;have rN:=yE y c1 q d1 N 82;have fN:=lE y c1 q d1 N;obtain⟨E,v0,v1,v2,v3,hkp⟩:=HE.out;replace hkp:=bA hkp;clear HE
 ·rw[v1]at rN fN;rw[v0]at HCF;rw[v2]at HST;go_wp2_with(first
   |(go_at_call 67;refine(HCF.out _).mono ?_;rintro e wx ⟨rfl,i⟩;replace P:=bA (P.out.later i);replace I:=bA (I.out.later i);clear i F G H J K L O S T U X Y Z y3 y4;obtain⟨F,G,H,J,K,L,O,S,T,U,X,Y,Z,y3,y4⟩:=P.out.cells rfl)
   |(go_at_call 78;refine(HST.out _ _ _ I.out.tens).mono ?_;rintro e wx ⟨rfl,i⟩;replace P:=bA (P.out.later i);replace I:=bA (I.out.later i);clear i F G H J K L O S T U X Y Z y3 y4;obtain⟨F,G,H,J,K,L,O,S,T,U,X,Y,Z,y3,y4⟩:=P.out.cells rfl))
  refine(HDR.out _).mono ?_;rintro e w3 ⟨av,cv,rfl,ho,i⟩;obtain⟨k,te,me,t,xs⟩:=D;obtain rfl:dk=true:=v3;have hok:=HRK.out rfl;dsimp only at *;obtain⟨⟨hk,hk1,hk2,hk3,hk4,hk5,hk6,hk7,hk8⟩,hsz,hnu⟩:=hok;dsimp only at *;have SM:=bA ho.smps;replace P:=bA (P.out.later i);replace I:=bA (I.out.later i);clear ho i F G H J K L O S T U X Y Z y3 y4 HDR HRK HCF HST;go_upto_region 7 with fail;refine jF (C:=fun W=>Code.wp prog _ _ _ W) ?_;intro w4 hb4 QB hz4;clear hz4;replace P:=bA (P.out.later hb4);replace I:=bA (I.out.later hb4);replace SM:=bA (SM.out.later hb4);have hQ:=aA QB;clear hb4;generalize w3.heap.size=Q at *;clear w3;obtain⟨q0,q1,q2,q3,q4⟩:=QB.c5;obtain⟨F,G,H,J,K,L,O,S,T,U,X,Y,Z,y3,y4⟩:=P.out.cells rfl;go_cut [72] (fun v wx=>v=.bool (N.deg&&decide (k<=4))/\wx=w4)
  case first=>as_aux_lemma=>
   go_wp2;all_goals go_meet
   all_goals simp_all
  obtain⟨rfl,rfl⟩:=hcut;rename World=>w4;go_upto_if 72 with fail;go_cut [] (fun wx=>wx=w4/\(N.deg&&decide (k<=4))=false)
  case first=>as_aux_lemma=>
   cases hd:(N.deg&&decide (k<=4))
   ·go_wp2;go_meet;exact⟨rfl,hd⟩
   ·have E2:V=(N,fA 1 3):=by rw[E,iV];exact Qa (by simpa using hd)
    subst E2;go_wp2;have HK:=bA (P.out.held (iB y c1 q d1 N));go_region_held3 (fun p=>eA p (w.heap.size+1) (iB y c1 q d1 N) 82)
     (first|with_reducible exact(HK.out _ l).1|with_reducible exact(HK.out _ ((Below.refl _ _).drew)).1|exact(HK.out _ l).2)
     (first|(go_at_call 79;refine(aD _ _ (by omega) (by omega)).mono ?_;rintro e u1 ⟨rfl,i⟩;have l:Below w4.heap.size w4 u1:=(by with_reducible exact nA ((Below.refl _ _).drew) i);have bx:=(P.out.later l).R.box rfl))
    go_wp2;exact wG rfl rfl rfl rfl (P.out.later l) (I.out.later l)
  obtain⟨rfl,hd⟩:=hcut;rename World=>w4;replace hd:=bA hd;go_upto_region 9 with fail;go_cut [10] (fun v wx=>v=.bool (uM k)/\wx=w4)
  case first=>as_aux_lemma=>
   go_wp2;all_goals go_meet
   all_goals(unfold uM;simp_all)
  obtain⟨rfl,rfl⟩:=hcut;rename World=>w4;have HTN:=bA (fun W=>bE te W (by unfold maxLen;omega));go_upto_region 10 with fail;go_cut [10,89] (fun u v wx=>u=.bool (uM k)/\v=.bool (uM k&&!yB te)/\wx=w4)
  case first=>as_aux_lemma=>
   cases hn:uM k
   ·go_wp2;go_meet;exact⟨by rw[hn],by rw[hn];rfl,rfl⟩
   ·go_wp2_with(go_at_call 81;refine pD (HTN.out _) ?_);go_meet;exact⟨by rw[hn],by rw[hn];simp,rfl⟩
  obtain⟨rfl,rfl,rfl⟩:=hcut;rename World=>w4;go_upto_if 89 with fail;go_cut [] (fun wx=>wx=w4/\(uM k&&!yB te)=false)
  case first=>as_aux_lemma=>
   cases hn:(uM k&&!yB te)
   ·go_wp2;go_meet;exact⟨rfl,hn⟩
   ·have E2:V=(N,fA 1 2):=by
     rw[E,iV,Oa (by have:=hd.out;simp at this;simpa using this)];exact Qa (by unfold uM at hn;simpa using hn)
    subst E2;go_wp2;have HK:=bA (P.out.held (iB y c1 q d1 N));go_region_held3 (fun p=>eA p (w.heap.size+1) (iB y c1 q d1 N) 82)
     (first|with_reducible exact(HK.out _ l).1|with_reducible exact(HK.out _ ((Below.refl _ _).drew)).1|exact(HK.out _ l).2)
     (first|(go_at_call 79;refine(aD _ _ (by omega) (by omega)).mono ?_;rintro e u1 ⟨rfl,i⟩;have l:Below w4.heap.size w4 u1:=(by with_reducible exact nA ((Below.refl _ _).drew) i);have bx:=(P.out.later l).R.box rfl))
    go_wp2;exact wG rfl rfl rfl rfl (P.out.later l) (I.out.later l)
  obtain⟨rfl,hn⟩:=hcut;rename World=>w4;replace hn:=bA hn;rw[iV,Oa (by have:=hd.out;simpa using this),Oa (by have:=hn.out;unfold uM at this;simpa using this)]at E;dsimp only at E;clear hd hn hk1 hk2 hk3;replace hkp:=hkp.out;simp only[Ab,Kd,Hf]at hkp;rcases hkp with rfl|rfl|rfl
  ·as_aux_lemma=>
   replace E:V=if (rY c N.now N.ts t).2.2=false then(N,fA 1 2) else((bJ c N [⟨2,ByteArray.empty,ByteArray.empty,t⟩]).1,gM (bJ c N [⟨2,ByteArray.empty,ByteArray.empty,t⟩]).1 (bJ c N [⟨2,ByteArray.empty,ByteArray.empty,t⟩]).2 (fA 1 0)):=E;have o:=bA (fun W (h:tO W y q N)=>CG c N.now q d1 N.ts t W h.tens (by have:=h.bulk;omega) v2);have n:=bA (fun W g (h:tO W y q N) (hr:gF W (some ⟨g,0,none⟩) [⟨2,ByteArray.empty,ByteArray.empty,t⟩])=>UN c (ca:=c1) (cb:=d1) (capr:=1) h hr (by simp[pC]) (kg (by omega) hnu));unfold fV at o;unfold cz at n;generalize rY c N.now N.ts t=TK at *;generalize bJ c N [⟨2,ByteArray.empty,ByteArray.empty,t⟩]=R at *;obtain⟨n9,f,o9⟩:=TK;obtain⟨M,code⟩:=R;dsimp only at o n E;unfold iD at o n;go_wp2_with fail;refine(o.out _ I.out).mono ?_;rintro e w5 ⟨a5,c5,rfl,ho,i⟩;replace P:=bA (P.out.later i);replace I:=bA (I.out.later i);replace QB:=QB.later i;clear ho i o SM F G H J K L O S T U X Y Z y3 y4 q0 q1 q2 q3 q4;go_upto_region 33 with fail;refine jF (C:=fun W=>Code.wp prog _ _ _ W) ?_;intro x j X6 hz6;clear X6 hz6;replace P:=bA (P.out.later j);replace I:=bA (I.out.later j);replace QB:=QB.later j;have hQ6:=aA QB;clear j;obtain⟨q0,q1,q2,q3,q4⟩:=QB.c5;obtain⟨F,G,H,J,K,L,O,S,T,U,X,Y,Z,y3,y4⟩:=P.out.cells rfl;cases o9
   ·obtain rfl:V=(N,fA 1 2):=E;go_wp2;have HK:=bA (P.out.held (iB y c1 q d1 N));go_region_held3 (fun p=>eA p (w.heap.size+1) (iB y c1 q d1 N) 82)
     (first|with_reducible exact(HK.out _ l).1|with_reducible exact(HK.out _ ((Below.refl _ _).drew)).1|exact(HK.out _ l).2)
     (first|(go_at_call 79;refine(aD _ _ (by omega) (by omega)).mono ?_;rintro e u1 ⟨rfl,i⟩;have l:Below x.heap.size x u1:=(by with_reducible exact nA ((Below.refl _ _).drew) i);have bx:=(P.out.later l).R.box rfl))
    go_wp2;exact wG rfl rfl rfl rfl (P.out.later l) (I.out.later l)
   ·replace E:V=(M,gM M code (fA 1 0)):=E;subst E;go_wp2_with fail;have H7:=n.out _ x.heap.size (I.out.later (cA x (.cells #[.int .i64 2,.string ⟨#[]⟩,.string ⟨#[]⟩,.int .i64 t] 31))) (ba (eA.new x _ _));refine H7.mono ?_;clear H7;rintro e w7 ⟨a5,c5,b5,d5,rfl,z,r,i⟩;replace i:=nA (cA _ _) i;replace P:=bA (P.out.later i);have F5:=bA z;have T5:=bA r;clear i z r n I F G H J K L O S T U X Y Z y3 y4 q0 q1 q2 q3 q4 QB;go_upto_region 36 with fail;refine JI (C:=fun W=>Code.wp prog _ _ _ W) ?_;intro w8 j XA;have hXR:w7.heap.size≠w.heap.size+1+1:=by have:=P.out.lt;omega
    replace P:=bA (P.out.later j);replace F5:=bA (F5.out.later j);replace T5:=bA (T5.out.later j);have rM:=yE a5 c5 b5 d5 M 82;have fM:=lE a5 c5 b5 d5 M;clear rN fN;replace XA:=bA XA;clear j;generalize w7.heap.size=X5 at *;have m:=bA (fun p (h:Below w8.heap.size w8 p)=>XA.out.later h);go_region_held3 (fun p=>eA p X5 (iB a5 c5 b5 d5 M) 82)
     (first|with_reducible exact m.out _ A|with_reducible exact m.out _ l|with_reducible exact m.out _ ((Below.refl _ _).drew)|exact(fF _ _ _).blk (m.out _ A) hXR)
     (first
      |(go_at_call 79;refine(aD _ _ (by omega) (by omega)).mono ?_;rintro e u1 ⟨rfl,i⟩;have l:Below w8.heap.size w8 u1:=(by with_reducible exact nA ((Below.refl _ _).drew) i))
      |(go_at_call 84;refine(aU a5 b5 c5 d5 M _ _ _ (F5.out.later l) (T5.out.later l)).mono ?_;rintro e u2 ⟨a6,c6,b6,d6,rfl,z,r,i⟩;have A:Below w8.heap.size w8 u2:=(by with_reducible exact nA l i);have bx:=(P.out.later A).R.box rfl))
    go_wp2;exact oR rfl rfl rfl rfl (P.out.later A).R (mD _ _ _ _ _) (by omega) (P.out.later A).B z r
  ·as_aux_lemma=>
   replace E:V=if (cP c N.now N.ts te me t).2.2=false then(N,fA 1 2) else((bJ c N [⟨3,te,me,t⟩]).1,gM (bJ c N [⟨3,te,me,t⟩]).1 (bJ c N [⟨3,te,me,t⟩]).2 (fA 1 0)):=E;have o:=bA (fun W (h:tO W y q N)=>aT c N.now q d1 N.ts te me t W h.tens (by have:=h.bulk;omega) (by omega) (by omega) v2);have n:=bA (fun W g (h:tO W y q N) (hr:gF W (some ⟨g,0,none⟩) [⟨3,te,me,t⟩])=>UN c (ca:=c1) (cb:=d1) (capr:=1) h hr (by simp[pC];omega) (kg (by omega) hnu));unfold fV at o;unfold cz at n;generalize cP c N.now N.ts te me t=TK at *;generalize bJ c N [⟨3,te,me,t⟩]=R at *;obtain⟨n9,f,o9⟩:=TK;obtain⟨M,code⟩:=R;dsimp only at o n E;unfold iD at o n;go_wp2_with fail;refine(o.out _ I.out).mono ?_;rintro e w5 ⟨a5,c5,rfl,ho,i⟩;replace P:=bA (P.out.later i);replace I:=bA (I.out.later i);replace QB:=QB.later i;clear ho i o SM F G H J K L O S T U X Y Z y3 y4 q0 q1 q2 q3 q4;go_upto_region 39 with fail;refine jF (C:=fun W=>Code.wp prog _ _ _ W) ?_;intro x j X6 hz6;clear X6 hz6;replace P:=bA (P.out.later j);replace I:=bA (I.out.later j);replace QB:=QB.later j;have hQ6:=aA QB;clear j;obtain⟨q0,q1,q2,q3,q4⟩:=QB.c5;obtain⟨F,G,H,J,K,L,O,S,T,U,X,Y,Z,y3,y4⟩:=P.out.cells rfl;cases o9
   ·obtain rfl:V=(N,fA 1 2):=E;go_wp2;have HK:=bA (P.out.held (iB y c1 q d1 N));go_region_held3 (fun p=>eA p (w.heap.size+1) (iB y c1 q d1 N) 82)
     (first|with_reducible exact(HK.out _ l).1|with_reducible exact(HK.out _ ((Below.refl _ _).drew)).1|exact(HK.out _ l).2)
     (first|(go_at_call 79;refine(aD _ _ (by omega) (by omega)).mono ?_;rintro e u1 ⟨rfl,i⟩;have l:Below x.heap.size x u1:=(by with_reducible exact nA ((Below.refl _ _).drew) i);have bx:=(P.out.later l).R.box rfl))
    go_wp2;exact wG rfl rfl rfl rfl (P.out.later l) (I.out.later l)
   ·replace E:V=(M,gM M code (fA 1 0)):=E;subst E;go_wp2_with fail;have H7:=n.out _ x.heap.size (I.out.later (cA x (.cells #[.int .i64 3,.string te,.string me,.int .i64 t] 31))) (ba (eA.new x _ _));refine H7.mono ?_;clear H7;rintro e w7 ⟨a5,c5,b5,d5,rfl,z,r,i⟩;replace i:=nA (cA _ _) i;replace P:=bA (P.out.later i);have F5:=bA z;have T5:=bA r;clear i z r n I F G H J K L O S T U X Y Z y3 y4 q0 q1 q2 q3 q4 QB;go_upto_region 42 with fail;refine JI (C:=fun W=>Code.wp prog _ _ _ W) ?_;intro w8 j XA;have hXR:w7.heap.size≠w.heap.size+1+1:=by have:=P.out.lt;omega
    replace P:=bA (P.out.later j);replace F5:=bA (F5.out.later j);replace T5:=bA (T5.out.later j);have rM:=yE a5 c5 b5 d5 M 82;have fM:=lE a5 c5 b5 d5 M;clear rN fN;replace XA:=bA XA;clear j;generalize w7.heap.size=X5 at *;have m:=bA (fun p (h:Below w8.heap.size w8 p)=>XA.out.later h);go_region_held3 (fun p=>eA p X5 (iB a5 c5 b5 d5 M) 82)
     (first|with_reducible exact m.out _ A|with_reducible exact m.out _ l|with_reducible exact m.out _ ((Below.refl _ _).drew)|exact(fF _ _ _).blk (m.out _ A) hXR)
     (first
      |(go_at_call 79;refine(aD _ _ (by omega) (by omega)).mono ?_;rintro e u1 ⟨rfl,i⟩;have l:Below w8.heap.size w8 u1:=(by with_reducible exact nA ((Below.refl _ _).drew) i))
      |(go_at_call 84;refine(aU a5 b5 c5 d5 M _ _ _ (F5.out.later l) (T5.out.later l)).mono ?_;rintro e u2 ⟨a6,c6,b6,d6,rfl,z,r,i⟩;have A:Below w8.heap.size w8 u2:=(by with_reducible exact nA l i);have bx:=(P.out.later A).R.box rfl))
    go_wp2;exact oR rfl rfl rfl rfl (P.out.later A).R (mD _ _ _ _ _) (by omega) (P.out.later A).B z r
  ·as_aux_lemma=>
   replace E:V=((SI c N).1,gM (SI c N).1 (SI c N).2 (fA 1 0)):=E;have HCK:=bA (fun W (h:tO W y q N)=>gt c y q c1 d1 N W ⟨h.files,h.fit,h.tens,by have:=h.bulk;omega,h.rng,h.lsn,h.now⟩);unfold il cz at HCK;generalize SI c N=R at *;obtain⟨M,code⟩:=R;subst E;dsimp only at HCK;unfold iD at HCK;go_wp2_with fail;refine(HCK.out _ I.out).mono ?_;rintro e w5 ⟨a5,c5,b5,d5,rfl,z,r,i⟩;replace P:=bA (P.out.later i);have F5:=bA z;have T5:=bA r;clear i z r HCK I SM F G H J K L O S T U X Y Z y3 y4 q0 q1 q2 q3 q4;go_upto_region 45 with fail;refine JI (C:=fun W=>Code.wp prog _ _ _ W) ?_;intro x j XA;have hXR:w5.heap.size≠w.heap.size+1+1:=by have:=P.out.lt;omega
   replace P:=bA (P.out.later j);replace F5:=bA (F5.out.later j);replace T5:=bA (T5.out.later j);have rM:=yE a5 c5 b5 d5 M 82;have fM:=lE a5 c5 b5 d5 M;clear rN fN;replace XA:=bA XA;clear j;generalize w5.heap.size=X5 at *;have m:=bA (fun p (h:Below x.heap.size x p)=>XA.out.later h);go_region_held3 (fun p=>eA p X5 (iB a5 c5 b5 d5 M) 82)
    (first|with_reducible exact m.out _ A|with_reducible exact m.out _ l|with_reducible exact m.out _ ((Below.refl _ _).drew)|exact(fF _ _ _).blk (m.out _ A) hXR)
    (first
     |(go_at_call 79;refine(aD _ _ (by omega) (by omega)).mono ?_;rintro e u1 ⟨rfl,i⟩;have l:Below x.heap.size x u1:=(by with_reducible exact nA ((Below.refl _ _).drew) i))
     |(go_at_call 84;refine(aU a5 b5 c5 d5 M _ _ _ (F5.out.later l) (T5.out.later l)).mono ?_;rintro e u2 ⟨a6,c6,b6,d6,rfl,z,r,i⟩;have A:Below x.heap.size x u2:=(by with_reducible exact nA l i);have bx:=(P.out.later A).R.box rfl))
   go_wp2;exact oR rfl rfl rfl rfl (P.out.later A).R (mD _ _ _ _ _) (by omega) (P.out.later A).B z r
end
