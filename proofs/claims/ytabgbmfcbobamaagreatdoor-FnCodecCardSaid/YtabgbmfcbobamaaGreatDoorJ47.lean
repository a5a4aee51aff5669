import Derived.Test.YtabgbmfcbobamaaGreatDoorJ45
set_option maxRecDepth 100000
set_option maxHeartbeats 8000000
namespace Go.Proofs.YtabgbmfcbobamaaGreatDoor
open Go.RowKit Tryz
section
open Go.Maps
attribute [local go_sem] rG sH mN eA.drewI dM.drewI dM.new dM.alloc dM.alloc2
theorem aEc (c:vB) (a b:Option Addr) (ca cb:Nat) (N:yC) (s:ByteArray) (w:World) (h:tO w a b N) (hs:s.size<=1048576) (hm:et c N s [1]):
 Calls prog 37 #[iD c,.agg (iB a ca b cb N),.string s] w fun e w'=>cz (bM c N s).1 (.string (bM c N s).2) w e w':=by
 have o:=h.bulk;have HCP:=bA (fun W (hW:Below w.heap.size w W)=>fK a b ca cb N W (h.files.later hW) h.fit.len (h.tens.later hW) (by omega) (qR (by omega)));have HCF:=bA (fun W=>kH c W);have HST:=bA (fun W b cb (hT:oB W b N.ts)=>eE c N.now b cb N.ts W hT (xR (show N.ts.length+uA N.ts<=1100000 by omega)).2.1 (by omega));have HDR:=bA (fun W=>dP s W hs);have HE:=bA (show bM c N s=iV c N (nE s).1/\jE c=true/\N.up=true/\gB c N.now N.ts=true/\(nE s).2=true/\(nE s).1.kind∈[(1:Int)] from⟨hm.ans,hm⟩);clear hm;have HI:=bA (fun W a b (h1:qA W a N.d.fs) (h2:oB W b N.ts)=>(⟨h1,h.fit,h2,h.bulk,h.rng,h.lsn,h.now⟩:tO W a b N));have HRK:=bA (fun hk=>AP (s:=s) hk);clear h o;unfold tK at HDR;generalize bM c N s=V at *;generalize nE s=D at *;obtain⟨D,dk⟩:=D;dsimp only at *;unfold iD at *;have fz:=xO;have HB0:=bA (NP.new (w:=w) (c:=c) (cs:=iB a ca b cb N));have rN:=yE a ca b cb N 82;have fN:=lE a ca b cb N;go_enter func37,ntmps37;go_upto_region 1 with fail;generalize (((w.alloc (.cells #[.int .i64 c.w,.int .i64 c.tl,.int .i64 c.ml,.int .i64 c.sh,.int .i64 c.ha,.int .i64 c.sg] 33)).alloc (.cells (iB a ca b cb N) 82)).alloc (.cells (iB none 0 none 0 lJ) 82))=W0 at *;obtain⟨z,F,G,H,K,L,O,T,U,X,Y,Z,y2,y3,y4⟩:=HB0.out.cells rfl;go_wp2_with fail;refine(HCP.out _ HB0.out.B).mono ?_;rintro e w1 ⟨a1,c1,b1,d1,rfl,hF,hT,o⟩;have P:=bA (HB0.out.later o);clear z F G H K L O T U X Y Z y2 y3 y4;obtain⟨z,F,G,H,K,L,O,T,U,X,Y,Z,y2,y3,y4⟩:=P.out.cells rfl;clear o HB0 HCP rN fN;go_upto_region 2 with fail;refine DA (C:=fun W=>Code.wp prog _ _ _ W) P.out.N ?_;intro w2 N2 T2;have I:=bA (HI.out w2 a1 b1 (hF.files.store P.out.N (mD _ _ _ _ _) T2) (hT.tens.store P.out.N (mD _ _ _ _ _) T2));replace P:=bA (P.out.put N2 T2);clear z F G H K L O T U X Y Z y2 y3 y4 hF hT N2 T2 HI;obtain⟨z,F,G,H,K,L,O,T,U,X,Y,Z,y2,y3,y4⟩:=P.out.cells rfl;have rN:=yE a1 c1 b1 d1 N 82;have fN:=lE a1 c1 b1 d1 N;obtain⟨E,v0,v1,v2,v3,hkp⟩:=HE.out;replace hkp:=bA hkp;clear HE
 ·rw[v1]at rN fN;rw[v0]at HCF;rw[v2]at HST;go_wp2_with(first
   |(go_at_call 67;refine(HCF.out _).mono ?_;rintro e wx ⟨rfl,o⟩;replace P:=bA (P.out.later o);replace I:=bA (I.out.later o);clear o z F G H K L O T U X Y Z y2 y3 y4;obtain⟨z,F,G,H,K,L,O,T,U,X,Y,Z,y2,y3,y4⟩:=P.out.cells rfl)
   |(go_at_call 78;refine(HST.out _ _ _ I.out.tens).mono ?_;rintro e wx ⟨rfl,o⟩;replace P:=bA (P.out.later o);replace I:=bA (I.out.later o);clear o z F G H K L O T U X Y Z y2 y3 y4;obtain⟨z,F,G,H,K,L,O,T,U,X,Y,Z,y2,y3,y4⟩:=P.out.cells rfl))
  refine(HDR.out _).mono ?_;rintro e w3 ⟨av,cv,rfl,ho,o⟩;obtain⟨k,q,me,nu,n⟩:=D;obtain rfl:dk=true:=v3;have hok:=HRK.out rfl;dsimp only at *;obtain⟨⟨hk,hk1,hk2,hk3,hk4,hk5,hk6,hk7,hk8⟩,hsz,hnu⟩:=hok;dsimp only at *;have SM:=bA ho.smps;replace P:=bA (P.out.later o);replace I:=bA (I.out.later o);clear ho o z F G H K L O T U X Y Z y2 y3 y4 HDR HRK HCF HST;go_upto_region 7 with fail;refine jF (C:=fun W=>Code.wp prog _ _ _ W) ?_;intro t hb4 QB hz4;clear hz4;replace P:=bA (P.out.later hb4);replace I:=bA (I.out.later hb4);replace SM:=bA (SM.out.later hb4);have hQ:=aA QB;clear hb4;generalize w3.heap.size=Q at *;clear w3;obtain⟨q0,q1,q2,q3,q4⟩:=QB.c5;obtain⟨z,F,G,H,K,L,O,T,U,X,Y,Z,y2,y3,y4⟩:=P.out.cells rfl;go_cut [72] (fun v wx=>v=.bool (N.deg&&decide (k<=4))/\wx=t)
  case first=>as_aux_lemma=>
   go_wp2;all_goals go_meet
   all_goals simp_all
  obtain⟨rfl,rfl⟩:=hcut;rename World=>t;go_upto_if 72 with fail;go_cut [] (fun wx=>wx=t/\(N.deg&&decide (k<=4))=false)
  case first=>as_aux_lemma=>
   cases hd:(N.deg&&decide (k<=4))
   ·go_wp2;go_meet;exact⟨rfl,hd⟩
   ·have E2:V=(N,fA 1 3):=by rw[E,iV];exact Qa (by simpa using hd)
    subst E2;go_wp2;have HK:=bA (P.out.held (iB a1 c1 b1 d1 N));go_region_held3 (fun w'=>eA w' (w.heap.size+1) (iB a1 c1 b1 d1 N) 82)
     (first|with_reducible exact(HK.out _ r1).1|with_reducible exact(HK.out _ ((Below.refl _ _).drew)).1|exact(HK.out _ r1).2)
     (first|(go_at_call 79;refine(aD _ _ (by omega) (by omega)).mono ?_;rintro e u1 ⟨rfl,o⟩;have r1:Below t.heap.size t u1:=(by with_reducible exact nA ((Below.refl _ _).drew) o);have bx:=(P.out.later r1).R.box rfl))
    go_wp2;exact wG rfl rfl rfl rfl (P.out.later r1) (I.out.later r1)
  obtain⟨rfl,hd⟩:=hcut;rename World=>t;replace hd:=bA hd;go_upto_region 9 with fail;go_cut [10] (fun v wx=>v=.bool (uM k)/\wx=t)
  case first=>as_aux_lemma=>
   go_wp2;all_goals go_meet
   all_goals(unfold uM;simp_all)
  obtain⟨rfl,rfl⟩:=hcut;rename World=>t;have HTN:=bA (fun W=>bE q W (by unfold maxLen;omega));go_upto_region 10 with fail;go_cut [10,89] (fun u v wx=>u=.bool (uM k)/\v=.bool (uM k&&!yB q)/\wx=t)
  case first=>as_aux_lemma=>
   cases hn:uM k
   ·go_wp2;go_meet;exact⟨by rw[hn],by rw[hn];rfl,rfl⟩
   ·go_wp2_with(go_at_call 81;refine pD (HTN.out _) ?_);go_meet;exact⟨by rw[hn],by rw[hn];simp,rfl⟩
  obtain⟨rfl,rfl,rfl⟩:=hcut;rename World=>t;go_upto_if 89 with fail;go_cut [] (fun wx=>wx=t/\(uM k&&!yB q)=false)
  case first=>as_aux_lemma=>
   cases hn:(uM k&&!yB q)
   ·go_wp2;go_meet;exact⟨rfl,hn⟩
   ·have E2:V=(N,fA 1 2):=by
     rw[E,iV,Oa (by have:=hd.out;simp at this;simpa using this)];exact Qa (by unfold uM at hn;simpa using hn)
    subst E2;go_wp2;have HK:=bA (P.out.held (iB a1 c1 b1 d1 N));go_region_held3 (fun w'=>eA w' (w.heap.size+1) (iB a1 c1 b1 d1 N) 82)
     (first|with_reducible exact(HK.out _ r1).1|with_reducible exact(HK.out _ ((Below.refl _ _).drew)).1|exact(HK.out _ r1).2)
     (first|(go_at_call 79;refine(aD _ _ (by omega) (by omega)).mono ?_;rintro e u1 ⟨rfl,o⟩;have r1:Below t.heap.size t u1:=(by with_reducible exact nA ((Below.refl _ _).drew) o);have bx:=(P.out.later r1).R.box rfl))
    go_wp2;exact wG rfl rfl rfl rfl (P.out.later r1) (I.out.later r1)
  obtain⟨rfl,hn⟩:=hcut;rename World=>t;replace hn:=bA hn;rw[iV,Oa (by have:=hd.out;simpa using this),Oa (by have:=hn.out;unfold uM at this;simpa using this)]at E;dsimp only at E;clear hd hn hk1 hk2 hk3;replace hkp:=hkp.out;simp only[Ab,Kd,Hf]at hkp;subst hkp
  ·as_aux_lemma=>
   have hex:q.size+(cD n).size+4<=60000:=by
    have e:uS ⟨1,q,me,nu,n⟩=fA 1 1++oK q++fA 2 (n.length:Nat)++cD n:=by simp[uS,xQ,uQ,fR,Gb]
    rw[e]at hsz;simp only[Ga,iA,mE]at hsz;omega
   obtain⟨W,hW⟩:∃W,W=sQ c N.now q N.ts n:=⟨_,rfl⟩
   replace E:V=if W.2.2=[] then(N,fA 1 0++fA 2 (n.length:Nat)++W.2.1) else((bJ c N W.2.2).1,gM (bJ c N W.2.2).1 (bJ c N W.2.2).2 (fA 1 0++fA 2 (n.length:Nat)++W.2.1)):=by rw[hW];exact E
   replace hW:=bA hW;have HBD:=bA (aGr v2 q n (by omega) hk7 (by omega));have hI:=I.out.bulk;have HSZ:Hid (∀k (h:k<n.length),kG n[k]<=300000):=fun k h=>by
    have h1:=mM n[k];have h2:=jZ n k h;have h3:=fL (n.take (k+1)) (n.drop (k+1));rw[Ya,h2]at h3;have h4:=Fd ByteArray.size h3;simp only[Ga]at h4;show n[k].labs.length+wB n[k].labs<=_;omega
   have HJ:=bA (fun W5 (A:Nat->Prop) b5 d5 k la lc x (ht:aI W5 A b5 (sQ c N.now q N.ts (n.take k)).1) (hl:sC W5 la x.labs) (hlc:x.labs.length<=lc) (hk:k<=n.length) (hx:kG x<=300000)=>NQ c N.now b5 d5 (sQ c N.now q N.ts (n.take k)).1 q x la lc W5 ht hl hlc (by have:=(HBD.out k hk).2.1;omega) (by omega) hx (HBD.out k hk).1);unfold iD at HJ;have QB4:=bA QB;go_upto_region 15 with fail;refine jF (C:=fun W=>Code.wp prog _ _ _ W) ?_;intro w5 o SB hz5;have hX5:=aA SB;have T5:=bA (I.out.tens.toN.later o);have y:=bA o;clear q0 q1 q2 q3 q4;obtain⟨q0,q1,q2,q3,q4⟩:=(QB4.out.later o).c5;have hQ5:Q<w5.heap.size:=by omega
   clear o z F G H K L O T U X Y Z y2 y3 y4 hz5;go_upto_block 1 with fail;have R0:=bA (World.ownsRow_made (e:=31) (size:=4) w5 #[] 0 (Ka _) (by simp[maxLen]) (by simp));have r:=cA w5 (.cells #[] 31);replace y:=bA (nA y.out r);replace T5:=bA (T5.out.later r);replace SB:=bA (SB.later r);have hB5:=r.size;clear r q0 q1 q2 q3 q4 hQ5;generalize w5.alloc (.cells #[] 31)=w6 at *;generalize w5.heap.size=B5 at *;go_wp2_with fail;go_loopw [12,13,102] (fun vd rc i wz=>∃(k:Nat) (b5:Option Addr) (d5:Nat) (v:Value),k<=n.length/\i=.int .i64 k/\v=rc/\vd=.string (sQ c N.now q N.ts (n.take k)).2.1/\Hid (Below t.heap.size t wz)/\Hid (eA wz t.heap.size #[.int .i64 N.now,.slice b5 (sQ c N.now q N.ts (n.take k)).1.length d5] 51)/\Hid (aI wz (fun g=>v.ownBlock≠some g/\g≠t.heap.size) b5 (sQ c N.now q N.ts (n.take k)).1)/\Hid (wz.ownsRow B5 31 4 v (sQ c N.now q N.ts (n.take k)).2.2.length (dF (sQ c N.now q N.ts (n.take k)).2.2))/\B5<=wz.heap.size) (fun _ _ i _=>n.length-(intOf i).toNat)
   case atStart=>exact⟨0,b1,d1,_,La _,rfl,rfl,rfl,y,SB,bA (T5.out.mono fun g (h:g<t.heap.size)=>⟨fun e=>by have:=uF R0.out g e;omega,by omega⟩),R0,by omega⟩
   case round=>
    clear y SB T5 R0;obtain⟨k,b5,d5,v,hk,rfl,rfl,rfl,y,SB,T5,R0,hB⟩:=hrel;by_cases hlt:k<n.length
    ·as_aux_lemma=>
     obtain⟨b6,o6,a6,k6,rfl,r,g0',g1',hl6,hc6⟩:=SM.out.atc hlt;have g0:=(y.out.cell (p:=⟨b6,o6+k*2,none⟩) r).trans g0';have g1:=(y.out.cell (p:=⟨b6,o6+k*2+1,none⟩) r).trans g1';have HJ1:=bA (fun W5 (hW:Below wr.heap.size wr W5)=>HJ.out W5 _ b5 d5 k a6 k6 n[k] (T5.out.later hW) (hl6.later (y.out.trans (hW.mono y.out.size))) hc6 hk (HSZ.out k hlt));obtain⟨s1,s2,s3,s4,s5,s6⟩:=HBD.out k hk;obtain⟨_,_,_,jc⟩:=uz s1 q n[k];have ES:Hid ((sQ c N.now q N.ts (n.take (k+1))).1=(pM c N.now (sQ c N.now q N.ts (n.take k)).1 q n[k]).2.1/\(sQ c N.now q N.ts (n.take (k+1))).2.1=(sQ c N.now q N.ts (n.take k)).2.1++fA 1 ((pM c N.now (sQ c N.now q N.ts (n.take k)).1 q n[k]).1:Nat)/\(sQ c N.now q N.ts (n.take (k+1))).2.2=(sQ c N.now q N.ts (n.take k)).2.2++nsn (pM c N.now (sQ c N.now q N.ts (n.take k)).1 q n[k]).2.2 ⟨1,q,(pM c N.now (sQ c N.now q N.ts (n.take k)).1 q n[k]).2.2,0⟩):=by
      rw[cx n k hlt];exact⟨rfl,rfl,rfl⟩
     have hwr:=y.out.size;clear g0' g1' s1 s2 s5 s6;generalize pM c N.now (sQ c N.now q N.ts (n.take k)).1 q n[k]=J at *;generalize sQ c N.now q N.ts (n.take k)=S at *;generalize n[k].bits=bi at *;generalize n[k].labs=ls at *;obtain⟨J1,J2,J3⟩:=J;obtain⟨S1,S2,S3⟩:=S;dsimp only at *;obtain⟨q0,q1,q2,q3,q4⟩:=(QB4.out.later y.out).c5;have z3:=iA 1 (J1:Nat);have HB:=bA (fun W=>aD (J1:Nat) W (by omega) (by omega));generalize fA 1 (J1:Nat)=U3 at *;have m1:¬(9223372036854775807<S2.size+U3.size):=by omega
     have hn3:S3.length<=500:=by omega
     clear z3 s3 s4;go_upto_region 20 with fail;refine jF (C:=fun W=>Code.wp prog _ _ _ W) ?_;intro w8 hb8 X8 hz8;have B8:=bA (nA y.out hb8);have P8:=bA (P.out.later B8.out);obtain⟨z,F,G,H,K,L,O,T,U,X,Y,Z,y2,y3,y4⟩:=P8.out.cells rfl;obtain⟨f,j⟩:=(SB.out.later hb8).c2;obtain⟨u0,u1⟩:=X8.c2;clear q0 q1 q2 q3 q4 hz8;have q1:=(QB4.out.later B8.out).cell 1;have H8:=bA hb8;clear hb8 g0 g1;go_wp2_with fail;refine(HJ1.out _ H8.out).mono ?_;rintro e w9 ⟨b9,d9,rfl,hT9,hb9⟩;have R9:=bA (nA H8.out hb9);have T9:=bA (hT9.mono (A':=fun g=>v.ownBlock≠some g/\g≠t.heap.size) fun g h=>h.elim (fun h=>h) fun h=>⟨fun e=>by have:=nU R0.out g e;have:=H8.out.size;omega,by have:=H8.out.size;omega⟩);clear hT9 hb9 f j u0 u1 z F G H K L O T U X Y Z y2 y3 y4 q1 HJ1;go_upto_region 21 with fail;refine jF (C:=fun W=>Code.wp prog _ _ _ W) ?_;intro w10 hb10 X10 hz10;clear hz10;have R10:=bA (nA R9.out hb10);have T10:=bA (T9.out.later hb10);have S10:=bA (SB.out.later R10.out);obtain⟨u0,u1⟩:=X10.c2;obtain⟨f,j⟩:=S10.out.c2;have l:=S10.out.free 0;have m:=S10.out.free 1;clear hb10 X10;go_upto_region 22 with fail;refine aGa (C:=fun W=>Code.wp prog _ _ _ W) S10.out ?_;intro w11 S11 T11 F11;have B11:=bA ((nA y.out R10.out).trans (T11.below (nA y.out R10.out).size fun i hi e=>by omega));have T12:=bA (T10.out.turn T11 fun g h e=>h.2 e);have R12:=bA (F11 (vA R0.out R10.out) hX5);have hB11:B5<=w11.heap.size:=Ra hB (Ra R10.out.size T11.size);clear f j l m u0 u1 T11 F11;go_wp2_with fail;refine(HB.out _).mono ?_;rintro e w12 ⟨rfl,o⟩;replace B11:=bA (nA B11.out o);replace T12:=bA (T12.out.later o);replace R12:=bA (vA R12.out o);have S12:=bA (S11.later o);have q1:=(QB4.out.later B11.out).cell 1;have hB12:B5<=w12.heap.size:=Ra hB11 o.size;clear o S11;cases hJ:J3.toList.isEmpty
     ·go_wp2_with(at_builtin;refine cK rfl _ _ rfl underlying23 xV rfl (by omega) (by omega) (v:=v) rfl R12.out rfl rfl (cs:=#[.int .i64 1,.string q,.string J3,.int .i64 0]) rfl (by simp[Value.oneCell']) (by omega) (by omega) ?_;intro g5 cap5 w13 HO HT HA);have FL:dF (S3++[⟨1,q,J3,0⟩])=dF S3++[.int .i64 1,.string q,.string J3,.int .i64 0]:=by simp[dF]
      have TT:aI w13 (fun g=>(Value.slice (some ⟨g5,0,none⟩) (S3.length+1) cap5).ownBlock≠some g/\g≠t.heap.size) b9 J2:=(T12.out.lt.turn HT.out fun g h e=>h.1.1 e.2).mono fun g h=>⟨fun e=>by
       obtain rfl:g5=g:=by simpa[Value.ownBlock]using e
       rcases HA.out with h'|h'
       ·exact h.1.1 h'
       ·have:=h.2;omega,h.1.2⟩
      exact⟨⟨k+1,b9,d9,_,by omega,by go_num,rfl,by rw[ES.out.2.1],bA (B11.out.trans (HT.out.below B11.out.size fun i hi e=>by have:=e.1;omega)),bA (by rw[ES.out.1];exact HT.out.blk S12.out (fun e=>by have:=e.1;omega)),bA (by rw[ES.out.1];exact TT),bA (by rw[ES.out.2.2,nsn,Oa (by rw[hJ];simp),FL,Za];exact HO.out),Ra hB12 HT.out.size⟩,by simp[intOf];omega⟩
     ·go_wp2;exact⟨⟨k+1,b9,d9,v,by omega,by go_num,rfl,by rw[ES.out.2.1],B11,bA (by rw[ES.out.1];exact S12.out),bA (by rw[ES.out.1];exact T12.out),bA (by rw[ES.out.2.2,nsn,Qa hJ,Id];exact R12.out),hB12⟩,by simp[intOf];omega⟩
    ·as_aux_lemma=>
     obtain rfl:k=n.length:=by omega
     have hl:sQ c N.now q N.ts (n.take n.length)=W:=by rw[Wb];exact hW.out.symm
     have hbd:=HBD.out n.length (Ka _);rw[hl]at hbd R0 |-
     clear hl hW HBD HJ HSZ SB T5;obtain⟨W1,W2,W3⟩:=W;dsimp only at *;obtain⟨-,-,s3,s4,s5,s6⟩:=hbd;have s7:W3.length+pC W3<=240000:=by omega
     have HN0:=bA (fun W=>aD 0 W (by omega) (by omega));have HN2:=bA (fun W=>aEx (n.length:Nat) W (by omega) (by omega));have z0:=iA 1 0;have z2:=iA 2 (n.length:Nat);generalize fA 1 0=S0 at *;generalize fA 2 (n.length:Nat)=U2 at *;obtain⟨H0,hH0⟩:∃h,h=S0++U2++W2:=⟨_,rfl⟩
     rw[<-hH0]at E;replace hH0:=bA hH0;have m1:¬(9223372036854775807<S0.size+U2.size):=by omega
     have m2:¬(9223372036854775807<S0.size+U2.size+W2.size):=by omega
     clear z0 z2 s3 s4 s5;replace P:=bA (P.out.later y.out);replace I:=bA (I.out.later y.out);have QB5:=bA (QB4.out.later y.out);obtain⟨z,F,G,H,K,L,O,T,U,X,Y,Z,y2,y3,y4⟩:=P.out.cells rfl;go_upto_region 26 with fail;go_cut [19] (fun v wx=>v=.string H0/\Below wr.heap.size wr wx)
     case first=>as_aux_lemma=>
      have HK:Hid (∀w',Below wr.heap.size wr w'->w'.cell? ⟨Q,4,none⟩=some (.slice av n.length cv)):=fun w' h=>(QB5.out.later h).cell 4;go_region_held3 (fun w'=>w'.cell? ⟨Q,4,none⟩=some (.slice av n.length cv))
       (first|with_reducible exact HK.out _ r2|with_reducible exact HK.out _ r1|with_reducible exact HK.out _ ((Below.refl _ _).drew))
       (first
        |(go_at_call 79;refine(HN0.out _).mono ?_;rintro e u1 ⟨rfl,o⟩;have r1:Below wr.heap.size wr u1:=(by with_reducible exact nA ((Below.refl _ _).drew) o))
        |(go_at_call 26;with_reducible refine(HN2.out _).mono ?_;rintro e u2 ⟨rfl,o⟩;have r2:Below wr.heap.size wr u2:=(by with_reducible exact nA r1 o)))
      go_wp2_with fail;go_meet;exact⟨by rw[hH0.out],r2⟩
     obtain⟨rfl,o⟩:=hcut;rename World=>w6;replace P:=bA (P.out.later o);replace I:=bA (I.out.later o);replace R0:=bA (vA R0.out o);obtain⟨ra,rcap,rfl⟩:=xd R0.out;have RI:=bA (nK R0.out);clear o z F G H K L O T U X Y Z y2 y3 y4 HN0 HN2 m1 m2 QB5 QB4 SM y;obtain⟨z,F,G,H,K,L,O,T,U,X,Y,Z,y2,y3,y4⟩:=P.out.cells rfl;by_cases h0:W3=[]
     ·obtain rfl:V=(N,H0):=E.trans (Qa h0);subst h0;have bx:=P.out.R.box rfl;go_wp2;exact wG rfl rfl rfl rfl P.out I.out
     ·have HNA:=bA (fun W (h:tO W a1 b1 N) (hr:gF W ra W3)=>UN c (ca:=c1) (cb:=d1) (capr:=rcap) h hr s7 s6);replace E:=E.trans (Oa h0);unfold cz at HNA;generalize bJ c N W3=R at *;obtain⟨M,code⟩:=R;replace E:V=(M,gM M code H0):=E;subst E;dsimp only at HNA;unfold iD at HNA;have h1:¬W3.length=0:=fun e=>h0 (Qb.1 e);have h2:¬((W3.length:Nat):Int)=0:=by omega
      go_wp2_with fail;refine(HNA.out _ I.out RI.out.recs).mono ?_;rintro e w7 ⟨a5,c5,b5,d5,rfl,hF,hT,o⟩;replace P:=bA (P.out.later o);have F5:=bA hF;have T5:=bA hT;clear o hF hT HNA I z F G H K L O T U X Y Z y2 y3 y4;go_upto_region 30 with fail;refine JI (C:=fun W=>Code.wp prog _ _ _ W) ?_;intro w8 r XA;have hXR:w7.heap.size≠w.heap.size+1+1:=by have:=P.out.lt;omega
      replace P:=bA (P.out.later r);replace F5:=bA (F5.out.later r);replace T5:=bA (T5.out.later r);have xa:=XA;have rM:=yE a5 c5 b5 d5 M 82;have fM:=lE a5 c5 b5 d5 M;clear rN fN;replace XA:=bA XA;clear r;generalize w7.heap.size=X5 at *;go_wp2_with fail;refine(aU a5 b5 c5 d5 M _ _ _ F5.out T5.out).mono ?_;rintro e u2 ⟨a6,c6,b6,d6,rfl,hF,hT,o⟩;replace P:=bA (P.out.later o);have bx:=P.out.R.box rfl;go_wp2;exact oR rfl rfl rfl rfl P.out.R (mD _ _ _ _ _) (by omega) P.out.B hF hT
end
