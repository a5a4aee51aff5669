import Derived.Test.YtflbidbilgndeaaGreatDoorJ45
set_option maxRecDepth 100000
set_option maxHeartbeats 8000000
open Option renaming some->bA
open List renaming length->yA
namespace Go.Proofs.YtflbidbilgndeaaGreatDoor
open Value renaming string->oA,slice->pA,bool->qA
open Go renaming World->eA
open Go.RowKit Tryz
section
attribute [local go_sem] jH xH xN nB.drewI qN.drewI qN.new qN.alloc qN.alloc2
structure DuI(c:iC)(w W:World)(X lo:Nat)(qs:List QV)(a1:mC)(g g2:Nat)(a:mC)(bs:List Nat):Prop where
 C:nB W X #[zA c.w,zA c.tl,zA c.ml,zA c.sh,zA c.ha,zA c.sg] 24
 Q:TQ IL W lo X a1 qs
 S:∀k,k≤yA qs→∃b cb,(W.cell? (dB g (k*2))=bA (zA (nA c (rq qs) k).now)∧W.cell? (dB g (k*2+1))=bA (.slice b (yA (nA c (rq qs) k).ts) cb))∧xC W b (nA c (rq qs) k).ts
 R:∀k,k<yA qs→W.cell? (dB g2 k)=bA (oA (rA c (rq qs) k))
 G:g<W.1.size∧g2<W.1.size
 U:uk W W.1.size W.1.size a bs
 B:uB w W
theorem ns{w W:eA}{a:mC}{d:List Nat}(h:uk w w.1.size w.1.size a d)(f:uB w W):uk W W.1.size W.1.size a d:=by
 have k:=f.size;obtain h|⟨b,o,e,j,c,h⟩:=h;exact Ca h;exact La ⟨b,o,e,by omega,by omega,λi g=>⟨(h i g).1,(f.cell (p:=(dB b (o+i))) c).trans (h i g).2⟩⟩
theorem DuI.z{c:iC}{w W f:eA}{X l:Nat}{m:List QV}{h:mC}{g j:Nat}{a:mC}{i:List Nat}(H:DuI c w W X l m h g j a i)(d:uB W f):DuI c w f X l m h g j a i:=
 ⟨H.C.z d,H.Q.z d,λk e=>by
  obtain⟨b,n,⟨o,p⟩,q⟩:=H.S k e;exact⟨b,n,⟨(d.cell H.G.1).trans o,(d.cell H.G.1).trans p⟩,q.z d⟩,λk e=>(d.cell H.G.2).trans (H.R k e),⟨Bb H.G.1 d.size,Bb H.G.2 d.size⟩,ns H.U d,vB H.B d⟩
theorem aDs{a:List fB}(h:dG a<=600000):yA a<=maxLen/\∀i(h:i<yA a),yA a[i].M<=maxLen/\yA a[i].Z<=maxLen:=by
 obtain⟨f,g,_⟩:=lM a;have b:=nS (ts:=a) (by omega);refine⟨by unfold maxLen;omega,λi c=>?_⟩;obtain⟨j,k,l,d,e⟩:=b _ (Gb c);exact⟨Ua d (by decide),Ua e (by decide)⟩
theorem qg(c:iC)(a b:mC)(d f:Nat)(N:wC)(r:gG)(w:eA)(h:eX w a b N)(i:nC c N.now N.ts=true)(n:GdH c N r)(o:VR r)(g:uG w/\sI w/\fS w):
 Calls prog 7 #[rE c,.agg (sC a d b f N),oA (sK r)] w λe k=>TY (aZ c N r).1 (oA (aZ c N r).2) w e k:=by
 refine(ip c a b d f N r w h i n o g.1 g.2.1 g.2.2).mono ?_;rintro e k ⟨a,d,b,f,l,j,m⟩;exact⟨a,d,b,f,l,j.files,j.tens,m⟩
theorem aEs{W:eA}{B g n k a:Nat}{T:TypeId}{i:List StV}{z:StV}(h:W.ownsRow B T 2 (pA (yB g) n a) n (GL i))(f:i[k]?=bA z):W.cell? (dB g (k*2))=bA (zA z.now)/\W.cell? (dB g (k*2+1))=bA (pA z.b (yA z.ts) z.cb):=by
 have e:∀{l:List StV}{k:Nat},l[k]?=bA z->(GL l)[k*2]?=bA (zA z.now)/\(GL l)[k*2+1]?=bA (pA z.b (yA z.ts) z.cb):=by
  intro l;induction l with
  |nil=>intro k h;cases h
  |cons y r j=>
   intro k h;cases k with
   |zero=>cases h;exact⟨rfl,rfl⟩
   |succ k=>
    have:=@j k h;rw[Nat.succ_mul];exact this
 have c:=h.cells rfl _ _ (e f).1;have d:=h.cells rfl _ _ (e f).2;rw[ZF]at c d;exact⟨c,d⟩
theorem aOc{W:eA}{B g n k a:Nat}{T:TypeId}{c:iC}{f:Nat->gG}(h:W.ownsRow B T 1 (pA (yB g) n a) n (rsA c f n))(d:k<n):W.cell? (dB g k)=bA (oA (rA c f k)):=by
 have b:=h.cells rfl k (oA (rA c f k)) (by simp[rsA,d]);rw[ZF]at b;exact b
theorem bd(a:mC)(n cn:Nat)(w:eA)(hA:UC w w.1.size w.1.size a n)(hn:n<=maxLen)(hU:uG w)(hpw:sI w)(hS:fS w)(hE:UA w):
 dF 3 #[pA a n cn] w (qA true):=by
 unfold maxLen at hn;obtain⟨bs,rfl,hA2⟩:=aQc hA;have HA:=bB hA2;have HT:=bB (show(uG w/\sI w/\fS w)/\UA w from⟨⟨hU,hpw,hS⟩,hE⟩);by_cases hbn:(1048576:Int)<yA bs
 .go_enter func3,ntmps3;go_wp2;go_ret;exact⟨rfl,iD⟩
 have HN:=bB (show yA bs<=1048576 by omega);go_enter func3,ntmps3;go_wp2_with fail;refine(WD a cn bs w (by omega) HA.o).mono ?_;rintro e w1 ⟨H,a1,c1,v2,rfl,hqr,hql,hin,hb1⟩;have HQR:=bB hqr;have hdc:=oq bs;generalize aDx bs=c at *;have HC:cB (en c):=bB ⟨aEm hdc,by have:=hdc;unfold OM at this;simp[bC];omega⟩;have HRM:=bB (aGx HC.o (wm hin) hql);unfold rE;go_upto_region 4 with fail;refine eI (C:=λW=>Code.wp prog _ _ _ W) ?_;intro w2 hb2 CB hz2;have C2:=bB CB;have Q2:=bB (hin.z hb2);have B2:=bB (vB hb1 hb2);have HHR:=bB (λW h=>aEz c HC.o a1 c1 H w.1.size w1.1.size W h hql);unfold rE aDh at HHR;generalize w1.1.size=X at *;have x0:=C2.o.c6;go_wp2_with fail;refine(HHR.o _ Q2.o).mono ?_;rintro e w3 ⟨g,cap,g2,cap2,zs,rfl,hzl,hr1,hr2,hG,hz,hb3⟩;have P:=bB (show DuI c w w3 X w.1.size H a1 g g2 a bs from by
  refine⟨C2.o.z hb3,Q2.o.z hb3,λk hk=>?_,λk hk=>aOc hr2 hk,⟨(hr1.lt g rfl).2,(hr2.lt g2 rfl).2⟩,ns HA.o (vB B2.o hb3),vB B2.o hb3⟩;obtain⟨b,cb,hk⟩:=hz k hk;obtain⟨h1,h2⟩:=Pb.1 hk;exact⟨b,cb,aEs hr1 hk,(hG _ (List.mem_iff_getElem.2 ⟨_,h1,h2⟩)).1⟩)
 have HNO:=bB (an c w3 HC.o.1 (HT.o.1.1.z P.o.B) (HT.o.1.2.1.z P.o.B));unfold TY rE at HNO;have x0:=P.o.C.c6;have fz:=vN;go_wp2_with fail;refine HNO.o.mono ?_;rintro e w4 ⟨a4,ca4,b4,cb4,rfl,M,Z,x⟩;replace P:=bB (P.o.z x);have FT:=bB (Vc M Z);go_upto_region 6 with fail;refine JO (C:=λW=>Code.wp prog _ _ _ W) ?_;intro w5 hb5 NB;have D5:=bB NB;have F5:=bB (Vc (FT.o.1.z hb5) (FT.o.2.z hb5));obtain⟨Y,hY⟩:∃Y,Y=w4.1.size:=⟨_,rfl⟩
 have B5:cB (Below Y w4 w5):=by rw[hY];exact hb5
 rw[<-hY]at D5 |-
 have HP:cB (∀W,Below Y w4 W->DuI c w W X w.1.size H a1 g g2 a bs):=bB (by rw[hY];exact λW o=>P.o.z o);have hYX:X<Y:=by have:=aB P.o.C;omega
 have hYs:Y<=w4.1.size:=Nat.le_of_eq hY;clear hY hb5 NB FT P;go_wp2;go_loopw [10,11,12,13,14,15,16,42] (λ_ _ _ _ _ _ _ i wr=>∃(j:Nat)(A:wC)(a:mC)(ca:Nat)(b:mC)(cb:Nat),j<=yA H/\i=zA j/\nA c (rq H) j=A/\cB (nB wr Y (sC a ca b cb A) 42)/\cB (tB wr a A.d.fs/\xC wr b A.ts)/\cB (Below Y w4 wr)) (λ_ _ _ _ _ _ _ i _=>yA H-(intOf i).toNat)
 case atStart=>exact⟨0,nd1,a4,ca4,b4,cb4,Oa _,rfl,rfl,D5.o,F5.o,B5.o⟩
 case round=>
  clear D5 F5 B5;obtain⟨j,A,T,F,K,t,hj,rfl,hnj,DB,FT,WB⟩:=hrel;by_cases hjl:j<yA H
  .have hjl':(j:Int)<(yA H:Nat):=by omega
   obtain⟨g1,rfl,hg1,r,hpart⟩:=(HP.o _ WB.o).Q.at hjl;have x0:=r 0 (by decide);have x1:=r 1 (by decide);have x2:=r 2 (by decide);have x3:=r 3 (by decide);have x4:=r 4 (by decide);simp only[IL,Ob,Ga,Bg]at x0 x1 x2 x3 x4;have HPA:=bB (QV.said hpart);have hrm:=HRM.o j hj;rw[hnj]at hrm;have hsm:=wm (HP.o _ WB.o).Q j hjl;have hn1:nA c (rq H) (j+1)=(aZ c A (rq H j)).1:=by rw[<-hnj];rfl
   have hr1:rA c (rq H) j=(aZ c A (rq H j)).2:=by rw[<-hnj];rfl
   rw[cu hjl]at hsm hn1 hr1;have HG:=bB (Vc hrm (cj HC.o hrm (by omega) hsm));clear r hpart hsm hrm;generalize H[j]=q at *;go_upto_region 11 with fail;refine eI (C:=λW=>Code.wp prog _ _ _ W) ?_;intro w6 hb6 QB hz6;clear hz6 x0 x1 x2 x3 x4 hg1;have HBW:=bB (λW(o:uB wr W)=>WB.o.trans (o.mono (Vg (aB DB.o))));have HHE:=bB (λW(o:uB wr W)=>qg c T K F t A q.req W (aFb (FT.o.1.z o) (FT.o.2.z o) HG.o.1.I (by omega)) HG.o.1.I.st HG.o.2.1 HPA.o.2.1 (let B:=(HP.o _ (HBW.o W o)).B;⟨HT.o.1.1.z B,HT.o.1.2.1.z B,HT.o.1.2.2.z B⟩));have D6:=bB (DB.o.z hb6);have W6:=bB (HBW.o _ hb6);have P6:=bB (HP.o _ W6.o);obtain⟨hsm,hvr,hxs⟩:=HPA.o;have hqy:yA q.req.P=yA q.ys:=Xa ..;have HER:=bB (λW(o:uB wr W)=>oU q.req q.a q.c W (hsm.z o) hvr);rw[hqy]at HER;have HGM:=bB (Vc HG.o.1 HG.o.2.2);unfold TY rE at HHE;generalize aZ c A q.req=V at *;obtain⟨f,rp⟩:=V;dsimp only at HHE hn1 hr1 HGM;replace HER:cB (∀W,uB wr W->dF 8 #[.agg #[zA q.K,oA q.T,oA q.R,zA q.U,pA q.a (yA q.ys) q.c]] W (oA (sK q.req))):=HER;clear hsm hvr hxs hqy HPA HG;generalize sK q.req=tx at *;have hNl:=aB D6.o;have HB6:=bB hb6;have HK:=bB (λu(h:uB w6 u)=>(show(nB u Y (sC T F K t A) 42)/\(tC u X 0 (zA c.w)/\tC u X 1 (zA c.tl)/\tC u X 2 (zA c.ml)/\tC u X 3 (zA c.sh)/\tC u X 4 (zA c.ha)/\tC u X 5 (zA c.sg))/\(tC u wr.1.size 0 (zA q.K)/\tC u wr.1.size 1 (oA q.T)/\tC u wr.1.size 2 (oA q.R)/\tC u wr.1.size 3 (zA q.U)/\tC u wr.1.size 4 (pA q.a (yA q.ys) q.c)) from⟨D6.o.z h,(P6.o.C.z h).c6,(QB.z h).c5⟩));have k0:=HK.o w6 iD;have rN:=yG T F K t A 42;have fN:=qF T F K t A;go_upto_region 12 with fail;go_cut [13,14] (λp s wx=>∃X5 T F K t,p=.pointer (yB X5)/\s=oA rp/\w6.1.size<=X5/\nB wx X5 (sC T F K t f) 42/\tB wx T f.d.fs/\xC wx K f.ts/\uB w6 wx)
   case first=>as_aux_lemma=>
    go_region_held3 (λu=>(nB u Y (sC T F K t A) 42)/\(u.cell? (dB X 0)=bA (zA c.w)/\u.cell? (dB X 1)=bA (zA c.tl)/\u.cell? (dB X 2)=bA (zA c.ml)/\u.cell? (dB X 3)=bA (zA c.sh)/\u.cell? (dB X 4)=bA (zA c.ha)/\u.cell? (dB X 5)=bA (zA c.sg))/\(u.cell? (dB wr.1.size 0)=bA (zA q.K)/\u.cell? (dB wr.1.size 1)=bA (oA q.T)/\u.cell? (dB wr.1.size 2)=bA (oA q.R)/\u.cell? (dB wr.1.size 3)=bA (zA q.U)/\u.cell? (dB wr.1.size 4)=bA (pA q.a (yA q.ys) q.c)))
     (first|with_reducible exact HK.o _ iD.drew|with_reducible exact HK.o _ (zB.drew)|with_reducible exact HK.o _ z|with_reducible exact HK.o _ (vB z zB)|with_reducible exact HK.o _ E|with_reducible exact HK.o _ (vB E zB)|with_reducible exact HK.o _ (UG E (Ia _))|with_reducible exact HK.o _ (UG E z.size)|with_reducible exact HK.o _ (UG (vB E zB) E.size))
     (first
     |(go_at_call 8;refine lC (HER.o _ (by first|with_reducible exact vB HB6.o iD.drew|with_reducible exact vB HB6.o (zB.drew))) ?_;intro u1 x;have z:uB w6 u1:=(by first|with_reducible exact vB iD.drew x|with_reducible exact vB (zB.drew) x);have k1:=HK.o _ z;(first|(have hz:=uK x)|skip))
     |(go_at_call 7;refine(HHE.o _ (by first|with_reducible exact vB HB6.o z|with_reducible exact vB HB6.o (vB z zB))).mono ?_;rintro e u2 ⟨T,F,K,t,rfl,M,Z,x⟩;have E:uB w6 u2:=(by first|with_reducible exact vB z x|with_reducible exact vB (vB z zB) x);have k2:=HK.o _ E;(first|(have hz:=hz.z x)|(have hz:nB _ u1.1.size _ _:=sM x)|skip);(try (have bx:=hz.box rfl))))
    all_goals(go_wp2_with fail;go_meet)
    .exact sS (nB.new u2 _ _) E.size (vB E zB) (M.z zB) (Z.z zB)
    .exact sS hz z.size E M Z
    exact sS hz (Ia _) E M Z
   obtain⟨X5,a2,ca2,b2,cb2,rfl,rfl,hX5,XB,M,Z,hb7⟩:=hcut;rename eA=>w7;have N7:=bB XB;have D7:=bB (D6.o.z hb7);have F7:=bB (Vc M Z);have T7:=bB (FT.o.2.z (vB hb6 hb7));have W7:=bB (HBW.o _ (vB hb6 hb7));have P7:=bB (HP.o _ W7.o);have hX5Y:Y<X5:=by have:=aB D6.o;omega
   clear M Z hb6 hb7 P6 D6 HK HER HHE HB6 QB k0 rN fN DB FT WB hNl W6 HBW XB hX5;obtain⟨b,cb,hs,hsT⟩:=P7.o.S j hj;rw[hnj]at hs hsT;have hst:=aDs (Ua HGM.o.1.I.w (by omega));have L:=bB (λW(o:uB w7 W)=>LN A.now K b t cb A.ts W (T7.o.z o) (hsT.z o) hst.1 hst.2);have HK3:=bB (λW(o:uB w7 W)=>show(tC W g (j*2) (zA A.now)/\tC W g (j*2+1) (pA b (yA A.ts) cb))/\tC W Y 0 (pA T (yA A.d.fs) F)/\tC W Y 9 (zA A.now)/\tC W Y 10 (pA K (yA A.ts) t) from⟨⟨(o.cell P7.o.G.1).trans hs.1,(o.cell P7.o.G.1).trans hs.2⟩,(D7.o.z o).cell 0,(D7.o.z o).cell 9,(D7.o.z o).cell 10⟩);clear hs hsT hst T7;have s0:=HK3.o w7 iD;have hgg:=P7.o.G.1;have hjm:(j:Int)<(yA H:Int)+1:=by omega
   go_upto_region 13 with fail;go_cut [74] (λv wx=>v=qA false/\uB w7 wx)
   case first=>as_aux_lemma=>
    go_region_held3 (λW=>(W.cell? (dB g (j*2))=bA (zA A.now)/\W.cell? (dB g (j*2+1))=bA (pA b (yA A.ts) cb))/\W.cell? (dB Y 0)=bA (pA T (yA A.d.fs) F)/\W.cell? (dB Y 9)=bA (zA A.now)/\W.cell? (dB Y 10)=bA (pA K (yA A.ts) t))
     (first|with_reducible exact HK3.o _ z|with_reducible exact HK3.o _ iD.drew)
     (first|(go_at_call 9;apply lC (L.o _ iD.drew);intro u1 x;have z:uB w7 u1:=(by with_reducible exact vB iD.drew x)))
    all_goals(go_wp2_with fail;go_meet)
    all_goals with_reducible exact⟨rfl,z⟩
   obtain⟨rfl,hb8⟩:=hcut;rename eA=>w8;have XB:=N7.o.z hb8;have D8:=bB (D7.o.z hb8);have F8:=bB (Vc (F7.o.1.z hb8) (F7.o.2.z hb8));have W8:=bB (W7.o.trans (hb8.mono (Vg (aB D7.o))));have bx:=D8.o.box rfl;have rM:=yG a2 ca2 b2 cb2 f 42;have fM:=qF a2 ca2 b2 cb2 f;clear L HK3 s0 hgg hjm hb8 N7 D7 F7 W7 P7 b cb;go_upto_region 16 with fail;refine DP (C:=λW=>Code.wp prog _ _ _ W) D8.o ?_;intro w9 D9 T9;have HD9:=bB D9;have W9:=bB (W8.o.trans (T9.below (Ua hYs W8.o.size) λi hi e=>by omega));have F9:=bB (Vc (F8.o.1.store D8.o (zG _ _ _ _ _) T9) (F8.o.2.store D8.o (zG _ _ _ _ _) T9));clear D8 F8 W8 T9 bx rM fM XB D9 hX5Y;have P9:=bB (HP.o _ W9.o);have r0:=P9.o.R j hjl;rw[hr1]at r0;have hYw:=aB HD9.o;have HCR:=bB (λW(o:uB w9 W)=>oy c a2 ca2 (j+1) f HGM.o.2 (by omega) W (F9.o.1.z o));have eM:(⟨f.d,f.l,f.now,f.ts,f.lsn,false,true⟩:wC)=f:=by
    have h1:=HGM.o.2.up;have h2:=HGM.o.2.deg;cases f
    simp_all
   have HN2:=bB (λW T c'(o:uB w9 W)(M:tB W T f.d.fs)=>by
    have B:=(P9.o.z o).B;have h:=ao c HC.o T c' (j+1) f HGM.o.2 (by omega) W M (HT.o.1.1.z B) (HT.o.1.2.1.z B) (HT.o.2.z B);rw[eM]at h;exact h)
   unfold dkC at HCR HN2;unfold TY rE at HN2;clear eM;go_upto_region 18 with fail;clear r0;have D:=bB (λW(o:uB w9 W)=>show(tC W Y 0 (pA a2 (yA f.d.fs) ca2)/\tC W Y 1 (zA f.d.c)/\tC W Y 2 (zA f.d.k)/\tC W Y 3 (zA f.d.cr)/\tC W Y 4 (zA f.d.fl)/\tC W Y 5 (qA f.d.dn))/\(tC W X 0 (zA c.w)/\tC W X 1 (zA c.tl)/\tC W X 2 (zA c.ml)/\tC W X 3 (zA c.sh)/\tC W X 4 (zA c.ha)/\tC W X 5 (zA c.sg)) from by
    have h:=HD9.o.z o;exact⟨⟨h.cell 0,h.cell 1,h.cell 2,h.cell 3,h.cell 4,h.cell 5⟩,(P9.o.z o).C.c6⟩)
   have y0:=D.o w9 iD;clear fz;go_cut [15,16] (λp s wx=>∃X6 a6 ca6 b6 cb6,p=.pointer (yB X6)/\s=zA 0/\w9.1.size<=X6/\nB wx X6 (sC a6 ca6 b6 cb6 f) 42/\tB wx a6 f.d.fs/\xC wx b6 f.ts/\uB w9 wx)
   case first=>as_aux_lemma=>
    have fz:=vN;go_region_held3 (λW=>(W.cell? (dB Y 0)=bA (pA a2 (yA f.d.fs) ca2)/\W.cell? (dB Y 1)=bA (zA f.d.c)/\W.cell? (dB Y 2)=bA (zA f.d.k)/\W.cell? (dB Y 3)=bA (zA f.d.cr)/\W.cell? (dB Y 4)=bA (zA f.d.fl)/\W.cell? (dB Y 5)=bA (qA f.d.dn))/\(W.cell? (dB X 0)=bA (zA c.w)/\W.cell? (dB X 1)=bA (zA c.tl)/\W.cell? (dB X 2)=bA (zA c.ml)/\W.cell? (dB X 3)=bA (zA c.sh)/\W.cell? (dB X 4)=bA (zA c.ha)/\W.cell? (dB X 5)=bA (zA c.sg)))
     (first|with_reducible exact D.o _ iD.drew|with_reducible exact D.o _ (zB.drew)|with_reducible exact D.o _ z|with_reducible exact D.o _ (vB z zB)|with_reducible exact D.o _ E|with_reducible exact D.o _ (vB E zB)|with_reducible exact D.o _ (UG E (Ia _))|with_reducible exact D.o _ (UG E z.size)|with_reducible exact D.o _ (UG (vB E zB) E.size))
     (first
     |(go_at_call 10;refine(HCR.o _ (by first|with_reducible exact iD.drew|with_reducible exact zB.drew)).mono ?_;rintro e u1 ⟨T,c',rfl,hF1,x⟩;have z:uB w9 u1:=(by first|with_reducible exact vB iD.drew x|with_reducible exact vB (zB.drew) x);(first|(have hz:=uK x)|skip))
     |(go_at_call 6;refine(HN2.o _ T c' (by first|with_reducible exact z|with_reducible exact vB z zB) (by first|with_reducible exact hF1|with_reducible exact hF1.z zB)).mono ?_;rintro e u2 ⟨a6,ca6,b6,cb6,rfl,M,Z,x⟩;have E:uB w9 u2:=(by first|with_reducible exact vB z x|with_reducible exact vB (vB z zB) x);(first|(have hz:=hz.z x)|(have hz:nB _ u1.1.size _ _:=sM x)|skip);(try (have bx:=hz.box rfl))))
    all_goals(go_wp2_with fail;go_meet)
    .exact sS (nB.new u2 _ _) E.size (vB E zB) (M.z zB) (Z.z zB)
    .exact sS hz z.size E M Z
    exact sS hz (Ia _) E M Z
   obtain⟨X6,a6,ca6,b6,cb6,rfl,rfl,hX6,XB,M,Z,N⟩:=hcut;rename eA=>I;have N10:=bB XB;have T10:=bB Z;have DA:=bB (HD9.o.z N);have FA:=bB (Vc (F9.o.1.z N) (F9.o.2.z N));have WA:=bB (W9.o.trans (N.mono (Vg hYw)));have PA:=bB (HP.o _ WA.o);clear y0 D HN2 HCR XB M Z N P9 HD9 F9 W9 hYw hX6;obtain⟨m,hm⟩:∃m,m=j+1:=⟨_,rfl⟩
   have hwr:IntKind.i64.wrap ((j:Int)+1)=(m:Nat):=by rw[IntKind.wrap_i64];omega
   have hmm:(m:Int)<(yA H:Int)+1:=by omega
   obtain⟨b,cb,hs,hsT⟩:=PA.o.S m (by omega);rw[hm,hn1,<-hm]at hs;rw[hm,hn1]at hsT;have hst:=aDs (Ua HGM.o.2.I.w (by omega));replace hm:=bB hm;have L:=bB (λW K t(o:uB I W)(h:xC W K f.ts)=>LN f.now K b t cb f.ts W h (hsT.z o) hst.1 hst.2);have HK4:=bB (λW(o:uB I W)=>show(tC W g (m*2) (zA f.now)/\tC W g (m*2+1) (pA b (yA f.ts) cb))/\tC W X6 9 (zA f.now)/\tC W X6 10 (pA b6 (yA f.ts) cb6)/\tC W X6 11 (zA f.lsn)/\tC W Y 11 (zA f.lsn) from by
    have h:=N10.o.z o;exact⟨⟨(o.cell PA.o.G.1).trans hs.1,(o.cell PA.o.G.1).trans hs.2⟩,h.cell 9,h.cell 10,h.cell 11,(DA.o.z o).cell 11⟩)
   have s0:=HK4.o I iD;have hgg:=PA.o.G.1;go_upto_region 19 with fail;go_cut [109] (λv wx=>v=qA false/\uB I wx)
   case first=>as_aux_lemma=>
    go_region_held3 (λW=>(W.cell? (dB g (m*2))=bA (zA f.now)/\W.cell? (dB g (m*2+1))=bA (pA b (yA f.ts) cb))/\W.cell? (dB X6 9)=bA (zA f.now)/\W.cell? (dB X6 10)=bA (pA b6 (yA f.ts) cb6)/\W.cell? (dB X6 11)=bA (zA f.lsn)/\W.cell? (dB Y 11)=bA (zA f.lsn))
     (first|with_reducible exact HK4.o _ z|with_reducible exact HK4.o _ iD.drew)
     (first|(go_at_call 9;apply lC (L.o _ _ _ iD.drew (T10.o.z iD.drew));intro u1 x;have z:uB I u1:=(by with_reducible exact vB iD.drew x)))
    all_goals(go_wp2_with fail;go_meet)
    all_goals with_reducible exact⟨rfl,z⟩
   obtain⟨rfl,y⟩:=hcut;rename eA=>J;clear HK4 s0 N10 T10;have DB:=bB (DA.o.z y);have FB:=bB (Vc (FA.o.1.z y) (FA.o.2.z y));have WB:=bB (WA.o.trans (y.mono (Vg (aB DA.o))));have HK5:=bB (λW(o:uB J W)=>show(tC W g (m*2) (zA f.now)/\tC W g (m*2+1) (pA b (yA f.ts) cb))/\tC W Y 9 (zA f.now)/\tC W Y 10 (pA b2 (yA f.ts) cb2) from⟨⟨((vB y o).cell PA.o.G.1).trans hs.1,((vB y o).cell PA.o.G.1).trans hs.2⟩,(DB.o.z o).cell 9,(DB.o.z o).cell 10⟩);replace L:=bB (λW K t(o:uB J W)(h:xC W K f.ts)=>L.o W K t (vB y o) h);have s0:=HK5.o J iD;have hg1:=Bb hgg y.size;clear DA FA WA PA hs hsT hst y hgg;go_upto_region 21 with fail;go_cut [118] (λv wx=>v=qA false/\uB J wx)
   case first=>as_aux_lemma=>
    go_region_held3 (λW=>(W.cell? (dB g (m*2))=bA (zA f.now)/\W.cell? (dB g (m*2+1))=bA (pA b (yA f.ts) cb))/\W.cell? (dB Y 9)=bA (zA f.now)/\W.cell? (dB Y 10)=bA (pA b2 (yA f.ts) cb2))
     (first|with_reducible exact HK5.o _ z|with_reducible exact HK5.o _ iD.drew)
     (first|(go_at_call 9;apply lC (L.o _ _ _ iD.drew (FB.o.2.z iD.drew));intro u1 x;have z:uB J u1:=(by with_reducible exact vB iD.drew x)))
    all_goals(go_wp2_with fail;go_meet)
    all_goals with_reducible exact⟨rfl,z⟩
   obtain⟨rfl,O⟩:=hcut;rename eA=>w12;clear HK5 L s0 hg1;have DC:=DB.o.z O;have FC:=Vc (FB.o.1.z O) (FB.o.2.z O);have WC:=WB.o.trans (O.mono (Vg (aB DB.o)));replace DC:=bB DC;replace FC:=bB FC;replace WC:=bB WC;clear DB FB WB O hmm hwr hm;go_wp2;exact⟨⟨j+1,f,a2,ca2,b2,cb2,by omega,rfl,hn1,DC.o,FC.o,WC.o⟩,by simp[intOf];omega⟩
  obtain rfl:j=yA H:=by omega
  have P:=bB (HP.o _ WB.o);have HUN:=bB (aFa a a1 cn c1 w.1.size X bs H wr HN.o P.o.U P.o.Q HQR.o);have hnl:¬((yA H:Nat):Int)<(yA H:Nat):=by omega
  clear FT DB WB hnj;go_wp2_with fail;apply lC HUN.o;intro w6 x;have HB:=bB (vB P.o.B x);clear x HUN P;go_wp2;go_ret;exact⟨rfl,HB.o⟩
end
