import Derived.Test.YtflbidbilgndeaaGreatDoorJ35
import Derived.Laws.EntriesVeiled
set_option maxRecDepth 100000
set_option maxHeartbeats 8000000
open Bool renaming true->dA
open Option renaming some->bA,none->aA
open ByteArray renaming empty->kA
open List renaming length->yA
namespace Go.Proofs.YtflbidbilgndeaaGreatDoor
open Go renaming World->eA,Calls->gA,Value->iA
open Value renaming slice->pA,int->lA,string->oA
open IntKind renaming i64->mA
open Ending renaming returned->uA
open Go.RowKit Tryz
section
open Go.Maps
section
variable {w0 w W:eA} {D Lo:Nat} {r:gG} {sa:mC} {sc:Nat} {c:iC} {a:mC} {ca:Nat} {b:mC} {cb:Nat} {N:wC} {l m M:Nat} {B A:Nat→Prop}
theorem aOm{d:List sF}(h:(iE d).size<=60000):∀k(h:k<yA d),tJ d[k]<=300000:=λk i=>by
 have j:=zP d[k];have f:=aQ d k i;have e:=gI (d.take (k+1)) (d.drop (k+1));rw[Za,f]at e;have g:=Kd ByteArray.size e;simp only[Ka]at g;show yA d[k].B+bE d[k].B<=_;omega
theorem pe(h:qV Lo w0 w D r sa sc c a ca b cb N l m M B A)(p:r.K=1)(j:bD r.T=dA):
 gA prog 85 #[.pointer (bA ⟨D,0,aA⟩)] w λe w'=>FK (xP c N r) D r sa sc c l Lo w0 e w':=by
 rw[aOy h.gd.dg p j];obtain⟨_,_,_,_,_,T,_,hl5,_⟩:=h.req.1;have hex:(iE r.P).size<=60000:=by
  have e:sK r=pB 1 1++aN r.T++pB 2 (yA r.P:Nat)++iE r.P:=by simp[sK,p,bW,aW,qW,Wa]
  have:=h.req.2.1;rw[e]at this;simp only[Ka]at this;omega
 have t:=bB (aLz h.st r.T r.P hex hl5 T);have HSZ:=bB (aOm hex);have HBT:=bB (λk(p:k<yA r.P)=>h.bit _ (Gb p));have hbk:=h.bulk;have hM1:=h.hM;have HT:=bB (λW(j:eB B w W)=>(h.tabs j).1);have u:=bB (λW(j:eB B w W)=>j.blk h.dsk h.off);have HSM:=bB (λW(j:eB B w W)=>h.smp W (j.mono λi _ e=>Ca e));have HJ:=bB (λW K k(x:sF) la lc(hW:eB B w W)(hL:jE W K l m c N.now (jL c N.now r.T N.ts (r.P.take k)).1 (M+k))(hK:∀g,W.1.size<=g->K g)(hl:sD W la x.B)(hlc:yA x.B<=lc)(p:k<=yA r.P)(hx:tJ x<=300000)(hi:wU x.bits)=>aAs x la lc (u.o W hW) hL hK hl hlc (HT.o W hW) (by omega) hx hi (t.o k p).1 (by have:=(t.o k p).2.1;omega) (by omega) (by omega));have HSA:=bB (λW s(j:eB B w W)=>h.same j (s:=s));have HMD:=bB (λW e w1 w2 V v s(j:eB B w W)=>h.made j (V:=V) (v:=v) (s:=s) (e:=e) (w1:=w1) (w2:=w2));have a0:=bB (λW ar capr rs(j:eB B w W)(hr:tI W ar rs)(hz:yA rs+gD rs<=240000)(F:JK rs)(hG:uj c N rs)=>gj (capr:=capr) (u.o W j) (h.nap j hr hz F) (h.tabs j).1 (h.tabs j).2 h.gd.cf h.gd.b hG);have HGW:=bB h.gd.wr;have HLD:=bB h.led;have b0:=bB h.new;have hDw:=aB h.dsk;obtain⟨L,E⟩:∃W,W=jL c N.now r.T N.ts r.P:=⟨_,rfl⟩
 rw[<-E]at HGW |-
 replace E:=bB E;obtain⟨H0,z⟩:∃h,h=pB 1 0++pB 2 (yA r.P:Nat)++L.2.1:=⟨_,rfl⟩
 rw[<-z];replace z:=bB z;obtain⟨VR,o⟩:∃v,v=if L.2.2=[] then(N,H0) else((eG c N L.2.2).1,if mU (eG c N L.2.2).1 (eG c N L.2.2).2=0 then H0 else pB 1 (mU (eG c N L.2.2).1 (eG c N L.2.2).2)):=⟨_,rfl⟩
 rw[<-o];replace o:=bB o;have xx:=oI (u.o w (eB.refl _ _));have Z:=bB (λW(n:uB w W)=>show tC W D 4 (pA sa (yA r.P) sc) from(u.o W (eB.of n)).cell 4);go_enter func85,ntmps85;go_upto_region 1 with fail;go_cut [3] (λs wx=>∃g,s=pA (bA ⟨g,0,aA⟩) 2 2/\TE w wx g 2 [pB 1 0,pB 2 (yA r.P:Nat)])
 case first=>
  go_region_held3 (λw'=>w'.cell? ⟨D,4,aA⟩=bA (pA sa (yA r.P) sc))
   (first|go_keep|with_reducible exact Z.o _ k3|with_reducible exact Z.o _ k2|with_reducible exact Z.o _ iD.drew)
   (first
    |(go_at_call 26;apply lC (pH _ _);intro w2 hb2;have k2:uB w w2:=(by exact vB iD.drew hb2))
    |(go_at_call 156;apply lC (LR _ _);intro w3 hb3;have k3:uB w w3:=(by exact vB k2 hb3)))
  all_goals(go_wp2_with fail;go_meet)
  all_goals exact⟨_,rfl,⟨rfl,La ⟨_,2,_,rfl,k3.size,heap_alloc_new _ _,Ia _,by simp[maxLen],rfl,rfl⟩⟩,vB k3 zB⟩
 obtain⟨g0,rfl,T⟩:=hcut;rename eA=>w1;have U:=bB T;have xx:=oI (u.o _ (eB.of U.o.bel));have hz0:=gB 1 0;have hz2:=gB 2 (yA r.P:Nat);have Q0:cB (WQ w w1 B (λg=>B g/\g<w.1.size\/w1.1.size<=g) (pA (bA ⟨g0,0,aA⟩) 2 2) (pA aA 0 0) [pB 1 0,pB 2 (yA r.P:Nat)] [] l m c N.now N.ts M):=by
  have F:=zH U.o.row g0 rfl;have hg2:=jP U.o.row g0 rfl;have hs:=U.o.bel.size;refine⟨HLD.o.re λg F hB=>⟨U.o.bel.block g F,Ca ⟨hB,F⟩⟩,λg F=>La F,λg F=>F.elim (λe=>e.1) λe=>b0.o g (by omega),U.o.row,⟨rfl,Ca ⟨rfl,rfl⟩⟩,λq e=>?_,λq e=>by simp[iA.ownBlock]at e,eB.of U.o.bel⟩;obtain rfl:g0=q:=by simpa[iA.ownBlock]using e
  exact⟨λp=>p.elim (λe=>by omega) λe=>by omega,by simp[iA.ownBlock]⟩
 generalize (λg=>B g/\g<w.1.size\/w1.1.size<=g)=K0 at *;generalize pB 1 0=S0 at *;generalize pB 2 (yA r.P:Nat)=S2 at *;go_wp2;go_loopw [3,4,6,7,8,25] (λv3 v4 _ _ _ i wr=>∃(k:Nat)(g cv:Nat)(v:iA)(f:List jB)(K:Nat->Prop),k<=yA r.P/\i=lA mA k/\v3=pA (bA ⟨g,0,aA⟩) (yA f) cv/\v=v4/\yA f<=2+k/\cB (xF f=S0++S2++(jL c N.now r.T N.ts (r.P.take k)).2.1)/\cB (WQ w wr B K (pA (bA ⟨g,0,aA⟩) (yA f) cv) v f (jL c N.now r.T N.ts (r.P.take k)).2.2 l m c N.now (jL c N.now r.T N.ts (r.P.take k)).1 (M+k))) (λ_ _ _ _ _ i _=>yA r.P-(intOf i).toNat)
 case atStart=>exact⟨0,g0,2,_,[S0,S2],K0,Oa _,rfl,rfl,rfl,Ia _,by refine bB ?_;simp[xF,jL],Q0⟩
 case round=>
  obtain⟨k,g,cv,v,f,K,p,rfl,rfl,rfl,hpl,HC,Q⟩:=hrel;by_cases P:k<yA r.P
  .obtain ⟨b6,o6,a6,k6,rfl,hb6,g0',g1',hl6,hc6⟩:=(HSM.o _ Q.o.turn).atc P;have HJ1:=bB (λW5(hW:uB wr W5)=>HJ.o W5 K k r.P[k] a6 k6 (Q.o.turn.trans' (eB.of hW)) (Q.o.z hW).led (Q.o.z hW).new (hl6.z hW) hc6 p (HSZ.o k P) (HBT.o k P));have ES:=bB (TN (c:=c) (now:=N.now) (te:=r.T) (ts:=N.ts) r.P k P);have Y:=bB (aJf (c:=c) (now:=N.now) (ts:=(jL c N.now r.T N.ts (r.P.take k)).1) (te:=r.T) (x:=r.P[k]));obtain⟨_,_,s3,s4,_,_⟩:=t.o k p;have jc:=(qn (t.o k p).1 r.T r.P[k]).2.2.2;have hnb:¬b6=wr.1.size:=by omega
   unfold wrS at ES;generalize vI c N.now (jL c N.now r.T N.ts (r.P.take k)).1 r.T r.P[k]=J at *;generalize hS9:jL c N.now r.T N.ts (r.P.take k)=S at *;generalize r.P[k].bits=bi at *;generalize r.P[k].B=ls at *;obtain⟨J1,J2,J3⟩:=J;obtain⟨S1,S2',S3⟩:=S;go_upto_region 6 with fail;refine eI (C:=λW=>Code.wp prog _ _ _ W) ?_;intro w8 hb8 X8 hz8;have xx:=X8.c2;have Q8:=bB (Q.o.z hb8);have H8:=bB hb8;go_wp2_with fail;refine(HJ1.o _ H8.o).mono ?_;rintro e w9 ⟨ky,rfl,hky,hL9,hT9⟩;have Q9:=bB (Q8.o.judged hL9 hT9);replace hky:=bB hky;have z3:=gB 1 (J1:Nat);go_wp2_with fail;apply lC (pH _ _);intro w10 n;have H:=bB (Q9.o.z n);have hw10:=H.o.turn.size;generalize pB 1 (J1:Nat)=U3 at *;go_wp2_with(at_builtin;refine kI rfl _ _ rfl underlying30 xK rfl (by omega) (by omega) rfl H.o.row3 rfl rfl (cs:=#[oA U3]) rfl (by simp[iA.oneCell']) (by omega) hw10 ?_;intro g5 X w11 HO HT5 HA5);have y:=bB (H.o.app3 (x:=U3) HO.o HT5.o HA5.o b0.o);have hle:yA (f++[U3])=yA f+1:=by simp
   have HC2:cB (xF (f++[U3])=S0++S2++(jL c N.now r.T N.ts (r.P.take (k+1))).2.1):=by
    show _=_;rw[ES.o,lG,HC.o];simp[xF,Wa]
   have hw11:=y.o.turn.size;apply dR (AD J1 w11);rw[<-hle];clear hle;have hps:yA (f++[U3])<=2+(k+1):=by simp;omega
   generalize f++[U3]=ps2 at *;obtain⟨hj,hJ⟩|⟨hj,hJ⟩:=Y.o
   .have G:(decide (J1=1) ||decide (J1=2))=dA:=by simpa using hj
    obtain rfl:=hky.o hJ;have ER:cB ((jL c N.now r.T N.ts (r.P.take (k+1))).2.2=S3++[⟨1,r.T,ky,0⟩]/\(jL c N.now r.T N.ts (r.P.take (k+1))).1=J2):=by
     refine bB ?_;rw[ES.o];exact⟨by simp[nsn,hJ],rfl⟩
    rw[G];have xx:=oI (u.o _ y.o.turn);go_wp2_with(at_builtin;refine kI rfl _ _ rfl underlying125 QW rfl (by omega) (by omega) (v:=v) rfl y.o.row4 rfl rfl (cs:=#[lA mA 1,oA r.T,oA ky,lA mA 0]) rfl (by simp[iA.oneCell']) (by omega) hw11 ?_;intro g6 cap6 w12 HO6 HT6 HA6);have I:=y.o.app4 (x:=⟨1,r.T,ky,0⟩) HO6.o HT6.o HA6.o b0.o;rw[<-ER.o.1,<-ER.o.2]at I;replace I:=bB I;have hl2:yA (jL c N.now r.T N.ts (r.P.take (k+1))).2.2=yA S3+1:=by rw[ER.o.1];simp
    rw[<-hl2];exact⟨⟨k+1,g5,X,_,ps2,_,by omega,by go_num,rfl,rfl,hps,HC2,I⟩,by simp[intOf];omega⟩
   have G:(decide (J1=1) ||decide (J1=2))=false:=by simpa using hj
   have ER:cB ((jL c N.now r.T N.ts (r.P.take (k+1))).2.2=S3/\(jL c N.now r.T N.ts (r.P.take (k+1))).1=J2):=by
    refine bB ?_;rw[ES.o];exact⟨by simp[nsn,hJ],rfl⟩
   rw[G];go_wp2;exact⟨⟨k+1,g5,X,v,ps2,_,by omega,by go_num,rfl,rfl,hps,HC2,bB (by rw[ER.o.1,ER.o.2];exact y.o)⟩,by simp[intOf];omega⟩
  obtain rfl:k=yA r.P:=by omega
  have hl:jL c N.now r.T N.ts (r.P.take (yA r.P))=L:=by rw[Rb];exact E.o.symm
  have hbd:=t.o _ (Ia _);rw[hl]at hbd HC Q;obtain⟨W1,W2,W3⟩:=L;dsimp only at *;obtain⟨-,-,s3,s4,s5,s6⟩:=hbd;have E2:cB (xF f=H0):=by rw[z.o];exact HC
  have hsz:fG f<=10000:=by rw[<-JT,E2.o,z.o,Ka,Ka];omega
  obtain⟨ra,rc,rfl⟩:=tF Q.o.row4;have RI:=bB (AW Q.o.row4).recs;have HJN:=bB (fun(W:eA)(hr:W.ownsRow w.1.size 9 1 (pA (bA ⟨g,0,aA⟩) (yA f) cv) (yA f) (f.map iA.string))=>by
   obtain⟨hcv,F,hcs⟩:=bH hr;have:=uI g (yA f) cv f W rfl hcs F hcv (by omega) (by omega);rw[E2.o]at this;exact this)
  cases W3 with
  |nil=>
   replace o:=bB (o.o.trans (Ma rfl));go_wp2_with(first|(go_at_call 160;apply lC (HJN.o _ Q.o.row3);intro w2 n;replace n:=bB n));go_ret;rw[o.o];exact HSA.o _ _ (Q.o.turn.trans' (eB.of n.o))
  |cons x1 xr=>
   replace o:=bB (o.o.trans (Ja (by simp)));replace a0:=bB (a0.o wr ra rc (x1::xr) Q.o.turn RI.o (by omega) s6 (HGW.o (by simp)));have hn:0<yA (x1::xr):=by simp
   generalize x1::xr=W3 at *;generalize eG c N W3=V at *;go_wp2_with fail;refine a0.o.mono ?_;rintro e w2 h2;have O:=bB h2;obtain⟨_,_,_,_,rfl,_,_,d⟩:=h2;have R2:=bB (d.row Q.o.row3 λq hq e=>by have:=zH Q.o.row3 q hq;omega);by_cases R:mU V.1 V.2=0
   .rw[R];replace o:=bB (o.o.trans (by rw[Ma R]));go_wp2_with(first|(go_at_call 160;apply lC (HJN.o _ R2.o);intro w3 n;replace n:=bB n));go_ret;rw[o.o];exact HMD.o _ _ _ _ _ _ _ Q.o.turn O.o n.o
   replace o:=bB (o.o.trans (by rw[Ja R]));have hs1:(mU V.1 V.2==0)=false:=by simpa using R
   go_wp2_with(first|(go_at_call 26;apply lC (pH _ _);intro w3 n;replace n:=bB n));go_ret;rw[o.o];exact HMD.o _ _ _ _ _ _ _ Q.o.turn O.o n.o
end
end
section
open Go.Maps
section
variable {w0 w W:eA} {D Lo:Nat} {r:gG} {sa:mC} {sc:Nat} {c:iC} {a:mC} {ca:Nat} {b:mC} {cb:Nat} {N:wC} {l m M:Nat} {B A:Nat→Prop}
theorem qV.z(h:qV Lo w0 w D r sa sc c a ca b cb N l m M B A)(d:uB w W):qV Lo w0 W D r sa sc c a ca b cb N l m M B A:=
 { h with
  dsk:=h.dsk.z d
  led:=h.led.z d
  new:=λg e=>h.new g (Ua d.size e)
  node:=h.node.z d
  apart:=λg e=>⟨(h.apart g e).1,(h.apart g e).2.1,Bb (h.apart g e).2.2 d.size⟩
  base:=vB h.base d
  smp:=λf i=>h.smp f ((eB.of d).trans' i) }
theorem aIc{c:iC}{N:wC}{r:gG}(d:N.deg=false)(e:r.K≠2/\r.K≠4)(f:bD r.T=false):xP c N r=(N,pB 1 2):=by
 unfold xP;rw[Ja (by simp[d]),Ma ⟨e,f⟩]
theorem od(h:qV Lo w0 w D r sa sc c a ca b cb N l m M B A)(I:fS w):
 gA prog 28 #[.pointer (yB D)] w λe w'=>FK (xP c N r) D r sa sc c l Lo w0 e w':=by
 obtain⟨⟨O,k6⟩,_,_,_,_,F,E,_,_⟩:=h.req.1;have Y:=bB (λW s(o:uB w W)=>h.same (eB.of o) (s:=s));have G:=bB (λW(o:uB w W)=>h.z o);have y:=bB (λW=>wM r.T W (by unfold maxLen;omega));have C:=bB (aIc (c:=c) (N:=N) (r:=r) h.gd.dg);have J:=h.gd.dg;have t:=λk j(v:k<7) G=>I.2 k j v G;have Q:=bB (λW(o:uB w W)=>pe (h.z o));have R:=bB (λW(o:uB w W)=>zm (h.z o));have S:=bB (λW(o:uB w W)=>pd (h.z o));have T:=bB (λW(o:uB w W)=>zc (h.z o));have U:=bB (λW(o:uB w W)=>pa (h.z o));have X:=bB (λW(o:uB w W)=>ze (h.z o));have G:=bB (λW(o:uB w W)=>oI (h.dsk.z o));have L:r.T.size+r.R.size<=200000:=by omega
 have Z:∀(H:Fn)(first z:Array iA)(w:eA),(Instr.makeFunc H first z).run prog w=.ok (.func H first z) w:=λ_ _ _ _=>rfl;clear h I F E;obtain⟨K,v,Z,h⟩:∃K:Nat,r.K=K/\1<=K/\K<=6:=⟨r.K.toNat,by omega,by omega,by omega⟩
 have d:=t K 0 (by omega) (by omega);have f:=t K 1 (by omega) (by omega);have g:=t K 2 (by omega) (by omega);have i:=t K 3 (by omega) (by omega);have n:=t K 4 (by omega) (by omega);clear O k6 t;generalize xP c N r=V at *;obtain rfl|rfl|rfl|rfl|rfl|rfl:K=1\/K=2\/K=3\/K=4\/K=5\/K=6:=by omega
 all_goals
  simp[shB,bW,aW,qW]at d f g i n;have P:=G.o _ iD;simp only[v]at P;replace v:=bB (show r.K=_ from v);rw[J]at P;clear J;cases hn:bD r.T
  all_goals
   rw[hn]at y;have u:=bB hn;have q:=v;clear hn G;go_enter func28,ntmps28;go_wp2_with(first
    |(go_at_call 84;apply dR (y.o _))
    |(go_at_call 26;apply lC (pH _ _);intro x o;replace o:=bB o)
    |(go_at_call 85;refine(Q.o _ (vB zB zB) q.o u.o).mono ?_;rintro e x p;have O:=bB p;obtain⟨_,_,_,_,rfl,_⟩:=p)
    |(go_at_call 86;refine(R.o _ (vB zB zB) q.o).mono ?_;rintro e x p;have O:=bB p;obtain⟨_,_,_,_,rfl,_⟩:=p)
    |(go_at_call 87;refine(S.o _ (vB zB zB) q.o u.o L).mono ?_;rintro e x p;have O:=bB p;obtain⟨_,_,_,_,rfl,_⟩:=p)
    |(go_at_call 88;refine(T.o _ (vB zB zB) q.o).mono ?_;rintro e x p;have O:=bB p;obtain⟨_,_,_,_,rfl,_⟩:=p)
    |(go_at_call 89;refine(U.o _ (vB zB zB) q.o u.o L).mono ?_;rintro e x p;have O:=bB p;obtain⟨_,_,_,_,rfl,_⟩:=p)
    |(go_at_call 90;refine(X.o _ (vB zB zB) q.o u.o (by omega)).mono ?_;rintro e x p;have O:=bB p;obtain⟨_,_,_,_,rfl,_⟩:=p))
   go_ret;first
    |exact O.o
    |(rw[C.o (by rw[v.o];decide) u.o];exact Y.o _ _ (vB zB o.o))
end
end
section
open Go.Maps
attribute [local go_sem] jH xH xN nB.drewI qN.drewI qN.new qN.alloc qN.alloc2
theorem tG.turned{S:Nat->Prop}{w l:eA}{B:Nat}{a:mC}{m:List sF}(h:tG w B a m)(e:eB S w l)(k:∀g,B<=g->g<w.1.size->¬S g):pJ l a m:=by
 obtain h|⟨g,o,n,t,T,rfl,p,q,u,h⟩:=h;exact Ca h;have b:=aB q;have s:=e.block g b (k g p b);exact La ⟨g,o,rfl,Bb b e.size,λi r=>((h i r).keep (λj _=>eA.cell?_of_block s) λf c d _=>⟨e.block f c (k f d c),rfl⟩).at⟩
theorem ip (c : iC) (a b : mC) (v p : Nat) (N : wC) (r : gG) (w : eA) (h : eX w a b N) (f : nC c N.now N.ts = dA) (q : GdH c N r) (G : VR r) (hU : uG w) (O : sI w) (D : fS w) :
    gA prog 7 #[rE c, .agg (sC a v b p N), oA (sK r)] w λe R => NaV (aZ c N r).1 (oA (aZ c N r).2) w e R := by
  have d := h.bulk;have H : cB (∀ W, uB w W -> gA prog 24 #[.agg (sC a v b p N)] W λe R => ∃ a v b p, e = uA (.agg (sC a v b p N)) /\ wJ R (λx => W.1.size <= x /\ x < R.1.size) a b N /\ uB W R) := λW F => mX a b v p N W (h.files.z F) h.fit.len (h.tens.z F) (by omega) (CH (by omega))
  have HO := bB (λW b p (F : uB w W) (ht : xC W b N.ts) => AP c N.now b p N.ts 1900000 W ht (wR (show yA N.ts + cC N.ts <= 1900000 by omega)).1 (by omega) (hU.z F));have u := bB (λW (F : uB w W) => il r W G (D.z F));have HG := bB q;have A : aZ c N r = xP c N r := if_neg (by simp [q.up]);rw [A];have HOK := bB (And.intro G.ok (And.intro G.sz G.U));have HBT : cB (∀ x ∈ r.P, wU x.bits) := λx Q => by obtain⟨i, hi, rfl⟩ := List.mem_iff_getElem.1 Q; exact G.bits i hi
  have HS0 := bB f;have I := bB (And.intro h.fit (And.intro h.bulk (And.intro h.rng (And.intro h.lsn h.now))));have E := bB (And.intro hU (And.intro O D));clear h d hU O D f G q A;unfold rE at *;unfold xn at u;unfold BG at HO;obtain⟨V, A⟩ : ∃ V, V = xP c N r := ⟨_, rfl⟩
  rw [<- A];replace A := bB A;generalize sK r = s at u |-
  have fz := vN
  go_enter func7, ntmps7
  go_upto_region 1 with fail
  have P := bB (NP.new (w := w) (c := c) (cs := sC a v b p N));generalize (((w.alloc (.cells #[lA mA c.w, lA mA c.tl, lA mA c.ml, lA mA c.sh, lA mA c.ha, lA mA c.sg] 24)).alloc (.cells (sC a v b p N) 42)).alloc (.cells (sC aA 0 aA 0 uP) 42)) = w1 at *;have t := P.o.cells rfl;have rN := yG a v b p N 42;have Z := qF a v b p N
  go_wp2_with fail
  refine(H.o _ P.o.B).mono ?_;rintro e w2 ⟨S, U, T, Y, rfl, n, d⟩;have h1 := P.o.lt;replace P := bB (P.o.z d);replace n := bB n;clear d rN Z t H;have t := P.o.cells rfl
  go_upto_region 2 with fail
  refine DP (C := λW => Code.wp prog _ _ _ W) P.o.N ?_;intro w3 hB D;replace P := bB (P.o.put hB D);replace n := bB ((n.o.turned D (λx Q _ e => by omega)).mono (A' := λx => w.1.size + 1 + 1 < x /\ x < w2.1.size) (λx Q => by omega));have hH := D.size;clear hB D t;have t := P.o.cells rfl;have rN := yG S U T Y N 42;have Z := qF S U T Y N
  go_wp2_with fail
  refine(HO.o _ _ _ P.o.B n.o.tens).mono ?_;rintro e w4 (⟨f, rfl, d⟩ | ⟨f, l, m, rfl, hl0, hL, d⟩)
  · rw [HS0.o] at f; cases f
  · have H3 := bB d
    have L4 := bB hL;have h3 := P.o.lt;have h34 := d.size;have P3 := P;replace P := bB (P.o.z d);replace n := bB (n.o.z d);have y := Nat.le_trans hH d.size;clear d hL t;have t := P.o.cells rfl;replace f := bB f
    · have hu := bB HG.o.up
      rw [hu.o] at rN Z
      go_wp2_with fail
      refine(u.o _ P.o.B).mono ?_;rintro e w5 ⟨av, M, rfl, hS, d⟩;have S5 := bB hS;have H5 := bB d;replace P := bB (P.o.z d);replace n := bB (n.o.z d);replace y := Nat.le_trans y d.size;have h45 := d.size;clear hS d t u
      go_upto_region 6 with fail
      refine eI (C := λW => Code.wp prog _ _ _ W) ?_;intro w6 k X6 z;replace z := bB z;have X := bB X6;have H6 := bB k;replace P := bB (P.o.z k);replace n := bB (n.o.z k);replace y := Nat.le_trans y k.size;have h56 := k.size;clear X6 k;have t := P.o.cells rfl;have xr := X.o.c5
      · go_upto_region 8 with fail
        clear Z fz
        go_upto_region 9 with fail
        refine eI (C := λW => Code.wp prog _ _ _ W) ?_;intro w7 j J hz7;replace J : nB w7 w6.1.size (NJ r av M c S U T Y N l) 87 := by unfold NJ; rw [hu.o]; exact J
        have h67 := j.size;have h7 := aB J;have b37 := bB (vB (vB (vB H3.o H5.o) H6.o) j);have K := bB (vB (vB H5.o H6.o) j);have L := bB (vB H6.o j);have h63 := z.o;have hw3 := P.o.B.size;have DK := bB (show qV (w.1.size + 1 + 1 + 1) w3 w7 w6.1.size r av M c S U T Y N l m 1900000 (λg => w3.1.size <= g /\ g < w4.1.size \/ w7.1.size <= g) (λx => w.1.size + 1 + 1 < x /\ x < w2.1.size) from
          { dsk := J
            led := L4.o.re λg q hB => ⟨K.o.block g q, Or.inl ⟨hB, q⟩⟩
            new := λg q => Or.inr q
            off := by omega
            old := λg q => by omega
            node := n.o.z j
            apart := λg q => ⟨⟨by omega, by omega⟩, by omega, by omega⟩
            lo := by omega
            base := b37.o
            utab := E.o.1.z P3.o.B
            pow := E.o.2.1.z P3.o.B
            fit := I.o.1
            bulk := I.o.2.1
            rng := I.o.2.2.1
            lsn := I.o.2.2.2.1
            now := I.o.2.2.2.2
            st := f.o
            gd := HG.o
            req := HOK.o
            bit := HBT.o
            smp := λW ht => S5.o.turned ((eB.of L.o).trans' ht) λg q hlt e => by omega
            hM := by omega })
        have o := od DK.o (E.o.2.2.z (P.o.z j).B);rw [<- A.o] at o;replace o := bB o;clear DK J j hz7 K L L4 S5 t xr h63 z
        go_wp2_with fail
        refine o.o.mono ?_;rintro e w8 ⟨a8, c8, b8, d8, rfl, X8, A8, B8⟩;have xd := oI X8;have P8 := bB (P3.o.z B8);have hA8 := bB A8;clear X8 A8 B8 o rN;clear A;obtain⟨M8, rep⟩ := V;dsimp only at *;have fM := qF a8 c8 b8 d8 M8;have t := P8.o.cells rfl
        go_wp2
        exact vt rfl rfl rfl rfl P8.o (hA8.o.mono λx Q => ⟨by omega, Q.2⟩) (Nat.le_refl _)
end
structure oa(K:yD)(L:iH)(gs:List (List jB))(g:List jB)(ck:Option jB):Prop where
 n:L.last=L.first+yA gs
 z:L.size=((fF g).size:Nat)
 f:∀i(h:i<yA gs),pY K.fs (zE (L.first+i)) (fF gs[i],((fF gs[i]).size:Nat))
 l:pY K.fs (zE L.last) (fF g,((fF g).size:Nat))
 c:∀j,pY K.fs FI j ↔ ∃t,ck=bA t∧j=(t,((t.size:Nat):Int))
section
variable {K K':yD} {L:iH} {gs:List (List jB)} {g:List jB} {ck:Option jB} {p:jB}
theorem oa.app(h:oa K L gs g ck)(d:1<=L.first)(l:L.last<=90)(a:MY K'.fs K.fs (zE L.last) (fF g++uD p,((fF g++uD p).size:Nat))):oa K' ⟨L.first,L.last,L.size+(uD p).size⟩ gs (g++[p]) ck:=
 ⟨h.n,by rw[EG,Ka,h.z];simp,λi b=>(a _ _).2 (by have:=h.n;rw[Ja λe=>by have:=jY (by dsimp only;omega) (by omega) e;dsimp only at this;omega];exact h.f i b),(a _ _).2 (by rw[Ma rfl,EG]),λj=>by rw[a,Ja (gO _).1.symm,h.c]⟩
theorem oa.new(h:oa K L gs g ck)(o:1<=L.first)(r:L.last<90)(a:MY K'.fs K.fs (zE (L.last+1)) (kA,0)):oa K' ⟨L.first,L.last+1,0⟩ (gs++[g]) [] ck:=by
 have d:=h.n;refine⟨by simp;omega,rfl,λi b=>?_,(a _ _).2 (by rw[Ma rfl];rfl),λj=>by rw[a,Ja (gO _).1.symm,h.c]⟩;simp only[Kb,List.length_singleton]at b;refine(a _ _).2 ?_;rw[Ja λe=>by have:=jY (by dsimp only;omega) (by omega) e;dsimp only at this;omega];by_cases e:i<yA gs
 .rw[Ve e];exact h.f i e
 obtain rfl:i=yA gs:=by omega
 rw[Re (Ia _)];simp only[Nat.sub_self,List.getElem_singleton];rw[<-d];exact h.l
theorem aKm{F G c:List iB}{x:jB}{a b:jB×Int}(h:MY F c x a)(k:MY G F x b):MY G c x b:=λy j=>by
 rw[k,h];by_cases e:y=x<;>simp[e]
variable {k m q:Nat}
theorem aDl(h:FM K k m)(l:eo K L q m)(s:oa K L gs g ck)(A:q<=80)(y:k<990)(u:m+(uD p).size<=1000000):∃K',kS K L (uD p)=(K',⟨L.first,L.last,L.size+(uD p).size⟩,0)/\FM K' (k+2) (m+(uD p).size)/\eo K' ⟨L.first,L.last,L.size+(uD p).size⟩ q (m+(uD p).size)/\oa K' ⟨L.first,L.last,L.size+(uD p).size⟩ gs (g++[p]) ck:=by
 obtain⟨j,w,x⟩:=l.b;have B:=l.z;have d:=eQ L.last (by omega) (by omega);have c:=s.l;obtain⟨v,n,r,a⟩:=aEv h (by omega) d c u;obtain⟨i,o,t,f⟩:=aEy r (by omega) d ((a _ _).2 (by rw[Ma rfl]));have e:=(l.put a ⟨_,c⟩).put f ((IH a).2 (Ca rfl));refine⟨i,?_,t,⟨l.b,by dsimp only;omega,e.lo,e.hi⟩,s.app j (by omega) (aKm a f)⟩;unfold kS yJ zR;rw[n];dsimp only;rw[o];rfl
theorem aIe(h:FM K k m)(l:eo K L q m)(s:oa K L gs g ck)(V:q<80)(T:k<980)(N:1<=p.size/\p.size<=60000)(U:m+8+p.size<=1000000){d:Int}(O:bC d 1 1000000000=dA):∃K' L' f y,dI K L p d=(K',L',0)/\FM K' (k+3) (m+8+p.size)/\eo K' L' (q+1) (m+8+p.size)/\oa K' L' f y ck/\f.flatten++y=gs.flatten++g++[p]:=by
 have B:=mO N;have I:uD p≠kA:=λe=>by rw[e]at B;simp at B;omega
 obtain⟨E,R,S⟩:=l.b;have M:=l.ok (by omega) (by omega);rw[show m+8+p.size=m+(uD p).size by omega];unfold dI;rw[Ja (by simp[M,O]),Ja I];split
 .have r:¬uh K.fs (zE (L.last+1)):=λJ=>by
   rcases l.hi _ J with e|⟨i,C,P,e⟩;exact (gO _).1 e;have:=jY (by omega) (by omega) e;omega
  obtain⟨D,F,G,u⟩:=qd h (by omega) (eQ _ (by omega) (by omega)) r;have Q:eo D ⟨L.first,L.last+1,0⟩ (q+1) m:=⟨by dsimp only;omega,by dsimp only;omega,λi A H=>(IH u).2 (by
   dsimp only at A H;by_cases e:i=L.last+1
   .exact Ca (by rw[e])
   .exact La (l.lo i A (by omega))),λx t=>by
   rcases(IH u).1 t with rfl|t;exact La ⟨_,by dsimp only;omega,Xd _,rfl⟩;rcases l.hi x t with e|⟨i,C,P,e⟩;exact Ca e;exact La ⟨i,C,by dsimp only;omega,e⟩⟩
  obtain⟨n,o,a,j,w⟩:=aDl (p:=p) G Q (s.new E (by omega) u) (by omega) (by omega) (by omega);refine⟨n,_,_,_,?_,a,j,w,by simp⟩;unfold aH;rw[Ja (by omega),F];dsimp only;rw[Ja (by simp),o]
 .obtain ⟨n,o,a,j,w⟩:=aDl (p:=p) h l s (by omega) (by omega) (by omega);exact⟨n,_,_,_,o,⟨a.v,a.c,a.cr,a.fl,a.dn,by have:=a.k;omega,by have:=a.l;omega,a.m⟩,⟨by dsimp only;omega,j.z,j.lo,j.hi⟩,w,by simp⟩
end
def NO:Int->List (List jB)->List iB
 |_,[]=>[]
 |x,g::gs=>⟨zE x,fF g,((fF g).size:Nat)⟩:: NO (x+1) gs
def ckF:Option jB->List iB
 |none=>[]
 |some t=>[⟨FI,t,(t.size:Nat)⟩]
theorem AZ{f:iB}:∀{l:List (List jB)}{x:Int},f∈NO x l ↔ ∃i,∃h:i<yA l,f=⟨zE (x+i),fF l[i],((fF l[i]).size:Nat)⟩
 |[],x=>by simp[NO]
 |g::l,x=>by
  rw[NO,Lb,@AZ f l (x+1)];constructor
  .rintro (rfl|⟨i,h,rfl⟩)
   .exact ⟨0,by simp,by simp⟩
   exact ⟨i+1,by simpa using h,by simp only[Ec,iB.mk.injEq,Cc];congr 1;omega⟩
  rintro ⟨i,h,rfl⟩;cases i with
  |zero=>exact Ca (by simp)
  |succ i=>exact La ⟨i,by simpa using h,by simp only[Ec,iB.mk.injEq,Cc];congr 1;omega⟩
theorem aOf:(List.range 91).all (λj=>(List.range j).all λi=>Op.bytesLess (KH i).toList (KH j).toList)=dA:=by kernel_rfl
theorem aOe{i j:Int}(a:1<=i)(h:i<j)(b:j<=90):Op.bytesLess (zE i).toList (zE j).toList=dA:=by
 have:=Ke.1 (Ke.1 aOf j.toNat (Xg.2 (by omega))) i.toNat (Xg.2 (by omega));unfold zE;rw[Ma (by omega),Ma (by omega)];exact this
theorem wh:∀{l:List (List jB)}{x:Int},1<=x->x+yA l<=91->(NO x l).Pairwise λa b=>Op.bytesLess a.N.toList b.N.toList=dA
 |[],x,_,_=>Gd
 |g::l,x,c,d=>by
  simp only[Zb]at d;refine List.Pairwise.cons (λf e=>?_) (wh (by omega) (by omega));obtain⟨i,h,rfl⟩:=AZ.1 e;exact aOe c (by omega) (by omega)
theorem AY:∀{l:List (List jB)}{x:Int},yA (NO x l)=yA l
 |[],x=>rfl
 |g::l,x=>by simp[NO,AY]
theorem YI:∀{l:List (List jB)}{x:Int}{i:Nat}(_:i<yA l),((NO x l)[i]'(by rw[AY];assumption)).N=zE (x+i)
 |g::l,x,0,_=>by simp[NO]
 |g::l,x,i+1,h=>by
  simp only[NO,Ec];rw[YI (by simpa using h)];congr 1;omega
section
variable {K:yD} {L:iH} {gs:List (List jB)} {g:List jB} {ck:Option jB} {k m q m':Nat}
theorem oa.at(s:oa K L gs g ck)(i:Nat)(h:i<yA (gs++[g])):pY K.fs (zE (L.first+i)) (fF (gs++[g])[i],((fF (gs++[g])[i]).size:Nat)):=by
 simp only[Kb,List.length_singleton]at h;by_cases e:i<yA gs
 .rw[Ve e];exact s.f i e
 obtain rfl:i=yA gs:=by omega
 rw[Re (Ia _)];simp only[Nat.sub_self,List.getElem_singleton];rw[<-s.n];exact s.l
theorem aMt{c:List iB}{x:jB}{a b:jB×Int}(h:pV c)(f:pY c x a)(i:pY c x b):a=b:=by
 obtain⟨_,_,d,_⟩:=CT h f;obtain⟨_,_,e,_⟩:=CT h i;exact d.symm.trans e
theorem aLv(h:FM K k m)(l:eo K L q m')(N:q<=80)(s:oa K L gs g ck):K.fs=ckF ck++NO L.first (gs++[g]):=by
 obtain⟨F,I,J⟩:=l.b;have M:=s.n;have O:yA (gs++[g])=yA gs+1:=by simp
 have v:∀{B:List iB},B.Pairwise (λa b=>Op.bytesLess a.N.toList b.N.toList=dA)->B.Nodup:=λh=>h.imp λh e=>by rw[e,yE]at h;cases h
 have D:K.fs.Pairwise λa b=>Op.bytesLess a.N.toList b.N.toList=dA:=Qe.2 λi j _ H A=>h.asc i j A H;have E:(ckF ck++NO L.first (gs++[g])).Pairwise λa b=>Op.bytesLess a.N.toList b.N.toList=dA:=by
  refine Ae.2 ⟨by cases ck<;>simp[ckF],wh F (by omega),λa C b G=>?_⟩;obtain⟨i,r,rfl⟩:=AZ.1 G;have e:a.N=FI:=by
   cases ck with
   |none=>cases C
   |some t=>rw[Uf.1 C]
  rw[e];exact lK _ _ (mc (by omega) (by omega)) λe=>(gO _).1 (toList_inj e)
 refine Qf (λa b _ _ z w=>by rw[eO z]at w;cases w) D E ((List.perm_ext_iff_of_nodup (v D) (v E)).2 λf=>?_);have u:∀y j,pY K.fs y j->(⟨y,j.1,j.2⟩:iB) ∈K.fs:=λy j ⟨f,o,z,w⟩=>by subst z w;exact o
 have mk:∀{a b c},f.N=a->f.data=b->f.Y=c->f=⟨a,b,c⟩:=by rintro _ _ _ rfl rfl rfl;rfl
 rw[Ee,AZ];constructor
 .intro o;have d:pY K.fs f.N (f.data,f.Y):=⟨f,o,rfl,rfl⟩
  rcases l.hi _ ⟨_,d⟩ with e|⟨i,P,Q,e⟩;rw[e]at d;obtain⟨t,rfl,p⟩:=(s.c _).1 d;obtain⟨p,x⟩:=Prod.mk.inj p;exact Ca (Uf.2 (mk e p x));refine La ⟨(i-L.first).toNat,by omega,?_⟩;have r:=s.at (i-L.first).toNat (by omega);rw[show L.first+((i-L.first).toNat:Int)=i by omega]at r |-
  rw[e]at d;obtain⟨p,x⟩:=Prod.mk.inj (aMt h.asc d r);exact mk e p x
 rintro (o|⟨i,r,rfl⟩)
 .cases ck with
  |none=>cases o
  |some t=>rw[Uf.1 o];exact u _ _ ((s.c _).2 ⟨t,rfl,rfl⟩)
 exact u _ _ (s.at i r)
end
section
variable {w0 w w':eA} {B P D:Nat} {K:yD} {L L':iH}
theorem aO.turnP(h:aO w0 w B P D K L)(d:eB (·=P) w w')(q:iX w' P D L'):aO w0 w' B P D K L':=by
 obtain⟨v,a⟩:=h.drive;refine⟨h.pow,h.below.trans (d.below h.below.size λk p e=>by have:=h.hP;omega),h.hB,h.hP,q,⟨v,a.from',d.blk a.blk λe=>?_,d.row a.row λg b e=>?_,a.apart⟩,h.valid⟩;have f:=a.blk;rw[e]at f;have c:=(show w.heap[P]?=_ from f).symm.trans h.wr;simp at c;obtain⟨o,_⟩|⟨n,j,l,m,_,i,_⟩:=a.row.2
 .rw[o]at b;cases b
 rw[m]at b;cases b
 rw[show n=P from e]at i;have c:=(show w.heap[P]?=_ from i).symm.trans h.wr;simp at c
theorem YJ{n:Int}{d:jB}{z:Int}(h:aO w0 w B P D K L)(m:pY K.fs (zE n) (d,z)):
 gA prog 197 #[.pointer (yB P),zA n] w λe w'=>∃g o,e=uA (.pointer (bA (dB g o)))/\w'.cell? (dB g (o+1))=bA (oA d)/\w'.cell? (dB g (o+2))=bA (zA z)/\uB w w':=by
 obtain⟨c,f,_⟩:=rG h.valid;obtain⟨v,u⟩:=h.drive;obtain⟨a,j,rfl,t⟩:=u.files;obtain⟨M,I,A,C⟩:=CT (gT c) m;obtain⟨b,o,rfl,k,J,r,s⟩:=t.at M;obtain⟨E,F⟩:=Prod.mk.inj A;rw[E]at r;rw[F]at s;have q:=bB (λW(i:uB w W)=>wL n W (h.tab.z i));have l:=bB (λW(i:uB w W)=>kO (bA (dB b o)) j K.fs (zE n) W (t.z i) (gT c) (by omega));rw[C]at l;have p:=bB (λW(i:uB w W)=>show(tC W P 0 (.pointer (yB D))/\tC W D 4 (pA (bA (dB b o)) (yA K.fs) j))/\tC W b (o+gC (zE n) K.fs*3+1) (oA d)/\tC W b (o+gC (zE n) K.fs*3+2) (zA z) from⟨⟨((h.z i).wr.cells).1,(u.z i).cell4⟩,(i.cell k).trans r,(i.cell k).trans s⟩);clear h m t u I A C E F J r s c f;generalize zE n=Q at *;generalize gC Q K.fs=O at *;generalize yA K.fs=N at *;go_enter func197,ntmps197;go_wp2_with fail;go_region_held3 (λW=>W.cell? (dB P 0)=bA (.pointer (yB D))/\W.cell? (dB D 4)=bA (pA (bA (dB b o)) N j))
  (first|exact(p.o _ y).1|exact(p.o _ x).1|exact(p.o _ iD.drew).1)
  (first
  |(go_at_call 126;apply lC (q.o _ iD.drew);intro R k;have x:uB w R:=vB iD.drew k)
  |(go_at_call 122;apply lC (l.o _ x);intro S k;have y:uB w S:=vB x k))
 all_goals
  obtain⟨⟨T,U⟩,G,H⟩:=p.o _ y;have Z:=bB (Vc G H);go_wp2;go_ret;exact⟨b,o+O*3,rfl,Z.o.1,Z.o.2,y⟩
theorem aBy{l:List (List jB)}{x:Int}(h:aO w0 w B P D K ⟨x,x+(yA l:Int)-1,0⟩)(hl:∀i(h:i<yA l),pY K.fs (zE (x+i)) (fF l[i],((fF l[i]).size:Nat)))(hp:∀i(h:i<yA l),xq l[i]/\(fF l[i]).size<=1000000)(hx:1<=x)(h0:0<yA l)(h9:x+yA l<=91):
 gA prog 127 #[.pointer (bA ⟨P,0,aA⟩)] w λe w'=>(∃z A,e=uA (.tuple #[pA z (yA l.flatten) A,.nilIface])/\w'.ownsRow w.1.size 9 1 (pA z (yA l.flatten) A) (yA l.flatten) (l.flatten.map iA.string))/\aO w0 w' B P D K ⟨x,x+(yA l:Int)-1,((fF (l[yA l-1]'(by omega))).size:Nat)⟩/\eB (·=P) w w':=by
 have H:=bB h;have HP:=bB hp;have HS:=bB (λi(hi:i<yA l) R W(hW:aO w0 W B P D K ⟨x,x+(yA l:Int)-1,R⟩)=>YJ hW (hl i hi));have c0:=aB h.wr;obtain⟨ti,k0,hz0,hz1,hz2⟩:=info_parts xK;obtain⟨xs,E⟩:∃xs,l.flatten=xs:=⟨_,rfl⟩
 rw[E];replace E:=bB E;have HI:=bB k0;have U:=h.wr.cells;go_enter func127,ntmps127;go_wp2;go_loopw [4,5] (λout i wr=>∃(j:Nat)(k:List jB)(R:Int)(z:mC)(A:Nat),j<=yA l/\yA k<=j*1000000/\cB (k=(l.take j).flatten)/\cB (0<j->∃hj:j-1<yA l,R=((fF l[j-1]).size:Nat))/\i=lA mA (x+j)/\out=pA z (yA k) A/\cB (wr.ownsRow w.1.size 9 1 (pA z (yA k) A) (yA k) (k.map iA.string))/\cB (aO w0 wr B P D K ⟨x,x+(yA l:Int)-1,R⟩)/\cB (eB (·=P) w wr)) (λ_ i _=>(x+yA l-intOf i).toNat)
 case atStart=>exact⟨0,[],0,aA,0,by omega,by simp,by simp[bB],bB (by omega),by simp,rfl,bB (by simpa using eA.ownsRow_nil _ _ _ _),H,eB.refl _ _⟩
 case round=>
  obtain⟨j,k,R,z,A,hj,hy,S,HZ,rfl,rfl,v,n,G⟩:=hrel;have U:=n.o.wr.cells;by_cases O:j<yA l
  .have Z:=HS.o j O R _ n.o;obtain⟨Q,hp2⟩:=HP.o j O;have g0:=JZ Q;have M:=show k++l[j]=(l.take (j+1)).flatten by rw[S.o,Pa O,List.flatten_append];simp
   have HV:=show jV (fF l[j])=(l[j],(fF l[j]).size) by have:=sr (t:=kA) (λh=>by have:=h.1;simp at this) Q;rwa [ByteArray.append_empty]at this
   obtain⟨F,m⟩:∃F,l[j]=F:=⟨_,rfl⟩
   obtain⟨T,N⟩:∃d,fF F=d:=⟨_,rfl⟩
   rw[m,N]at Z HV hp2 g0;rw[m]at M;have r:=λW=>aq T W (by omega);rw[HV]at r;replace S:=bB M;replace HZ:=bB (show 0<j+1->∃hj:j+1-1<yA l,(T.size:Int)=((fF l[j+1-1]).size:Nat) from λ_=>⟨by omega,by simp only[Nat.add_sub_cancel,m,N]⟩);replace Z:=bB Z;replace r:=bB r;go_wp2_with fail;refine Z.o.mono ?_;rintro e w1 ⟨b,o,rfl,g1,g2,C⟩;replace n:=bB (n.o.z C);replace v:=bB (hC v.o C);replace G:=bB (G.o.trans' (eB.of C));have U:=n.o.wr.cells;go_wp2_with fail;refine(r.o _).mono ?_;rintro e w2 ⟨a2,c2,rfl,j0,C⟩;replace n:=bB (n.o.z C);replace v:=bB (hC v.o C);replace G:=bB (G.o.trans' (eB.of C));have HST:=bB j0;have U:=n.o.wr.cells;have hsz:=G.o.size;by_cases hm:0<yA F
   .rcases HST.o with m|⟨g,o2,cur,c,rfl,hgB,hgb,e0⟩
    .rw[m]at hm;simp at hm
    have J:=bB (show ∀q u,(F.map iA.string)[q]?=bA u->w2.cell? ((⟨g,o2,aA⟩:Addr).add q)=bA u from λq u hq=>by
     rw[Se]at hq;obtain⟨y,hx,rfl⟩:=Wb.1 hq;obtain⟨i0,rfl⟩:=Pb.1 hx;rw[FR];exact e0 q i0)
    go_wp2_with(at_builtin;refine wpList_append_lies _ rfl _ _ _ rfl w.1.size 9 ti _ 1 16 underlying30 HI.o hz0 hz1 hz2 rfl (by omega) (pA z (yA k) A) (yA k) (k.map iA.string) rfl v.o ⟨g,o2,aA⟩ (yA F) c2 (F.map iA.string) rfl (by simp) J.o (by simp[iA.oneCell']) hm (by simp[maxLen];omega) (by omega) hsz w2.1.size rfl ?_;intro g5 b0 w5 s f d0 hlt5;have HO5:=bB s;have a0:=bB (G.o.trans ((eB.grown f).mono λi _ e=>La (v.o.lt i e).1));have I:=bB (show iX w5 P D ⟨x,x+(yA l:Int)-1,R⟩ from(eB.grown f).blk n.o.wr λe=>by have:=(v.o.lt P e).1;omega);have y3:=I.o.cells.2.2.2;have a:=nB.free I.o 3);have h6:=HO5.o;rw[<-Ld,<-Kb]at h6;exact⟨⟨j+1,k++F,T.size,bA ⟨g5,0,aA⟩,b0,by omega,by rw[Kb];omega,S,HZ,by go_num,by rw[Kb],bB (wQ h6 (p:=⟨P,3,aA⟩) c0 _),bB ((H.o.turnP a0.o I.o).set (L':=⟨x,x+(yA l:Int)-1,T.size⟩) 3 _ (by simp)),bB (a0.o.setCell (Ca rfl) 3 _)⟩,by simp[intOf];omega⟩
   obtain rfl:F=[]:=Nb.1 (by omega);have a:=nB.free n.o.wr 3;rw[Cd]at S;go_wp2_with(at_builtin;refine CL rfl _ _ _ rfl w.1.size 9 ti 1 underlying30 HI.o (pA z (yA k) A) (yA k) (k.map iA.string) rfl v.o a2 c2 rfl ?_);exact⟨⟨j+1,k,T.size,z,A,by omega,Ua hy (Nat.mul_le_mul_right _ (Gf _)),S,HZ,by go_num,rfl,bB (wQ v.o (p:=⟨P,3,aA⟩) c0 _),bB (n.o.set (L':=⟨x,x+(yA l:Int)-1,T.size⟩) 3 _ (by simp)),bB (G.o.setCell (Ca rfl) 3 _)⟩,by simp[intOf];omega⟩
  obtain rfl:j=yA l:=by omega
  go_wp2;go_ret2;obtain⟨_,rfl⟩:=HZ.o h0;have hY:=S.o;rw[Rb,E.o]at hY;subst hY;exact⟨⟨z,A,rfl,v.o⟩,n.o,G.o⟩
end
section
open Go.Maps
section
variable {w0 w W:eA} {B P D:Nat} {K:yD} {L:iH}
theorem aNj{n:Int}{d:jB}(h:aO w0 w B P D K ⟨L.first,n,d.size⟩)(b:pY K.fs (zE n) (d,(d.size:Nat))):
 dF 128 #[.pointer (yB P)] w .nilIface:=by
 have H:=bB h;have k:=bB (YJ h b);have c:=h.wr.cells;go_enter func128,ntmps128;go_wp2_with fail;refine k.o.mono ?_;rintro e q ⟨g,o,rfl,m,p,a⟩;replace H:=bB (Vc (H.o.z a) a);have c:=H.o.1.wr.cells;go_wp2_with fail;go_region
 go_wp2_with fail;go_region
 go_wp2;go_ret;exact⟨rfl,H.o.2.drew.drew⟩
theorem aLl{l:List (List jB)}{x:Int}{c:Nat}(h:aO w0 w B P D K ⟨0,0,0⟩)(U:∀i(h:i<yA K.fs),i<c/\K.fs[i].N=FI\/c<=i/\K.fs[i].N=zE (x+((i-c:Nat):Int)))(r:yA K.fs=c+yA l)(G:c<=1)(I:∀i(h:i<yA l),pY K.fs (zE (x+i)) (fF l[i],((fF l[i]).size:Nat)))(Z:∀i(h:i<yA l),xq l[i]/\(fF l[i]).size<=1000000)(G:1<=x)(T:0<yA l)(J:x+yA l<=90)(V:K.dn=false)(X:UA w):
 gA prog 70 #[.pointer (yB P)] w λe J=>(∃u y,e=uA (.tuple #[pA u (yA l.flatten) y,.nilIface])/\J.ownsRow w.1.size 9 1 (pA u (yA l.flatten) y) (yA l.flatten) (l.flatten.map iA.string))/\aO w0 J B P D K ⟨x,x+(yA l:Int)-1,((fF (l[yA l-1]'(by omega))).size:Nat)⟩/\eB (·=P) w J:=by
 obtain⟨v,A⟩:=h.drive;obtain⟨a,cap,rfl,Y⟩:=A.files;obtain⟨n,o,p,q⟩:=h.wr.cells;have J:tC w D 3 (.bool false):=by rw[<-V];exact A.blk.cell 3
 have d:=aOh n A.cell4 Y U G (by omega) (by omega) h.tab X;rw[show yA K.fs-c=yA l by omega]at d;replace d:=bB d;have E:=bB (λW(H:aO w0 W B P D K ⟨x,x+(yA l:Int)-1,0⟩)=>aBy H I Z G T (by omega));have M:=bB (λW(H:aO w0 W B P D K ⟨x,x+(yA l:Int)-1,((fF (l[yA l-1]'(by omega))).size:Nat)⟩)=>aNj (L:=⟨x,0,0⟩) H (by have:=I (yA l-1) (by omega);rwa [show x+((yA l-1:Nat):Int)=x+(yA l:Int)-1 by omega]at this));have m:=bB h;obtain⟨G,t⟩:∃G,l.flatten=G:=⟨_,rfl⟩
 obtain⟨z,G⟩:∃z,((fF (l[yA l-1]'(by omega))).size:Int)=z:=⟨_,rfl⟩
 rw[t]at E |-
 rw[G]at E M |-
 clear h A Y V X U r I Z t G;generalize yA l=N at *;go_enter func70,ntmps70;go_wp2_with fail;refine d.o.mono ?_;rintro e w1 ⟨g,h,rfl,G,j⟩;have Q:=G 0 T;have R:=G (N-1) (by omega);rw[show x+((0:Nat):Int)=x by omega]at Q;rw[show x+((N-1:Nat):Int)=x+(N:Int)-1 by omega]at R;replace m:=bB (m.o.z j);have O:=bB (eB.of (S:=(·=P)) j);have n:=m.o.wr.cells;have h:=nB.free m.o.wr;have f:=bB (((m.o.set (L':=⟨x,0,0⟩) 1 (zA x) (by simp)).set (L':=⟨x,x+(N:Int)-1,0⟩) 2 (zA (x+(N:Int)-1)) (by simp)).set (L':=⟨x,x+(N:Int)-1,0⟩) 3 (zA 0) (by simp));have F:=bB (O.o.trans' ((((eB.refl (·=P) w1).setCell (Ca rfl) 1 (zA x)).setCell (Ca rfl) 2 (zA (x+(N:Int)-1))).setCell (Ca rfl) 3 (zA 0)));go_wp2_with fail;go_region
 go_wp2_with fail;generalize ((w1.setCell (dB P 1) (zA x)).setCell (dB P 2) (zA (x+(N:Int)-1))).setCell (dB P 3) (zA 0)=h at *;have n:=f.o.wr.cells;go_region
 go_wp2_with fail;replace f:=bB ((f.o.z iD.drew).z iD.drew);refine(E.o _ f.o).mono ?_;rintro e w2 ⟨⟨u,y,rfl,h⟩,s,b⟩;have C:=bB (Vc s (F.o.drew.drew.trans' b));have k:=bB (qS h F.o.size);go_wp2_with fail;apply lC (M.o _ C.o.1);intro h j;have h:=bB (Vc (C.o.1.z j) (C.o.2.trans' (eB.of j)));replace k:=bB (hC k.o j);go_wp2;go_ret2;exact⟨⟨u,y,rfl,k.o⟩,h.o⟩
end
end
