import Derived.Test.YtcmdjimlmnaojaaGreatDoorJ43
import Derived.Laws.EntriesVeiled
set_option maxRecDepth 100000
set_option maxHeartbeats 8000000
open Option renaming none->aA
open List renaming length->zA
namespace Go.Proofs.YtcmdjimlmnaojaaGreatDoor
open Go renaming World->fA,Value->jA
open Value renaming string->pA,slice->qA,int->mA
open IntKind renaming i64->oA
open Go.RowKit Tryz
section
open Go.Maps
section
variable {w0 w W:fA} {D Lo:Nat} {r:eG} {sa:nC} {sc:Nat} {c:lC} {a:nC} {ca:Nat} {b:nC} {cb:Nat} {N:sC} {l m M:Nat} {B A:Nat→Prop}
theorem aMf{d:List oF}(h:(iE d).size<=60000):∀k(h:k<zA d),tJ d[k]<=300000:=λk i=>by
 have j:=qP d[k];have f:=rP d k i;have e:=eI (d.take (k+1)) (d.drop (k+1));rw[Za,f]at e;have g:=Kd ByteArray.size e;simp only[Ka]at g;show zA d[k].B+aE d[k].B<=_;omega
theorem aIz(v:Int)(W:fA):cF 150 #[aB v] W (pA (tB 2 v)):=uN (k:=2) (La (Ca ⟨rfl,rfl⟩)) v W
theorem mq(h:gU Lo w0 w D r sa sc c a ca b cb N l m M B A)(hd:N.deg=false)(p:r.K=1)(j:uC r.T=true):
 Calls prog 80 #[.pointer (some ⟨D,0,aA⟩)] w λe w'=>DM (lI c N r) D r sa sc c l Lo w0 e w':=by
 rw[aMq hd p j];obtain⟨_,_,_,_,_,T,_,hl5,_⟩:=h.req.1;have hex:(iE r.P).size<=60000:=by
  have e:wK r=tB 1 1++gN r.T++tB 2 (zA r.P:Nat)++iE r.P:=by simp[wK,p,yU,xU,kV,Wa]
  have:=h.req.2.1;rw[e]at this;simp only[Ka]at this;omega
 have t:=dB (aJs h.st r.T r.P hex hl5 T);have HSZ:=dB (aMf hex);have HBT:=dB (λk(p:k<zA r.P)=>h.bit _ (Gb p));have hbk:=h.bulk;obtain⟨hM1,hM2⟩:=h.hM;have HT:=dB (λW(j:fB B w W)=>(h.tabs j).1);have u:=dB (λW(j:fB B w W)=>j.blk h.dsk h.off);have HSM:=dB (λW(j:fB B w W)=>h.smp W (j.mono λi _ e=>Ca e));have HJ:=dB (λW K k(x:oF) la lc(hW:fB B w W)(hL:lE W K l m c N.now (yK c N.now r.T N.ts (r.P.take k)).1 (M+k))(hK:∀g,W.1.size<=g->K g)(hl:qD W la x.B)(hlc:zA x.B<=lc)(p:k<=zA r.P)(hx:tJ x<=300000)(hi:WU x.bits)=>xt x la lc (u.o W hW) hL hK hl hlc (HT.o W hW) (by omega) hx hi (t.o k p).1 (by have:=(t.o k p).2.1;omega) (by omega) (by omega));have HSA:=dB (λW s(j:fB B w W)=>h.same j (s:=s));have HMD:=dB (λW e w1 w2 V v s(j:fB B w W)=>h.made j (V:=V) (v:=v) (s:=s) (e:=e) (w1:=w1) (w2:=w2));have a0:=dB (λW ar capr rs(j:fB B w W)(hr:yI W ar rs)(hz:zA rs+eD rs<=240000)(F:WV rs)=>de (capr:=capr) (u.o W j) (h.nap j hr hz F) (h.tabs j).1 (h.tabs j).2);have HLD:=dB h.led;have b0:=dB h.new;have hDw:=bB h.dsk;clear h hd p j hex;obtain⟨L,E⟩:∃W,W=yK c N.now r.T N.ts r.P:=⟨_,rfl⟩
 rw[<-E];replace E:=dB E;obtain⟨H0,z⟩:∃h,h=tB 1 0++tB 2 (zA r.P:Nat)++L.2.1:=⟨_,rfl⟩
 rw[<-z];replace z:=dB z;obtain⟨VR,o⟩:∃v,v=if L.2.2=[] then(N,H0) else((nF c N L.2.2).1,if dT (nF c N L.2.2).1 (nF c N L.2.2).2=0 then H0 else tB 1 (dT (nF c N L.2.2).1 (nF c N L.2.2).2)):=⟨_,rfl⟩
 rw[<-o];replace o:=dB o;have xx:=jI (u.o w (fB.refl _ _));have Z:=dB (λW(n:xB w W)=>show yC W D 4 (qA sa (zA r.P) sc) from(u.o W (fB.of n)).cell 4);go_enter func80,ntmps80;go_upto_region 1 with fail;go_cut [3] (λs wx=>∃g,s=qA (some ⟨g,0,aA⟩) 2 2/\TE w wx g 2 [tB 1 0,tB 2 (zA r.P:Nat)])
 case first=>
  go_region_held3 (λw'=>w'.cell? ⟨D,4,aA⟩=some (qA sa (zA r.P) sc))
   (first|go_keep|with_reducible exact Z.o _ k3|with_reducible exact Z.o _ k2|with_reducible exact Z.o _ gD.drew)
   (first
    |(go_at_call 23;apply jC (jT _ _);intro w2 hb2;have k2:xB w w2:=(by exact aC gD.drew hb2))
    |(go_at_call 150;apply jC (aIz _ _);intro w3 hb3;have k3:xB w w3:=(by exact aC k2 hb3)))
  all_goals(go_wp2_with fail;go_meet)
  all_goals exact⟨_,rfl,⟨rfl,La ⟨_,2,_,rfl,k3.size,heap_alloc_new _ _,Ia _,by simp[maxLen],rfl,rfl⟩⟩,aC k3 bC⟩
 obtain⟨g0,rfl,T⟩:=hcut;rename fA=>w1;have X:=dB T;clear xx T;have xx:=jI (u.o _ (fB.of X.o.bel));have hz0:=nB 1 0;have hz2:=nB 2 (zA r.P:Nat);have Q0:cB (WQ w w1 B (λg=>B g/\g<w.1.size\/w1.1.size<=g) (qA (some ⟨g0,0,aA⟩) 2 2) (qA aA 0 0) [tB 1 0,tB 2 (zA r.P:Nat)] [] l m c N.now N.ts M):=by
  have F:=uH X.o.row g0 rfl;have hg2:=eH X.o.row g0 rfl;refine⟨HLD.o.re λg F hB=>⟨X.o.bel.block g F,Ca ⟨hB,F⟩⟩,λg F=>La F,λg F=>F.elim (λe=>e.1) λe=>b0.o g (by omega),X.o.row,⟨rfl,Ca ⟨rfl,rfl⟩⟩,λq e=>?_,λq e=>by simp[jA.ownBlock]at e,fB.of X.o.bel⟩;obtain rfl:g0=q:=by simpa[jA.ownBlock]using e
  exact⟨λp=>p.elim (λe=>by omega) λe=>by omega,by simp[jA.ownBlock]⟩
 generalize (λg=>B g/\g<w.1.size\/w1.1.size<=g)=K0 at *;generalize tB 1 0=S0 at *;generalize tB 2 (zA r.P:Nat)=S2 at *;go_wp2;go_loopw [3,4,6,7,8,25] (λv3 v4 _ _ _ i wr=>∃(k:Nat)(g cv:Nat)(v:jA)(f:List pB)(K:Nat->Prop),k<=zA r.P/\i=mA oA k/\v3=qA (some ⟨g,0,aA⟩) (zA f) cv/\v=v4/\zA f<=2+k/\cB (vF f=S0++S2++(yK c N.now r.T N.ts (r.P.take k)).2.1)/\cB (WQ w wr B K (qA (some ⟨g,0,aA⟩) (zA f) cv) v f (yK c N.now r.T N.ts (r.P.take k)).2.2 l m c N.now (yK c N.now r.T N.ts (r.P.take k)).1 (M+k))) (λ_ _ _ _ _ i _=>zA r.P-(intOf i).toNat)
 case atStart=>exact⟨0,g0,2,_,[S0,S2],K0,Oa _,rfl,rfl,rfl,Ia _,by refine dB ?_;simp[vF,yK],Q0⟩
 case round=>
  clear Q0 X xx;obtain⟨k,g,cv,v,f,K,p,rfl,rfl,rfl,hpl,HC,Q⟩:=hrel;by_cases P:k<zA r.P
  .obtain ⟨b6,o6,a6,k6,rfl,hb6,g0',g1',hl6,hc6⟩:=(HSM.o _ Q.o.turn).atc P;have HJ1:=dB (λW5(hW:xB wr W5)=>HJ.o W5 K k r.P[k] a6 k6 (Q.o.turn.trans' (fB.of hW)) (Q.o.z hW).led (Q.o.z hW).new (hl6.z hW) hc6 p (HSZ.o k P) (HBT.o k P));have ES:=dB (RQ (c:=c) (now:=N.now) (te:=r.T) (ts:=N.ts) r.P k P);have Y:=dB (aHg (c:=c) (now:=N.now) (ts:=(yK c N.now r.T N.ts (r.P.take k)).1) (te:=r.T) (x:=r.P[k]));obtain⟨_,_,s3,s4,_,_⟩:=t.o k p;have jc:=(PC (t.o k p).1 r.T r.P[k]).2.2.2;unfold wrS at ES;generalize gH c N.now (yK c N.now r.T N.ts (r.P.take k)).1 r.T r.P[k]=J at *;generalize hS9:yK c N.now r.T N.ts (r.P.take k)=S at *;generalize r.P[k].bits=bi at *;generalize r.P[k].B=ls at *;obtain⟨J1,J2,J3⟩:=J;obtain⟨S1,S2',S3⟩:=S;dsimp only at *;clear hS9;go_upto_region 6 with fail;refine zI (C:=λW=>Code.wp prog _ _ _ W) ?_;intro w8 hb8 X8 hz8;have xx:=X8.c2;have Q8:=dB (Q.o.z hb8);have H8:=dB hb8;clear hb8 hz8 X8 Q g0' g1' hb6;go_wp2_with fail;refine(HJ1.o _ H8.o).mono ?_;rintro e w9 ⟨ky,rfl,hky,hL9,hT9⟩;have Q9:=dB (Q8.o.judged hL9 hT9);replace hky:=dB hky;clear hL9 hT9 Q8 H8 HJ1 xx;go_wp2_with fail;apply jC (jT _ _);intro w10 n;have H:=dB (Q9.o.z n);have hw10:=H.o.turn.size;clear n Q9;generalize tB 1 (J1:Nat)=U3 at *;go_wp2_with(at_builtin;refine zM rfl _ _ rfl underlying30 UU rfl (by omega) (by omega) rfl H.o.row3 rfl rfl (cs:=#[pA U3]) rfl (by simp[jA.oneCell']) (by omega) hw10 ?_;intro g5 U w11 HO HT5 HA5);have y:=dB (H.o.app3 (x:=U3) HO.o HT5.o HA5.o b0.o);have hle:zA (f++[U3])=zA f+1:=by simp
   have HC2:cB (vF (f++[U3])=S0++S2++(yK c N.now r.T N.ts (r.P.take (k+1))).2.1):=by
    show _=_;rw[ES.o,oG,HC.o];simp[vF,Wa]
   have hw11:=y.o.turn.size;clear HO HT5 HA5 H HC;apply kO (wY J1 w11);rw[<-hle];clear hle;have hps:zA (f++[U3])<=2+(k+1):=by simp;omega
   generalize f++[U3]=ps2 at *;obtain⟨hj,hJ⟩|⟨hj,hJ⟩:=Y.o
   .have G:(decide (J1=1) ||decide (J1=2))=true:=by simpa using hj
    obtain rfl:=hky.o hJ;have ER:cB ((yK c N.now r.T N.ts (r.P.take (k+1))).2.2=S3++[⟨1,r.T,ky,0⟩]/\(yK c N.now r.T N.ts (r.P.take (k+1))).1=J2):=by
     refine dB ?_;rw[ES.o];exact⟨by simp[nsn,hJ],rfl⟩
    rw[G];have xx:=jI (u.o _ y.o.turn);clear hj hJ G Y;go_wp2_with(at_builtin;refine zM rfl _ _ rfl underlying107 ew rfl (by omega) (by omega) (v:=v) rfl y.o.row4 rfl rfl (cs:=#[mA oA 1,pA r.T,pA ky,mA oA 0]) rfl (by simp[jA.oneCell']) (by omega) hw11 ?_;intro g6 cap6 w12 HO6 HT6 HA6);have I:=y.o.app4 (x:=⟨1,r.T,ky,0⟩) HO6.o HT6.o HA6.o b0.o;rw[<-ER.o.1,<-ER.o.2]at I;replace I:=dB I;have hl2:zA (yK c N.now r.T N.ts (r.P.take (k+1))).2.2=zA S3+1:=by rw[ER.o.1];simp
    rw[<-hl2];exact⟨⟨k+1,g5,U,_,ps2,_,by omega,by go_num,rfl,rfl,hps,HC2,I⟩,by simp[intOf];omega⟩
   have G:(decide (J1=1) ||decide (J1=2))=false:=by simpa using hj
   have ER:cB ((yK c N.now r.T N.ts (r.P.take (k+1))).2.2=S3/\(yK c N.now r.T N.ts (r.P.take (k+1))).1=J2):=by
    refine dB ?_;rw[ES.o];exact⟨by simp[nsn,hJ],rfl⟩
   rw[G];clear hj hJ G Y;go_wp2;exact⟨⟨k+1,g5,U,v,ps2,_,by omega,by go_num,rfl,rfl,hps,HC2,dB (by rw[ER.o.1,ER.o.2];exact y.o)⟩,by simp[intOf];omega⟩
  obtain rfl:k=zA r.P:=by omega
  have hl:yK c N.now r.T N.ts (r.P.take (zA r.P))=L:=by rw[Rb];exact E.o.symm
  have hbd:=t.o _ (Ia _);rw[hl]at hbd HC Q;clear hl E t HJ HSZ HBT;obtain⟨W1,W2,W3⟩:=L;dsimp only at *;obtain⟨-,-,s3,s4,s5,s6⟩:=hbd;have E2:cB (vF f=H0):=by rw[z.o];exact HC
  have hsz:iG f<=10000:=by rw[<-IC,E2.o,z.o,Ka,Ka];omega
  obtain⟨ra,rc,rfl⟩:=iZ Q.o.row4;have RI:=dB (KV Q.o.row4).recs;have HJN:=dB (fun(W:fA)(hr:W.ownsRow w.1.size 9 1 (qA (some ⟨g,0,aA⟩) (zA f) cv) (zA f) (f.map jA.string))=>by
   obtain⟨hcv,F,hcs⟩:=fH hr;have:=nI g (zA f) cv f W rfl hcs F hcv (by omega) (by omega);rw[E2.o]at this;exact this)
  clear HC;cases W3 with
  |nil=>
   replace o:=dB (o.o.trans (Ma rfl));go_wp2_with(first|(go_at_call 154;apply jC (HJN.o _ Q.o.row3);intro w2 n;replace n:=dB n));go_ret;rw[o.o];exact HSA.o _ _ (Q.o.turn.trans' (fB.of n.o))
  |cons x1 xr=>
   replace o:=dB (o.o.trans (Ja (by simp)));replace a0:=dB (a0.o wr ra rc (x1::xr) Q.o.turn RI.o (by omega) s6);have hn:0<zA (x1::xr):=by simp
   generalize x1::xr=W3 at *;generalize nF c N W3=V at *;go_wp2_with fail;refine a0.o.mono ?_;rintro e w2 h2;have O:=dB h2;obtain⟨_,_,_,_,rfl,_,_,d⟩:=h2;have R2:=dB (d.row Q.o.row3 λq hq e=>by have:=uH Q.o.row3 q hq;omega);by_cases R:dT V.1 V.2=0
   .rw[R];replace o:=dB (o.o.trans (by rw[Ma R]));go_wp2_with(first|(go_at_call 154;apply jC (HJN.o _ R2.o);intro w3 n;replace n:=dB n));go_ret;rw[o.o];exact HMD.o _ _ _ _ _ _ _ Q.o.turn O.o n.o
   replace o:=dB (o.o.trans (by rw[Ja R]));have hs1:(dT V.1 V.2==0)=false:=by simpa using R
   go_wp2_with(first|(go_at_call 23;apply jC (jT _ _);intro w3 n;replace n:=dB n));go_ret;rw[o.o];exact HMD.o _ _ _ _ _ _ _ Q.o.turn O.o n.o
end
end
section
open Go.Maps
section
variable {w0 w W:fA} {D Lo:Nat} {r:eG} {sa:nC} {sc:Nat} {c:lC} {a:nC} {ca:Nat} {b:nC} {cb:Nat} {N:sC} {l m M:Nat} {B A:Nat→Prop}
theorem gU.z(h:gU Lo w0 w D r sa sc c a ca b cb N l m M B A)(d:xB w W):gU Lo w0 W D r sa sc c a ca b cb N l m M B A:=
 { h with
  dsk:=h.dsk.z d
  led:=h.led.z d
  new:=λg e=>h.new g (Ua d.size e)
  node:=h.node.z d
  apart:=λg e=>⟨(h.apart g e).1,(h.apart g e).2.1,Bb (h.apart g e).2.2 d.size⟩
  base:=aC h.base d
  smp:=λf i=>h.smp f ((fB.of d).trans' i) }
theorem aGa{c:lC}{N:sC}{r:eG}(d:N.deg=true)(e:r.K<=4):lI c N r=(N,tB 1 3):=Ma ⟨d,e⟩
theorem aGb{c:lC}{N:sC}{r:eG}(d:N.deg=false\/4<r.K)(f:r.K≠2/\r.K≠4)(g:uC r.T=false):lI c N r=(N,tB 1 2):=by
 unfold lI;rw[Ja (λe=>by obtain h|h:=d;rw[h]at e;cases e.1;omega),Ma ⟨f,g⟩]
theorem ln(h:gU Lo w0 w D r sa sc c a ca b cb N l m M B A)(J:oR w)(L:N.up=true):
 Calls prog 25 #[.pointer (vB D)] w λe w'=>DM (lI c N r) D r sa sc c l Lo w0 e w':=by
 obtain⟨⟨O,k6⟩,_,_,_,_,G,F,_,_⟩:=h.req.1;have I:=dB (λW s(o:xB w W)=>h.same (fB.of o) (s:=s));have z:=dB (λW=>pM r.T W (by unfold maxLen;omega));have C:=dB (aGa (c:=c) (N:=N) (r:=r));have E:=dB (aGb (c:=c) (N:=N) (r:=r));have t:=λk j(x:k<7) Y=>J.2 k j x Y;have R:=dB (λW(o:xB w W)=>mq (h.z o));have S:=dB (λW(o:xB w W)=>wd (h.z o));have T:=dB (λW(o:xB w W)=>mo (h.z o));have U:=dB (λW(o:xB w W)=>vu (h.z o));have X:=dB (λW(o:xB w W)=>mm (h.z o));have Y:=dB (λW(o:xB w W)=>vv (h.z o));have H:=dB (λW(o:xB w W)=>jI (h.dsk.z o));have P:r.T.size+r.R.size<=200000:=by omega
 clear h J G F;obtain⟨K,x,Z,h⟩:∃K:Nat,r.K=K/\1<=K/\K<=6:=⟨r.K.toNat,by omega,by omega,by omega⟩
 have d:=t K 0 (by omega) (by omega);have f:=t K 1 (by omega) (by omega);have g:=t K 2 (by omega) (by omega);have i:=t K 3 (by omega) (by omega);have n:=t K 4 (by omega) (by omega);clear O k6 t;generalize lI c N r=V at *;obtain rfl|rfl|rfl|rfl|rfl|rfl:K=1\/K=2\/K=3\/K=4\/K=5\/K=6:=by omega
 all_goals
  simp[zw,yU,xU,kV]at d f g i n;have Q:=H.o _ gD;simp only[x]at Q;replace x:=dB (show r.K=_ from x);cases hd:N.deg<;>cases hn:uC r.T
  all_goals
   rw[hd]at Q;rw[hn]at z;have q:=dB hd;have v:=dB hn;have u:=x;clear hd hn H;go_enter func25,ntmps25;go_wp2_with(first
    |(go_at_call 79;apply kO (z.o _))
    |(go_at_call 23;apply jC (jT _ _);intro y o;replace o:=dB o)
    |(go_at_call 80;refine(R.o _ (aC bC bC) q.o u.o v.o).mono ?_;rintro e y p;have O:=dB p;obtain⟨_,_,_,_,rfl,_⟩:=p)
    |(go_at_call 81;refine(S.o _ (aC bC bC) q.o L u.o).mono ?_;rintro e y p;have O:=dB p;obtain⟨_,_,_,_,rfl,_⟩:=p)
    |(go_at_call 82;refine(T.o _ (aC bC bC) q.o L u.o v.o P).mono ?_;rintro e y p;have O:=dB p;obtain⟨_,_,_,_,rfl,_⟩:=p)
    |(go_at_call 83;refine(U.o _ (aC bC bC) q.o u.o).mono ?_;rintro e y p;have O:=dB p;obtain⟨_,_,_,_,rfl,_⟩:=p)
    |(go_at_call 84;refine(X.o _ (aC bC bC) u.o v.o P).mono ?_;rintro e y p;have O:=dB p;obtain⟨_,_,_,_,rfl,_⟩:=p)
    |(go_at_call 85;refine(Y.o _ (aC bC bC) u.o v.o (by omega)).mono ?_;rintro e y p;have O:=dB p;obtain⟨_,_,_,_,rfl,_⟩:=p))
   go_ret;first
    |exact O.o
    |(rw[C.o q.o (by rw[x.o];decide)];exact I.o _ _ (aC bC o.o))
    |(rw[E.o (by first|exact Ca q.o|exact La (by rw[x.o];decide)) (by rw[x.o];decide) v.o];exact I.o _ _ (aC bC o.o))
end
end
section
open Go.Maps
attribute [local go_sem] fG dH lK jB.drewI sK.drewI sK.new sK.alloc sK.alloc2
theorem aH.turned{S:Nat->Prop}{w l:fA}{B:Nat}{a:nC}{m:List oF}(h:aH w B a m)(e:fB S w l)(k:∀g,B<=g->g<w.1.size->¬S g):oJ l a m:=by
 obtain h|⟨g,o,n,t,T,rfl,p,q,u,h⟩:=h;exact Ca h;have b:=bB q;have s:=e.block g b (k g p b);exact La ⟨g,o,rfl,Bb b e.size,λi r=>((h i r).keep (λj _=>fA.cell?_of_block s) λf c d _=>⟨e.block f c (k f d c),rfl⟩).at⟩
theorem aNd(c:lC)(N:sC)(r:eG):N.up=false/\tN c N r=(N,tB 1 4)\/N.up=true/\tN c N r=lI c N r:=by
 unfold tN;cases N.up<;>simp
theorem ej (c : lC) (a b : nC) (v o : Nat) (N : sC) (r : eG) (w : fA) (h : rQ w a b N) (f : iC c N.now N.ts = true) (L : VR r) (hU : kH w) (Z : nJ w) (z : oR w) :
    Calls prog 7 #[uE c, .agg (gC a v b o N), pA (wK r)] w λe F => NaV (tN c N r).1 (pA (tN c N r).2) w e F := by
  have d := h.bulk;have O : cB (∀ W, xB w W -> Calls prog 21 #[.agg (gC a v b o N)] W λe F => ∃ a v b o, e = .returned (.agg (gC a v b o N)) /\ wJ F (λx => W.1.size <= x /\ x < F.1.size) a b N /\ xB W F) := λW K => eW a b v o N W (h.files.z K) h.fit.len (h.tens.z K) (by omega) (dP (by omega))
  have HO := dB (λW b o (K : xB w W) (ht : aD W b N.ts) => QJ c N.now b o N.ts 1900000 W ht (gR (show zA N.ts + eC N.ts <= 1900000 by omega)).1 (by omega) (hU.z K));have u := dB (λW (K : xB w W) => ef r W L (z.z K));have HV := dB (aNd c N r);have HOK := dB (And.intro L.ok (And.intro L.sz L.U));have HBT : cB (∀ x ∈ r.P, WU x.bits) := λx hx => by obtain⟨i, hi, rfl⟩ := List.mem_iff_getElem.1 hx; exact L.bits i hi
  have HS0 := dB f;have Q := dB (And.intro h.fit (And.intro h.bulk (And.intro h.rng (And.intro h.lsn h.now))));have A := dB (And.intro hU (And.intro Z z));clear h d hU Z z f L;unfold uE at *;unfold bj at u;unfold LX at HO;generalize tN c N r = V at *;generalize wK r = s at u |-
  have fz := cL
  go_enter func7, ntmps7
  go_upto_region 1 with fail
  have P := dB (NP.new (w := w) (c := c) (cs := gC a v b o N));generalize (((w.alloc (.cells #[mA oA c.w, mA oA c.tl, mA oA c.ml, mA oA c.sh, mA oA c.ha, mA oA c.sg] 24)).alloc (.cells (gC a v b o N) 42)).alloc (.cells (gC aA 0 aA 0 bL) 42)) = w1 at *;have t := P.o.cells rfl;have rN := jF a v b o N 42;have Y := rE a v b o N
  go_wp2_with fail
  refine(O.o _ P.o.B).mono ?_;rintro e w2 ⟨G, I, H, J, rfl, j, d⟩;have h1 := P.o.lt;replace P := dB (P.o.z d);replace j := dB j;clear d rN Y t O;have t := P.o.cells rfl
  go_upto_region 2 with fail
  refine kU (C := λW => Code.wp prog _ _ _ W) P.o.N ?_;intro w3 hB z;replace P := dB (P.o.put hB z);replace j := dB ((j.o.turned z (λx hx _ e => by omega)).mono (A' := λx => w.1.size + 1 + 1 < x /\ x < w2.1.size) (λx hx => by omega));have hH := z.size;clear hB z t;have t := P.o.cells rfl;have rN := jF G I H J N 42;have Y := rE G I H J N
  go_wp2_with fail
  refine(HO.o _ _ _ P.o.B j.o.tens).mono ?_;rintro e w4 (⟨f, rfl, d⟩ | ⟨f, l, m, rfl, hl0, hL, d⟩)
  · rw [HS0.o] at f; cases f
  · have H3 := dB d
    have L4 := dB hL;have h3 := P.o.lt;have h34 := d.size;have P3 := P;replace P := dB (P.o.z d);replace j := dB (j.o.z d);have p := Nat.le_trans hH d.size;clear d hL t;have t := P.o.cells rfl;replace f := dB f;obtain⟨E, rfl⟩ | ⟨E, hE⟩:=HV.o
    · rw [E] at rN Y
      have HK := dB (P.o.held (gC G I H J N))
      go_wp2_with fail
      go_region_held3 (λF => jB F (w.1.size + 1) (gC G I H J N) 42)
        (first | with_reducible exact(HK.o _ M).1 | with_reducible exact(HK.o _ gD.drew).1 | exact(HK.o _ M).2)
        (first | (go_at_call 23; refine(jT _ _).mono ?_; rintro e u1 ⟨rfl, d⟩; have M : xB w4 u1 := (by with_reducible exact aC gD.drew d); have bx := (P.o.z M).R.box rfl))
      go_wp2
      exact YY rfl rfl rfl rfl (P.o.z M) (j.o.z M) (Nat.le_trans p M.size)
    · rw [E] at rN Y
      replace E := dB E
      go_wp2_with fail
      refine(u.o _ P.o.B).mono ?_;rintro e w5 ⟨av, U, rfl, hS, d⟩;have S5 := dB hS;have H5 := dB d;replace P := dB (P.o.z d);replace j := dB (j.o.z d);replace p := Nat.le_trans p d.size;have h45 := d.size;clear hS d t u
      go_upto_region 6 with fail
      refine zI (C := λW => Code.wp prog _ _ _ W) ?_;intro w6 q X6 y;replace y := dB y;have X := dB X6;have H6 := dB q;replace P := dB (P.o.z q);replace j := dB (j.o.z q);replace p := Nat.le_trans p q.size;clear X6 q;have t := P.o.cells rfl;have xr := X.o.c5
      · replace hE := dB hE
        go_upto_region 8 with fail
        clear Y fz
        go_upto_region 9 with fail
        refine zI (C := λW => Code.wp prog _ _ _ W) ?_;intro w7 k X7 hz7;replace X7 : jB w7 w6.1.size (LO r av U c G I H J N l) 84 := by unfold LO; rw [E.o]; exact X7
        have b37 := dB (aC (aC (aC H3.o H5.o) H6.o) k);have S := dB (aC (aC H5.o H6.o) k);have T := dB (aC H6.o k);have h63 := y.o;have DK := dB (show gU (w.1.size + 1 + 1 + 1) w3 w7 w6.1.size r av U c G I H J N l m 1900000 (λg => w3.1.size <= g /\ g < w4.1.size \/ w7.1.size <= g) (λx => w.1.size + 1 + 1 < x /\ x < w2.1.size) from
          { dsk := X7
            led := L4.o.re λg D hB => ⟨S.o.block g D, Or.inl ⟨hB, D⟩⟩
            new := λg D => Or.inr D
            off := by omega
            old := λg D => by omega
            node := j.o.z k
            apart := λg D => ⟨⟨by omega, by omega⟩, by omega, by omega⟩
            lo := by omega
            base := b37.o
            utab := A.o.1.z P3.o.B
            pow := A.o.2.1.z P3.o.B
            fit := Q.o.1
            bulk := Q.o.2.1
            rng := Q.o.2.2.1
            lsn := Q.o.2.2.2.1
            now := Q.o.2.2.2.2
            st := f.o
            req := HOK.o
            bit := HBT.o
            smp := λW ht => S5.o.turned ((fB.of T.o).trans' ht) λg D hlt e => by omega
            hM := by omega })
        have n := ln DK.o (A.o.2.2.z (P.o.z k).B) E.o;rw [<- hE.o] at n;replace n := dB n;clear DK X7 k hz7 S T L4 S5 t xr h63 y
        go_wp2_with fail
        refine n.o.mono ?_;rintro e w8 ⟨a8, c8, b8, d8, rfl, X8, A8, B8⟩;have xd := jI X8;have P8 := dB (P3.o.z B8);have hA8 := dB A8;clear X8 A8 B8 n rN;clear hE;obtain⟨M8, rep⟩ := V;dsimp only at *;have fM := rE a8 c8 b8 d8 M8;have t := P8.o.cells rfl
        go_wp2
        exact YY rfl rfl rfl rfl P8.o (hA8.o.mono λx hx => ⟨by omega, hx.2⟩) (Nat.le_refl _)
end
