import Derived.Test.YtiegonaogehghaaGreatDoorJ43
import Derived.Laws.EntriesVeiled
set_option maxRecDepth 100000
set_option maxHeartbeats 8000000
open Option renaming none->aA
open List renaming length->yA
namespace Go.Proofs.YtiegonaogehghaaGreatDoor
open Go renaming World->eA,Value->iA
open Value renaming string->oA,slice->pA,int->lA
open IntKind renaming i64->mA
open Go.RowKit Tryz
section
open Go.Maps
section
variable {w0 w W:eA} {D Lo:Nat} {r:dG} {sa:jC} {sc:Nat} {c:gC} {a:jC} {ca:Nat} {b:jC} {cb:Nat} {N:pC} {l m M:Nat} {B A:Nat→Prop}
theorem aMh{d:List oF}(h:(cE d).size<=60000):∀k(h:k<yA d),lJ d[k]<=300000:=λk i=>by
 have j:=oP d[k];have f:=pP d k i;have e:=zH (d.take (k+1)) (d.drop (k+1));rw[Za,f]at e;have g:=Kd ByteArray.size e;simp only[Ka]at g;show yA d[k].B+rD d[k].B<=_;omega
theorem aJc(v:Int)(W:eA):vE 155 #[zA v] W (oA (qB 2 v)):=oN (k:=2) (La (Ca ⟨rfl,rfl⟩)) v W
theorem mo(h:fU Lo w0 w D r sa sc c a ca b cb N l m M B A)(hd:N.deg=false)(p:r.K=1)(j:oC r.T=true):
 Calls prog 84 #[.pointer (some ⟨D,0,aA⟩)] w λe w'=>DH (nI c N r) D r sa sc c l Lo w0 e w':=by
 rw[aMs hd p j];obtain⟨_,_,_,_,_,T,_,hl5,_⟩:=h.req.1;have hex:(cE r.P).size<=60000:=by
  have e:uK r=qB 1 1++xM r.T++qB 2 (yA r.P:Nat)++cE r.P:=by simp[uK,p,zU,yU,mV,Wa]
  have:=h.req.2.1;rw[e]at this;simp only[Ka]at this;omega
 have t:=cB (aJw h.st r.T r.P hex hl5 T);have HSZ:=cB (aMh hex);have HBT:=cB (λk(p:k<yA r.P)=>h.bit _ (Gb p));have hbk:=h.bulk;obtain⟨hM1,hM2⟩:=h.hM;have HT:=cB (λW(j:eB B w W)=>(h.tabs j).1);have u:=cB (λW(j:eB B w W)=>j.blk h.dsk h.off);have HSM:=cB (λW(j:eB B w W)=>h.smp W (j.mono λi _ e=>Ca e));have HJ:=cB (λW K k(x:oF) la lc(hW:eB B w W)(hL:eE W K l m c N.now (fL c N.now r.T N.ts (r.P.take k)).1 (M+k))(hK:∀g,W.1.size<=g->K g)(hl:nD W la x.B)(hlc:yA x.B<=lc)(p:k<=yA r.P)(hx:lJ x<=300000)(hi:WR x.bits)=>xw x la lc (u.o W hW) hL hK hl hlc (HT.o W hW) (by omega) hx hi (t.o k p).1 (by have:=(t.o k p).2.1;omega) (by omega) (by omega));have HSA:=cB (λW s(j:eB B w W)=>h.same j (s:=s));have HMD:=cB (λW e w1 w2 V v s(j:eB B w W)=>h.made j (V:=V) (v:=v) (s:=s) (e:=e) (w1:=w1) (w2:=w2));have a0:=cB (λW ar capr rs(j:eB B w W)(hr:pI W ar rs)(hz:yA rs+dD rs<=240000)(F:WT rs)=>dc (capr:=capr) (u.o W j) (h.nap j hr hz F) (h.tabs j).1 (h.tabs j).2);have HLD:=cB h.led;have b0:=cB h.new;have hDw:=aB h.dsk;clear h hd p j hex;obtain⟨L,E⟩:∃W,W=fL c N.now r.T N.ts r.P:=⟨_,rfl⟩
 rw[<-E];replace E:=cB E;obtain⟨H0,z⟩:∃h,h=qB 1 0++qB 2 (yA r.P:Nat)++L.2.1:=⟨_,rfl⟩
 rw[<-z];replace z:=cB z;obtain⟨VR,o⟩:∃v,v=if L.2.2=[] then(N,H0) else((zF c N L.2.2).1,if bT (zF c N L.2.2).1 (zF c N L.2.2).2=0 then H0 else qB 1 (bT (zF c N L.2.2).1 (zF c N L.2.2).2)):=⟨_,rfl⟩
 rw[<-o];replace o:=cB o;have xx:=eI (u.o w (eB.refl _ _));have Z:=cB (λW(n:tB w W)=>show tC W D 4 (pA sa (yA r.P) sc) from(u.o W (eB.of n)).cell 4);go_enter func84,ntmps84;go_upto_region 1 with fail;go_cut [3] (λs wx=>∃g,s=pA (some ⟨g,0,aA⟩) 2 2/\TE w wx g 2 [qB 1 0,qB 2 (yA r.P:Nat)])
 case first=>
  go_region_held3 (λw'=>w'.cell? ⟨D,4,aA⟩=some (pA sa (yA r.P) sc))
   (first|go_keep|with_reducible exact Z.o _ k3|with_reducible exact Z.o _ k2|with_reducible exact Z.o _ bD.drew)
   (first
    |(go_at_call 24;apply hC (jT _ _);intro w2 hb2;have k2:tB w w2:=(by exact vB bD.drew hb2))
    |(go_at_call 155;apply hC (aJc _ _);intro w3 hb3;have k3:tB w w3:=(by exact vB k2 hb3)))
  all_goals(go_wp2_with fail;go_meet)
  all_goals exact⟨_,rfl,⟨rfl,La ⟨_,2,_,rfl,k3.size,heap_alloc_new _ _,Ia _,by simp[maxLen],rfl,rfl⟩⟩,vB k3 yB⟩
 obtain⟨g0,rfl,T⟩:=hcut;rename eA=>w1;have X:=cB T;clear xx T;have xx:=eI (u.o _ (eB.of X.o.bel));have hz0:=kB 1 0;have hz2:=kB 2 (yA r.P:Nat);have Q0:bB (WQ w w1 B (λg=>B g/\g<w.1.size\/w1.1.size<=g) (pA (some ⟨g0,0,aA⟩) 2 2) (pA aA 0 0) [qB 1 0,qB 2 (yA r.P:Nat)] [] l m c N.now N.ts M):=by
  have F:=mH X.o.row g0 rfl;have hg2:=wG X.o.row g0 rfl;refine⟨HLD.o.re λg F hB=>⟨X.o.bel.block g F,Ca ⟨hB,F⟩⟩,λg F=>La F,λg F=>F.elim (λe=>e.1) λe=>b0.o g (by omega),X.o.row,⟨rfl,Ca ⟨rfl,rfl⟩⟩,λq e=>?_,λq e=>by simp[iA.ownBlock]at e,eB.of X.o.bel⟩;obtain rfl:g0=q:=by simpa[iA.ownBlock]using e
  exact⟨λp=>p.elim (λe=>by omega) λe=>by omega,by simp[iA.ownBlock]⟩
 generalize (λg=>B g/\g<w.1.size\/w1.1.size<=g)=K0 at *;generalize qB 1 0=S0 at *;generalize qB 2 (yA r.P:Nat)=S2 at *;go_wp2;go_loopw [3,4,6,7,8,25] (λv3 v4 _ _ _ i wr=>∃(k:Nat)(g cv:Nat)(v:iA)(f:List nB)(K:Nat->Prop),k<=yA r.P/\i=lA mA k/\v3=pA (some ⟨g,0,aA⟩) (yA f) cv/\v=v4/\yA f<=2+k/\bB (qF f=S0++S2++(fL c N.now r.T N.ts (r.P.take k)).2.1)/\bB (WQ w wr B K (pA (some ⟨g,0,aA⟩) (yA f) cv) v f (fL c N.now r.T N.ts (r.P.take k)).2.2 l m c N.now (fL c N.now r.T N.ts (r.P.take k)).1 (M+k))) (λ_ _ _ _ _ i _=>yA r.P-(intOf i).toNat)
 case atStart=>exact⟨0,g0,2,_,[S0,S2],K0,Oa _,rfl,rfl,rfl,Ia _,by refine cB ?_;simp[qF,fL],Q0⟩
 case round=>
  clear Q0 X xx;obtain⟨k,g,cv,v,f,K,p,rfl,rfl,rfl,hpl,HC,Q⟩:=hrel;by_cases P:k<yA r.P
  .obtain ⟨b6,o6,a6,k6,rfl,hb6,g0',g1',hl6,hc6⟩:=(HSM.o _ Q.o.turn).atc P;have HJ1:=cB (λW5(hW:tB wr W5)=>HJ.o W5 K k r.P[k] a6 k6 (Q.o.turn.trans' (eB.of hW)) (Q.o.z hW).led (Q.o.z hW).new (hl6.z hW) hc6 p (HSZ.o k P) (HBT.o k P));have ES:=cB (RJ (c:=c) (now:=N.now) (te:=r.T) (ts:=N.ts) r.P k P);have Y:=cB (aHh (c:=c) (now:=N.now) (ts:=(fL c N.now r.T N.ts (r.P.take k)).1) (te:=r.T) (x:=r.P[k]));obtain⟨_,_,s3,s4,_,_⟩:=t.o k p;have jc:=(ny (t.o k p).1 r.T r.P[k]).2.2.2;unfold wrS at ES;generalize uH c N.now (fL c N.now r.T N.ts (r.P.take k)).1 r.T r.P[k]=J at *;generalize hS9:fL c N.now r.T N.ts (r.P.take k)=S at *;generalize r.P[k].bits=bi at *;generalize r.P[k].B=ls at *;obtain⟨J1,J2,J3⟩:=J;obtain⟨S1,S2',S3⟩:=S;dsimp only at *;clear hS9;go_upto_region 6 with fail;refine yH (C:=λW=>Code.wp prog _ _ _ W) ?_;intro w8 hb8 X8 hz8;have xx:=X8.c2;have Q8:=cB (Q.o.z hb8);have H8:=cB hb8;clear hb8 hz8 X8 Q g0' g1' hb6;go_wp2_with fail;refine(HJ1.o _ H8.o).mono ?_;rintro e w9 ⟨ky,rfl,hky,hL9,hT9⟩;have Q9:=cB (Q8.o.judged hL9 hT9);replace hky:=cB hky;clear hL9 hT9 Q8 H8 HJ1 xx;go_wp2_with fail;apply hC (jT _ _);intro w10 n;have H:=cB (Q9.o.z n);have hw10:=H.o.turn.size;clear n Q9;generalize qB 1 (J1:Nat)=U3 at *;go_wp2_with(at_builtin;refine qM rfl _ _ rfl underlying30 UQ rfl (by omega) (by omega) rfl H.o.row3 rfl rfl (cs:=#[oA U3]) rfl (by simp[iA.oneCell']) (by omega) hw10 ?_;intro g5 U w11 HO HT5 HA5);have y:=cB (H.o.app3 (x:=U3) HO.o HT5.o HA5.o b0.o);have hle:yA (f++[U3])=yA f+1:=by simp
   have HC2:bB (qF (f++[U3])=S0++S2++(fL c N.now r.T N.ts (r.P.take (k+1))).2.1):=by
    show _=_;rw[ES.o,eG,HC.o];simp[qF,Wa]
   have hw11:=y.o.turn.size;clear HO HT5 HA5 H HC;apply cO (uY J1 w11);rw[<-hle];clear hle;have hps:yA (f++[U3])<=2+(k+1):=by simp;omega
   generalize f++[U3]=ps2 at *;obtain⟨hj,hJ⟩|⟨hj,hJ⟩:=Y.o
   .have G:(decide (J1=1) ||decide (J1=2))=true:=by simpa using hj
    obtain rfl:=hky.o hJ;have ER:bB ((fL c N.now r.T N.ts (r.P.take (k+1))).2.2=S3++[⟨1,r.T,ky,0⟩]/\(fL c N.now r.T N.ts (r.P.take (k+1))).1=J2):=by
     refine cB ?_;rw[ES.o];exact⟨by simp[nsn,hJ],rfl⟩
    rw[G];have xx:=eI (u.o _ y.o.turn);clear hj hJ G Y;go_wp2_with(at_builtin;refine qM rfl _ _ rfl underlying121 eo rfl (by omega) (by omega) (v:=v) rfl y.o.row4 rfl rfl (cs:=#[lA mA 1,oA r.T,oA ky,lA mA 0]) rfl (by simp[iA.oneCell']) (by omega) hw11 ?_;intro g6 cap6 w12 HO6 HT6 HA6);have I:=y.o.app4 (x:=⟨1,r.T,ky,0⟩) HO6.o HT6.o HA6.o b0.o;rw[<-ER.o.1,<-ER.o.2]at I;replace I:=cB I;have hl2:yA (fL c N.now r.T N.ts (r.P.take (k+1))).2.2=yA S3+1:=by rw[ER.o.1];simp
    rw[<-hl2];exact⟨⟨k+1,g5,U,_,ps2,_,by omega,by go_num,rfl,rfl,hps,HC2,I⟩,by simp[intOf];omega⟩
   have G:(decide (J1=1) ||decide (J1=2))=false:=by simpa using hj
   have ER:bB ((fL c N.now r.T N.ts (r.P.take (k+1))).2.2=S3/\(fL c N.now r.T N.ts (r.P.take (k+1))).1=J2):=by
    refine cB ?_;rw[ES.o];exact⟨by simp[nsn,hJ],rfl⟩
   rw[G];clear hj hJ G Y;go_wp2;exact⟨⟨k+1,g5,U,v,ps2,_,by omega,by go_num,rfl,rfl,hps,HC2,cB (by rw[ER.o.1,ER.o.2];exact y.o)⟩,by simp[intOf];omega⟩
  obtain rfl:k=yA r.P:=by omega
  have hl:fL c N.now r.T N.ts (r.P.take (yA r.P))=L:=by rw[Rb];exact E.o.symm
  have hbd:=t.o _ (Ia _);rw[hl]at hbd HC Q;clear hl E t HJ HSZ HBT;obtain⟨W1,W2,W3⟩:=L;dsimp only at *;obtain⟨-,-,s3,s4,s5,s6⟩:=hbd;have E2:bB (qF f=H0):=by rw[z.o];exact HC
  have hsz:yF f<=10000:=by rw[<-GV,E2.o,z.o,Ka,Ka];omega
  obtain⟨ra,rc,rfl⟩:=fZ Q.o.row4;have RI:=cB (KN Q.o.row4).recs;have HJN:=cB (fun(W:eA)(hr:W.ownsRow w.1.size 9 1 (pA (some ⟨g,0,aA⟩) (yA f) cv) (yA f) (f.map iA.string))=>by
   obtain⟨hcv,F,hcs⟩:=xG hr;have:=iI g (yA f) cv f W rfl hcs F hcv (by omega) (by omega);rw[E2.o]at this;exact this)
  clear HC;cases W3 with
  |nil=>
   replace o:=cB (o.o.trans (Ma rfl));go_wp2_with(first|(go_at_call 159;apply hC (HJN.o _ Q.o.row3);intro w2 n;replace n:=cB n));go_ret;rw[o.o];exact HSA.o _ _ (Q.o.turn.trans' (eB.of n.o))
  |cons x1 xr=>
   replace o:=cB (o.o.trans (Ja (by simp)));replace a0:=cB (a0.o wr ra rc (x1::xr) Q.o.turn RI.o (by omega) s6);have hn:0<yA (x1::xr):=by simp
   generalize x1::xr=W3 at *;generalize zF c N W3=V at *;go_wp2_with fail;refine a0.o.mono ?_;rintro e w2 h2;have O:=cB h2;obtain⟨_,_,_,_,rfl,_,_,d⟩:=h2;have R2:=cB (d.row Q.o.row3 λq hq e=>by have:=mH Q.o.row3 q hq;omega);by_cases R:bT V.1 V.2=0
   .rw[R];replace o:=cB (o.o.trans (by rw[Ma R]));go_wp2_with(first|(go_at_call 159;apply hC (HJN.o _ R2.o);intro w3 n;replace n:=cB n));go_ret;rw[o.o];exact HMD.o _ _ _ _ _ _ _ Q.o.turn O.o n.o
   replace o:=cB (o.o.trans (by rw[Ja R]));have hs1:(bT V.1 V.2==0)=false:=by simpa using R
   go_wp2_with(first|(go_at_call 24;apply hC (jT _ _);intro w3 n;replace n:=cB n));go_ret;rw[o.o];exact HMD.o _ _ _ _ _ _ _ Q.o.turn O.o n.o
end
end
section
open Go.Maps
section
variable {w0 w W:eA} {D Lo:Nat} {r:dG} {sa:jC} {sc:Nat} {c:gC} {a:jC} {ca:Nat} {b:jC} {cb:Nat} {N:pC} {l m M:Nat} {B A:Nat→Prop}
theorem fU.z(h:fU Lo w0 w D r sa sc c a ca b cb N l m M B A)(d:tB w W):fU Lo w0 W D r sa sc c a ca b cb N l m M B A:=
 { h with
  dsk:=h.dsk.z d
  led:=h.led.z d
  new:=λg e=>h.new g (Ua d.size e)
  node:=h.node.z d
  apart:=λg e=>⟨(h.apart g e).1,(h.apart g e).2.1,Bb (h.apart g e).2.2 d.size⟩
  base:=vB h.base d
  smp:=λf i=>h.smp f ((eB.of d).trans' i) }
theorem aGf{c:gC}{N:pC}{r:dG}(d:N.deg=true)(e:r.K<=4):nI c N r=(N,qB 1 3):=Ma ⟨d,e⟩
theorem aGg{c:gC}{N:pC}{r:dG}(d:N.deg=false\/4<r.K)(f:r.K≠2/\r.K≠4)(g:oC r.T=false):nI c N r=(N,qB 1 2):=by
 unfold nI;rw[Ja (λe=>by obtain h|h:=d;rw[h]at e;cases e.1;omega),Ma ⟨f,g⟩]
theorem lg(h:fU Lo w0 w D r sa sc c a ca b cb N l m M B A)(J:iR w)(L:N.up=true):
 Calls prog 26 #[.pointer (pB D)] w λe w'=>DH (nI c N r) D r sa sc c l Lo w0 e w':=by
 obtain⟨⟨O,k6⟩,_,_,_,_,G,F,_,_⟩:=h.req.1;have I:=cB (λW s(o:tB w W)=>h.same (eB.of o) (s:=s));have z:=cB (λW=>qJ r.T W (by unfold maxLen;omega));have C:=cB (aGf (c:=c) (N:=N) (r:=r));have E:=cB (aGg (c:=c) (N:=N) (r:=r));have t:=λk j(x:k<7) U=>J.2 k j x U;have R:=cB (λW(o:tB w W)=>mo (h.z o));have S:=cB (λW(o:tB w W)=>wd (h.z o));have T:=cB (λW(o:tB w W)=>mn (h.z o));have U:=cB (λW(o:tB w W)=>vs (h.z o));have X:=cB (λW(o:tB w W)=>mh (h.z o));have Y:=cB (λW(o:tB w W)=>vt (h.z o));have H:=cB (λW(o:tB w W)=>eI (h.dsk.z o));have P:r.T.size+r.R.size<=200000:=by omega
 clear h J G F;obtain⟨K,x,Z,h⟩:∃K:Nat,r.K=K/\1<=K/\K<=6:=⟨r.K.toNat,by omega,by omega,by omega⟩
 have d:=t K 0 (by omega) (by omega);have f:=t K 1 (by omega) (by omega);have g:=t K 2 (by omega) (by omega);have i:=t K 3 (by omega) (by omega);have n:=t K 4 (by omega) (by omega);clear O k6 t;generalize nI c N r=V at *;obtain rfl|rfl|rfl|rfl|rfl|rfl:K=1\/K=2\/K=3\/K=4\/K=5\/K=6:=by omega
 all_goals
  simp[shB,zU,yU,mV]at d f g i n;have Q:=H.o _ bD;simp only[x]at Q;replace x:=cB (show r.K=_ from x);cases hd:N.deg<;>cases hn:oC r.T
  all_goals
   rw[hd]at Q;rw[hn]at z;have q:=cB hd;have v:=cB hn;have u:=x;clear hd hn H;go_enter func26,ntmps26;go_wp2_with(first
    |(go_at_call 28;apply cO (z.o _))
    |(go_at_call 24;apply hC (jT _ _);intro y o;replace o:=cB o)
    |(go_at_call 84;refine(R.o _ (vB yB yB) q.o u.o v.o).mono ?_;rintro e y p;have O:=cB p;obtain⟨_,_,_,_,rfl,_⟩:=p)
    |(go_at_call 85;refine(S.o _ (vB yB yB) q.o L u.o).mono ?_;rintro e y p;have O:=cB p;obtain⟨_,_,_,_,rfl,_⟩:=p)
    |(go_at_call 86;refine(T.o _ (vB yB yB) q.o L u.o v.o P).mono ?_;rintro e y p;have O:=cB p;obtain⟨_,_,_,_,rfl,_⟩:=p)
    |(go_at_call 87;refine(U.o _ (vB yB yB) q.o u.o).mono ?_;rintro e y p;have O:=cB p;obtain⟨_,_,_,_,rfl,_⟩:=p)
    |(go_at_call 88;refine(X.o _ (vB yB yB) u.o v.o P).mono ?_;rintro e y p;have O:=cB p;obtain⟨_,_,_,_,rfl,_⟩:=p)
    |(go_at_call 89;refine(Y.o _ (vB yB yB) u.o v.o (by omega)).mono ?_;rintro e y p;have O:=cB p;obtain⟨_,_,_,_,rfl,_⟩:=p))
   go_ret;first
    |exact O.o
    |(rw[C.o q.o (by rw[x.o];decide)];exact I.o _ _ (vB yB o.o))
    |(rw[E.o (by first|exact Ca q.o|exact La (by rw[x.o];decide)) (by rw[x.o];decide) v.o];exact I.o _ _ (vB yB o.o))
end
end
section
open Go.Maps
attribute [local go_sem] wF uG fK gB.drewI oK.drewI oK.new oK.alloc oK.alloc2
theorem qG.turned{S:Nat->Prop}{w l:eA}{B:Nat}{a:jC}{m:List oF}(h:qG w B a m)(e:eB S w l)(k:∀g,B<=g->g<w.1.size->¬S g):dJ l a m:=by
 obtain h|⟨g,o,n,t,T,rfl,p,q,u,h⟩:=h;exact Ca h;have b:=aB q;have s:=e.block g b (k g p b);exact La ⟨g,o,rfl,Bb b e.size,λi r=>((h i r).keep (λj _=>eA.cell?_of_block s) λf c d _=>⟨e.block f c (k f d c),rfl⟩).at⟩
theorem aNf(c:gC)(N:pC)(r:dG):N.up=false/\qR c N r=(N,qB 1 4)\/N.up=true/\qR c N r=nI c N r:=by
 unfold qR;cases N.up<;>simp
theorem ef (c : gC) (a b : jC) (v o : Nat) (N : pC) (r : dG) (w : eA) (h : nQ w a b N) (f : kC c N.now N.ts = true) (L : VR r) (hU : bH w) (Z : cJ w) (z : iR w) :
    Calls prog 7 #[jE c, .agg (dC a v b o N), oA (uK r)] w λe F => NaV (qR c N r).1 (oA (qR c N r).2) w e F := by
  have d := h.bulk;have O : bB (∀ W, tB w W -> Calls prog 22 #[.agg (dC a v b o N)] W λe F => ∃ a v b o, e = .returned (.agg (dC a v b o N)) /\ oJ F (λx => W.1.size <= x /\ x < F.1.size) a b N /\ tB W F) := λW K => eW a b v o N W (h.files.z K) h.fit.len (h.tens.z K) (by omega) (yO (by omega))
  have HO := cB (λW b o (K : tB w W) (ht : uC W b N.ts) => FH c N.now b o N.ts 1900000 W ht (rP (show yA N.ts + aC N.ts <= 1900000 by omega)).1 (by omega) (hU.z K));have u := cB (λW (K : tB w W) => ec r W L (z.z K));have HV := cB (aNf c N r);have HOK := cB (And.intro L.ok (And.intro L.sz L.U));have HBT : bB (∀ x ∈ r.P, WR x.bits) := λx hx => by obtain⟨i, hi, rfl⟩ := List.mem_iff_getElem.1 hx; exact L.bits i hi
  have HS0 := cB f;have Q := cB (And.intro h.fit (And.intro h.bulk (And.intro h.rng (And.intro h.lsn h.now))));have A := cB (And.intro hU (And.intro Z z));clear h d hU Z z f L;unfold jE at *;unfold bh at u;unfold mZ at HO;generalize qR c N r = V at *;generalize uK r = s at u |-
  have fz := yK
  go_enter func7, ntmps7
  go_upto_region 1 with fail
  have P := cB (NP.new (w := w) (c := c) (cs := dC a v b o N));generalize (((w.alloc (.cells #[lA mA c.w, lA mA c.tl, lA mA c.ml, lA mA c.sh, lA mA c.ha, lA mA c.sg] 24)).alloc (.cells (dC a v b o N) 42)).alloc (.cells (dC aA 0 aA 0 xK) 42)) = w1 at *;have t := P.o.cells rfl;have rN := eF a v b o N 42;have Y := lE a v b o N
  go_wp2_with fail
  refine(O.o _ P.o.B).mono ?_;rintro e w2 ⟨G, I, H, J, rfl, j, d⟩;have h1 := P.o.lt;replace P := cB (P.o.z d);replace j := cB j;clear d rN Y t O;have t := P.o.cells rfl
  go_upto_region 2 with fail
  refine jU (C := λW => Code.wp prog _ _ _ W) P.o.N ?_;intro w3 hB z;replace P := cB (P.o.put hB z);replace j := cB ((j.o.turned z (λx hx _ e => by omega)).mono (A' := λx => w.1.size + 1 + 1 < x /\ x < w2.1.size) (λx hx => by omega));have hH := z.size;clear hB z t;have t := P.o.cells rfl;have rN := eF G I H J N 42;have Y := lE G I H J N
  go_wp2_with fail
  refine(HO.o _ _ _ P.o.B j.o.tens).mono ?_;rintro e w4 (⟨f, rfl, d⟩ | ⟨f, l, m, rfl, hl0, hL, d⟩)
  · rw [HS0.o] at f; cases f
  · have H3 := cB d
    have L4 := cB hL;have h3 := P.o.lt;have h34 := d.size;have P3 := P;replace P := cB (P.o.z d);replace j := cB (j.o.z d);have p := Nat.le_trans hH d.size;clear d hL t;have t := P.o.cells rfl;replace f := cB f;obtain⟨E, rfl⟩ | ⟨E, hE⟩:=HV.o
    · rw [E] at rN Y
      have HK := cB (P.o.held (dC G I H J N))
      go_wp2_with fail
      go_region_held3 (λF => gB F (w.1.size + 1) (dC G I H J N) 42)
        (first | with_reducible exact(HK.o _ M).1 | with_reducible exact(HK.o _ bD.drew).1 | exact(HK.o _ M).2)
        (first | (go_at_call 24; refine(jT _ _).mono ?_; rintro e u1 ⟨rfl, d⟩; have M : tB w4 u1 := (by with_reducible exact vB bD.drew d); have bx := (P.o.z M).R.box rfl))
      go_wp2
      exact ZB rfl rfl rfl rfl (P.o.z M) (j.o.z M) (Nat.le_trans p M.size)
    · rw [E] at rN Y
      replace E := cB E
      go_wp2_with fail
      refine(u.o _ P.o.B).mono ?_;rintro e w5 ⟨av, U, rfl, hS, d⟩;have S5 := cB hS;have H5 := cB d;replace P := cB (P.o.z d);replace j := cB (j.o.z d);replace p := Nat.le_trans p d.size;have h45 := d.size;clear hS d t u
      go_upto_region 6 with fail
      refine yH (C := λW => Code.wp prog _ _ _ W) ?_;intro w6 q X6 y;replace y := cB y;have X := cB X6;have H6 := cB q;replace P := cB (P.o.z q);replace j := cB (j.o.z q);replace p := Nat.le_trans p q.size;clear X6 q;have t := P.o.cells rfl;have xr := X.o.c5
      · replace hE := cB hE
        go_upto_region 8 with fail
        clear Y fz
        go_upto_region 9 with fail
        refine yH (C := λW => Code.wp prog _ _ _ W) ?_;intro w7 k X7 hz7;replace X7 : gB w7 w6.1.size (LH r av U c G I H J N l) 92 := by unfold LH; rw [E.o]; exact X7
        have b37 := cB (vB (vB (vB H3.o H5.o) H6.o) k);have S := cB (vB (vB H5.o H6.o) k);have T := cB (vB H6.o k);have h63 := y.o;have DK := cB (show fU (w.1.size + 1 + 1 + 1) w3 w7 w6.1.size r av U c G I H J N l m 1900000 (λg => w3.1.size <= g /\ g < w4.1.size \/ w7.1.size <= g) (λx => w.1.size + 1 + 1 < x /\ x < w2.1.size) from
          { dsk := X7
            led := L4.o.re λg D hB => ⟨S.o.block g D, Or.inl ⟨hB, D⟩⟩
            new := λg D => Or.inr D
            off := by omega
            old := λg D => by omega
            node := j.o.z k
            apart := λg D => ⟨⟨by omega, by omega⟩, by omega, by omega⟩
            lo := by omega
            base := b37.o
            utab := A.o.1.z P3.o.B
            pow := A.o.2.1.z P3.o.B
            fit := Q.o.1
            bulk := Q.o.2.1
            rng := Q.o.2.2.1
            lsn := Q.o.2.2.2.1
            now := Q.o.2.2.2.2
            st := f.o
            req := HOK.o
            bit := HBT.o
            smp := λW ht => S5.o.turned ((eB.of T.o).trans' ht) λg D hlt e => by omega
            hM := by omega })
        have n := lg DK.o (A.o.2.2.z (P.o.z k).B) E.o;rw [<- hE.o] at n;replace n := cB n;clear DK X7 k hz7 S T L4 S5 t xr h63 y
        go_wp2_with fail
        refine n.o.mono ?_;rintro e w8 ⟨a8, c8, b8, d8, rfl, X8, A8, B8⟩;have xd := eI X8;have P8 := cB (P3.o.z B8);have hA8 := cB A8;clear X8 A8 B8 n rN;clear hE;obtain⟨M8, rep⟩ := V;dsimp only at *;have fM := lE a8 c8 b8 d8 M8;have t := P8.o.cells rfl
        go_wp2
        exact ZB rfl rfl rfl rfl P8.o (hA8.o.mono λx hx => ⟨by omega, hx.2⟩) (Nat.le_refl _)
end
