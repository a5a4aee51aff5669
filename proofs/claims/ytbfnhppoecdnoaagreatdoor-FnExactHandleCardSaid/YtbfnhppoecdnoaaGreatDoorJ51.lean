import Derived.Test.YtbfnhppoecdnoaaGreatDoorJ47
import Derived.Laws.EntriesVeiled
set_option maxRecDepth 100000
set_option maxHeartbeats 8000000
open Bool renaming false->cA
open Option renaming none->aA
open List renaming length->vA
namespace Go.Proofs.YtbfnhppoecdnoaaGreatDoor
open Go renaming World->eA,Value->iA
open Value renaming int->lA,string->nA,slice->oA
open IntKind renaming i64->mA
open Go.RowKit Tryz
section
open Go.Maps
section
variable {w0 w W:eA} {D Lo:Nat} {r:xG} {sa:iC} {sc:Nat} {c:lC} {a:iC} {ca:Nat} {b:iC} {cb:Nat} {N:oC} {l m M:Nat} {B A:Nat→Prop}
theorem aTa{d:List cF}(h:(sE d).size<=60000):∀k(h:k<vA d),eH d[k]<=300000:=λk i=>by
 have j:=jQ d[k];have f:=tX d k i;have e:=wM (d.take (k+1)) (d.drop (k+1));rw[Za,f]at e;have g:=Kd ByteArray.size e;simp only[Ka]at g;show vA d[k].B+nD d[k].B<=_;omega
theorem aQi(v:Int)(W:eA):qD 133 #[lA mA v] W (nA (pB 2 v)):=gO (k:=2) (La (Ca ⟨rfl,rfl⟩)) v W
theorem vz(h:oV Lo w0 w D r sa sc c a ca b cb N l m M B A)(hd:N.deg=cA)(p:r.K=1)(j:tC r.T=true):
 Calls prog 85 #[.pointer (some ⟨D,0,aA⟩)] w λe w'=>GF (dK c N r) D r sa sc c l Lo w0 e w':=by
 rw[aTo hd p j];obtain⟨_,_,_,_,_,T,_,hl5,_⟩:=h.req.1;have hex:(sE r.P).size<=60000:=by
  have e:dW r=pB 1 1++kO r.T++pB 2 (vA r.P:Nat)++sE r.P:=by simp[dW,p,qU,oU,zU,Wa]
  have:=h.req.2.1;rw[e]at this;simp only[Ka]at this;omega
 have t:=yA (aMw h.st r.T r.P hex hl5 T);have HSZ:=yA (aTa hex);have HBT:=yA (λk(p:k<vA r.P)=>h.bit _ (Gb p));have hbk:=h.bulk;obtain⟨hM1,hM2⟩:=h.hM;have HT:=yA (λW(j:bB B w W)=>(h.tabs j).1);have u:=yA (λW(j:bB B w W)=>j.blk h.dsk h.off);have HSM:=yA (λW(j:bB B w W)=>h.smp W (j.mono λi _ e=>Ca e));have HJ:=yA (λW K k(x:cF) la lc(hW:bB B w W)(hL:nE W K l m c N.now (vM c N.now r.T N.ts (r.P.take k)).1 (M+k))(hK:∀g,W.1.size<=g->K g)(hl:yD W la x.B)(hlc:vA x.B<=lc)(p:k<=vA r.P)(hx:eH x<=300000)(hi:GA x.bits)=>aFj x la lc (u.o W hW) hL hK hl hlc (HT.o W hW) (by omega) hx hi (t.o k p).1 (by have:=(t.o k p).2.1;omega) (by omega) (by omega));have HSA:=yA (λW s(j:bB B w W)=>h.same j (s:=s));have HMD:=yA (λW e w1 w2 V v s(j:bB B w W)=>h.made j (V:=V) (v:=v) (s:=s) (e:=e) (w1:=w1) (w2:=w2));have a0:=yA (λW ar capr rs(j:bB B w W)(hr:wI W ar rs)(hz:vA rs+sD rs<=240000)(F:bn rs)=>mi (capr:=capr) (u.o W j) (h.nap j hr hz F) (h.tabs j).1 (h.tabs j).2);have HLD:=yA h.led;have b0:=yA h.new;have hDw:=zA h.dsk;clear h hd p j hex;obtain⟨L,E⟩:∃W,W=vM c N.now r.T N.ts r.P:=⟨_,rfl⟩
 rw[<-E];replace E:=yA E;obtain⟨H0,z⟩:∃h,h=pB 1 0++pB 2 (vA r.P:Nat)++L.2.1:=⟨_,rfl⟩
 rw[<-z];replace z:=yA z;obtain⟨VR,o⟩:∃v,v=if L.2.2=[] then(N,H0) else((pF c N L.2.2).1,if oS (pF c N L.2.2).1 (pF c N L.2.2).2=0 then H0 else pB 1 (oS (pF c N L.2.2).1 (pF c N L.2.2).2)):=⟨_,rfl⟩
 rw[<-o];replace o:=yA o;have xx:=fI (u.o w (bB.refl _ _));have Z:=yA (λW(n:kB w W)=>show cC W D 4 (oA sa (vA r.P) sc) from(u.o W (bB.of n)).cell 4);go_enter func85,ntmps85;go_upto_region 1 with fail;go_cut [3] (λs wx=>∃g,s=oA (some ⟨g,0,aA⟩) 2 2/\TE w wx g 2 [pB 1 0,pB 2 (vA r.P:Nat)])
 case first=>
  go_region_held3 (λw'=>w'.cell? ⟨D,4,aA⟩=some (oA sa (vA r.P) sc))
   (first|go_keep|with_reducible exact Z.o _ k3|with_reducible exact Z.o _ k2|with_reducible exact Z.o _ eD.drew)
   (first
    |(go_at_call 35;apply aC (tQ _ _);intro w2 hb2;have k2:kB w w2:=(by exact oB eD.drew hb2))
    |(go_at_call 133;apply aC (aQi _ _);intro w3 hb3;have k3:kB w w3:=(by exact oB k2 hb3)))
  all_goals(go_wp2_with fail;go_meet)
  all_goals exact⟨_,rfl,⟨rfl,La ⟨_,2,_,rfl,k3.size,heap_alloc_new _ _,Ia _,by simp[maxLen],rfl,rfl⟩⟩,oB k3 vB⟩
 obtain⟨g0,rfl,T⟩:=hcut;rename eA=>w1;have X:=yA T;clear xx T;have xx:=fI (u.o _ (bB.of X.o.bel));have hz0:=qB 1 0;have hz2:=qB 2 (vA r.P:Nat);have Q0:xA (WQ w w1 B (λg=>B g/\g<w.1.size\/w1.1.size<=g) (oA (some ⟨g0,0,aA⟩) 2 2) (oA aA 0 0) [pB 1 0,pB 2 (vA r.P:Nat)] [] l m c N.now N.ts M):=by
  have F:=qI X.o.row g0 rfl;have hg2:=nG X.o.row g0 rfl;refine⟨HLD.o.re λg F hB=>⟨X.o.bel.block g F,Ca ⟨hB,F⟩⟩,λg F=>La F,λg F=>F.elim (λe=>e.1) λe=>b0.o g (by omega),X.o.row,⟨rfl,Ca ⟨rfl,rfl⟩⟩,λq e=>?_,λq e=>by simp[iA.ownBlock]at e,bB.of X.o.bel⟩;obtain rfl:g0=q:=by simpa[iA.ownBlock]using e
  exact⟨λp=>p.elim (λe=>by omega) λe=>by omega,by simp[iA.ownBlock]⟩
 generalize (λg=>B g/\g<w.1.size\/w1.1.size<=g)=K0 at *;generalize pB 1 0=S0 at *;generalize pB 2 (vA r.P:Nat)=S2 at *;go_wp2;go_loopw [3,4,6,7,8,25] (λv3 v4 _ _ _ i wr=>∃(k:Nat)(g cv:Nat)(v:iA)(f:List gB)(K:Nat->Prop),k<=vA r.P/\i=lA mA k/\v3=oA (some ⟨g,0,aA⟩) (vA f) cv/\v=v4/\vA f<=2+k/\xA (lF f=S0++S2++(vM c N.now r.T N.ts (r.P.take k)).2.1)/\xA (WQ w wr B K (oA (some ⟨g,0,aA⟩) (vA f) cv) v f (vM c N.now r.T N.ts (r.P.take k)).2.2 l m c N.now (vM c N.now r.T N.ts (r.P.take k)).1 (M+k))) (λ_ _ _ _ _ i _=>vA r.P-(intOf i).toNat)
 case atStart=>exact⟨0,g0,2,_,[S0,S2],K0,Oa _,rfl,rfl,rfl,Ia _,by refine yA ?_;simp[lF,vM],Q0⟩
 case round=>
  clear Q0 X xx;obtain⟨k,g,cv,v,f,K,p,rfl,rfl,rfl,hpl,HC,Q⟩:=hrel;by_cases P:k<vA r.P
  .obtain ⟨b6,o6,a6,k6,rfl,hb6,g0',g1',hl6,hc6⟩:=(HSM.o _ Q.o.turn).atc P;have HJ1:=yA (λW5(hW:kB wr W5)=>HJ.o W5 K k r.P[k] a6 k6 (Q.o.turn.trans' (bB.of hW)) (Q.o.z hW).led (Q.o.z hW).new (hl6.z hW) hc6 p (HSZ.o k P) (HBT.o k P));have ES:=yA (VU (c:=c) (now:=N.now) (te:=r.T) (ts:=N.ts) r.P k P);have Y:=yA (aOf (c:=c) (now:=N.now) (ts:=(vM c N.now r.T N.ts (r.P.take k)).1) (te:=r.T) (x:=r.P[k]));obtain⟨_,_,s3,s4,_,_⟩:=t.o k p;have jc:=(xq (t.o k p).1 r.T r.P[k]).2.2.2;unfold wrS at ES;generalize mI c N.now (vM c N.now r.T N.ts (r.P.take k)).1 r.T r.P[k]=J at *;generalize hS9:vM c N.now r.T N.ts (r.P.take k)=S at *;generalize r.P[k].bits=bi at *;generalize r.P[k].B=ls at *;obtain⟨J1,J2,J3⟩:=J;obtain⟨S1,S2',S3⟩:=S;dsimp only at *;clear hS9;go_upto_region 6 with fail;refine tL (C:=λW=>Code.wp prog _ _ _ W) ?_;intro w8 hb8 X8 hz8;have xx:=X8.c2;have Q8:=yA (Q.o.z hb8);have H8:=yA hb8;clear hb8 hz8 X8 Q g0' g1' hb6;go_wp2_with fail;refine(HJ1.o _ H8.o).mono ?_;rintro e w9 ⟨ky,rfl,hky,hL9,hT9⟩;have Q9:=yA (Q8.o.judged hL9 hT9);replace hky:=yA hky;clear hL9 hT9 Q8 H8 HJ1 xx;go_wp2_with fail;apply aC (tQ _ _);intro w10 n;have H:=yA (Q9.o.z n);have hw10:=H.o.turn.size;clear n Q9;generalize pB 1 (J1:Nat)=U3 at *;go_wp2_with(at_builtin;refine eO rfl _ _ rfl underlying204 YS rfl (by omega) (by omega) rfl H.o.row3 rfl rfl (cs:=#[nA U3]) rfl (by simp[iA.oneCell']) (by omega) hw10 ?_;intro g5 U w11 HO HT5 HA5);have y:=yA (H.o.app3 (x:=U3) HO.o HT5.o HA5.o b0.o);have hle:vA (f++[U3])=vA f+1:=by simp
   have HC2:xA (lF (f++[U3])=S0++S2++(vM c N.now r.T N.ts (r.P.take (k+1))).2.1):=by
    show _=_;rw[ES.o,zF,HC.o];simp[lF,Wa]
   have hw11:=y.o.turn.size;clear HO HT5 HA5 H HC;apply lK (AL J1 w11);rw[<-hle];clear hle;have hps:vA (f++[U3])<=2+(k+1):=by simp;omega
   generalize f++[U3]=ps2 at *;obtain⟨hj,hJ⟩|⟨hj,hJ⟩:=Y.o
   .have G:(decide (J1=1) ||decide (J1=2))=true:=by simpa using hj
    obtain rfl:=hky.o hJ;have ER:xA ((vM c N.now r.T N.ts (r.P.take (k+1))).2.2=S3++[⟨1,r.T,ky,0⟩]/\(vM c N.now r.T N.ts (r.P.take (k+1))).1=J2):=by
     refine yA ?_;rw[ES.o];exact⟨by simp[nsn,hJ],rfl⟩
    rw[G];have xx:=fI (u.o _ y.o.turn);clear hj hJ G Y;go_wp2_with(at_builtin;refine eO rfl _ _ rfl underlying64 og rfl (by omega) (by omega) (v:=v) rfl y.o.row4 rfl rfl (cs:=#[lA mA 1,nA r.T,nA ky,lA mA 0]) rfl (by simp[iA.oneCell']) (by omega) hw11 ?_;intro g6 cap6 w12 HO6 HT6 HA6);have I:=y.o.app4 (x:=⟨1,r.T,ky,0⟩) HO6.o HT6.o HA6.o b0.o;rw[<-ER.o.1,<-ER.o.2]at I;replace I:=yA I;have hl2:vA (vM c N.now r.T N.ts (r.P.take (k+1))).2.2=vA S3+1:=by rw[ER.o.1];simp
    rw[<-hl2];exact⟨⟨k+1,g5,U,_,ps2,_,by omega,by go_num,rfl,rfl,hps,HC2,I⟩,by simp[intOf];omega⟩
   have G:(decide (J1=1) ||decide (J1=2))=cA:=by simpa using hj
   have ER:xA ((vM c N.now r.T N.ts (r.P.take (k+1))).2.2=S3/\(vM c N.now r.T N.ts (r.P.take (k+1))).1=J2):=by
    refine yA ?_;rw[ES.o];exact⟨by simp[nsn,hJ],rfl⟩
   rw[G];clear hj hJ G Y;go_wp2;exact⟨⟨k+1,g5,U,v,ps2,_,by omega,by go_num,rfl,rfl,hps,HC2,yA (by rw[ER.o.1,ER.o.2];exact y.o)⟩,by simp[intOf];omega⟩
  obtain rfl:k=vA r.P:=by omega
  have hl:vM c N.now r.T N.ts (r.P.take (vA r.P))=L:=by rw[Rb];exact E.o.symm
  have hbd:=t.o _ (Ia _);rw[hl]at hbd HC Q;clear hl E t HJ HSZ HBT;obtain⟨W1,W2,W3⟩:=L;dsimp only at *;obtain⟨-,-,s3,s4,s5,s6⟩:=hbd;have E2:xA (lF f=H0):=by rw[z.o];exact HC
  have hsz:wF f<=10000:=by rw[<-KQ,E2.o,z.o,Ka,Ka];omega
  obtain⟨ra,rc,rfl⟩:=AZ Q.o.row4;have RI:=yA (NN Q.o.row4).recs;have HJN:=yA (fun(W:eA)(hr:W.ownsRow w.1.size 9 1 (oA (some ⟨g,0,aA⟩) (vA f) cv) (vA f) (f.map iA.string))=>by
   obtain⟨hcv,F,hcs⟩:=oG hr;have:=lI g (vA f) cv f W rfl hcs F hcv (by omega) (by omega);rw[E2.o]at this;exact this)
  clear HC;cases W3 with
  |nil=>
   replace o:=yA (o.o.trans (Ma rfl));go_wp2_with(first|(go_at_call 137;apply aC (HJN.o _ Q.o.row3);intro w2 n;replace n:=yA n));go_ret;rw[o.o];exact HSA.o _ _ (Q.o.turn.trans' (bB.of n.o))
  |cons x1 xr=>
   replace o:=yA (o.o.trans (Ja (by simp)));replace a0:=yA (a0.o wr ra rc (x1::xr) Q.o.turn RI.o (by omega) s6);have hn:0<vA (x1::xr):=by simp
   generalize x1::xr=W3 at *;generalize pF c N W3=V at *;go_wp2_with fail;refine a0.o.mono ?_;rintro e w2 h2;have O:=yA h2;obtain⟨_,_,_,_,rfl,_,_,d⟩:=h2;have R2:=yA (d.row Q.o.row3 λq hq e=>by have:=qI Q.o.row3 q hq;omega);by_cases R:oS V.1 V.2=0
   .rw[R];replace o:=yA (o.o.trans (by rw[Ma R]));go_wp2_with(first|(go_at_call 137;apply aC (HJN.o _ R2.o);intro w3 n;replace n:=yA n));go_ret;rw[o.o];exact HMD.o _ _ _ _ _ _ _ Q.o.turn O.o n.o
   replace o:=yA (o.o.trans (by rw[Ja R]));have hs1:(oS V.1 V.2==0)=cA:=by simpa using R
   go_wp2_with(first|(go_at_call 35;apply aC (tQ _ _);intro w3 n;replace n:=yA n));go_ret;rw[o.o];exact HMD.o _ _ _ _ _ _ _ Q.o.turn O.o n.o
end
end
section
open Go.Maps
section
variable {w0 w W:eA} {D Lo:Nat} {r:xG} {sa:iC} {sc:Nat} {c:lC} {a:iC} {ca:Nat} {b:iC} {cb:Nat} {N:oC} {l m M:Nat} {B A:Nat→Prop}
theorem oV.z(h:oV Lo w0 w D r sa sc c a ca b cb N l m M B A)(d:kB w W):oV Lo w0 W D r sa sc c a ca b cb N l m M B A:=
 { h with
  dsk:=h.dsk.z d
  led:=h.led.z d
  new:=λg e=>h.new g (Ua d.size e)
  node:=h.node.z d
  apart:=λg e=>⟨(h.apart g e).1,(h.apart g e).2.1,Bb (h.apart g e).2.2 d.size⟩
  base:=oB h.base d
  smp:=λf i=>h.smp f ((bB.of d).trans' i) }
theorem aNh{c:lC}{N:oC}{r:xG}(d:N.deg=true)(e:r.K<=4):dK c N r=(N,pB 1 3):=Ma ⟨d,e⟩
theorem aNi{c:lC}{N:oC}{r:xG}(d:N.deg=cA\/4<r.K)(f:r.K≠2/\r.K≠4)(g:tC r.T=cA):dK c N r=(N,pB 1 2):=by
 unfold dK;rw[Ja (λe=>by obtain h|h:=d;rw[h]at e;cases e.1;omega),Ma ⟨f,g⟩]
theorem uw(h:oV Lo w0 w D r sa sc c a ca b cb N l m M B A)(J:wO w)(L:N.up=true):
 Calls prog 37 #[.pointer (some ⟨D,0,aA⟩)] w λe w'=>GF (dK c N r) D r sa sc c l Lo w0 e w':=by
 obtain⟨⟨k1,k6⟩,_,_,_,_,G,F,_,_⟩:=h.req.1;have I:=yA (λW s(o:kB w W)=>h.same (bB.of o) (s:=s));have z:=yA (λW=>dN r.T W (by unfold maxLen;omega));have C:=yA (aNh (c:=c) (N:=N) (r:=r));have E:=yA (aNi (c:=c) (N:=N) (r:=r));have t:=λk j(x:k<7) hj=>J.2 k j x hj;have R:=yA (λW(o:kB w W)=>vz (h.z o));have S:=yA (λW(o:kB w W)=>aEh (h.z o));have T:=yA (λW(o:kB w W)=>vy (h.z o));have U:=yA (λW(o:kB w W)=>aDz (h.z o));have X:=yA (λW(o:kB w W)=>vv (h.z o));have Y:=yA (λW(o:kB w W)=>aEa (h.z o));have H:=yA (λW(o:kB w W)=>fI (h.dsk.z o));have P:r.T.size+r.R.size<=200000:=by omega
 clear h J G F;obtain⟨K,x,Z,a0⟩:∃K:Nat,r.K=K/\1<=K/\K<=6:=⟨r.K.toNat,by omega,by omega,by omega⟩
 have d:=t K 0 (by omega) (by omega);have f:=t K 1 (by omega) (by omega);have g:=t K 2 (by omega) (by omega);have i:=t K 3 (by omega) (by omega);have n:=t K 4 (by omega) (by omega);clear k1 k6 t;generalize dK c N r=V at *;obtain rfl|rfl|rfl|rfl|rfl|rfl:K=1\/K=2\/K=3\/K=4\/K=5\/K=6:=by omega
 all_goals
  simp[shB,qU,oU,zU]at d f g i n;have Q:=H.o _ eD;simp only[x]at Q;replace x:=yA (show r.K=_ from x);cases hd:N.deg<;>cases hn:tC r.T
  all_goals
   rw[hd]at Q;rw[hn]at z;have q:=yA hd;have v:=yA hn;have u:=x;clear hd hn H;go_enter func37,ntmps37;go_wp2_with(first
    |(go_at_call 84;apply lK (z.o _))
    |(go_at_call 35;apply aC (tQ _ _);intro y o;replace o:=yA o)
    |(go_at_call 85;refine(R.o _ (oB vB vB) q.o u.o v.o).mono ?_;rintro e y p;have O:=yA p;obtain⟨_,_,_,_,rfl,_⟩:=p)
    |(go_at_call 86;refine(S.o _ (oB vB vB) q.o L u.o).mono ?_;rintro e y p;have O:=yA p;obtain⟨_,_,_,_,rfl,_⟩:=p)
    |(go_at_call 87;refine(T.o _ (oB vB vB) q.o L u.o v.o P).mono ?_;rintro e y p;have O:=yA p;obtain⟨_,_,_,_,rfl,_⟩:=p)
    |(go_at_call 88;refine(U.o _ (oB vB vB) q.o u.o).mono ?_;rintro e y p;have O:=yA p;obtain⟨_,_,_,_,rfl,_⟩:=p)
    |(go_at_call 89;refine(X.o _ (oB vB vB) u.o v.o P).mono ?_;rintro e y p;have O:=yA p;obtain⟨_,_,_,_,rfl,_⟩:=p)
    |(go_at_call 90;refine(Y.o _ (oB vB vB) u.o v.o (by omega)).mono ?_;rintro e y p;have O:=yA p;obtain⟨_,_,_,_,rfl,_⟩:=p))
   go_ret;first
    |exact O.o
    |(rw[C.o q.o (by rw[x.o];decide)];exact I.o _ _ (oB vB o.o))
    |(rw[E.o (by first|exact Ca q.o|exact La (by rw[x.o];decide)) (by rw[x.o];decide) v.o];exact I.o _ _ (oB vB o.o))
end
end
section
open Go.Maps
attribute [local go_sem] zG tH cO iB.drewI fO.drewI fO.new fO.alloc fO.alloc2
theorem rF.turned{S:Nat->Prop}{w l:eA}{B:Nat}{a:iC}{m:List cF}(h:rF w B a m)(e:bB S w l)(k:∀g,B<=g->g<w.1.size->¬S g):jI l a m:=by
 obtain h|⟨g,o,n,t,T,rfl,p,q,u,h⟩:=h;exact Ca h;have b:=zA q;have s:=e.block g b (k g p b);exact La ⟨g,o,rfl,Bb b e.size,λi r=>((h i r).keep (λj _=>eA.cell?_of_block s) λf c d _=>⟨e.block f c (k f d c),rfl⟩).at⟩
theorem aQu(c:lC)(N:oC)(s:gB):kC c N.now N.ts=cA/\rJ c N s=(N,pB 1 4)\/kC c N.now N.ts=true/\(N.up=cA/\rJ c N s=(N,pB 1 4)\/N.up=true/\((aG s).2=cA/\rJ c N s=(N,pB 1 1)\/(aG s).2=true/\rJ c N s=dK c N (aG s).1)):=by
 unfold rJ;cases kC c N.now N.ts<;>cases N.up<;>cases (aG s).2<;>simp
theorem nx (c : lC) (a b : iC) (F t : Nat) (N : oC) (s : gB) (w : eA) (h : dS w a b N) (hs : s.size <= 1048576) (hU : vH w) (Z : oL w) (H : wO w) :
    Calls prog 8 #[oF c, .agg (dC a F b t N), nA s] w λe v => NaV (rJ c N s).1 (nA (rJ c N s).2) w e v := by
  have d := h.bulk;have O : xA (∀ W, kB w W -> Calls prog 33 #[.agg (dC a F b t N)] W λe v => ∃ a F b t, e = .returned (.agg (dC a F b t N)) /\ iI v (λx => W.1.size <= x /\ x < v.1.size) a b N /\ kB W v) := λW M => oX a b F t N W (h.files.z M) h.fit.len (h.tens.z M) (by omega) (tP (by omega))
  have HO := yA (λW b t (M : kB w W) (ht : nC W b N.ts) => qp c N.now b t N.ts 1900000 W ht (fP (show vA N.ts + nB N.ts <= 1900000 by omega)).1 (by omega) (hU.z M));have I := yA (λW (M : kB w W) => eg s W hs (H.z M));have HV := yA (aQu c N s);have HOK := yA (λh => qX (s := s) h);have HBT := yA (aEb s);have Q := yA (And.intro h.fit (And.intro h.bulk (And.intro h.rng (And.intro h.lsn h.now))));have J := yA (And.intro hU (And.intro Z H));clear h d hU Z H hs;unfold oF at *;unfold tO at I;unfold bm at HO;generalize rJ c N s = V at *;generalize aG s = R at *;obtain⟨r, ok⟩ := R;dsimp only at *;have fz := jP
  go_enter func8, ntmps8
  go_upto_region 1 with fail
  have P := yA (NP.new (w := w) (c := c) (cs := dC a F b t N));generalize (((w.alloc (.cells #[lA mA c.w, lA mA c.tl, lA mA c.ml, lA mA c.sh, lA mA c.ha, lA mA c.sg] 46)).alloc (.cells (dC a F b t N) 43)).alloc (.cells (dC aA 0 aA 0 qK) 43)) = w1 at *;have o := P.o.cells rfl;have rN := tF a F b t N 43;have Y := iF a F b t N
  go_wp2_with fail
  refine(O.o _ P.o.B).mono ?_;rintro e w2 ⟨y, A, z, D, rfl, i, d⟩;have h1 := P.o.lt;replace P := yA (P.o.z d);replace i := yA i;clear d rN Y o O;have o := P.o.cells rfl
  go_upto_region 2 with fail
  refine nZ (C := λW => Code.wp prog _ _ _ W) P.o.N ?_;intro w3 hB H;replace P := yA (P.o.put hB H);replace i := yA ((i.o.turned H (λx hx _ e => by omega)).mono (A' := λx => w.1.size + 1 + 1 < x /\ x < w2.1.size) (λx hx => by omega));have hH := H.size;clear hB H o;have o := P.o.cells rfl;have rN := tF y A z D N 43;have Y := iF y A z D N
  go_wp2_with fail
  refine(HO.o _ _ _ P.o.B i.o.tens).mono ?_;rintro e w4 (⟨n, rfl, d⟩ | ⟨n, l, m, rfl, hl0, hL, d⟩)
  · have E : V = (N, pB 1 4) := by
      obtain h | h:=HV.o
      · exact h.2
      · rw [n] at h; cases h.1
    obtain rfl := E;replace P := yA (P.o.z d);replace i := yA (i.o.z d);replace hH := Nat.le_trans hH d.size;clear d o HV;have o := P.o.cells rfl;have q := yA (P.o.held (dC y A z D N))
    go_wp2_with fail
    go_region_held3 (λv => iB v (w.1.size + 1) (dC y A z D N) 43)
      (first | with_reducible exact(q.o _ f).1 | with_reducible exact(q.o _ eD.drew).1 | exact(q.o _ f).2)
      (first | (go_at_call 35; refine(tQ _ _).mono ?_; rintro e u1 ⟨rfl, d⟩; have f : kB w4 u1 := (by with_reducible exact oB eD.drew d); have bx := (P.o.z f).R.box rfl))
    go_wp2
    exact JA rfl rfl rfl rfl (P.o.z f) (i.o.z f) (Nat.le_trans hH f.size)
  · have H3 := yA d
    have L4 := yA hL;have h3 := P.o.lt;have h34 := d.size;have P3 := P;replace P := yA (P.o.z d);replace i := yA (i.o.z d);have j := Nat.le_trans hH d.size;clear d hL o;have o := P.o.cells rfl;obtain h | ⟨-, h⟩:=HV.o
    · rw [n] at h; cases h.1
    replace n := yA n;obtain⟨L, rfl⟩ | ⟨L, hR⟩:=h
    · rw [L] at rN Y
      have q := yA (P.o.held (dC y A z D N))
      go_wp2_with fail
      go_region_held3 (λv => iB v (w.1.size + 1) (dC y A z D N) 43)
        (first | with_reducible exact(q.o _ f).1 | with_reducible exact(q.o _ eD.drew).1 | exact(q.o _ f).2)
        (first | (go_at_call 35; refine(tQ _ _).mono ?_; rintro e u1 ⟨rfl, d⟩; have f : kB w4 u1 := (by with_reducible exact oB eD.drew d); have bx := (P.o.z f).R.box rfl))
      go_wp2
      exact JA rfl rfl rfl rfl (P.o.z f) (i.o.z f) (Nat.le_trans j f.size)
    · rw [L] at rN Y
      replace L := yA L
      go_wp2_with fail
      refine(I.o _ P.o.B).mono ?_;rintro e w5 ⟨av, U, rfl, hS, d⟩;have S5 := yA hS;have H5 := yA d;replace P := yA (P.o.z d);replace i := yA (i.o.z d);replace j := Nat.le_trans j d.size;have h45 := d.size;clear hS d o I
      go_upto_region 6 with fail
      refine tL (C := λW => Code.wp prog _ _ _ W) ?_;intro w6 u X6 G;replace G := yA G;have X := yA X6;have H6 := yA u;replace P := yA (P.o.z u);replace i := yA (i.o.z u);replace j := Nat.le_trans j u.size;clear X6 u;have o := P.o.cells rfl;have xr := X.o.c5;obtain⟨rfl, rfl⟩ | ⟨rfl, hE⟩:=hR
      · have q := yA (P.o.held (dC y A z D N))
        go_wp2_with fail
        go_region_held3 (λv => iB v (w.1.size + 1) (dC y A z D N) 43)
          (first | with_reducible exact(q.o _ f).1 | with_reducible exact(q.o _ eD.drew).1 | exact(q.o _ f).2)
          (first | (go_at_call 35; refine(tQ _ _).mono ?_; rintro e u1 ⟨rfl, d⟩; have f : kB w6 u1 := (by with_reducible exact oB eD.drew d); have bx := (P.o.z f).R.box rfl))
        go_wp2
        exact JA rfl rfl rfl rfl (P.o.z f) (i.o.z f) (Nat.le_trans j f.size)
      · replace hE := yA hE
        go_upto_region 8 with fail
        clear Y fz
        go_upto_region 9 with fail
        refine tL (C := λW => Code.wp prog _ _ _ W) ?_;intro w7 k X7 hz7;replace X7 : iB w7 w6.1.size (OK r av U c y A z D N l) 98 := by unfold OK; rw [L.o]; exact X7
        have b37 := yA (oB (oB (oB H3.o H5.o) H6.o) k);have S := yA (oB (oB H5.o H6.o) k);have T := yA (oB H6.o k);have h63 := G.o;have DK := yA (show oV (w.1.size + 1 + 1 + 1) w3 w7 w6.1.size r av U c y A z D N l m 1900000 (λg => w3.1.size <= g /\ g < w4.1.size \/ w7.1.size <= g) (λx => w.1.size + 1 + 1 < x /\ x < w2.1.size) from
          { dsk := X7
            led := L4.o.re λg K hB => ⟨S.o.block g K, Or.inl ⟨hB, K⟩⟩
            new := λg K => Or.inr K
            off := by omega
            old := λg K => by omega
            node := i.o.z k
            apart := λg K => ⟨⟨by omega, by omega⟩, by omega, by omega⟩
            lo := by omega
            base := b37.o
            utab := J.o.1.z P3.o.B
            pow := J.o.2.1.z P3.o.B
            fit := Q.o.1
            bulk := Q.o.2.1
            rng := Q.o.2.2.1
            lsn := Q.o.2.2.2.1
            now := Q.o.2.2.2.2
            st := n.o
            req := HOK.o rfl
            bit := HBT.o
            smp := λW ht => S5.o.turned ((bB.of T.o).trans' ht) λg K hlt e => by omega
            hM := by omega })
        have p := uw DK.o (J.o.2.2.z (P.o.z k).B) L.o;rw [<- hE.o] at p;replace p := yA p;clear DK X7 k hz7 S T L4 S5 o xr h63 G
        go_wp2_with fail
        refine p.o.mono ?_;rintro e w8 ⟨a8, c8, b8, d8, rfl, X8, A8, B8⟩;have xd := fI X8;have P8 := yA (P3.o.z B8);have hA8 := yA A8;clear X8 A8 B8 p rN;clear hE;obtain⟨M8, rep⟩ := V;dsimp only at *;have fM := iF a8 c8 b8 d8 M8;have o := P8.o.cells rfl
        go_wp2
        exact JA rfl rfl rfl rfl P8.o (hA8.o.mono λx hx => ⟨by omega, hx.2⟩) (Nat.le_refl _)
end
