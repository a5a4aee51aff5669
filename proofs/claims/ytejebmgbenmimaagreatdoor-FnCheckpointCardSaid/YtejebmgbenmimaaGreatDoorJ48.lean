import Derived.Test.YtejebmgbenmimaaGreatDoorJ40
import Derived.Laws.EntriesVeiled
set_option maxRecDepth 100000
set_option maxHeartbeats 8000000
open Option renaming none->eA
open List renaming length->cB
namespace Go.Proofs.YtejebmgbenmimaaGreatDoor
open Go renaming World->jA,Value->mA
open Value renaming string->tA,slice->uA,int->qA
open IntKind renaming i64->sA
open Go.RowKit Tryz
section
open Go.Maps
section
variable {w0 w W:jA} {D Lo:Nat} {r:fH} {sa:nC} {sc:Nat} {c:kC} {a:nC} {ca:Nat} {b:nC} {cb:Nat} {N:vC} {l m M:Nat} {B A:Nat→Prop}
theorem aKj{d:List wF}(h:(kE d).size<=60000):∀k(h:k<cB d),mJ d[k]<=300000:=λk i=>by
 have j:=iP d[k];have f:=jP d k i;have e:=dI (d.take (k+1)) (d.drop (k+1));rw[Za,f]at e;have g:=Kd ByteArray.size e;simp only[Ka]at g;show cB d[k].B+bE d[k].B<=_;omega
theorem aHc(v:Int)(W:jA):gF 114 #[dB v] W (tA (uB 2 v)):=oN (k:=2) (La (Ca ⟨rfl,rfl⟩)) v W
theorem js(h:fU Lo w0 w D r sa sc c a ca b cb N l m M B A)(p:r.K=1)(j:xC r.T=true):
 Calls prog 97 #[.pointer (some ⟨D,0,eA⟩)] w λe w'=>DI (lJ c N r) D r sa sc c l Lo w0 e w':=by
 rw[aKt h.gd.dg p j];obtain⟨_,_,_,_,_,T,_,hl5,_⟩:=h.req.1;have hex:(kE r.P).size<=60000:=by
  have e:oK r=uB 1 1++vM r.T++uB 2 (cB r.P:Nat)++kE r.P:=by simp[oK,p,wU,vU,iV,Wa]
  have:=h.req.2.1;rw[e]at this;simp only[Ka]at this;omega
 have t:=gB (aHt h.st r.T r.P hex hl5 T);have HSZ:=gB (aKj hex);have HBT:=gB (λk(p:k<cB r.P)=>h.bit _ (Gb p));have hbk:=h.bulk;obtain⟨hM1,hM2⟩:=h.hM;have HT:=gB (λW(j:jB B w W)=>(h.tabs j).1);have u:=gB (λW(j:jB B w W)=>j.blk h.dsk h.off);have HSM:=gB (λW(j:jB B w W)=>h.smp W (j.mono λi _ e=>Ca e));have HJ:=gB (λW K k(x:wF) la lc(hW:jB B w W)(hL:jE W K l m c N.now (wK c N.now r.T N.ts (r.P.take k)).1 (M+k))(hK:∀g,W.1.size<=g->K g)(hl:vD W la x.B)(hlc:cB x.B<=lc)(p:k<=cB r.P)(hx:mJ x<=300000)(hi:VP x.bits)=>ux x la lc (u.o W hW) hL hK hl hlc (HT.o W hW) (by omega) hx hi (t.o k p).1 (by have:=(t.o k p).2.1;omega) (by omega) (by omega));have HSA:=gB (λW s(j:jB B w W)=>h.same j (s:=s));have HMD:=gB (λW e w1 w2 V v s(j:jB B w W)=>h.made j (V:=V) (v:=v) (s:=s) (e:=e) (w1:=w1) (w2:=w2));have a0:=gB (λW ar capr rs(j:jB B w W)(hr:lI W ar rs)(hz:cB rs+iD rs<=240000)(F:VQ rs)(hG:iw c N rs)=>bf (capr:=capr) (u.o W j) (h.nap j hr hz F) (h.tabs j).1 (h.tabs j).2 h.gd.cf h.gd.b hG);have HGW:=gB h.gd.wr;have HLD:=gB h.led;have b0:=gB h.new;have hDw:=eB h.dsk;clear h p j hex;obtain⟨L,E⟩:∃W,W=wK c N.now r.T N.ts r.P:=⟨_,rfl⟩
 rw[<-E]at HGW |-
 replace E:=gB E;obtain⟨H0,z⟩:∃h,h=uB 1 0++uB 2 (cB r.P:Nat)++L.2.1:=⟨_,rfl⟩
 rw[<-z];replace z:=gB z;obtain⟨VR,o⟩:∃v,v=if L.2.2=[] then(N,H0) else((fG c N L.2.2).1,if iT (fG c N L.2.2).1 (fG c N L.2.2).2=0 then H0 else uB 1 (iT (fG c N L.2.2).1 (fG c N L.2.2).2)):=⟨_,rfl⟩
 rw[<-o];replace o:=gB o;have xx:=iI (u.o w (jB.refl _ _));have Z:=gB (λW(n:zB w W)=>show gD W D 4 (uA sa (cB r.P) sc) from(u.o W (jB.of n)).cell 4);go_enter func97,ntmps97;go_upto_region 1 with fail;go_cut [3] (λs wx=>∃g,s=uA (some ⟨g,0,eA⟩) 2 2/\TE w wx g 2 [uB 1 0,uB 2 (cB r.P:Nat)])
 case first=>
  go_region_held3 (λw'=>w'.cell? ⟨D,4,eA⟩=some (uA sa (cB r.P) sc))
   (first|go_keep|with_reducible exact Z.o _ k3|with_reducible exact Z.o _ k2|with_reducible exact Z.o _ jD.drew)
   (first
    |(go_at_call 28;apply oC (tU _ _);intro w2 hb2;have k2:zB w w2:=(by exact xB jD.drew hb2))
    |(go_at_call 114;apply oC (aHc _ _);intro w3 hb3;have k3:zB w w3:=(by exact xB k2 hb3)))
  all_goals(go_wp2_with fail;go_meet)
  all_goals exact⟨_,rfl,⟨rfl,La ⟨_,2,_,rfl,k3.size,heap_alloc_new _ _,Ia _,by simp[maxLen],rfl,rfl⟩⟩,xB k3 aC⟩
 obtain⟨g0,rfl,T⟩:=hcut;rename jA=>w1;have U:=gB T;clear xx T;have xx:=iI (u.o _ (jB.of U.o.bel));have hz0:=oB 1 0;have hz2:=oB 2 (cB r.P:Nat);have Q0:fB (WQ w w1 B (λg=>B g/\g<w.1.size\/w1.1.size<=g) (uA (some ⟨g0,0,eA⟩) 2 2) (uA eA 0 0) [uB 1 0,uB 2 (cB r.P:Nat)] [] l m c N.now N.ts M):=by
  have F:=qI U.o.row g0 rfl;have hg2:=aH U.o.row g0 rfl;have hs:=U.o.bel.size;refine⟨HLD.o.re λg F hB=>⟨U.o.bel.block g F,Ca ⟨hB,F⟩⟩,λg F=>La F,λg F=>F.elim (λe=>e.1) λe=>b0.o g (by omega),U.o.row,⟨rfl,Ca ⟨rfl,rfl⟩⟩,λq e=>?_,λq e=>by simp[mA.ownBlock]at e,jB.of U.o.bel⟩;obtain rfl:g0=q:=by simpa[mA.ownBlock]using e
  exact⟨λp=>p.elim (λe=>by omega) λe=>by omega,by simp[mA.ownBlock]⟩
 generalize (λg=>B g/\g<w.1.size\/w1.1.size<=g)=K0 at *;generalize uB 1 0=S0 at *;generalize uB 2 (cB r.P:Nat)=S2 at *;go_wp2;go_loopw [3,4,6,7,8,25] (λv3 v4 _ _ _ i wr=>∃(k:Nat)(g cv:Nat)(v:mA)(f:List vB)(K:Nat->Prop),k<=cB r.P/\i=qA sA k/\v3=uA (some ⟨g,0,eA⟩) (cB f) cv/\v=v4/\cB f<=2+k/\fB (xF f=S0++S2++(wK c N.now r.T N.ts (r.P.take k)).2.1)/\fB (WQ w wr B K (uA (some ⟨g,0,eA⟩) (cB f) cv) v f (wK c N.now r.T N.ts (r.P.take k)).2.2 l m c N.now (wK c N.now r.T N.ts (r.P.take k)).1 (M+k))) (λ_ _ _ _ _ i _=>cB r.P-(intOf i).toNat)
 case atStart=>exact⟨0,g0,2,_,[S0,S2],K0,Oa _,rfl,rfl,rfl,Ia _,by refine gB ?_;simp[xF,wK],Q0⟩
 case round=>
  clear Q0 U xx;obtain⟨k,g,cv,v,f,K,p,rfl,rfl,rfl,hpl,HC,Q⟩:=hrel;by_cases P:k<cB r.P
  .obtain ⟨b6,o6,a6,k6,rfl,hb6,g0',g1',hl6,hc6⟩:=(HSM.o _ Q.o.turn).atc P;have HJ1:=gB (λW5(hW:zB wr W5)=>HJ.o W5 K k r.P[k] a6 k6 (Q.o.turn.trans' (jB.of hW)) (Q.o.z hW).led (Q.o.z hW).new (hl6.z hW) hc6 p (HSZ.o k P) (HBT.o k P));have ES:=gB (QK (c:=c) (now:=N.now) (te:=r.T) (ts:=N.ts) r.P k P);have Y:=gB (aFd (c:=c) (now:=N.now) (ts:=(wK c N.now r.T N.ts (r.P.take k)).1) (te:=r.T) (x:=r.P[k]));obtain⟨_,_,s3,s4,_,_⟩:=t.o k p;have jc:=(lh (t.o k p).1 r.T r.P[k]).2.2.2;have hnb:¬b6=wr.1.size:=by omega
   unfold wrS at ES;generalize nI c N.now (wK c N.now r.T N.ts (r.P.take k)).1 r.T r.P[k]=J at *;generalize hS9:wK c N.now r.T N.ts (r.P.take k)=S at *;generalize r.P[k].bits=bi at *;generalize r.P[k].B=ls at *;obtain⟨J1,J2,J3⟩:=J;obtain⟨S1,S2',S3⟩:=S;dsimp only at *;clear hS9;go_upto_region 6 with fail;refine uI (C:=λW=>Code.wp prog _ _ _ W) ?_;intro w8 hb8 X8 hz8;have xx:=X8.c2;have Q8:=gB (Q.o.z hb8);have H8:=gB hb8;clear hb8 hz8 X8 Q g0' g1' hnb hb6;go_wp2_with fail;refine(HJ1.o _ H8.o).mono ?_;rintro e w9 ⟨ky,rfl,hky,hL9,hT9⟩;have Q9:=gB (Q8.o.judged hL9 hT9);replace hky:=gB hky;have z3:=oB 1 (J1:Nat);clear hL9 hT9 Q8 H8 HJ1 xx;go_wp2_with fail;apply oC (tU _ _);intro w10 n;have H:=gB (Q9.o.z n);have hw10:=H.o.turn.size;clear n Q9;generalize uB 1 (J1:Nat)=U3 at *;go_wp2_with(at_builtin;refine gI rfl _ _ rfl underlying30 TL rfl (by omega) (by omega) rfl H.o.row3 rfl rfl (cs:=#[tA U3]) rfl (by simp[mA.oneCell']) (by omega) hw10 ?_;intro g5 X w11 HO HT5 HA5);have y:=gB (H.o.app3 (x:=U3) HO.o HT5.o HA5.o b0.o);have hle:cB (f++[U3])=cB f+1:=by simp
   have HC2:fB (xF (f++[U3])=S0++S2++(wK c N.now r.T N.ts (r.P.take (k+1))).2.1):=by
    show _=_;rw[ES.o,oG,HC.o];simp[xF,Wa]
   have hw11:=y.o.turn.size;clear HO HT5 HA5 H HC;apply dR (xY J1 w11);rw[<-hle];clear hle;have hps:cB (f++[U3])<=2+(k+1):=by simp;omega
   generalize f++[U3]=ps2 at *;obtain⟨hj,hJ⟩|⟨hj,hJ⟩:=Y.o
   .have G:(decide (J1=1) ||decide (J1=2))=true:=by simpa using hj
    obtain rfl:=hky.o hJ;have ER:fB ((wK c N.now r.T N.ts (r.P.take (k+1))).2.2=S3++[⟨1,r.T,ky,0⟩]/\(wK c N.now r.T N.ts (r.P.take (k+1))).1=J2):=by
     refine gB ?_;rw[ES.o];exact⟨by simp[yb,hJ],rfl⟩
    rw[G];have xx:=iI (u.o _ y.o.turn);clear hj hJ G Y;go_wp2_with(at_builtin;refine gI rfl _ _ rfl underlying57 cy rfl (by omega) (by omega) (v:=v) rfl y.o.row4 rfl rfl (cs:=#[qA sA 1,tA r.T,tA ky,qA sA 0]) rfl (by simp[mA.oneCell']) (by omega) hw11 ?_;intro g6 cap6 w12 HO6 HT6 HA6);have I:=y.o.app4 (x:=⟨1,r.T,ky,0⟩) HO6.o HT6.o HA6.o b0.o;rw[<-ER.o.1,<-ER.o.2]at I;replace I:=gB I;have hl2:cB (wK c N.now r.T N.ts (r.P.take (k+1))).2.2=cB S3+1:=by rw[ER.o.1];simp
    rw[<-hl2];exact⟨⟨k+1,g5,X,_,ps2,_,by omega,by go_num,rfl,rfl,hps,HC2,I⟩,by simp[intOf];omega⟩
   have G:(decide (J1=1) ||decide (J1=2))=false:=by simpa using hj
   have ER:fB ((wK c N.now r.T N.ts (r.P.take (k+1))).2.2=S3/\(wK c N.now r.T N.ts (r.P.take (k+1))).1=J2):=by
    refine gB ?_;rw[ES.o];exact⟨by simp[yb,hJ],rfl⟩
   rw[G];clear hj hJ G Y;go_wp2;exact⟨⟨k+1,g5,X,v,ps2,_,by omega,by go_num,rfl,rfl,hps,HC2,gB (by rw[ER.o.1,ER.o.2];exact y.o)⟩,by simp[intOf];omega⟩
  obtain rfl:k=cB r.P:=by omega
  have hl:wK c N.now r.T N.ts (r.P.take (cB r.P))=L:=by rw[Rb];exact E.o.symm
  have hbd:=t.o _ (Ia _);rw[hl]at hbd HC Q;clear hl E t HJ HSZ HBT;obtain⟨W1,W2,W3⟩:=L;dsimp only at *;obtain⟨-,-,s3,s4,s5,s6⟩:=hbd;have E2:fB (xF f=H0):=by rw[z.o];exact HC
  have hsz:jG f<=10000:=by rw[<-GL,E2.o,z.o,Ka,Ka];omega
  obtain⟨ra,rc,rfl⟩:=kZ Q.o.row4;have RI:=gB (KF Q.o.row4).recs;have HJN:=gB (fun(W:jA)(hr:W.ownsRow w.1.size 9 1 (uA (some ⟨g,0,eA⟩) (cB f) cv) (cB f) (f.map mA.string))=>by
   obtain⟨hcv,F,hcs⟩:=cH hr;have:=mI g (cB f) cv f W rfl hcs F hcv (by omega) (by omega);rw[E2.o]at this;exact this)
  clear HC;cases W3 with
  |nil=>
   replace o:=gB (o.o.trans (Ma rfl));go_wp2_with(first|(go_at_call 108;apply oC (HJN.o _ Q.o.row3);intro w2 n;replace n:=gB n));go_ret;rw[o.o];exact HSA.o _ _ (Q.o.turn.trans' (jB.of n.o))
  |cons x1 xr=>
   replace o:=gB (o.o.trans (Ja (by simp)));replace a0:=gB (a0.o wr ra rc (x1::xr) Q.o.turn RI.o (by omega) s6 (HGW.o (by simp)));have hn:0<cB (x1::xr):=by simp
   generalize x1::xr=W3 at *;generalize fG c N W3=V at *;go_wp2_with fail;refine a0.o.mono ?_;rintro e w2 h2;have O:=gB h2;obtain⟨_,_,_,_,rfl,_,_,d⟩:=h2;have R2:=gB (d.row Q.o.row3 λq hq e=>by have:=qI Q.o.row3 q hq;omega);by_cases R:iT V.1 V.2=0
   .rw[R];replace o:=gB (o.o.trans (by rw[Ma R]));go_wp2_with(first|(go_at_call 108;apply oC (HJN.o _ R2.o);intro w3 n;replace n:=gB n));go_ret;rw[o.o];exact HMD.o _ _ _ _ _ _ _ Q.o.turn O.o n.o
   replace o:=gB (o.o.trans (by rw[Ja R]));have hs1:(iT V.1 V.2==0)=false:=by simpa using R
   go_wp2_with(first|(go_at_call 28;apply oC (tU _ _);intro w3 n;replace n:=gB n));go_ret;rw[o.o];exact HMD.o _ _ _ _ _ _ _ Q.o.turn O.o n.o
end
end
section
open Go.Maps
section
variable {w0 w W:jA} {D Lo:Nat} {r:fH} {sa:nC} {sc:Nat} {c:kC} {a:nC} {ca:Nat} {b:nC} {cb:Nat} {N:vC} {l m M:Nat} {B A:Nat→Prop}
theorem fU.z(h:fU Lo w0 w D r sa sc c a ca b cb N l m M B A)(d:zB w W):fU Lo w0 W D r sa sc c a ca b cb N l m M B A:=
 { h with
  dsk:=h.dsk.z d
  led:=h.led.z d
  new:=λg e=>h.new g (Ua d.size e)
  node:=h.node.z d
  apart:=λg e=>⟨(h.apart g e).1,(h.apart g e).2.1,Bb (h.apart g e).2.2 d.size⟩
  base:=xB h.base d
  smp:=λf i=>h.smp f ((jB.of d).trans' i) }
theorem aEc{c:kC}{N:vC}{r:fH}(d:N.deg=false)(e:r.K≠2/\r.K≠4)(f:xC r.T=false):lJ c N r=(N,uB 1 2):=by
 unfold lJ;rw[Ja (by simp[d]),Ma ⟨e,f⟩]
theorem iy(h:fU Lo w0 w D r sa sc c a ca b cb N l m M B A)(I:eR w):
 Calls prog 30 #[.pointer (cC D)] w λe w'=>DI (lJ c N r) D r sa sc c l Lo w0 e w':=by
 obtain⟨⟨O,k6⟩,_,_,_,_,F,E,_,_⟩:=h.req.1;have Y:=gB (λW s(o:zB w W)=>h.same (jB.of o) (s:=s));have G:=gB (λW(o:zB w W)=>h.z o);have y:=gB (λW=>jM r.T W (by unfold maxLen;omega));have C:=gB (aEc (c:=c) (N:=N) (r:=r) h.gd.dg);have J:=h.gd.dg;have t:=λk j(v:k<7) G=>I.2 k j v G;have Q:=gB (λW(o:zB w W)=>js (h.z o));have R:=gB (λW(o:zB w W)=>tj (h.z o));have S:=gB (λW(o:zB w W)=>jr (h.z o));have T:=gB (λW(o:zB w W)=>sw (h.z o));have U:=gB (λW(o:zB w W)=>jp (h.z o));have X:=gB (λW(o:zB w W)=>sy (h.z o));have G:=gB (λW(o:zB w W)=>iI (h.dsk.z o));have L:r.T.size+r.R.size<=200000:=by omega
 have Z:∀(H:Fn)(first z:Array mA)(w:jA),(Instr.makeFunc H first z).run prog w=.ok (.func H first z) w:=λ_ _ _ _=>rfl;clear h I F E;obtain⟨K,v,Z,h⟩:∃K:Nat,r.K=K/\1<=K/\K<=6:=⟨r.K.toNat,by omega,by omega,by omega⟩
 have d:=t K 0 (by omega) (by omega);have f:=t K 1 (by omega) (by omega);have g:=t K 2 (by omega) (by omega);have i:=t K 3 (by omega) (by omega);have n:=t K 4 (by omega) (by omega);clear O k6 t;generalize lJ c N r=V at *;obtain rfl|rfl|rfl|rfl|rfl|rfl:K=1\/K=2\/K=3\/K=4\/K=5\/K=6:=by omega
 all_goals
  simp[xh,wU,vU,iV]at d f g i n;have P:=G.o _ jD;simp only[v]at P;replace v:=gB (show r.K=_ from v);rw[J]at P;clear J;cases hn:xC r.T
  all_goals
   rw[hn]at y;have u:=gB hn;have q:=v;clear hn G;go_enter func30,ntmps30;go_wp2_with(first
    |(go_at_call 96;apply dR (y.o _))
    |(go_at_call 28;apply oC (tU _ _);intro x o;replace o:=gB o)
    |(go_at_call 97;refine(Q.o _ (xB aC aC) q.o u.o).mono ?_;rintro e x p;have O:=gB p;obtain⟨_,_,_,_,rfl,_⟩:=p)
    |(go_at_call 98;refine(R.o _ (xB aC aC) q.o).mono ?_;rintro e x p;have O:=gB p;obtain⟨_,_,_,_,rfl,_⟩:=p)
    |(go_at_call 99;refine(S.o _ (xB aC aC) q.o u.o L).mono ?_;rintro e x p;have O:=gB p;obtain⟨_,_,_,_,rfl,_⟩:=p)
    |(go_at_call 100;refine(T.o _ (xB aC aC) q.o).mono ?_;rintro e x p;have O:=gB p;obtain⟨_,_,_,_,rfl,_⟩:=p)
    |(go_at_call 101;refine(U.o _ (xB aC aC) q.o u.o L).mono ?_;rintro e x p;have O:=gB p;obtain⟨_,_,_,_,rfl,_⟩:=p)
    |(go_at_call 102;refine(X.o _ (xB aC aC) q.o u.o (by omega)).mono ?_;rintro e x p;have O:=gB p;obtain⟨_,_,_,_,rfl,_⟩:=p))
   go_ret;first
    |exact O.o
    |(rw[C.o (by rw[v.o];decide) u.o];exact Y.o _ _ (xB aC o.o))
end
end
section
open Go.Maps
attribute [local go_sem] lG jH uK rB.drewI dL.drewI dL.new dL.alloc dL.alloc2
theorem vG.turned{S:Nat->Prop}{w l:jA}{B:Nat}{a:nC}{m:List wF}(h:vG w B a m)(e:jB S w l)(k:∀g,B<=g->g<w.1.size->¬S g):gJ l a m:=by
 obtain h|⟨g,o,n,t,T,rfl,p,q,u,h⟩:=h;exact Ca h;have b:=eB q;have s:=e.block g b (k g p b);exact La ⟨g,o,rfl,Bb b e.size,λi r=>((h i r).keep (λj _=>jA.cell?_of_block s) λf c d _=>⟨e.block f c (k f d c),rfl⟩).at⟩
theorem cl (c : kC) (a b : nC) (v p : Nat) (N : vC) (r : fH) (w : jA) (h : jR w a b N) (f : pC c N.now N.ts = true) (q : yi c N r) (G : VR r) (hU : iH w) (O : kI w) (D : eR w) :
    Calls prog 7 #[oE c, .agg (sC a v b p N), tA (oK r)] w λe R => NaV (CC c N r).1 (tA (CC c N r).2) w e R := by
  have d := h.bulk;have H : fB (∀ W, zB w W -> Calls prog 26 #[.agg (sC a v b p N)] W λe R => ∃ a v b p, e = .returned (.agg (sC a v b p N)) /\ pJ R (λx => W.1.size <= x /\ x < R.1.size) a b N /\ zB W R) := λW F => fW a b v p N W (h.files.z F) h.fit.len (h.tens.z F) (by omega) (cU (by omega))
  have HO := gB (λW b p (F : zB w W) (ht : uC W b N.ts) => fZ c N.now b p N.ts 1900000 W ht (nO (show cB N.ts + fC N.ts <= 1900000 by omega)).1 (by omega) (hU.z F));have u := gB (λW (F : zB w W) => ci r W G (D.z F));have HG := gB q;have A : CC c N r = lJ c N r := if_neg (by simp [q.up]);rw [A];have HOK := gB (And.intro G.ok (And.intro G.sz G.U));have HBT : fB (∀ x ∈ r.P, VP x.bits) := λx Q => by obtain⟨i, hi, rfl⟩ := List.mem_iff_getElem.1 Q; exact G.bits i hi
  have HS0 := gB f;have I := gB (And.intro h.fit (And.intro h.bulk (And.intro h.rng (And.intro h.lsn h.now))));have E := gB (And.intro hU (And.intro O D));clear h d hU O D f G q A;unfold oE at *;unfold ZY at u;unfold sZ at HO;obtain⟨V, A⟩ : ∃ V, V = lJ c N r := ⟨_, rfl⟩
  rw [<- A];replace A := gB A;generalize oK r = s at u |-
  have fz := cK
  go_enter func7, ntmps7
  go_upto_region 1 with fail
  have P := gB (NP.new (w := w) (c := c) (cs := sC a v b p N));generalize (((w.alloc (.cells #[qA sA c.w, qA sA c.tl, qA sA c.ml, qA sA c.sh, qA sA c.ha, qA sA c.sg] 24)).alloc (.cells (sC a v b p N) 42)).alloc (.cells (sC eA 0 eA 0 yN) 42)) = w1 at *;have t := P.o.cells rfl;have rN := rF a v b p N 42;have Z := vE a v b p N
  go_wp2_with fail
  refine(H.o _ P.o.B).mono ?_;rintro e w2 ⟨S, U, T, Y, rfl, n, d⟩;have h1 := P.o.lt;replace P := gB (P.o.z d);replace n := gB n;clear d rN Z t H;have t := P.o.cells rfl
  go_upto_region 2 with fail
  refine bW (C := λW => Code.wp prog _ _ _ W) P.o.N ?_;intro w3 hB D;replace P := gB (P.o.put hB D);replace n := gB ((n.o.turned D (λx Q _ e => by omega)).mono (A' := λx => w.1.size + 1 + 1 < x /\ x < w2.1.size) (λx Q => by omega));have hH := D.size;clear hB D t;have t := P.o.cells rfl;have rN := rF S U T Y N 42;have Z := vE S U T Y N
  go_wp2_with fail
  refine(HO.o _ _ _ P.o.B n.o.tens).mono ?_;rintro e w4 (⟨f, rfl, d⟩ | ⟨f, l, m, rfl, hl0, hL, d⟩)
  · rw [HS0.o] at f; cases f
  · have H3 := gB d
    have L4 := gB hL;have h3 := P.o.lt;have h34 := d.size;have P3 := P;replace P := gB (P.o.z d);replace n := gB (n.o.z d);have y := Nat.le_trans hH d.size;clear d hL t;have t := P.o.cells rfl;replace f := gB f
    · have hu := gB HG.o.up
      rw [hu.o] at rN Z
      go_wp2_with fail
      refine(u.o _ P.o.B).mono ?_;rintro e w5 ⟨av, M, rfl, hS, d⟩;have S5 := gB hS;have H5 := gB d;replace P := gB (P.o.z d);replace n := gB (n.o.z d);replace y := Nat.le_trans y d.size;have h45 := d.size;clear hS d t u
      go_upto_region 6 with fail
      refine uI (C := λW => Code.wp prog _ _ _ W) ?_;intro w6 k X6 z;replace z := gB z;have X := gB X6;have H6 := gB k;replace P := gB (P.o.z k);replace n := gB (n.o.z k);replace y := Nat.le_trans y k.size;have h56 := k.size;clear X6 k;have t := P.o.cells rfl;have xr := X.o.c5
      · go_upto_region 8 with fail
        clear Z fz
        go_upto_region 9 with fail
        refine uI (C := λW => Code.wp prog _ _ _ W) ?_;intro w7 j J hz7;replace J : rB w7 w6.1.size (KW r av M c S U T Y N l) 93 := by unfold KW; rw [hu.o]; exact J
        have h67 := j.size;have h7 := eB J;have b37 := gB (xB (xB (xB H3.o H5.o) H6.o) j);have K := gB (xB (xB H5.o H6.o) j);have L := gB (xB H6.o j);have h63 := z.o;have hw3 := P.o.B.size;have DK := gB (show fU (w.1.size + 1 + 1 + 1) w3 w7 w6.1.size r av M c S U T Y N l m 1900000 (λg => w3.1.size <= g /\ g < w4.1.size \/ w7.1.size <= g) (λx => w.1.size + 1 + 1 < x /\ x < w2.1.size) from
          { dsk := J
            led := L4.o.re λg q hB => ⟨K.o.block g q, Or.inl ⟨hB, q⟩⟩
            new := λg q => Or.inr q
            off := by omega
            old := λg q => by omega
            node := n.o.z j
            apart := λg q => ⟨⟨by omega, by omega⟩, by omega, by omega⟩
            lo := by omega
            base := b37.o
            utab := E.o.1.z P3.o.B
            pow := E.o.2.1.z P3.o.B
            fit := I.o.1
            bulk := I.o.2.1
            rng := I.o.2.2.1
            lsn := I.o.2.2.2.1
            now := I.o.2.2.2.2
            st := f.o
            gd := HG.o
            req := HOK.o
            bit := HBT.o
            smp := λW ht => S5.o.turned ((jB.of L.o).trans' ht) λg q hlt e => by omega
            hM := by omega })
        have o := iy DK.o (E.o.2.2.z (P.o.z j).B);rw [<- A.o] at o;replace o := gB o;clear DK J j hz7 K L L4 S5 t xr h63 z
        go_wp2_with fail
        refine o.o.mono ?_;rintro e w8 ⟨a8, c8, b8, d8, rfl, X8, A8, B8⟩;have xd := iI X8;have P8 := gB (P3.o.z B8);have hA8 := gB A8;clear X8 A8 B8 o rN;clear A;obtain⟨M8, rep⟩ := V;dsimp only at *;have fM := vE a8 c8 b8 d8 M8;have t := P8.o.cells rfl
        go_wp2
        exact py rfl rfl rfl rfl P8.o (hA8.o.mono λx Q => ⟨by omega, Q.2⟩) (Nat.le_refl _)
end
