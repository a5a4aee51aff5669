import Derived.Test.YtcmdjimlmnaojaaGreatDoorJ33
import Derived.Test.YtcmdjimlmnaojaaGreatDoorJ08
import Derived.Test.YtcmdjimlmnaojaaGreatDoorJ30
set_option maxRecDepth 100000
set_option maxHeartbeats 8000000
set_option linter.defProp false
open List renaming length->zA
namespace Go.Proofs.YtcmdjimlmnaojaaGreatDoor
open Go.RowKit Tryz
def sU(a:List kB)(k:Nat)(h:k<zA a):a[k].s.size<=fE a:=by
 have b:=wN a k h;have c:=tM a (k+1);omega
def dj:∀(a:List gB),(wF a).size<=17*zA a+10*eC a
 |[]=>by simp[wF,eC]
 |t::q=>by
  have c:=dj q;have b:=UM t;show(mU t++wF q).size<=17*(zA q+1)+10*(fF t+eC q);rw[Ka,b];unfold fF;omega
def rr{a:List gB}(h:zA a+eC a<=1048576):aJt a/\aJz a/\aMo a/\(wF a).size<=100000000:=by
 have g:∀i(b:i<zA a),fF a[i]<=1048576:=λi b=>by
  have c:=mK a i b;have d:=yM a (i+1);omega
 have c:∀i(b:i<zA a),a[i].N.size<=1048576/\zA a[i].M<=1048576/\zA a[i].Z<=1048576/\fE a[i].M<=1048576/\fE a[i].Z<=1048576:=λi b=>by have:=g i b;unfold fF at this;omega
 have d:∀i(b:i<zA a),(∀j(f:j<zA a[i].M),a[i].M[j].s.size<=1000000000)/\(∀j(f:j<zA a[i].Z),a[i].Z[j].s.size<=1000000000):=λi b=>
  ⟨λj e=>by have:=sU _ j e;have:=c i b;omega,λj e=>by have:=sU _ j e;have:=c i b;omega⟩
 refine⟨λi b=>⟨?_,?_,?_,(d i b).1,(d i b).2⟩,λi b=>⟨?_,?_⟩,λi b=>⟨?_,?_⟩,?_⟩;all_goals first|(have:=c i b;unfold maxLen at *;omega)|(have:=c i b;omega)|(have:=dj a;omega)
section
open Go.Maps
attribute [local go_sem] fG dH lK jB.drewI sK.drewI sK.new sK.alloc sK.alloc2
def ckQ(N:sC)(R:xD×Nat):sC×Int:=if R.2=0 then(⟨R.1,⟨N.l.last+1,N.l.last+1,0⟩,N.now,N.ts,N.lsn,N.deg,N.up⟩,0) else(aJm N R.1,(R.2:Int))
def aMy{c:lC}{N:sC}(h:lG c=true):bf N=false/\DJ c N=(N,60)\/bf N=true/\(bJ N.l=false/\DJ c N=(N,21)\/bJ N.l=true/\(N.l.last=999999/\(N.l.last==999999)=true/\DJ c N=(N,23)\/N.l.last≠999999/\(N.l.last==999999)=false/\((yN N.lsn N.now N.ts)=ByteArray.empty/\DJ c N=(N,62)\/(yN N.lsn N.now N.ts).toList.isEmpty=false/\DJ c N=ckQ N (vI N.d (zN N.d N.l (yN N.lsn N.now N.ts)))))):=by
 unfold DJ;rw[Ja (by simp[h])];cases h1:bf N
 .exact Ca ⟨rfl,Ma rfl⟩
 refine La ⟨rfl,?_⟩;rw[Ja (by simp)];cases h2:bJ N.l
 .exact Ca ⟨rfl,Ma rfl⟩
 refine La ⟨rfl,?_⟩;rw[Ja (by simp)];by_cases a:N.l.last=999999
 .exact Ca ⟨a,by simpa using a,Ma a⟩
 refine La ⟨a,by simpa using a,?_⟩;rw[Ja a];by_cases b:yN N.lsn N.now N.ts=ByteArray.empty
 .exact Ca ⟨b,Ma b⟩
 exact La ⟨rV.2 b,Ja b⟩
def aAa{lsn now:Int}{a:List gB}(h:(wF a).size<=100000000):(yN lsn now a).size<=200000000:=by
 by_cases b:LI lsn a
 .rw[MP b];simp only[iN,GB,Ka,nB];have:ckB.size<=10:=by decide
  omega
 rw[MO b];simp
structure aMp(w:World)(a b:nC)(N:sC):Prop where
 files:uB w a N.d.fs
 fit:JK N.d.fs
 tens:aD w b N.ts
 bulk:zA N.ts+eC N.ts≤1048576
 rng:um N.ts
 lsn:GN N.lsn
 now:GN N.now
def aDr{L:jG}(h:bJ L=true):1<=L.first/\L.first<=L.last/\L.last<=999999:=by
 simp only[bJ,yB,Sa,Ab]at h;omega
def NP.turn{w W b:World}{c:lC}{cs:Array Value}{X:Nat}(h:NP w W c cs)(a:fB (·=X) W b)(d:w.1.size+1+1<X):NP w b c cs:=
 ⟨a.blk h.C (by omega),a.blk h.N (by omega),a.blk h.R (by omega),h.B.trans (a.below h.B.size λk f e=>by omega)⟩
def NP.grow{w W b:World}{c:lC}{cs:Array Value}{B:Nat}(h:NP w W c cs)(a:Below B W b)(d:w.1.size+1+1<B):NP w b c cs:=
 ⟨(a.block _ (by omega)).trans h.C,(a.block _ (by omega)).trans h.N,(a.block _ (by omega)).trans h.R,h.B.trans (a.mono (by omega))⟩
def aOg{w:World}{B n:Nat}{v:Value}{F:List oK}{last:Int}{TX:pB}(h:GO w B v n (F++[⟨1,aS,⟨#[]⟩,⟨#[]⟩,0⟩]++[⟨2,aS,⟨#[]⟩,TX,0⟩]++[⟨3,aS,⟨#[]⟩,⟨#[]⟩,0⟩]++[⟨5,aS,vg,⟨#[]⟩,0⟩]++[⟨1,sH (last+1),⟨#[]⟩,⟨#[]⟩,0⟩])):GO w B v n (F++lX last TX):=by
 simp only[Nd]at h;exact h
def aOc{c:nC}{n a:Nat}{d e f g:Int}{b:Bool}:∀(j:Nat)(s:pB),(#[Value.slice c n a,aB d,aB e,aB f,aB g,.bool b]:Array Value)[j]?≠some (Value.string s)
 |0,_|1,_|2,_|3,_|4,_|5,_|j+6,_=>by simp
def aMv{C:World->Prop}{w:World}{O:Nat}{g i j l m n a b c d e f:Value}{t:TypeId}(h:jB w O #[g,i,j,l,m,n] t)(k:∀W,jB W O #[a,b,c,d,e,f] t->fB (·=O) w W->C W):C ((((((w.setCell (eB O 0) a).setCell (eB O 1) b).setCell (eB O 2) c).setCell (eB O 3) d).setCell (eB O 4) e).setCell (eB O 5) f):=
 k _ (by have:=(((((h.set 0 a).set 1 b).set 2 c).set 3 d).set 4 e).set 5 f;simpa using this) (((((((fB.refl (·=O) w).setCell (Ca rfl) 0 a).setCell (Ca rfl) 1 b).setCell (Ca rfl) 2 c).setCell (Ca rfl) 3 d).setCell (Ca rfl) 4 e).setCell (Ca rfl) 5 f)
def wy(l:List oK):zA (aO l)=zA l*5:=by
 induction l with
 |nil=>rfl
 |cons o r a=>simp[aO]at a |-;omega
def pd{w:World}{B n f:Nat}{b:nC}{l:List oK}(h:GO w B (.slice b n f) n l)(v:0<n):∃g,b=vB g/\g<w.1.size/\∀j u,(aO l)[j]?=some u->w.cell? (eB g j)=some u:=by
 obtain⟨_,o⟩|⟨g,i,a,e,t,c,p,q,r,k⟩:=h.2;omega;simp only[Value.slice.injEq]at e;refine⟨g,e.1,bB c,λj u d=>?_⟩;have m:j<n*5:=by
  have s:=h.1;have:=(Pb.1 d).1;omega
 rw[jB.cell (show jB w g a _ from c) j,<-Yd,<-d,<-k,Jb m]
def qf(c:lC)(a b:nC)(U T:Nat)(N:sC)(w:World)(h:aMp w a b N):
 Calls prog 54 #[uE c,.agg (gC a U b T N)] w λe w'=>qu (DJ c N) w e w':=by
 have m:=h.bulk;have hl:=h.fit.len;obtain⟨e1,_,_,e4⟩:=rr h.bulk;have HCF:=dB (λW=>fK c W);have HCP:cB (∀W,xB w W->Calls prog 43 #[.agg (gC a U b T N)] W λe w'=>∃a U b T,e=.returned (.agg (gC a U b T N))/\uB w' a N.d.fs/\aD w' b N.ts/\xB W w'):=λW hW=>(vN a b U T N W (h.files.z hW) hl (h.tens.z hW) (by omega) (dP (by omega))).mono λe w' ⟨a,U,b,T,he,h1,h2,h3⟩=>⟨a,U,b,T,he,h1.files,h2.tens,h3⟩
 have HES:=dB (λW(hW:xB w W)=>jt N.lsn N.now b T N.ts W (h.tens.z hW) e1 h.rng h.lsn h.now (by omega) e4);have Z:=dB (λW=>BH N.l W);have HFL:cB (∀W a' ca' K,N.up=true->xB w W->Calls prog 110 #[.agg (gC a U b T N),.agg #[.slice a' (zA K.fs) ca',.int .i64 K.c,.int .i64 K.k,.int .i64 K.cr,.int .i64 K.fl,.bool K.dn],.agg #[.int .i64 N.l.first,.int .i64 N.l.last,.int .i64 N.l.size]] W λe w'=>∃b T,e=.returned (.agg (gC a' ca' b T ⟨K,N.l,N.now,N.ts,N.lsn,true,!K.dn⟩))/\aD w' b N.ts/\xB W w'):=λW a' ca' K hu hW=>(FC a b a' U T ca' N K N.l W (h.files.z hW) hl (h.tens.z hW) (by omega) (dP (by omega)) hu).mono λe w' ⟨b,T,he,h2,h3⟩=>⟨b,T,he,h2.tens,h3⟩
 have HFD:=dB (λW(hW:xB w W)=>sW a U N.d.fs N.d.c N.d.k N.d.cr N.d.fl N.d.dn aS W (h.files.z hW) (by unfold maxLen;omega));have HFI:=dB (λW(hW:xB w W)=>h.files.z hW);have HSG:=dB (λn W=>dR n W);have HV0:=dB (λh=>show DJ c N=(bL,61) by unfold DJ;exact Ma h);have a0:=dB (λh=>aMy (c:=c) (N:=N) h);have X:=dB (TZ (K:=N.d) (L:=N.l) (aAa (lsn:=N.lsn) (now:=N.now) e4));have HF0:=dB h.fit;have HLI:=dB (λh=>aDr (L:=N.l) h);clear h m hl e1 e4;unfold uE at *;generalize DJ c N=V at *;generalize yN N.lsn N.now N.ts=TX at *;have fz:=cL;have HB0:=dB (NP.new (w:=w) (c:=c) (cs:=gC a U b T N));go_enter func54,ntmps54;go_wp2_with fail;apply jC (HCF.o _);intro w1 m;have P:=dB (HB0.o.z m);clear m HCF HB0;obtain⟨p,q,r,s,t,x,z,A,D,F,H,I,J,M,O⟩:=P.o.cells rfl;cases hc:lG c with
 |false=>
  have E:=dB (HV0.o hc);go_wp2;exact aX (ca:=0) (cb:=0) rfl rfl rfl rfl P.o E.o (Ca rfl) (Ca rfl)
 |true=>
  replace a0:=dB (a0.o hc);obtain⟨hu,E⟩|⟨hu,⟨hl,E⟩|⟨hl,⟨h9,h8,E⟩|⟨h9,h8,⟨rfl,E⟩|⟨hp,E⟩⟩⟩⟩:=a0.o
  rotate_left 4
  .obtain ⟨k1,k2⟩:N.up=true/\N.deg=false:=by simpa[bf]using hu
   replace E:=dB E;clear a0 hu;rw[hl]at Z;have rN:=jF a U b T N 42;have fN:=rE a U b T N;rw[k1,k2]at rN fN;replace k1:=dB k1;replace k2:=dB k2;obtain⟨hl1,hl2,hl3⟩:=HLI.o hl;have hwl:IntKind.i64.wrap (N.l.last+1)=N.l.last+1:=by rw[IntKind.wrap_i64];omega
   go_wp2_with fail;apply jC (Z.o _);intro w6 m;replace P:=dB (P.o.z m);clear m p q r s t x z A D F H I J M O;obtain⟨p,q,r,s,t,x,z,A,D,F,H,I,J,M,O⟩:=P.o.cells rfl;go_wp2_with fail;apply jC (HES.o _ P.o.B);intro w7 m;replace P:=dB (P.o.z m);clear m p q r s t x z A D F H I J M O;obtain⟨p,q,r,s,t,x,z,A,D,F,H,I,J,M,O⟩:=P.o.cells rfl;have hw7:=P.o.lt;go_wp2_with fail;apply jC (HFD.o _ (aC P.o.B bC));intro w4 m;have Q:=dB ((GO.new w7).z m);replace m:=aC bC m;replace P:=dB (P.o.z m);have hz:=m.size;clear m p q r s t x z A D F H I J M O;obtain⟨p,q,r,s,t,x,z,A,D,F,H,I,J,M,O⟩:=P.o.cells rfl;clear HLI Z HES HFD hl hp;go_upto_if 52 with fail;go_cut [7] (λv wx=>∃n,n<=1/\NP w wx c (gC a U b T N)/\GO wx w7.1.size v n (qL N.d.fs)/\w7.1.size<=wx.1.size)
   case first=>
    by_cases hfd:0<=mE aS N.d.fs 0
    .have HFO:=dB (show qL N.d.fs=[VM] from Ma hfd);go_wp2_with(at_builtin;refine JJ rfl _ _ rfl w7.1.size _ _ _ _ _ _ _ _ rfl (by assumption) rfl (by omega) (by omega) ?_;intro g cap wx Q m;have hz:=m.size;replace P:=dB (P.o.grow m hw7);clear m p q r s t x z A D F H I J M O;obtain⟨p,q,r,s,t,x,z,A,D,F,H,I,J,M,O⟩:=P.o.cells rfl);go_meet;exact⟨1,by omega,P.o,by rw[HFO.o];exact Q.o,by omega⟩
    have HFO:=dB (show qL N.d.fs=[] from Ja hfd);go_wp2;go_meet;exact⟨0,by omega,P.o,by rw[HFO.o];exact Q.o,hz⟩
   clear p q r s t x z A D F H I J M O P Q hz;obtain⟨n0,hn0,hP,Q,hz⟩:=hcut;rename World=>w4;replace Q:=dB Q;have P:=dB hP;clear hP;obtain⟨p,q,r,s,t,x,z,A,D,F,H,I,J,M,O⟩:=P.o.cells rfl;have EL:cB (zN N.d N.l TX=qL N.d.fs++(lX N.l.last TX++uQ N.l.first (N.l.last+1-N.l.first).toNat)):=rfl;generalize qL N.d.fs=F0 at *;obtain⟨cnt,hcnt⟩:∃cnt:Nat,(cnt:Int)=N.l.last+1-N.l.first:=⟨(N.l.last+1-N.l.first).toNat,by omega⟩
   rw[show(N.l.last+1-N.l.first).toNat=cnt by omega,<-Nd]at EL;go_wp2_with(first
    |(at_builtin;refine JJ rfl _ _ rfl w7.1.size _ _ _ _ _ _ _ _ rfl (by assumption) rfl (by omega) (by omega) ?_;intro g cap wx Q m;have hz:=m.size;replace P:=dB (P.o.grow m hw7);clear m p q r s t x z A D F H I J M O;obtain⟨p,q,r,s,t,x,z,A,D,F,H,I,J,M,O⟩:=P.o.cells rfl)
    |(go_at_call 98;apply jC (HSG.o _ _);intro w5 m;have hz:=m.size;replace Q:=dB (Q.o.z m);replace P:=dB (P.o.z m);clear m p q r s t x z A D F H I J M O;obtain⟨p,q,r,s,t,x,z,A,D,F,H,I,J,M,O⟩:=P.o.cells rfl))
   replace Q:=dB (aOg (last:=N.l.last) (TX:=TX) Q.o);generalize F0++lX N.l.last TX=L0 at *;clear p q r s t x z A D F H I J M O;go_loopw [7,8] (λal i wz=>∃(k:Nat),k<=cnt/\i=.int .i64 (N.l.first+k)/\cB (GO wz w7.1.size al (n0+1+1+1+1+1+k) (L0++uQ N.l.first k))/\cB (NP w wz c (gC a U b T N))/\w7.1.size<=wz.1.size) (λ_ i _=>(N.l.last+1-RowKit.intOf i).toNat)
   case atStart=>exact⟨0,Oa _,by simp,by simpa[uQ]using Q,P,by omega⟩
   case round=>
    clear P Q;obtain⟨k,hk,rfl,Q,P,hz⟩:=hrel;obtain⟨p,q,r,s,t,x,z,A,D,F,H,I,J,M,O⟩:=P.o.cells rfl;by_cases hlt:k<cnt
    .have hle:N.l.first+(k:Int)<=N.l.last:=by omega
     have hwk:IntKind.i64.wrap (N.l.first+(k:Int)+1)=N.l.first+(k:Int)+1:=by rw[IntKind.wrap_i64];omega
     go_wp2_with(first
      |(go_at_call 98;apply jC (HSG.o _ _);intro w5 m;have hz:=m.size;replace Q:=dB (Q.o.z m);replace P:=dB (P.o.z m);clear m p q r s t x z A D F H I J M O;obtain⟨p,q,r,s,t,x,z,A,D,F,H,I,J,M,O⟩:=P.o.cells rfl)
      |(at_builtin;refine JJ rfl _ _ rfl w7.1.size _ _ _ _ _ _ _ _ rfl (by assumption) rfl (by omega) (by omega) ?_;intro g cap wx Q m;have hz:=m.size;replace P:=dB (P.o.grow m hw7);clear m p q r s t x z A D F H I J M O;obtain⟨p,q,r,s,t,x,z,A,D,F,H,I,J,M,O⟩:=P.o.cells rfl))
     exact⟨⟨k+1,by omega,by go_num,by rw[BT,<-Nd];exact Q,P,by omega⟩,by simp[RowKit.intOf];omega⟩
    obtain rfl:k=cnt:=by omega
    have hle:¬N.l.first+(k:Int)<=N.l.last:=by omega
    obtain⟨al,ac,hal⟩:=zP Q.o;have HLL:cB (zA (L0++uQ N.l.first k)=n0+1+1+1+1+1+k):=by have:=Q.o.1;rw[wy]at this;show _=_;omega
    have hnn:n0+1+1+1+1+1+k<=2000000:=by omega
    have hn1:0<n0+1+1+1+1+1+k:=by omega
    generalize n0+1+1+1+1+1+k=n at *;subst hal;generalize L0++uQ N.l.first k=LL at *
    obtain⟨G,rfl,hG,Y⟩:=pd Q.o hn1;have HCL:=dB Y;clear Y Q;go_wp2;refine zI (C:=λW=>Code.wp prog _ _ _ W) ?_;intro wD hbD GD _;have hDd:=P.o.lt;have PD:=dB (P.o.z hbD);have FD:=dB (HFI.o wD PD.o.B);have CD:=dB (λj u(hu:(aO LL)[j]?=some u)=>(World.cell?_of_block (hbD.block G hG)).trans (HCL.o j u hu));have hGD:G<wD.1.size:=Bb hG hbD.size;have hGn:G≠wr.1.size:=by omega
    replace GD:=dB GD;clear p q r s t x z A D F H I J M O P HCL hG hbD HFI HSG hle hwl;generalize wr.1.size=Dd at *;go_loopw [103] (λi wz=>∃(j:Nat)(K:xD)(aj:nC)(cj:Nat),j<=n/\i=.int .i64 j/\cB (vI N.d (LL.take j)=(K,0))/\cB (jB wz Dd #[.slice aj (zA K.fs) cj,.int .i64 K.c,.int .i64 K.k,.int .i64 K.cr,.int .i64 K.fl,.bool K.dn] 35)/\cB (uB wz aj K.fs)/\cB (fB (·=Dd) wD wz)) (λi _=>n-(RowKit.intOf i).toNat)
    case atStart=>exact⟨0,N.d,a,U,Oa _,rfl,rfl,GD.o,FD.o,fB.refl _ _⟩
    case round=>
     obtain⟨j,K,aj,cj,hj,rfl,S,hdd,hfj,htz⟩:=hrel;have P:=dB (PD.o.turn htz.o hDd);obtain⟨p,q,r,s,t,x,z,A,D,F,H,I,J,M,O⟩:=P.o.cells rfl;clear GD FD;by_cases hlt2:j<n
     .have hjl:j<zA LL:=by rw[HLL.o];exact hlt2
      have hgk:=htz.o.block G hGD hGn;obtain⟨q0,q1,q2,q3,q4⟩:=aNl (λi u hu=>(World.cell?_of_block hgk).trans (CD.o i u hu)) j hjl;obtain⟨op,hop⟩:∃op,op=LL[j]:=⟨_,rfl⟩
      have hof:=X.o op (by rw[EL.o,hop];exact Gb hjl);have HE:=dB (show LL.take (j+1)=LL.take j++[op] by rw[hop,Pa hjl]);have HX:=dB (show LL=LL.take j++op::LL.drop (j+1) by
       conv=>lhs;rw[<-Za j LL,Cb hjl,<-hop])
      have hfit:JK K.fs:=by
       have:=XY (LL.take j) N.d HF0.o (λo ho=>X.o o (by rw[EL.o];exact Ce ho));rw[S.o]at this;exact this
      have HST:=dB (aFf hfit hof.1 hof.2.1 hof.2.2);obtain⟨⟨K1,y⟩,hS1⟩:∃R,cE K op=R:=⟨_,rfl⟩
      have HS1:=dB hS1;rw[hS1]at HST;rw[<-hop]at q0 q1 q2 q3 q4;have hGw:=Bb hGD htz.o.size;clear hop hof hfit hS1 hgk hjl;go_upto_region 28 with fail;refine zI (C:=λW=>Code.wp prog _ _ _ W) ?_;intro w8 hb8 X8 _;obtain⟨d0,d1,d2,d3,d4,d5⟩:=(hdd.o.z hb8).c6;obtain⟨g0,g1,g2,g3,g4⟩:=X8.c5;have B8:=dB hb8;clear q0 q1 q2 q3 q4 X8 hb8 p q r s t x z A D F H I J M O;go_wp2_with fail;refine(HST.o _ _ _ (hfj.o.z B8.o)).mono ?_;rintro e w9 ⟨a9,c9,rfl,hf9,hb9⟩;have D9:=dB ((hdd.o.z B8.o).z hb9);have B9:=dB (aC B8.o hb9);have F9:=dB hf9;clear d0 d1 d2 d3 d4 d5 g0 g1 g2 g3 g4 hf9 hb9 HST B8;go_upto_region 29 with fail;refine zI (C:=λW=>Code.wp prog _ _ _ W) ?_;intro wa hba Aa _;obtain⟨d0,d1,d2,d3,d4,d5⟩:=Aa.c6;have Da:=dB (D9.o.z hba);have f:=Da.o.free;obtain⟨e0,e1,e2,e3,e4,e5⟩:=Da.o.c6;have Fa:=dB (F9.o.z hba);have Ba:=dB (aC B9.o hba);clear hba Aa D9 F9 B9;go_upto_region 30 with fail;refine aMv (C:=λW=>Code.wp prog _ _ _ W) Da.o ?_;intro wb Db Tb;have Fb:=dB (Fa.o.store Da.o (aOc) Tb);have Tz:=dB ((htz.o.trans' (fB.of Ba.o)).trans' Tb);replace Db:=dB Db;replace P:=dB (PD.o.turn Tz.o hDd);clear d0 d1 d2 d3 d4 d5 f e0 e1 e2 e3 e4 e5 Tb Da Fa Ba;obtain⟨p,q,r,s,t,x,z,A,D,F,H,I,J,M,O⟩:=P.o.cells rfl;by_cases hy:y=0
      .subst hy;go_wp2;refine⟨⟨j+1,K1,a9,c9,by omega,by go_num,?_,Db.o,Fb.o,Tz.o⟩,by simp[RowKit.intOf];omega⟩;show _=_;rw[HE.o,nV op (by rw[S.o]),S.o];exact HS1.o
      have E2:cB (V=(⟨K1,N.l,N.now,N.ts,N.lsn,true,!K1.dn⟩,(y:Int))):=by
       show _=_;rw[E.o,EL.o,HX.o,IX op (by rw[S.o]) (by rw[S.o];show(cE K op).2≠0;rw[HS1.o];exact hy),S.o];dsimp only;rw[HS1.o,ckQ,Ja hy];rfl
      have hyb:((y:Int)==0)=false:=by simpa using hy
      obtain⟨d0,d1,d2,d3,d4,d5⟩:=Db.o.c6;go_wp2_with fail;refine(HFL.o _ a9 c9 K1 k1.o P.o.B).mono ?_;rintro e wc ⟨b9,d9,rfl,hT,m⟩;replace P:=dB (P.o.z m);have hF:=Fb.o.z m;clear d0 d1 d2 d3 d4 d5 m p q r s t x z A D F H I J M O;obtain⟨p,q,r,s,t,x,z,A,D,F,H,I,J,M,O⟩:=P.o.cells rfl;go_wp2;exact aX rfl rfl rfl rfl P.o E2.o hF hT
     obtain rfl:j=n:=by omega
     have E2:cB (V=(⟨K,⟨N.l.last+1,N.l.last+1,0⟩,N.now,N.ts,N.lsn,N.deg,N.up⟩,0)):=by
      have hrn:=S.o;rw[Ra (by rw[HLL.o];exact Ia _),<-EL.o]at hrn;show _=_;rw[E.o,hrn,ckQ,Ma rfl]
     have hlt3:¬((j:Int)<(j:Int)):=by omega
     go_wp2_with fail;refine(HCP.o _ P.o.B).mono ?_;rintro e w8 ⟨a8,c8,b8,d8,rfl,_,hT,m⟩;replace P:=dB (P.o.z m);have D8:=dB (hdd.o.z m);have F8:=dB (hfj.o.z m);clear m hdd hfj p q r s t x z A D F H I J M O HCP HFL X;obtain⟨p,q,r,s,t,x,z,A,D,F,H,I,J,M,O⟩:=P.o.cells rfl;go_upto_region 34 with fail;refine kU (C:=λW=>Code.wp prog _ _ _ W) P.o.N ?_;intro w9 N9 T9;have D9:=T9.blk D8.o (by omega);have F9:=dB (F8.o.store P.o.N (rF _ _ _ _ _) T9);have H9:=dB (hT.store P.o.N (rF _ _ _ _ _) T9);replace P:=dB (P.o.put N9 T9);obtain⟨d0,d1,d2,d3,d4,d5⟩:=D9.c6;obtain⟨o0,o1,o2,o3,o4,o5,o6,o7,o8,o9,o10,o11,o12,o13⟩:=jF _ _ _ _ _ _ _ _ N9;have f:=N9.free;clear p q r s t x z A D F H I J M O hT T9 D9 D8 F8 rN fN;go_upto_region 36 with fail;refine aBd (C:=λW=>Code.wp prog _ _ _ W) N9 ?_;intro wa Na Ta;change jB wa _ (gC aj cj b8 d8 ⟨K,⟨N.l.last+1,N.l.last+1,0⟩,N.now,N.ts,N.lsn,N.deg,N.up⟩) _ at Na;have Fa:=dB (F9.o.store P.o.N (rF _ _ _ _ _) Ta);have Ha:=dB (H9.o.store P.o.N (rF _ _ _ _ _) Ta);replace P:=dB (P.o.put Na Ta);have rM:=jF aj cj b8 d8 ⟨K,⟨N.l.last+1,N.l.last+1,0⟩,N.now,N.ts,N.lsn,N.deg,N.up⟩ 42;have fM:=rE aj cj b8 d8 ⟨K,⟨N.l.last+1,N.l.last+1,0⟩,N.now,N.ts,N.lsn,N.deg,N.up⟩;dsimp only at fM rM;clear o0 o1 o2 o3 o4 o5 o6 o7 o8 o9 o10 o11 o12 o13 d0 d1 d2 d3 d4 d5 f N9 Na Ta;obtain⟨p,q,r,s,t,x,z,A,D,F,H,I,J,M,O⟩:=P.o.cells rfl;go_wp2;exact aX rfl rfl rfl rfl P.o E2.o Fa.o Ha.o
  all_goals
   rcases aNw hu with⟨k0,k1⟩|⟨k0,k1,k2⟩|⟨k0,k1,k2⟩
  all_goals cases k0
  all_goals
   replace E:=dB E;clear a0 hu HFL HFD HFI HSG X HF0 HLI HV0;(try clear h9);(try rw[hl]at Z);have rN:=jF a U b T N 42;have fN:=rE a U b T N;rw[k1]at rN fN;(try (rw[k2]at rN fN;clear k2));replace k1:=dB k1;go_wp2_with(first
    |(go_at_call 43;refine(HCP.o _ P.o.B).mono ?_;rintro e w9 ⟨a9,c9,b9,d9,rfl,hF,hT,m⟩;replace P:=dB (P.o.z m);clear m p q r s t x z A D F H I J M O;obtain⟨p,q,r,s,t,x,z,A,D,F,H,I,J,M,O⟩:=P.o.cells rfl)
    |(go_at_call 113;apply jC (Z.o _);intro w6 m;replace P:=dB (P.o.z m);clear m p q r s t x z A D F H I J M O;obtain⟨p,q,r,s,t,x,z,A,D,F,H,I,J,M,O⟩:=P.o.cells rfl)
    |(go_at_call 96;apply jC (HES.o _ P.o.B);intro w7 m;replace P:=dB (P.o.z m);clear m p q r s t x z A D F H I J M O;obtain⟨p,q,r,s,t,x,z,A,D,F,H,I,J,M,O⟩:=P.o.cells rfl))
   exact aX rfl rfl rfl rfl P.o E.o hF hT
end
