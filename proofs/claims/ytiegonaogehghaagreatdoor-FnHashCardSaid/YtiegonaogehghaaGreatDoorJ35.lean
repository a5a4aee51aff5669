import Derived.Test.YtiegonaogehghaaGreatDoorJ33
import Derived.Test.YtiegonaogehghaaGreatDoorJ08
import Derived.Test.YtiegonaogehghaaGreatDoorJ30
set_option maxRecDepth 100000
set_option maxHeartbeats 8000000
set_option linter.defProp false
open List renaming length->yA
namespace Go.Proofs.YtiegonaogehghaaGreatDoor
open Go.RowKit Tryz
def rU(a:List iB)(k:Nat)(h:k<yA a):a[k].s.size<=yD a:=by
 have b:=qN a k h;have c:=gM a (k+1);omega
def df:∀(a:List fB),(rF a).size<=17*yA a+10*aC a
 |[]=>by simp[rF,aC]
 |t::q=>by
  have c:=df q;have b:=UI t;show(lU t++rF q).size<=17*(yA q+1)+10*(aF t+aC q);rw[Ka,b];unfold aF;omega
def ro{a:List fB}(h:yA a+aC a<=1048576):aJx a/\aKc a/\aMq a/\(rF a).size<=100000000:=by
 have g:∀i(b:i<yA a),aF a[i]<=1048576:=λi b=>by
  have c:=hK a i b;have d:=pM a (i+1);omega
 have c:∀i(b:i<yA a),a[i].N.size<=1048576/\yA a[i].M<=1048576/\yA a[i].Z<=1048576/\yD a[i].M<=1048576/\yD a[i].Z<=1048576:=λi b=>by have:=g i b;unfold aF at this;omega
 have d:∀i(b:i<yA a),(∀j(f:j<yA a[i].M),a[i].M[j].s.size<=1000000000)/\(∀j(f:j<yA a[i].Z),a[i].Z[j].s.size<=1000000000):=λi b=>
  ⟨λj e=>by have:=rU _ j e;have:=c i b;omega,λj e=>by have:=rU _ j e;have:=c i b;omega⟩
 refine⟨λi b=>⟨?_,?_,?_,(d i b).1,(d i b).2⟩,λi b=>⟨?_,?_⟩,λi b=>⟨?_,?_⟩,?_⟩;all_goals first|(have:=c i b;unfold maxLen at *;omega)|(have:=c i b;omega)|(have:=df a;omega)
section
open Go.Maps
attribute [local go_sem] wF uG fK gB.drewI oK.drewI oK.new oK.alloc oK.alloc2
def ckQ(N:pC)(R:gE×Nat):pC×Int:=if R.2=0 then(⟨R.1,⟨N.l.last+1,N.l.last+1,0⟩,N.now,N.ts,N.lsn,N.deg,N.up⟩,0) else(aJq N R.1,(R.2:Int))
def aNa{c:gC}{N:pC}(h:cF c=true):ub N=false/\DF c N=(N,60)\/ub N=true/\(iJ N.l=false/\DF c N=(N,21)\/iJ N.l=true/\(N.l.last=999999/\(N.l.last==999999)=true/\DF c N=(N,23)\/N.l.last≠999999/\(N.l.last==999999)=false/\((eO N.lsn N.now N.ts)=ByteArray.empty/\DF c N=(N,62)\/(eO N.lsn N.now N.ts).toList.isEmpty=false/\DF c N=ckQ N (jJ N.d (fP N.d N.l (eO N.lsn N.now N.ts)))))):=by
 unfold DF;rw[Ja (by simp[h])];cases h1:ub N
 .exact Ca ⟨rfl,Ma rfl⟩
 refine La ⟨rfl,?_⟩;rw[Ja (by simp)];cases h2:iJ N.l
 .exact Ca ⟨rfl,Ma rfl⟩
 refine La ⟨rfl,?_⟩;rw[Ja (by simp)];by_cases a:N.l.last=999999
 .exact Ca ⟨a,by simpa using a,Ma a⟩
 refine La ⟨a,by simpa using a,?_⟩;rw[Ja a];by_cases b:eO N.lsn N.now N.ts=ByteArray.empty
 .exact Ca ⟨b,Ma b⟩
 exact La ⟨sV.2 b,Ja b⟩
def aAf{lsn now:Int}{a:List fB}(h:(rF a).size<=100000000):(eO lsn now a).size<=200000000:=by
 by_cases b:KZ lsn a
 .rw[ME b];simp only[yM,FY,Ka,kB];have:ckB.size<=10:=by decide
  omega
 rw[MD b];simp
structure aMr(w:World)(a b:jC)(N:pC):Prop where
 files:rB w a N.d.fs
 fit:JE N.d.fs
 tens:uC w b N.ts
 bulk:yA N.ts+aC N.ts≤1048576
 rng:uj N.ts
 lsn:GG N.lsn
 now:GG N.now
def aDu{L:mG}(h:iJ L=true):1<=L.first/\L.first<=L.last/\L.last<=999999:=by
 simp only[iJ,zB,Sa,Ab]at h;omega
def NP.turn{w W b:World}{c:gC}{cs:Array Value}{X:Nat}(h:NP w W c cs)(a:eB (·=X) W b)(d:w.1.size+1+1<X):NP w b c cs:=
 ⟨a.blk h.C (by omega),a.blk h.N (by omega),a.blk h.R (by omega),h.B.trans (a.below h.B.size λk f e=>by omega)⟩
def NP.grow{w W b:World}{c:gC}{cs:Array Value}{B:Nat}(h:NP w W c cs)(a:Below B W b)(d:w.1.size+1+1<B):NP w b c cs:=
 ⟨(a.block _ (by omega)).trans h.C,(a.block _ (by omega)).trans h.N,(a.block _ (by omega)).trans h.R,h.B.trans (a.mono (by omega))⟩
def aOi{w:World}{B n:Nat}{v:Value}{F:List pK}{last:Int}{TX:nB}(h:GH w B v n (F++[⟨1,iX,⟨#[]⟩,⟨#[]⟩,0⟩]++[⟨2,iX,⟨#[]⟩,TX,0⟩]++[⟨3,iX,⟨#[]⟩,⟨#[]⟩,0⟩]++[⟨5,iX,ckN,⟨#[]⟩,0⟩]++[⟨1,gK (last+1),⟨#[]⟩,⟨#[]⟩,0⟩])):GH w B v n (F++oY last TX):=by
 simp only[Nd]at h;exact h
def aOe{c:jC}{n a:Nat}{d e f g:Int}{b:Bool}:∀(j:Nat)(s:nB),(#[Value.slice c n a,zA d,zA e,zA f,zA g,.bool b]:Array Value)[j]?≠some (Value.string s)
 |0,_|1,_|2,_|3,_|4,_|5,_|j+6,_=>by simp
def aMx{C:World->Prop}{w:World}{O:Nat}{g i j l m n a b c d e f:Value}{t:TypeId}(h:gB w O #[g,i,j,l,m,n] t)(k:∀W,gB W O #[a,b,c,d,e,f] t->eB (·=O) w W->C W):C ((((((w.setCell (dB O 0) a).setCell (dB O 1) b).setCell (dB O 2) c).setCell (dB O 3) d).setCell (dB O 4) e).setCell (dB O 5) f):=
 k _ (by have:=(((((h.set 0 a).set 1 b).set 2 c).set 3 d).set 4 e).set 5 f;simpa using this) (((((((eB.refl (·=O) w).setCell (Ca rfl) 0 a).setCell (Ca rfl) 1 b).setCell (Ca rfl) 2 c).setCell (Ca rfl) 3 d).setCell (Ca rfl) 4 e).setCell (Ca rfl) 5 f)
def xb(l:List pK):yA (vN l)=yA l*5:=by
 induction l with
 |nil=>rfl
 |cons o r a=>simp[vN]at a |-;omega
def pc{w:World}{B n f:Nat}{b:jC}{l:List pK}(h:GH w B (.slice b n f) n l)(v:0<n):∃g,b=pB g/\g<w.1.size/\∀j u,(vN l)[j]?=some u->w.cell? (dB g j)=some u:=by
 obtain⟨_,o⟩|⟨g,i,a,e,t,c,p,q,r,k⟩:=h.2;omega;simp only[Value.slice.injEq]at e;refine⟨g,e.1,aB c,λj u d=>?_⟩;have m:j<n*5:=by
  have s:=h.1;have:=(Pb.1 d).1;omega
 rw[gB.cell (show gB w g a _ from c) j,<-Yd,<-d,<-k,Jb m]
def qg(c:gC)(a b:jC)(U T:Nat)(N:pC)(w:World)(h:aMr w a b N):
 Calls prog 59 #[jE c,.agg (dC a U b T N)] w λe w'=>qu (DF c N) w e w':=by
 have m:=h.bulk;have hl:=h.fit.len;obtain⟨e1,_,_,e4⟩:=ro h.bulk;have HCF:=cB (λW=>yJ c W);have HCP:bB (∀W,tB w W->Calls prog 48 #[.agg (dC a U b T N)] W λe w'=>∃a U b T,e=.returned (.agg (dC a U b T N))/\rB w' a N.d.fs/\uC w' b N.ts/\tB W w'):=λW hW=>(pN a b U T N W (h.files.z hW) hl (h.tens.z hW) (by omega) (yO (by omega))).mono λe w' ⟨a,U,b,T,he,h1,h2,h3⟩=>⟨a,U,b,T,he,h1.files,h2.tens,h3⟩
 have HES:=cB (λW(hW:tB w W)=>jo N.lsn N.now b T N.ts W (h.tens.z hW) e1 h.rng h.lsn h.now (by omega) e4);have Z:=cB (λW=>BH N.l W);have HFL:bB (∀W a' ca' K,N.up=true->tB w W->Calls prog 118 #[.agg (dC a U b T N),.agg #[.slice a' (yA K.fs) ca',.int .i64 K.c,.int .i64 K.k,.int .i64 K.cr,.int .i64 K.fl,.bool K.dn],.agg #[.int .i64 N.l.first,.int .i64 N.l.last,.int .i64 N.l.size]] W λe w'=>∃b T,e=.returned (.agg (dC a' ca' b T ⟨K,N.l,N.now,N.ts,N.lsn,true,!K.dn⟩))/\uC w' b N.ts/\tB W w'):=λW a' ca' K hu hW=>(EX a b a' U T ca' N K N.l W (h.files.z hW) hl (h.tens.z hW) (by omega) (yO (by omega)) hu).mono λe w' ⟨b,T,he,h2,h3⟩=>⟨b,T,he,h2.tens,h3⟩
 have HFD:=cB (λW(hW:tB w W)=>sW a U N.d.fs N.d.c N.d.k N.d.cr N.d.fl N.d.dn iX W (h.files.z hW) (by unfold maxLen;omega));have HFI:=cB (λW(hW:tB w W)=>h.files.z hW);have HSG:=cB (λn W=>zQ n W);have HV0:=cB (λh=>show DF c N=(xK,61) by unfold DF;exact Ma h);have a0:=cB (λh=>aNa (c:=c) (N:=N) h);have X:=cB (TO (K:=N.d) (L:=N.l) (aAf (lsn:=N.lsn) (now:=N.now) e4));have HF0:=cB h.fit;have HLI:=cB (λh=>aDu (L:=N.l) h);clear h m hl e1 e4;unfold jE at *;generalize DF c N=V at *;generalize eO N.lsn N.now N.ts=TX at *;have fz:=yK;have HB0:=cB (NP.new (w:=w) (c:=c) (cs:=dC a U b T N));go_enter func59,ntmps59;go_wp2_with fail;apply hC (HCF.o _);intro w1 m;have P:=cB (HB0.o.z m);clear m HCF HB0;obtain⟨p,q,r,s,t,x,z,A,D,F,H,I,J,M,O⟩:=P.o.cells rfl;cases hc:cF c with
 |false=>
  have E:=cB (HV0.o hc);go_wp2;exact aX (ca:=0) (cb:=0) rfl rfl rfl rfl P.o E.o (Ca rfl) (Ca rfl)
 |true=>
  replace a0:=cB (a0.o hc);obtain⟨hu,E⟩|⟨hu,⟨hl,E⟩|⟨hl,⟨h9,h8,E⟩|⟨h9,h8,⟨rfl,E⟩|⟨hp,E⟩⟩⟩⟩:=a0.o
  rotate_left 4
  .obtain ⟨k1,k2⟩:N.up=true/\N.deg=false:=by simpa[ub]using hu
   replace E:=cB E;clear a0 hu;rw[hl]at Z;have rN:=eF a U b T N 42;have fN:=lE a U b T N;rw[k1,k2]at rN fN;replace k1:=cB k1;replace k2:=cB k2;obtain⟨hl1,hl2,hl3⟩:=HLI.o hl;have hwl:IntKind.i64.wrap (N.l.last+1)=N.l.last+1:=by rw[IntKind.wrap_i64];omega
   go_wp2_with fail;apply hC (Z.o _);intro w6 m;replace P:=cB (P.o.z m);clear m p q r s t x z A D F H I J M O;obtain⟨p,q,r,s,t,x,z,A,D,F,H,I,J,M,O⟩:=P.o.cells rfl;go_wp2_with fail;apply hC (HES.o _ P.o.B);intro w7 m;replace P:=cB (P.o.z m);clear m p q r s t x z A D F H I J M O;obtain⟨p,q,r,s,t,x,z,A,D,F,H,I,J,M,O⟩:=P.o.cells rfl;have hw7:=P.o.lt;go_wp2_with fail;apply hC (HFD.o _ (vB P.o.B yB));intro w4 m;have Q:=cB ((GH.new w7).z m);replace m:=vB yB m;replace P:=cB (P.o.z m);have hz:=m.size;clear m p q r s t x z A D F H I J M O;obtain⟨p,q,r,s,t,x,z,A,D,F,H,I,J,M,O⟩:=P.o.cells rfl;clear HLI Z HES HFD hl hp;go_upto_if 52 with fail;go_cut [7] (λv wx=>∃n,n<=1/\NP w wx c (dC a U b T N)/\GH wx w7.1.size v n (nN N.d.fs)/\w7.1.size<=wx.1.size)
   case first=>
    by_cases hfd:0<=iE iX N.d.fs 0
    .have HFO:=cB (show nN N.d.fs=[VI] from Ma hfd);go_wp2_with(at_builtin;refine JD rfl _ _ rfl w7.1.size _ _ _ _ _ _ _ _ rfl (by assumption) rfl (by omega) (by omega) ?_;intro g cap wx Q m;have hz:=m.size;replace P:=cB (P.o.grow m hw7);clear m p q r s t x z A D F H I J M O;obtain⟨p,q,r,s,t,x,z,A,D,F,H,I,J,M,O⟩:=P.o.cells rfl);go_meet;exact⟨1,by omega,P.o,by rw[HFO.o];exact Q.o,by omega⟩
    have HFO:=cB (show nN N.d.fs=[] from Ja hfd);go_wp2;go_meet;exact⟨0,by omega,P.o,by rw[HFO.o];exact Q.o,hz⟩
   clear p q r s t x z A D F H I J M O P Q hz;obtain⟨n0,hn0,hP,Q,hz⟩:=hcut;rename World=>w4;replace Q:=cB Q;have P:=cB hP;clear hP;obtain⟨p,q,r,s,t,x,z,A,D,F,H,I,J,M,O⟩:=P.o.cells rfl;have EL:bB (fP N.d N.l TX=nN N.d.fs++(oY N.l.last TX++kR N.l.first (N.l.last+1-N.l.first).toNat)):=rfl;generalize nN N.d.fs=F0 at *;obtain⟨cnt,hcnt⟩:∃cnt:Nat,(cnt:Int)=N.l.last+1-N.l.first:=⟨(N.l.last+1-N.l.first).toNat,by omega⟩
   rw[show(N.l.last+1-N.l.first).toNat=cnt by omega,<-Nd]at EL;go_wp2_with(first
    |(at_builtin;refine JD rfl _ _ rfl w7.1.size _ _ _ _ _ _ _ _ rfl (by assumption) rfl (by omega) (by omega) ?_;intro g cap wx Q m;have hz:=m.size;replace P:=cB (P.o.grow m hw7);clear m p q r s t x z A D F H I J M O;obtain⟨p,q,r,s,t,x,z,A,D,F,H,I,J,M,O⟩:=P.o.cells rfl)
    |(go_at_call 106;apply hC (HSG.o _ _);intro w5 m;have hz:=m.size;replace Q:=cB (Q.o.z m);replace P:=cB (P.o.z m);clear m p q r s t x z A D F H I J M O;obtain⟨p,q,r,s,t,x,z,A,D,F,H,I,J,M,O⟩:=P.o.cells rfl))
   replace Q:=cB (aOi (last:=N.l.last) (TX:=TX) Q.o);generalize F0++oY N.l.last TX=L0 at *;clear p q r s t x z A D F H I J M O;go_loopw [7,8] (λal i wz=>∃(k:Nat),k<=cnt/\i=.int .i64 (N.l.first+k)/\bB (GH wz w7.1.size al (n0+1+1+1+1+1+k) (L0++kR N.l.first k))/\bB (NP w wz c (dC a U b T N))/\w7.1.size<=wz.1.size) (λ_ i _=>(N.l.last+1-RowKit.intOf i).toNat)
   case atStart=>exact⟨0,Oa _,by simp,by simpa[kR]using Q,P,by omega⟩
   case round=>
    clear P Q;obtain⟨k,hk,rfl,Q,P,hz⟩:=hrel;obtain⟨p,q,r,s,t,x,z,A,D,F,H,I,J,M,O⟩:=P.o.cells rfl;by_cases hlt:k<cnt
    .have hle:N.l.first+(k:Int)<=N.l.last:=by omega
     have hwk:IntKind.i64.wrap (N.l.first+(k:Int)+1)=N.l.first+(k:Int)+1:=by rw[IntKind.wrap_i64];omega
     go_wp2_with(first
      |(go_at_call 106;apply hC (HSG.o _ _);intro w5 m;have hz:=m.size;replace Q:=cB (Q.o.z m);replace P:=cB (P.o.z m);clear m p q r s t x z A D F H I J M O;obtain⟨p,q,r,s,t,x,z,A,D,F,H,I,J,M,O⟩:=P.o.cells rfl)
      |(at_builtin;refine JD rfl _ _ rfl w7.1.size _ _ _ _ _ _ _ _ rfl (by assumption) rfl (by omega) (by omega) ?_;intro g cap wx Q m;have hz:=m.size;replace P:=cB (P.o.grow m hw7);clear m p q r s t x z A D F H I J M O;obtain⟨p,q,r,s,t,x,z,A,D,F,H,I,J,M,O⟩:=P.o.cells rfl))
     exact⟨⟨k+1,by omega,by go_num,by rw[NK,<-Nd];exact Q,P,by omega⟩,by simp[RowKit.intOf];omega⟩
    obtain rfl:k=cnt:=by omega
    have hle:¬N.l.first+(k:Int)<=N.l.last:=by omega
    obtain⟨al,ac,hal⟩:=jM Q.o;have HLL:bB (yA (L0++kR N.l.first k)=n0+1+1+1+1+1+k):=by have:=Q.o.1;rw[xb]at this;show _=_;omega
    have hnn:n0+1+1+1+1+1+k<=2000000:=by omega
    have hn1:0<n0+1+1+1+1+1+k:=by omega
    generalize n0+1+1+1+1+1+k=n at *;subst hal;generalize L0++kR N.l.first k=LL at *
    obtain⟨G,rfl,hG,Y⟩:=pc Q.o hn1;have HCL:=cB Y;clear Y Q;go_wp2;refine yH (C:=λW=>Code.wp prog _ _ _ W) ?_;intro wD hbD GD _;have hDd:=P.o.lt;have PD:=cB (P.o.z hbD);have FD:=cB (HFI.o wD PD.o.B);have CD:=cB (λj u(hu:(vN LL)[j]?=some u)=>(World.cell?_of_block (hbD.block G hG)).trans (HCL.o j u hu));have hGD:G<wD.1.size:=Bb hG hbD.size;have hGn:G≠wr.1.size:=by omega
    replace GD:=cB GD;clear p q r s t x z A D F H I J M O P HCL hG hbD HFI HSG hle hwl;generalize wr.1.size=Dd at *;go_loopw [103] (λi wz=>∃(j:Nat)(K:gE)(aj:jC)(cj:Nat),j<=n/\i=.int .i64 j/\bB (jJ N.d (LL.take j)=(K,0))/\bB (gB wz Dd #[.slice aj (yA K.fs) cj,.int .i64 K.c,.int .i64 K.k,.int .i64 K.cr,.int .i64 K.fl,.bool K.dn] 35)/\bB (rB wz aj K.fs)/\bB (eB (·=Dd) wD wz)) (λi _=>n-(RowKit.intOf i).toNat)
    case atStart=>exact⟨0,N.d,a,U,Oa _,rfl,rfl,GD.o,FD.o,eB.refl _ _⟩
    case round=>
     obtain⟨j,K,aj,cj,hj,rfl,S,hdd,hfj,htz⟩:=hrel;have P:=cB (PD.o.turn htz.o hDd);obtain⟨p,q,r,s,t,x,z,A,D,F,H,I,J,M,O⟩:=P.o.cells rfl;clear GD FD;by_cases hlt2:j<n
     .have hjl:j<yA LL:=by rw[HLL.o];exact hlt2
      have hgk:=htz.o.block G hGD hGn;obtain⟨q0,q1,q2,q3,q4⟩:=aNm (λi u hu=>(World.cell?_of_block hgk).trans (CD.o i u hu)) j hjl;obtain⟨op,hop⟩:∃op,op=LL[j]:=⟨_,rfl⟩
      have hof:=X.o op (by rw[EL.o,hop];exact Gb hjl);have HE:=cB (show LL.take (j+1)=LL.take j++[op] by rw[hop,Pa hjl]);have HX:=cB (show LL=LL.take j++op::LL.drop (j+1) by
       conv=>lhs;rw[<-Za j LL,Cb hjl,<-hop])
      have hfit:JE K.fs:=by
       have:=XZ (LL.take j) N.d HF0.o (λo ho=>X.o o (by rw[EL.o];exact Ce ho));rw[S.o]at this;exact this
      have HST:=cB (aFj hfit hof.1 hof.2.1 hof.2.2);obtain⟨⟨K1,y⟩,hS1⟩:∃R,fE K op=R:=⟨_,rfl⟩
      have HS1:=cB hS1;rw[hS1]at HST;rw[<-hop]at q0 q1 q2 q3 q4;have hGw:=Bb hGD htz.o.size;clear hop hof hfit hS1 hgk hjl;go_upto_region 28 with fail;refine yH (C:=λW=>Code.wp prog _ _ _ W) ?_;intro w8 hb8 X8 _;obtain⟨d0,d1,d2,d3,d4,d5⟩:=(hdd.o.z hb8).c6;obtain⟨g0,g1,g2,g3,g4⟩:=X8.c5;have B8:=cB hb8;clear q0 q1 q2 q3 q4 X8 hb8 p q r s t x z A D F H I J M O;go_wp2_with fail;refine(HST.o _ _ _ (hfj.o.z B8.o)).mono ?_;rintro e w9 ⟨a9,c9,rfl,hf9,hb9⟩;have D9:=cB ((hdd.o.z B8.o).z hb9);have B9:=cB (vB B8.o hb9);have F9:=cB hf9;clear d0 d1 d2 d3 d4 d5 g0 g1 g2 g3 g4 hf9 hb9 HST B8;go_upto_region 29 with fail;refine yH (C:=λW=>Code.wp prog _ _ _ W) ?_;intro wa hba Aa _;obtain⟨d0,d1,d2,d3,d4,d5⟩:=Aa.c6;have Da:=cB (D9.o.z hba);have f:=Da.o.free;obtain⟨e0,e1,e2,e3,e4,e5⟩:=Da.o.c6;have Fa:=cB (F9.o.z hba);have Ba:=cB (vB B9.o hba);clear hba Aa D9 F9 B9;go_upto_region 30 with fail;refine aMx (C:=λW=>Code.wp prog _ _ _ W) Da.o ?_;intro wb Db Tb;have Fb:=cB (Fa.o.store Da.o (aOe) Tb);have Tz:=cB ((htz.o.trans' (eB.of Ba.o)).trans' Tb);replace Db:=cB Db;replace P:=cB (PD.o.turn Tz.o hDd);clear d0 d1 d2 d3 d4 d5 f e0 e1 e2 e3 e4 e5 Tb Da Fa Ba;obtain⟨p,q,r,s,t,x,z,A,D,F,H,I,J,M,O⟩:=P.o.cells rfl;by_cases hy:y=0
      .subst hy;go_wp2;refine⟨⟨j+1,K1,a9,c9,by omega,by go_num,?_,Db.o,Fb.o,Tz.o⟩,by simp[RowKit.intOf];omega⟩;show _=_;rw[HE.o,AF op (by rw[S.o]),S.o];exact HS1.o
      have E2:bB (V=(⟨K1,N.l,N.now,N.ts,N.lsn,true,!K1.dn⟩,(y:Int))):=by
       show _=_;rw[E.o,EL.o,HX.o,IS op (by rw[S.o]) (by rw[S.o];show(fE K op).2≠0;rw[HS1.o];exact hy),S.o];dsimp only;rw[HS1.o,ckQ,Ja hy];rfl
      have hyb:((y:Int)==0)=false:=by simpa using hy
      obtain⟨d0,d1,d2,d3,d4,d5⟩:=Db.o.c6;go_wp2_with fail;refine(HFL.o _ a9 c9 K1 k1.o P.o.B).mono ?_;rintro e wc ⟨b9,d9,rfl,hT,m⟩;replace P:=cB (P.o.z m);have hF:=Fb.o.z m;clear d0 d1 d2 d3 d4 d5 m p q r s t x z A D F H I J M O;obtain⟨p,q,r,s,t,x,z,A,D,F,H,I,J,M,O⟩:=P.o.cells rfl;go_wp2;exact aX rfl rfl rfl rfl P.o E2.o hF hT
     obtain rfl:j=n:=by omega
     have E2:bB (V=(⟨K,⟨N.l.last+1,N.l.last+1,0⟩,N.now,N.ts,N.lsn,N.deg,N.up⟩,0)):=by
      have hrn:=S.o;rw[Ra (by rw[HLL.o];exact Ia _),<-EL.o]at hrn;show _=_;rw[E.o,hrn,ckQ,Ma rfl]
     have hlt3:¬((j:Int)<(j:Int)):=by omega
     go_wp2_with fail;refine(HCP.o _ P.o.B).mono ?_;rintro e w8 ⟨a8,c8,b8,d8,rfl,_,hT,m⟩;replace P:=cB (P.o.z m);have D8:=cB (hdd.o.z m);have F8:=cB (hfj.o.z m);clear m hdd hfj p q r s t x z A D F H I J M O HCP HFL X;obtain⟨p,q,r,s,t,x,z,A,D,F,H,I,J,M,O⟩:=P.o.cells rfl;go_upto_region 34 with fail;refine jU (C:=λW=>Code.wp prog _ _ _ W) P.o.N ?_;intro w9 N9 T9;have D9:=T9.blk D8.o (by omega);have F9:=cB (F8.o.store P.o.N (kF _ _ _ _ _) T9);have H9:=cB (hT.store P.o.N (kF _ _ _ _ _) T9);replace P:=cB (P.o.put N9 T9);obtain⟨d0,d1,d2,d3,d4,d5⟩:=D9.c6;obtain⟨o0,o1,o2,o3,o4,o5,o6,o7,o8,o9,o10,o11,o12,o13⟩:=eF _ _ _ _ _ _ _ _ N9;have f:=N9.free;clear p q r s t x z A D F H I J M O hT T9 D9 D8 F8 rN fN;go_upto_region 36 with fail;refine aBj (C:=λW=>Code.wp prog _ _ _ W) N9 ?_;intro wa Na Ta;change gB wa _ (dC aj cj b8 d8 ⟨K,⟨N.l.last+1,N.l.last+1,0⟩,N.now,N.ts,N.lsn,N.deg,N.up⟩) _ at Na;have Fa:=cB (F9.o.store P.o.N (kF _ _ _ _ _) Ta);have Ha:=cB (H9.o.store P.o.N (kF _ _ _ _ _) Ta);replace P:=cB (P.o.put Na Ta);have rM:=eF aj cj b8 d8 ⟨K,⟨N.l.last+1,N.l.last+1,0⟩,N.now,N.ts,N.lsn,N.deg,N.up⟩ 42;have fM:=lE aj cj b8 d8 ⟨K,⟨N.l.last+1,N.l.last+1,0⟩,N.now,N.ts,N.lsn,N.deg,N.up⟩;dsimp only at fM rM;clear o0 o1 o2 o3 o4 o5 o6 o7 o8 o9 o10 o11 o12 o13 d0 d1 d2 d3 d4 d5 f N9 Na Ta;obtain⟨p,q,r,s,t,x,z,A,D,F,H,I,J,M,O⟩:=P.o.cells rfl;go_wp2;exact aX rfl rfl rfl rfl P.o E2.o Fa.o Ha.o
  all_goals
   rcases aNw hu with⟨k0,k1⟩|⟨k0,k1,k2⟩|⟨k0,k1,k2⟩
  all_goals cases k0
  all_goals
   replace E:=cB E;clear a0 hu HFL HFD HFI HSG X HF0 HLI HV0;(try clear h9);(try rw[hl]at Z);have rN:=eF a U b T N 42;have fN:=lE a U b T N;rw[k1]at rN fN;(try (rw[k2]at rN fN;clear k2));replace k1:=cB k1;go_wp2_with(first
    |(go_at_call 48;refine(HCP.o _ P.o.B).mono ?_;rintro e w9 ⟨a9,c9,b9,d9,rfl,hF,hT,m⟩;replace P:=cB (P.o.z m);clear m p q r s t x z A D F H I J M O;obtain⟨p,q,r,s,t,x,z,A,D,F,H,I,J,M,O⟩:=P.o.cells rfl)
    |(go_at_call 121;apply hC (Z.o _);intro w6 m;replace P:=cB (P.o.z m);clear m p q r s t x z A D F H I J M O;obtain⟨p,q,r,s,t,x,z,A,D,F,H,I,J,M,O⟩:=P.o.cells rfl)
    |(go_at_call 104;apply hC (HES.o _ P.o.B);intro w7 m;replace P:=cB (P.o.z m);clear m p q r s t x z A D F H I J M O;obtain⟨p,q,r,s,t,x,z,A,D,F,H,I,J,M,O⟩:=P.o.cells rfl))
   exact aX rfl rfl rfl rfl P.o E.o hF hT
end
