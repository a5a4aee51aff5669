import Derived.Test.YtabgbmfcbobamaaGreatDoorJ35
import Derived.Test.YtabgbmfcbobamaaGreatDoorJ08
import Derived.Test.YtabgbmfcbobamaaGreatDoorJ39
import Derived.Test.YtabgbmfcbobamaaGreatDoorJ31
set_option maxRecDepth 100000
set_option maxHeartbeats 8000000
namespace Go.Proofs.YtabgbmfcbobamaaGreatDoor
open Go.RowKit Tryz
theorem zR (a:List lA) (k:Nat) (h:k<a.length):a[k].s.size<=fC a:=by
 have b:=aQ a k h;have c:=wM a (k+1);omega
theorem XP:∀(a:List dA),(iC a).size<=17*a.length+10*uA a
 |[]=>by simp[iC,uA]
 |t::q=>by
  have c:=XP q;have b:=wW t;show(eL t++iC q).size<=17*(q.length+1)+10*(fD t+uA q);rw[Ga,b];unfold fD;omega
theorem zy {a:List dA} (h:a.length+uA a<=1048576):yy a/\aDk a/\aFx a/\(iC a).size<=100000000:=by
 have g:∀i (b:i<a.length),fD a[i]<=1048576:=fun i b=>by
  have c:=mH a i b;have d:=iJ a (i+1);omega
 have c:∀i (b:i<a.length),a[i].name.size<=1048576/\a[i].m9.length<=1048576/\a[i].s9.length<=1048576/\fC a[i].m9<=1048576/\fC a[i].s9<=1048576:=fun i b=>by have:=g i b;unfold fD at this;omega
 have d:∀i (b:i<a.length),(∀j (f:j<a[i].m9.length),a[i].m9[j].s.size<=1000000000)/\(∀j (f:j<a[i].s9.length),a[i].s9[j].s.size<=1000000000):=fun i b=>
  ⟨fun j e=>by have:=zR _ j e;have:=c i b;omega,fun j e=>by have:=zR _ j e;have:=c i b;omega⟩
 refine⟨fun i b=>⟨?_,?_,?_,(d i b).1,(d i b).2⟩,fun i b=>⟨?_,?_⟩,fun i b=>⟨?_,?_⟩,?_⟩;all_goals first|(have:=c i b;unfold maxLen at *;omega)|(have:=c i b;omega)|(have:=XP a;omega)
section
open Go.Maps
attribute [local go_sem] rG sH mN eA.drewI dM.drewI dM.new dM.alloc dM.alloc2
def ckQ (N:yC) (R:pE×Nat):yC×Int:=if R.2=0 then(⟨R.1,⟨N.l.last+1,N.l.last+1,0⟩,N.now,N.ts,N.lsn,N.deg,N.up⟩,0) else(aCv N R.1,(R.2:Int))
theorem aGz {c:vB} {N:yC} (h:jE c=true):yk N=false/\SI c N=(N,60)\/yk N=true/\(yP N.l=false/\SI c N=(N,21)\/yP N.l=true/\(N.l.last=999999/\(N.l.last==999999)=true/\SI c N=(N,23)\/N.l.last≠999999/\(N.l.last==999999)=false/\((xE N.lsn N.now N.ts)=ByteArray.empty/\SI c N=(N,62)\/(xE N.lsn N.now N.ts).toList.isEmpty=false/\SI c N=ckQ N (mO N.d (EW N.d N.l (xE N.lsn N.now N.ts)))))):=by
 unfold SI;rw[Oa (by simp[h])];cases h1:yk N
 ·exact Ca ⟨rfl,Qa rfl⟩
 refine Ja ⟨rfl,?_⟩;rw[Oa (by simp)];cases h2:yP N.l
 ·exact Ca ⟨rfl,Qa rfl⟩
 refine Ja ⟨rfl,?_⟩;rw[Oa (by simp)];by_cases a:N.l.last=999999
 ·exact Ca ⟨a,by simpa using a,Qa a⟩
 refine Ja ⟨a,by simpa using a,?_⟩;rw[Oa a];by_cases b:xE N.lsn N.now N.ts=ByteArray.empty
 ·exact Ca ⟨b,Qa b⟩
 ·exact Ja ⟨pW.2 b,Oa b⟩
theorem qn {lsn now:Int} {a:List dA} (h:(iC a).size<=100000000):(xE lsn now a).size<=200000000:=by
 by_cases b:bT lsn a
 ·rw[nR b];simp only[gH,mX,Ga,iA];have:tf.size<=10:=by decide
  omega
 ·rw[lX b];simp
structure aGv (w:World) (a b:Option Addr) (N:yC):Prop where
 files:qA w a N.d.fs
 fit:CU N.d.fs
 tens:oB w b N.ts
 bulk:N.ts.length+uA N.ts≤1048576
 rng:WJ N.ts
 lsn:uY N.lsn
 now:uY N.now
theorem aEs {L:mP} (h:yP L=true):1<=L.first/\L.first<=L.last/\L.last<=999999:=by
 simp only[yP,xA,Sa,Eb]at h;omega
theorem NP.turn {w W b:World} {c:vB} {cs:Array Value} {X:Nat} (h:NP w W c cs) (a:gA (·=X) W b) (d:w.heap.size+1+1<X):NP w b c cs:=
 ⟨a.blk h.C (by omega),a.blk h.N (by omega),a.blk h.R (by omega),h.B.trans (a.below h.B.size fun k f e=>by omega)⟩
theorem NP.grow {w W b:World} {c:vB} {cs:Array Value} {B:Nat} (h:NP w W c cs) (a:Below B W b) (d:w.heap.size+1+1<B):NP w b c cs:=
 ⟨(a.block _ (by omega)).trans h.C,(a.block _ (by omega)).trans h.N,(a.block _ (by omega)).trans h.R,h.B.trans (a.mono (by omega))⟩
theorem aHc {w:World} {B n:Nat} {v:Value} {F:List jM} {last:Int} {TX:ByteArray} (h:CW w B v n (F++[⟨1,EI,⟨#[]⟩,⟨#[]⟩,0⟩]++[⟨2,EI,⟨#[]⟩,TX,0⟩]++[⟨3,EI,⟨#[]⟩,⟨#[]⟩,0⟩]++[⟨5,EI,ckN,⟨#[]⟩,0⟩]++[⟨1,wQ (last+1),⟨#[]⟩,⟨#[]⟩,0⟩])):CW w B v n (F++XY last TX):=by
 simp only[Ld]at h;exact h
theorem aHa {c:Option Addr} {n a:Nat} {d e f g:Int} {b:Bool}:∀(j:Nat) (s:ByteArray),(#[Value.slice c n a,.int .i64 d,.int .i64 e,.int .i64 f,.int .i64 g,.bool b]:Array Value)[j]?≠some (Value.string s)
 |0,_|1,_|2,_|3,_|4,_|5,_|j+6,_=>by simp
theorem aFz {C:World->Prop} {w:World} {O:Nat} {g i j l m n a b c d e f:Value} {t:TypeId} (h:eA w O #[g,i,j,l,m,n] t) (k:∀W,eA W O #[a,b,c,d,e,f] t->gA (·=O) w W->C W):C ((((((w.setCell ⟨O,0,none⟩ a).setCell ⟨O,1,none⟩ b).setCell ⟨O,2,none⟩ c).setCell ⟨O,3,none⟩ d).setCell ⟨O,4,none⟩ e).setCell ⟨O,5,none⟩ f):=
 k _ (by have:=(((((h.set 0 a).set 1 b).set 2 c).set 3 d).set 4 e).set 5 f;simpa using this) (((((((gA.refl (·=O) w).setCell (Ca rfl) 0 a).setCell (Ca rfl) 1 b).setCell (Ca rfl) 2 c).setCell (Ca rfl) 3 d).setCell (Ca rfl) 4 e).setCell (Ca rfl) 5 f)
theorem na (l:List jM):(rO l).length=l.length*5:=by
 induction l with
 |nil=>rfl
 |cons o r a=>simp[rO]at a |-;omega
theorem fw {w:World} {B n f:Nat} {b:Option Addr} {l:List jM} (h:CW w B (.slice b n f) n l) (v:0<n):∃g,b=some ⟨g,0,none⟩/\g<w.heap.size/\∀j u,(rO l)[j]?=some u->w.cell? ⟨g,j,none⟩=some u:=by
 rcases h.2 with⟨_,o⟩|⟨g,i,a,e,t,c,p,q,r,k⟩
 ·omega
 ·simp only[Value.slice.injEq]at e;refine⟨g,e.1,aA c,fun j u d=>?_⟩;have m:j<n*5:=by
   have s:=h.1;have:=(Fc.1 d).1;omega
  rw[eA.cell (show eA w g a _ from c) j,<-Zd,<-d,<-k,Mb m]
theorem gt (c:vB) (a b:Option Addr) (U T:Nat) (N:yC) (w:World) (h:aGv w a b N):
 Calls prog 87 #[iD c,.agg (iB a U b T N)] w fun e w'=>il (SI c N) w e w':=by
 have m:=h.bulk;have hl:=h.fit.len;obtain⟨e1,_,_,e4⟩:=zy h.bulk;have HCF:=bA (fun W=>kH c W);have HCP:Hid (∀W,Below w.heap.size w W->Calls prog 77 #[.agg (iB a U b T N)] W fun e w'=>∃a U b T,e=.returned (.agg (iB a U b T N))/\qA w' a N.d.fs/\oB w' b N.ts/\Below W.heap.size W w'):=fun W hW=>(fK a b U T N W (h.files.later hW) hl (h.tens.later hW) (by omega) (qR (by omega))).mono fun e w' ⟨a,U,b,T,he,h1,h2,h3⟩=>⟨a,U,b,T,he,h1.files,h2.tens,h3⟩
 have HES:=bA (fun W (hW:Below w.heap.size w W)=>bt N.lsn N.now b T N.ts W (h.tens.later hW) e1 h.rng h.lsn h.now (by omega) e4);have Z:=bA (fun W=>pY N.l W);have HFL:Hid (∀W a' ca' K,N.up=true->Below w.heap.size w W->Calls prog 126 #[.agg (iB a U b T N),.agg #[.slice a' K.fs.length ca',.int .i64 K.c,.int .i64 K.k,.int .i64 K.cr,.int .i64 K.fl,.bool K.dn],.agg #[.int .i64 N.l.first,.int .i64 N.l.last,.int .i64 N.l.size]] W fun e w'=>∃b T,e=.returned (.agg (iB a' ca' b T ⟨K,N.l,N.now,N.ts,N.lsn,true,!K.dn⟩))/\oB w' b N.ts/\Below W.heap.size W w'):=fun W a' ca' K hu hW=>(BH a b a' U T ca' N K N.l W (h.files.later hW) hl (h.tens.later hW) (by omega) (qR (by omega)) hu).mono fun e w' ⟨b,T,he,h2,h3⟩=>⟨b,T,he,h2.tens,h3⟩
 have HFD:=bA (fun W (hW:Below w.heap.size w W)=>xT a U N.d.fs N.d.c N.d.k N.d.cr N.d.fl N.d.dn EI W (h.files.later hW) (by unfold maxLen;omega));have HFI:=bA (fun W (hW:Below w.heap.size w W)=>h.files.later hW);have HSG:=bA (fun n W=>dO n W);have HV0:=bA (fun h=>show SI c N=(lJ,61) by unfold SI;exact Qa h);have a0:=bA (fun h=>aGz (c:=c) (N:=N) h);have X:=bA (OP (K:=N.d) (L:=N.l) (qn (lsn:=N.lsn) (now:=N.now) e4));have HF0:=bA h.fit;have HLI:=bA (fun h=>aEs (L:=N.l) h);clear h m hl e1 e4;unfold iD at *;generalize SI c N=V at *;generalize xE N.lsn N.now N.ts=TX at *;have fz:=xO;have HB0:=bA (NP.new (w:=w) (c:=c) (cs:=iB a U b T N));go_enter func87,ntmps87;go_wp2_with fail;refine(HCF.out _).mono ?_;rintro e w1 ⟨rfl,m⟩;have P:=bA (HB0.out.later m);clear m HCF HB0;obtain⟨p,q,r,s,t,x,z,A,D,F,H,I,J,M,O⟩:=P.out.cells rfl;cases hc:jE c with
 |false=>
  have E:=bA (HV0.out hc);go_wp2;exact pU (ca:=0) (cb:=0) rfl rfl rfl rfl P.out E.out (Ca rfl) (Ca rfl)
 |true=>
  replace a0:=bA (a0.out hc);rcases a0.out with⟨hu,E⟩|⟨hu,⟨hl,E⟩|⟨hl,⟨h9,h8,E⟩|⟨h9,h8,⟨rfl,E⟩|⟨hp,E⟩⟩⟩⟩
  rotate_left 4
  ·obtain⟨k1,k2⟩:N.up=true/\N.deg=false:=by simpa[yk]using hu
   replace E:=bA E;clear a0 hu;rw[hl]at Z;have rN:=yE a U b T N 82;have fN:=lE a U b T N;rw[k1,k2]at rN fN;replace k1:=bA k1;replace k2:=bA k2;obtain⟨hl1,hl2,hl3⟩:=HLI.out hl;have hwl:IntKind.i64.wrap (N.l.last+1)=N.l.last+1:=by rw[IntKind.wrap_i64];omega
   go_wp2_with fail;refine(Z.out _).mono ?_;rintro e w6 ⟨rfl,m⟩;replace P:=bA (P.out.later m);clear m p q r s t x z A D F H I J M O;obtain⟨p,q,r,s,t,x,z,A,D,F,H,I,J,M,O⟩:=P.out.cells rfl;go_wp2_with fail;refine(HES.out _ P.out.B).mono ?_;rintro e w7 ⟨rfl,m⟩;replace P:=bA (P.out.later m);clear m p q r s t x z A D F H I J M O;obtain⟨p,q,r,s,t,x,z,A,D,F,H,I,J,M,O⟩:=P.out.cells rfl;have hw7:=P.out.lt;go_wp2_with fail;refine(HFD.out _ (nA P.out.B (cA _ _))).mono ?_;rintro e w4 ⟨rfl,m⟩;have Q:=bA ((CW.new w7).later m);replace m:=nA (cA _ _) m;replace P:=bA (P.out.later m);have hz:=m.size;clear m p q r s t x z A D F H I J M O;obtain⟨p,q,r,s,t,x,z,A,D,F,H,I,J,M,O⟩:=P.out.cells rfl;clear HLI Z HES HFD hl hp;go_upto_if 52 with fail;go_cut [7] (fun v wx=>∃n,n<=1/\NP w wx c (iB a U b T N)/\CW wx w7.heap.size v n (kZ N.d.fs)/\w7.heap.size<=wx.heap.size)
   case first=>
    by_cases hfd:0<=zC EI N.d.fs 0
    ·have HFO:=bA (show kZ N.d.fs=[aCz] from Qa hfd);go_wp2_with(at_builtin;refine EK rfl _ _ rfl w7.heap.size _ _ _ _ _ _ _ _ rfl (by assumption) rfl (by omega) (by omega) ?_;intro g cap wx Q m;have hz:=m.size;replace P:=bA (P.out.grow m hw7);clear m p q r s t x z A D F H I J M O;obtain⟨p,q,r,s,t,x,z,A,D,F,H,I,J,M,O⟩:=P.out.cells rfl);go_meet;exact⟨1,by omega,P.out,by rw[HFO.out];exact Q.out,by omega⟩
    ·have HFO:=bA (show kZ N.d.fs=[] from Oa hfd);go_wp2;go_meet;exact⟨0,by omega,P.out,by rw[HFO.out];exact Q.out,hz⟩
   clear p q r s t x z A D F H I J M O P Q hz;obtain⟨n0,hn0,hP,Q,hz⟩:=hcut;rename World=>w4;replace Q:=bA Q;have P:=bA hP;clear hP;obtain⟨p,q,r,s,t,x,z,A,D,F,H,I,J,M,O⟩:=P.out.cells rfl;have EL:Hid (EW N.d N.l TX=kZ N.d.fs++(XY N.l.last TX++zX N.l.first (N.l.last+1-N.l.first).toNat)):=rfl;generalize kZ N.d.fs=F0 at *;obtain⟨cnt,hcnt⟩:∃cnt:Nat,(cnt:Int)=N.l.last+1-N.l.first:=⟨(N.l.last+1-N.l.first).toNat,by omega⟩
   rw[show(N.l.last+1-N.l.first).toNat=cnt by omega,<-Ld]at EL;go_wp2_with(first
    |(at_builtin;refine EK rfl _ _ rfl w7.heap.size _ _ _ _ _ _ _ _ rfl (by assumption) rfl (by omega) (by omega) ?_;intro g cap wx Q m;have hz:=m.size;replace P:=bA (P.out.grow m hw7);clear m p q r s t x z A D F H I J M O;obtain⟨p,q,r,s,t,x,z,A,D,F,H,I,J,M,O⟩:=P.out.cells rfl)
    |(go_at_call 115;refine(HSG.out _ _).mono ?_;rintro e w5 ⟨rfl,m⟩;have hz:=m.size;replace Q:=bA (Q.out.later m);replace P:=bA (P.out.later m);clear m p q r s t x z A D F H I J M O;obtain⟨p,q,r,s,t,x,z,A,D,F,H,I,J,M,O⟩:=P.out.cells rfl))
   replace Q:=bA (aHc (last:=N.l.last) (TX:=TX) Q.out);generalize F0++XY N.l.last TX=L0 at *;clear p q r s t x z A D F H I J M O;go_loopw [7,8] (fun al i wz=>∃(k:Nat),k<=cnt/\i=.int .i64 (N.l.first+k)/\Hid (CW wz w7.heap.size al (n0+1+1+1+1+1+k) (L0++zX N.l.first k))/\Hid (NP w wz c (iB a U b T N))/\w7.heap.size<=wz.heap.size) (fun _ i _=>(N.l.last+1-RowKit.intOf i).toNat)
   case atStart=>exact⟨0,La _,by simp,by simpa[zX]using Q,P,by omega⟩
   case round=>
    clear P Q;obtain⟨k,hk,rfl,Q,P,hz⟩:=hrel;obtain⟨p,q,r,s,t,x,z,A,D,F,H,I,J,M,O⟩:=P.out.cells rfl;by_cases hlt:k<cnt
    ·have hle:N.l.first+(k:Int)<=N.l.last:=by omega
     have hwk:IntKind.i64.wrap (N.l.first+(k:Int)+1)=N.l.first+(k:Int)+1:=by rw[IntKind.wrap_i64];omega
     go_wp2_with(first
      |(go_at_call 115;refine(HSG.out _ _).mono ?_;rintro e w5 ⟨rfl,m⟩;have hz:=m.size;replace Q:=bA (Q.out.later m);replace P:=bA (P.out.later m);clear m p q r s t x z A D F H I J M O;obtain⟨p,q,r,s,t,x,z,A,D,F,H,I,J,M,O⟩:=P.out.cells rfl)
      |(at_builtin;refine EK rfl _ _ rfl w7.heap.size _ _ _ _ _ _ _ _ rfl (by assumption) rfl (by omega) (by omega) ?_;intro g cap wx Q m;have hz:=m.size;replace P:=bA (P.out.grow m hw7);clear m p q r s t x z A D F H I J M O;obtain⟨p,q,r,s,t,x,z,A,D,F,H,I,J,M,O⟩:=P.out.cells rfl))
     exact⟨⟨k+1,by omega,by go_num,by rw[ec,<-Ld];exact Q,P,by omega⟩,by simp[RowKit.intOf];omega⟩
    ·obtain rfl:k=cnt:=by omega
     have hle:¬N.l.first+(k:Int)<=N.l.last:=by omega
     obtain⟨al,ac,hal⟩:=tS Q.out;have HLL:Hid ((L0++zX N.l.first k).length=n0+1+1+1+1+1+k):=by have:=Q.out.1;rw[na]at this;show _=_;omega
     have hnn:n0+1+1+1+1+1+k<=2000000:=by omega
     have hn1:0<n0+1+1+1+1+1+k:=by omega
     generalize n0+1+1+1+1+1+k=n at *;subst hal;generalize L0++zX N.l.first k=LL at *
     obtain⟨G,rfl,hG,Y⟩:=fw Q.out hn1;have HCL:=bA Y;clear Y Q;go_wp2;refine jF (C:=fun W=>Code.wp prog _ _ _ W) ?_;intro wD hbD GD _;have hDd:=P.out.lt;have PD:=bA (P.out.later hbD);have FD:=bA (HFI.out wD PD.out.B);have CD:=bA (fun j u (hu:(rO LL)[j]?=some u)=>(World.cell?_of_block (hbD.block G hG)).trans (HCL.out j u hu));have hGD:G<wD.heap.size:=Ib hG hbD.size;have hGn:G≠wr.heap.size:=by omega
     replace GD:=bA GD;clear p q r s t x z A D F H I J M O P HCL hG hbD HFI HSG hle hwl;generalize wr.heap.size=Dd at *;go_loopw [103] (fun i wz=>∃(j:Nat) (K:pE) (aj:Option Addr) (cj:Nat),j<=n/\i=.int .i64 j/\Hid (mO N.d (LL.take j)=(K,0))/\Hid (eA wz Dd #[.slice aj K.fs.length cj,.int .i64 K.c,.int .i64 K.k,.int .i64 K.cr,.int .i64 K.fl,.bool K.dn] 78)/\Hid (qA wz aj K.fs)/\Hid (gA (·=Dd) wD wz)) (fun i _=>n-(RowKit.intOf i).toNat)
     case atStart=>exact⟨0,N.d,a,U,La _,rfl,rfl,GD.out,FD.out,gA.refl _ _⟩
     case round=>
      obtain⟨j,K,aj,cj,hj,rfl,S,hdd,hfj,htz⟩:=hrel;have P:=bA (PD.out.turn htz.out hDd);obtain⟨p,q,r,s,t,x,z,A,D,F,H,I,J,M,O⟩:=P.out.cells rfl;clear GD FD;by_cases hlt2:j<n
      ·have hjl:j<LL.length:=by rw[HLL.out];exact hlt2
       have hgk:=htz.out.block G hGD hGn;obtain⟨q0,q1,q2,q3,q4⟩:=aHb (fun i u hu=>(World.cell?_of_block hgk).trans (CD.out i u hu)) j hjl;obtain⟨op,hop⟩:∃op,op=LL[j]:=⟨_,rfl⟩
       have hof:=X.out op (by rw[EL.out,hop];exact Xa hjl);have HE:=bA (show LL.take (j+1)=LL.take j++[op] by rw[hop,Ma hjl]);have HX:=bA (show LL=LL.take j++op::LL.drop (j+1) by
        conv=>lhs;rw[<-Ya j LL,Kb hjl,<-hop])
       have hfit:CU K.fs:=by
        have:=TF (LL.take j) N.d HF0.out (fun o ho=>X.out o (by rw[EL.out];exact Ed ho));rw[S.out]at this;exact this
       have HST:=bA (xq hfit hof.1 hof.2.1 hof.2.2);obtain⟨⟨K1,y⟩,hS1⟩:∃R,eF K op=R:=⟨_,rfl⟩
       have HS1:=bA hS1;rw[hS1]at HST;rw[<-hop]at q0 q1 q2 q3 q4;have hGw:=Ib hGD htz.out.size;clear hop hof hfit hS1 hgk hjl;go_upto_region 28 with fail;refine jF (C:=fun W=>Code.wp prog _ _ _ W) ?_;intro w8 hb8 X8 _;obtain⟨d0,d1,d2,d3,d4,d5⟩:=(hdd.out.later hb8).c6;obtain⟨g0,g1,g2,g3,g4⟩:=X8.c5;have B8:=bA hb8;clear q0 q1 q2 q3 q4 X8 hb8 p q r s t x z A D F H I J M O;go_wp2_with fail;refine(HST.out _ _ _ (hfj.out.later B8.out)).mono ?_;rintro e w9 ⟨a9,c9,rfl,hf9,hb9⟩;have D9:=bA ((hdd.out.later B8.out).later hb9);have B9:=bA (nA B8.out hb9);have F9:=bA hf9;clear d0 d1 d2 d3 d4 d5 g0 g1 g2 g3 g4 hf9 hb9 HST B8;go_upto_region 29 with fail;refine jF (C:=fun W=>Code.wp prog _ _ _ W) ?_;intro wa hba Aa _;obtain⟨d0,d1,d2,d3,d4,d5⟩:=Aa.c6;have Da:=bA (D9.out.later hba);have f:=Da.out.free;obtain⟨e0,e1,e2,e3,e4,e5⟩:=Da.out.c6;have Fa:=bA (F9.out.later hba);have Ba:=bA (nA B9.out hba);clear hba Aa D9 F9 B9;go_upto_region 30 with fail;refine aFz (C:=fun W=>Code.wp prog _ _ _ W) Da.out ?_;intro wb Db Tb;have Fb:=bA (Fa.out.store Da.out (aHa) Tb);have Tz:=bA ((htz.out.trans' (gA.of Ba.out)).trans' Tb);replace Db:=bA Db;replace P:=bA (PD.out.turn Tz.out hDd);clear d0 d1 d2 d3 d4 d5 f e0 e1 e2 e3 e4 e5 Tb Da Fa Ba;obtain⟨p,q,r,s,t,x,z,A,D,F,H,I,J,M,O⟩:=P.out.cells rfl;by_cases hy:y=0
       ·subst hy;go_wp2;refine⟨⟨j+1,K1,a9,c9,by omega,by go_num,?_,Db.out,Fb.out,Tz.out⟩,by simp[RowKit.intOf];omega⟩;show _=_;rw[HE.out,qc op (by rw[S.out]),S.out];exact HS1.out
       ·have E2:Hid (V=(⟨K1,N.l,N.now,N.ts,N.lsn,true,!K1.dn⟩,(y:Int))):=by
         show _=_;rw[E.out,EL.out,HX.out,qd op (by rw[S.out]) (by rw[S.out];show(eF K op).2≠0;rw[HS1.out];exact hy),S.out];dsimp only;rw[HS1.out,ckQ,Oa hy];rfl
        have hyb:((y:Int)==0)=false:=by simpa using hy
        obtain⟨d0,d1,d2,d3,d4,d5⟩:=Db.out.c6;go_wp2_with fail;refine(HFL.out _ a9 c9 K1 k1.out P.out.B).mono ?_;rintro e wc ⟨b9,d9,rfl,hT,m⟩;replace P:=bA (P.out.later m);have hF:=Fb.out.later m;clear d0 d1 d2 d3 d4 d5 m p q r s t x z A D F H I J M O;obtain⟨p,q,r,s,t,x,z,A,D,F,H,I,J,M,O⟩:=P.out.cells rfl;go_wp2;exact pU rfl rfl rfl rfl P.out E2.out hF hT
      ·obtain rfl:j=n:=by omega
       have E2:Hid (V=(⟨K,⟨N.l.last+1,N.l.last+1,0⟩,N.now,N.ts,N.lsn,N.deg,N.up⟩,0)):=by
        have hrn:=S.out;rw[Ua (by rw[HLL.out];exact Ka _),<-EL.out]at hrn;show _=_;rw[E.out,hrn,ckQ,Qa rfl]
       have hlt3:¬((j:Int)<(j:Int)):=by omega
       go_wp2_with fail;refine(HCP.out _ P.out.B).mono ?_;rintro e w8 ⟨a8,c8,b8,d8,rfl,_,hT,m⟩;replace P:=bA (P.out.later m);have D8:=bA (hdd.out.later m);have F8:=bA (hfj.out.later m);clear m hdd hfj p q r s t x z A D F H I J M O HCP HFL X;obtain⟨p,q,r,s,t,x,z,A,D,F,H,I,J,M,O⟩:=P.out.cells rfl;go_upto_region 34 with fail;refine DA (C:=fun W=>Code.wp prog _ _ _ W) P.out.N ?_;intro w9 N9 T9;have D9:=T9.blk D8.out (by omega);have F9:=bA (F8.out.store P.out.N (mD _ _ _ _ _) T9);have H9:=bA (hT.store P.out.N (mD _ _ _ _ _) T9);replace P:=bA (P.out.put N9 T9);obtain⟨d0,d1,d2,d3,d4,d5⟩:=D9.c6;obtain⟨o0,o1,o2,o3,o4,o5,o6,o7,o8,o9,o10,o11,o12,o13⟩:=yE _ _ _ _ _ _ _ _ N9;have f:=N9.free;clear p q r s t x z A D F H I J M O hT T9 D9 D8 F8 rN fN;go_upto_region 36 with fail;refine sd (C:=fun W=>Code.wp prog _ _ _ W) N9 ?_;intro wa Na Ta;change eA wa _ (iB aj cj b8 d8 ⟨K,⟨N.l.last+1,N.l.last+1,0⟩,N.now,N.ts,N.lsn,N.deg,N.up⟩) _ at Na;have Fa:=bA (F9.out.store P.out.N (mD _ _ _ _ _) Ta);have Ha:=bA (H9.out.store P.out.N (mD _ _ _ _ _) Ta);replace P:=bA (P.out.put Na Ta);have rM:=yE aj cj b8 d8 ⟨K,⟨N.l.last+1,N.l.last+1,0⟩,N.now,N.ts,N.lsn,N.deg,N.up⟩ 82;have fM:=lE aj cj b8 d8 ⟨K,⟨N.l.last+1,N.l.last+1,0⟩,N.now,N.ts,N.lsn,N.deg,N.up⟩;dsimp only at fM rM;clear o0 o1 o2 o3 o4 o5 o6 o7 o8 o9 o10 o11 o12 o13 d0 d1 d2 d3 d4 d5 f N9 Na Ta;obtain⟨p,q,r,s,t,x,z,A,D,F,H,I,J,M,O⟩:=P.out.cells rfl;go_wp2;exact pU rfl rfl rfl rfl P.out E2.out Fa.out Ha.out
  all_goals
   rcases aGq hu with⟨k0,k1⟩|⟨k0,k1,k2⟩|⟨k0,k1,k2⟩
  all_goals cases k0
  all_goals
   replace E:=bA E;clear a0 hu HFL HFD HFI HSG X HF0 HLI HV0;(try clear h9);(try rw[hl]at Z);have rN:=yE a U b T N 82;have fN:=lE a U b T N;rw[k1]at rN fN;(try (rw[k2]at rN fN;clear k2));replace k1:=bA k1;go_wp2_with(first
    |(go_at_call 77;refine(HCP.out _ P.out.B).mono ?_;rintro e w9 ⟨a9,c9,b9,d9,rfl,hF,hT,m⟩;replace P:=bA (P.out.later m);clear m p q r s t x z A D F H I J M O;obtain⟨p,q,r,s,t,x,z,A,D,F,H,I,J,M,O⟩:=P.out.cells rfl)
    |(go_at_call 129;refine(Z.out _).mono ?_;rintro e w6 ⟨rfl,m⟩;replace P:=bA (P.out.later m);clear m p q r s t x z A D F H I J M O;obtain⟨p,q,r,s,t,x,z,A,D,F,H,I,J,M,O⟩:=P.out.cells rfl)
    |(go_at_call 113;refine(HES.out _ P.out.B).mono ?_;rintro e w7 ⟨rfl,m⟩;replace P:=bA (P.out.later m);clear m p q r s t x z A D F H I J M O;obtain⟨p,q,r,s,t,x,z,A,D,F,H,I,J,M,O⟩:=P.out.cells rfl))
   exact pU rfl rfl rfl rfl P.out E.out hF hT
end
