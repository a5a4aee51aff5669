import Derived.Test.YtjpeimianeiegaaGreatDoorJ44
import Derived.Test.YtjpeimianeiegaaGreatDoorJ50
import Derived.Test.YtjpeimianeiegaaGreatDoorJ51
namespace Go.Proofs.YtjpeimianeiegaaGreatDoor
open Go.RowKit Tryz
theorem aKl {K:kB} (h:GB K.fs):GB (cD K).1.fs:=by
 have a:GB (wD K (nI 1)).1.fs:=dX h (by have:=mQ 1;unfold maxLen;show(vD 1).size<=_;omega) (Ha _);unfold cD;split
 ·exact MO
 ·split
  ·exact h
  ·split
   ·split<;>exact a
   ·unfold oP;split
    ·exact h
    ·split
     ·exact h
     ·split<;>exact aAk h
theorem WU {c:nB}:∀(a:List ByteArray) (s q:Int×Int×List eA),nU c s a=some q->iB c s.2.1 s.2.2=true->(0<=s.1/\s.1<=1000000000000000)->q.2.2.length+nA q.2.2<=s.2.2.length+nA s.2.2+aN a
 |[],s,q,h,_,_=>by
  simp only[nU,Ja]at h;rw[h];exact A2 _ _
 |p::a,s,q,h,hs,hl=>by
  rw[nU]at h;cases e:yX c s p with
  |none=>rw[e]at h;cases h
  |some r=>
   rw[e]at h;obtain⟨b,d,f⟩:=ay e hs hl;have:=WU a r q h b d;rw[aN];omega
theorem aCh {c:nB} {K:kB} (i:GB K.fs) (t:xA K.fs<=1048576):GB (cT c K).1.d.fs/\(cT c K).1.ts.length+nA (cT c K).1.ts<=1048576:=by
 unfold cT;split
 ·exact⟨MO,Ha _⟩
 rename_i m;split
 ·exact⟨MO,Ha _⟩
 rename_i n;have a:=UZ i;have b:=aKl a;have key:GB (kR c K).1.fs/\((kR c K).2.2.2=0->(kR c K).2.2.1.2.2.length+nA (kR c K).2.2.1.2.2<=1048576):=by
  unfold kR;split
  ·exact⟨i,fun e=>absurd (show(1:Nat)=0 from e) (by decide)⟩
  rename_i hdn;obtain⟨_,f,d,p⟩:=vQ (K:=K) (by simpa using n) (by simpa using hdn);split
  ·rename_i g;exact⟨a,fun e=>absurd e g⟩
  rename_i g;split
  ·exact⟨a,fun e=>absurd (show(62:Nat)=0 from e) (by decide)⟩
  rename_i o;split
  ·rename_i h;exact⟨b,fun e=>absurd e h⟩
  obtain⟨r,j,k⟩:=sT (c:=c) (K:=(fB K).1) (by simpa using m) (by simpa using o);have s:=EC f (d (by simpa using g));cases hr:nU c ((tP c (fB K).1).1,(tP c (fB K).1).2.1,(tP c (fB K).1).2.2.1) (cD (fB K).1).2.2.1 with
  |none=>exact⟨b,fun e=>absurd (show(63:Nat)=0 from e) (by decide)⟩
  |some q=>
   have:=WU _ _ _ hr j k;exact⟨b,fun _=>by show q.2.2.length+nA q.2.2<=_;dsimp only at this;omega⟩
 unfold aLi;split
 ·rename_i l;exact⟨key.1,key.2 l⟩
 ·exact⟨key.1,Ha _⟩
theorem RX {ts:List eA} (h:ts.length+nA ts<=1100000):yB ts<=4400000:=by
 have:yB ts<=2*nA ts+2*ts.length:=by
  clear h;induction ts with
  |nil=>exact Ha _
  |cons t r a=>simp only[Sa,yB,wN,nA,jE];omega
 omega
theorem aOc (c:nB) (a:Option Addr) (s:Nat) (K:kB) (w:World) (x:oH w) (hU:dF w) (N:xI w) (Q:iA w a K.fs) (S:mK K.fs) (R:K.fs.length<=maxLen):
 Calls prog 3 #[tE c,.agg (dkC a s K)] w fun e q=>e=.returned (.bool true)/\Below w.heap.size w q:=by
 obtain⟨cq,q0,q1,q2,q3,q4,q5,z,fq,rq⟩:=aPl c 23;rw[z];refine aGj (K:=K) (M:=(cT c K).1) (code:=(cT c K).2) (KM:=((1+3*K.fs.length:Nat):Int)) (QM:=((1+3*(cT c K).1.d.fs.length+yB (cT c K).1.ts:Nat):Int)) (s1:=FP 1048576 K.fs) fq rq (fun W n=>vg a s K.fs K.c K.k K.cr K.fl K.dn 1048576 W (by decide) (by decide) (Q.later n) S R) (fun O=>?_);have hz:K.fs.length+bulk K.fs<=1048576:=by
  unfold FP at O;split at O<;>omega
 have y:K.fs.length<=1048576:=by omega
 have p:xA K.fs<=1048576:=by have:=RK K.fs;omega
 have j:GB K.fs:=⟨S,y,by omega⟩
 obtain⟨L,hMb⟩:=aCh (c:=c) j p;obtain⟨-,-,-,m4⟩:=AL (ts:=(cT c K).1.ts) (by omega);have t2:=RX (ts:=(cT c K).1.ts) (by omega);have hml:=L.len;generalize P:cT c K=V at *;refine⟨fun W=>by rw[<-z];exact dc _ _ _ _ _ _ W,fun W n=>(vj a s K.fs K.c K.k K.cr K.fl K.dn W (Q.later n) y).mono fun e q ⟨g,d,m,⟨D,t,H⟩,l,I⟩=>⟨_,_,d,⟨_,_,rfl,?_⟩,I⟩,fun W E F J=>?_,fun W E F J n=>?_,fun W E F ga gc h G=>?_,fun W cs X h G=>?_,fun W A E F h=>?_,fun W A cs h hA=>?_,fun W cs h=>?_,by omega,by omega⟩
 ·rcases l with l|⟨b,o,e4,v,h7⟩
  ·exact Ba l
  ·cases e4
   exact Ea ⟨g,0,D,t,rfl,⟨m,v⟩,H,h7⟩
 ·obtain⟨f,i,e,d⟩:=J;rw[e,<-z,<-P];exact(od c f i K W ⟨d,j,p⟩).mono fun e q ⟨a,s,b,U,x,l,I,v⟩=>⟨_,x,⟨_,_,_,_,rfl,l,I⟩,v⟩
 ·obtain⟨f,i,e,d⟩:=J;rw[e,<-z,<-P];exact(ja c f i K W ⟨d,j,p⟩ (x.later n) (hU.later n) (N.later n)).mono fun e q ⟨a,s,b,U,x,l,v⟩=>⟨_,x,⟨_,_,_,_,rfl,l⟩,v⟩
 ·obtain⟨f,i,e,d⟩:=h;obtain⟨B,C,Z,m⟩:=G;rw[e,Z];exact JU f B i C K.fs K.c K.k K.cr K.fl K.dn W d m R
 ·obtain⟨f,i,r,u,rfl,d,m⟩:=h;obtain⟨B,C,T,Y,rfl,H,l⟩:=G;exact gx f B r T i C u Y V.1 W d H (by unfold maxLen;omega) m l (by unfold maxLen;omega) m4
 ·obtain⟨f,i,e,d⟩:=h;rw[e];exact(VW f i K.fs K.c K.k K.cr K.fl K.dn 1 A W (by decide) (by omega) d).mono fun e q h=>⟨h.1,h.2.1⟩
 ·obtain⟨f,i,r,u,rfl,d⟩:=h;exact(ZV f r i u V.1 A W d hA (by omega)).mono fun e q h=>⟨h.1,h.2.1,_,_,_,_,rfl,h.2.2.1,h.2.2.2⟩
 ·obtain⟨f,i,r,u,rfl,d,m⟩:=h;exact ZF f r i u V.1.d.fs.length V.1.d.c V.1.d.k V.1.d.cr V.1.d.fl V.1.d.dn V.1.l V.1.now V.1.lsn V.1.deg V.1.up V.1.ts W d m (by omega)
