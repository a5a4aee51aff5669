import Derived.Test.YtjpeimianeiegaaGreatDoorJ37
import Derived.Test.YtjpeimianeiegaaGreatDoorJ36
set_option maxRecDepth 100000
set_option maxHeartbeats 8000000
namespace Go.Proofs.YtjpeimianeiegaaGreatDoor
open Go.RowKit Tryz
def FN (w:World) (N:cF) (cs:Array Value):Prop:=∃a c b e,cs=cG a c b e N/\iA w a N.d.fs/\eC w b N.ts
def AN (w:World) (A:Nat->Prop) (N:cF) (cs:Array Value):Prop:=∃a c b d,cs=cG a c b d N/\qQ w A a b N
def HN (w:World) (N:cF) (cs:Array Value):Prop:=∃a c b e,cs=cG a c b e N/\iA w a (nP 1 N.d.fs.length)/\eC w b (mF (1+3*N.d.fs.length) N.ts)
section
variable {w w':World} {N:cF} {cs:Array Value} {A S:Nat→Prop}
theorem AN.fn (h:AN w A N cs):FN w N cs:=by
 obtain⟨a,c,b,d,e,h⟩:=h;exact⟨a,c,b,d,e,h.files,h.tens⟩
theorem FN.later (h:FN w N cs) (c:Below w.heap.size w w'):FN w' N cs:=by
 obtain⟨a,d,b,f,e,g,i⟩:=h;exact⟨a,d,b,f,e,g.later c,i.later c⟩
theorem FN.store {X:Nat} {g:Array Value} {T:TypeId} (h:FN w N cs) (f:lA w X g T) (c:∀(j:Nat) (s:ByteArray),g[j]?≠some (Value.string s)) (d:gA (·=X) w w'):FN w' N cs:=by
 obtain⟨a,i,b,k,e,l,m⟩:=h;exact⟨a,i,b,k,e,l.store f c d,m.store f c d⟩
theorem AN.turned (h:AN w A N cs) (i:gA S w w') (f:∀g,A g->g<w.heap.size->¬S g):AN w' A N cs:=by
 obtain⟨a,c,b,d,e,h⟩:=h;exact⟨a,c,b,d,e,h.turned i f⟩
theorem AN.later (h:AN w A N cs) (a:Below w.heap.size w w'):AN w' A N cs:=h.turned (gA.of (S:=fun _=>False) a) fun _ _ _ e=>e
theorem FN.c14 (h:FN w N cs):C14 cs:=by
 obtain⟨a,c,b,d,rfl,-⟩:=h;exact fU _ _ _ _ _
theorem FN.r (h:FN w N cs) (T:TypeId):∃g i j k l m n o p q c d e f,#[g,i,j,k,l,m,n,o,p,q,c,d,e,f]=cs/\∀W X,lA W X cs T->W.cell? ⟨X,0,none⟩=some g/\W.cell? ⟨X,1,none⟩=some i/\W.cell? ⟨X,2,none⟩=some j/\W.cell? ⟨X,3,none⟩=some k/\W.cell? ⟨X,4,none⟩=some l/\W.cell? ⟨X,5,none⟩=some m/\W.cell? ⟨X,6,none⟩=some n/\W.cell? ⟨X,7,none⟩=some o/\W.cell? ⟨X,8,none⟩=some p/\W.cell? ⟨X,9,none⟩=some q/\W.cell? ⟨X,10,none⟩=some c/\W.cell? ⟨X,11,none⟩=some d/\W.cell? ⟨X,12,none⟩=some e/\W.cell? ⟨X,13,none⟩=some f:=by
 obtain⟨a,s,b,t,rfl,-⟩:=h;exact⟨_,_,_,_,_,_,_,_,_,_,_,_,_,_,rfl,fun _ _ h=>h.n14⟩
end
def DW:ByteArray:=⟨#[99,107,112,116,46,116,109,112]⟩
def mZ:ByteArray:=⟨#[99,107,112,116]⟩
def an:uR:=⟨6,DW,⟨#[]⟩,⟨#[]⟩,0⟩
def LQ (K:kB) (t:ByteArray):Bool:=eF K.fs t (mA t K.fs)
def fB (K:kB):kB×Nat:=if LQ K DW=true then wD K an else(K,0)
def fk (K:kB):ByteArray:=((K.fs[mA mZ K.fs]?).map (·.data)).getD ByteArray.empty
def tP (c:nB) (K:kB):Int×Int×List eA×Bool:=if LQ K mZ=true then pJ c (fk K) else(0,0,[],true)
def yX (c:nB) (s:Int×Int×List eA) (p:ByteArray):Option (Int×Int×List eA):=
 if (fF p).2.2=false then none else if (fF p).1<=s.1 then some s else if (fF p).1=s.1+1/\(xE c s.2.1 s.2.2 (fF p).2.1).2.2=true then some (s.1+1,(xE c s.2.1 s.2.2 (fF p).2.1).1,(xE c s.2.1 s.2.2 (fF p).2.1).2.1) else none
def nU (c:nB):Int×Int×List eA->List ByteArray->Option (Int×Int×List eA)
 |s,[]=>some s
 |s,p::ps=>match yX c s p with
  |none=>none
  |some q=>nU c q ps
def aIe (K:kB) (L:zH):Option (Int×Int×List eA)->kB×zH×(Int×Int×List eA) ×Nat
 |none=>(K,iD,(0,0,[]),63)
 |some s=>(K,L,s,0)
def kR (c:nB) (K:kB):kB×zH×(Int×Int×List eA) ×Nat:=
 if K.dn=true then(K,iD,(0,0,[]),1)
 else if (fB K).2≠0 then((fB K).1,iD,(0,0,[]),(fB K).2)
 else if (tP c (fB K).1).2.2.2=false then((fB K).1,iD,(0,0,[]),62)
 else if (cD (fB K).1).2.2.2≠0 then((cD (fB K).1).1,iD,(0,0,[]),(cD (fB K).1).2.2.2)
 else aIe (cD (fB K).1).1 (cD (fB K).1).2.1 (nU c ((tP c (fB K).1).1,(tP c (fB K).1).2.1,(tP c (fB K).1).2.2.1) (cD (fB K).1).2.2.1)
def aLi (R:kB×zH×(Int×Int×List eA) ×Nat):cF×Int:=
 if R.2.2.2=0 then(⟨R.1,R.2.1,R.2.2.1.2.1,R.2.2.1.2.2,R.2.2.1.1,false,true⟩,0) else(⟨R.1,⟨0,0,0⟩,0,[],0,false,false⟩,R.2.2.2)
def cT (c:nB) (K:kB):cF×Int:=
 if vF c=false then(wO,61) else if vC K.fs K.c K.k K.cr K.fl=false then(wO,6) else aLi (kR c K)
theorem aKm {K:kB} {t:ByteArray} (h:LQ K t=true):∃a:mA t K.fs<K.fs.length,K.fs[mA t K.fs].name=t:=CY h
theorem ql {K:kB} (h:LQ K mZ=true):∃a:mA mZ K.fs<K.fs.length,K.fs[mA mZ K.fs].name=mZ/\fk K=K.fs[mA mZ K.fs].data:=by
 obtain⟨a,b⟩:=aKm h;exact⟨a,b,by unfold fk;rw[Ka a];rfl⟩
theorem aId (c:nB) (l n:Int) (t:List eA) (p:ByteArray):(fF p).2.2=false/\yX c (l,n,t) p=none\/(fF p).2.2=true/\((fF p).1<=l/\yX c (l,n,t) p=some (l,n,t)\/¬(fF p).1<=l/\(¬(fF p).1=l+1/\yX c (l,n,t) p=none\/(fF p).1=l+1/\((xE c n t (fF p).2.1).2.2=false/\yX c (l,n,t) p=none\/(xE c n t (fF p).2.1).2.2=true/\yX c (l,n,t) p=some (l+1,(xE c n t (fF p).2.1).1,(xE c n t (fF p).2.1).2.1)))):=by
 unfold yX;cases h1:(fF p).2.2
 ·exact Ba ⟨rfl,Ga rfl⟩
 refine Ea ⟨rfl,?_⟩;rw[Ca (by simp)];by_cases a:(fF p).1<=l
 ·exact Ba ⟨a,Ga a⟩
 refine Ea ⟨a,?_⟩;rw[Ca a];by_cases b:(fF p).1=l+1
 ·refine Ea ⟨b,?_⟩;cases h4:(xE c n t (fF p).2.1).2.2
  ·exact Ba ⟨rfl,Ca (by simp)⟩
  ·exact Ea ⟨rfl,Ga ⟨b,rfl⟩⟩
 ·exact Ba ⟨b,Ca (fun h=>b h.1)⟩
theorem VA:∀a:List dE,(oG a).size=12*a.length+fE a
 |[]=>rfl
 |r::q=>by
  have:=VA q;show(LP r++oG q).size=12*(q.length+1)+(r.n9.size+r.text.size+fE q)
  rw[Ia,aAf];omega
theorem NW {s:ByteArray} (h:(fF s).2.2=true):uK (fF s).1 (fF s).2.1=s/\(fF s).2.1.length<=500/\s.size=10+12*(fF s).2.1.length+fE (fF s).2.1/\1<=(fF s).1/\(fF s).1<=1000000000000000:=by
 unfold fF at h |-
 split at h
 ·rename_i hh;rw[Ga hh];refine⟨hh.2,?_⟩;by_cases a:oT (zA (qM s).1) (lI s).1
  ·refine⟨a.2.2.2.1,?_,a.1,a.2.1⟩;have:=hh.2;rw[MI a]at this;have b:=Zc ByteArray.size this;rw[Ia,YF,VA]at b;dsimp only;omega
  ·have:=hh.2;rw[CE a]at this;subst this;exact absurd hh.1 (by decide)
 ·cases h
def aN:List ByteArray->Nat
 |[]=>0
 |p::q=>p.size+aN q
theorem oq (a b:List ByteArray):aN (a++b)=aN a+aN b:=by
 induction a with
 |nil=>simp[aN]
 |cons x r c=>simp[aN,c];omega
theorem XF (d:ByteArray):∀n p,aN (yK d n p).1<=d.size-p
 |0,p=>by simp[yK,aN]
 |n+1,p=>by
  rw[yK];split
  ·rename_i b;have a:=b.1;have c:((d.extract p d.size).extract 8 (8+xB (d.extract p d.size))).size<=d.size-p-8:=by rw[Yb,Yb];omega
   rw[Yb]at a;have e:=XF d n (p+8+((d.extract p d.size).extract 8 (8+xB (d.extract p d.size))).size);show((d.extract p d.size).extract 8 (8+xB (d.extract p d.size))).size+aN _<=_;omega
  ·exact Ha _
def nS (t:ByteArray):List dA->Nat
 |[]=>0
 |f::r=>(if f.name=t then f.data.size else 0)+nS t r
theorem aGw (a:List dA):∀i (h:i<a.length),a[i].data.size<=nS a[i].name a:=by
 induction a with
 |nil=>intro i h;exact absurd h (by simp)
 |cons f r b=>
  intro i h;cases i with
  |zero=>simp[nS]
  |succ i=>
   have:=b i (by simpa using h);simp only[Vb,nS];omega
def pS (a:List dA):Nat->Int->Nat
 |0,_=>0
 |r+1,n=>nS (vD n) a+pS a r (n+1)
def oS (f:dA):Nat->Int->Nat
 |0,_=>0
 |r+1,n=>(if f.name=vD n then f.data.size else 0)+oS f r (n+1)
theorem aOw {a b:Int} (c:1<=a) (h:a<b) (d:b<=999999):vD a≠vD b:=fun e=>by
 rw[EY a c (by omega),EY b (by omega) d]at e;have:=Zc mE e;rw[BL (by omega),BL (by omega)]at this;omega
theorem aPm {a:Int} (b:1<=a) (c:a<=999999):mZ≠vD a:=fun e=>by
 rw[EY a b c]at e;have:=Zc ByteArray.size e;rw[XK]at this;exact absurd this (by decide)
theorem ah {f:dA}:∀(r:Nat) (n:Int),(∀j:Nat,j<r->f.name≠vD (n+j))->oS f r n=0
 |0,_,_=>rfl
 |r+1,n,h=>by
  have a:=h 0 (by omega);have:=ah (f:=f) r (n+1) fun j b=>by have:=h (j+1) (by omega);rwa [show n+((j+1:Nat):Int)=n+1+j by omega]at this
  rw[oS,this,Ca (by simpa using a)]
theorem aNg (f:dA):∀(r:Nat) (n:Int),1<=n->n+r<=1000000->oS f r n<=f.data.size
 |0,_,_,_=>Ha _
 |r+1,n,d,g=>by
  rw[oS];split
  ·rename_i e;rw[ah r (n+1) fun j h c=>aOw (a:=n) (b:=n+1+j) d (by omega) (by omega) (e.symm.trans c)];omega
  ·have:=aNg f r (n+1) (by omega) (by omega);omega
theorem xk (f:dA) (a:List dA):∀(k:Nat) (n:Int),pS (f::a) k n=oS f k n+pS a k n
 |0,_=>rfl
 |k+1,n=>by
  rw[pS,pS,oS,xk f a k (n+1),nS];omega
theorem QT (k:Nat) (n:Int) (g:1<=n) (h:n+k<=1000000) (b:List dA):nS mZ b+pS b k n<=xA b:=by
 induction b with
 |nil=>
  have:∀(k:Nat) (n:Int),pS [] k n=0:=fun k=>by
   induction k with
   |zero=>intro n;rfl
   |succ k c=>intro n;rw[pS,c];rfl
  rw[this];exact Da _
 |cons f r c=>
  rw[xk,nS,xA];by_cases e:f.name=mZ
  ·rw[Ga e,ah k n fun j i d=>aPm (a:=n+j) (by omega) (by omega) (e.symm.trans d)];omega
  ·have:=aNg f k n g h;rw[Ca e];omega
theorem WS {b:List dA} {d:Int} (l:dN b):∀(r:Nat) (n:Int) (e:List ByteArray) (g:Nat) (a:List ByteArray) (k:Nat),uF b d r n e g=some (a,k)->(∀j:Nat,j<r->∃i,∃h:i<b.length,b[i].name=vD (n+j))->aN a<=aN e+pS b r n
 |0,n,e,g,a,k,h,_=>by
  simp only[uF,Ja,Hb]at h;rw[h.1];exact A2 _ _
 |r+1,n,e,g,a,k,h,m=>by
  rw[uF]at h;split at h
  ·cases h
  ·have o:=WS l r (n+1) _ _ _ _ h fun j s=>by have:=m (j+1) (by omega);rwa [show n+((j+1:Nat):Int)=n+1+j by omega]at this
   obtain⟨i,c,f⟩:=m 0 (by omega);replace f:b[i].name=vD n:=by simpa using f
   have q:=XF (eW b n) ((eW b n).size+1) 0;have p:=aGw b i c;rw[oq]at o;rw[f,<-CJ l c f]at p;rw[pS];unfold pG at o;omega
theorem EC {K:kB} (f:vC K.fs K.c K.k K.cr K.fl=true) (i:K.dn=false):nS mZ K.fs+aN (cD K).2.2.1<=xA K.fs:=by
 have e:=jL (dD f).1;rw[QR f i];cases hq:gF K.fs with
 |nil=>
  rw[QS];split<;>exact QT 0 1 (by omega) (by omega) K.fs
 |cons x l=>
  simp only[QS];unfold oP;split
  ·exact QT 0 1 (by omega) (by omega) K.fs
  ·rename_i m;obtain⟨cnt,n,r,g,o,b⟩:=MT e hq (by simpa using m);cases hr:uF K.fs ((x::l).getLast (by simp)) (((x::l).getLast (by simp)-x).toNat+1) x [] 0 with
   |none=>exact QT 0 1 (by omega) (by omega) K.fs
   |some q=>
    obtain⟨a,t⟩:=q;have d:((x::l).getLast (by simp)-x).toNat+1=cnt+1:=by rw[n];omega
    rw[d]at hr;have h:=WS e _ _ _ _ _ _ hr fun j s=>b j (by omega);have p:=QT (cnt+1) x g (by omega) K.fs;dsimp only;split
    ·have:=QT 0 1 (by omega) (by omega) K.fs;exact this
    ·rw[show aN ([]:List ByteArray)=0 from rfl]at h;show _+aN a<=_;omega
theorem WQ {b:List dA} {d:Int} (l:dN b):∀(r:Nat) (n:Int) (e:List ByteArray) (g:Nat) (a:List ByteArray) (k:Nat),uF b d r n e g=some (a,k)->(∀j:Nat,j<r->∃i,∃h:i<b.length,b[i].name=vD (n+j))->a.length<=e.length+pS b r n+r
 |0,n,e,g,a,k,h,_=>by
  simp only[uF,Ja,Hb]at h;rw[h.1];omega
 |r+1,n,e,g,a,k,h,m=>by
  rw[uF]at h;split at h
  ·cases h
  ·have p:=WQ l r (n+1) _ _ _ _ h fun j s=>by have:=m (j+1) (by omega);rwa [show n+((j+1:Nat):Int)=n+1+j by omega]at this
   obtain⟨i,c,f⟩:=m 0 (by omega);replace f:b[i].name=vD n:=by simpa using f
   have q:=IX (eW b n);have o:=aGw b i c;rw[Qa]at p;rw[f,<-CJ l c f]at o;rw[pS];omega
theorem aHh {K:kB} (f:vC K.fs K.c K.k K.cr K.fl=true) (i:K.dn=false):(cD K).2.2.1.length<=xA K.fs+1000000:=by
 have e:=jL (dD f).1;rw[QR f i];cases hq:gF K.fs with
 |nil=>
  rw[QS];split<;>exact Ha _
 |cons x l=>
  simp only[QS];unfold oP;split
  ·exact Ha _
  ·rename_i m;obtain⟨cnt,n,r,g,o,b⟩:=MT e hq (by simpa using m);cases hr:uF K.fs ((x::l).getLast (by simp)) (((x::l).getLast (by simp)-x).toNat+1) x [] 0 with
   |none=>exact Ha _
   |some q=>
    obtain⟨a,t⟩:=q;have d:((x::l).getLast (by simp)-x).toNat+1=cnt+1:=by rw[n];omega
    rw[d]at hr;have h:=WQ e _ _ _ _ _ _ hr fun j s=>b j (by omega);have p:=QT (cnt+1) x g (by omega) K.fs;dsimp only;split
    ·exact Ha _
    ·rw[Kc]at h;show a.length<=_;omega
theorem gr:∀a:List eA,a.length+nA a<=(aC a).size
 |[]=>Da _
 |t::q=>by
  have:=gr q;show q.length+1+(jE t+nA q)<=(lH t++aC q).size;rw[Ia,mY,jE];omega
theorem aAa {c:nB} {s:ByteArray} (h:(pJ c s).2.2.2=true):(pJ c s).2.2.1.length+nA (pJ c s).2.2.1<=s.size/\iB c (pJ c s).2.1 (pJ c s).2.2.1=true/\0<=(pJ c s).1/\(pJ c s).1<=1000000000000000:=by
 unfold pJ at h |-
 split at h
 ·rename_i hh;rw[Ga hh];obtain⟨a,b,e⟩:=hh;have d:FI (zA (BO s).1) (oE s).1:=Mf fun f=>by
   rw[FG f]at b;subst b;exact absurd a (by decide)
  have g:=yg a;have i:=gr (oE s).1;generalize (oE s).1=j at *;exact⟨by omega,e,d.1,d.2.1⟩
 ·cases h
theorem sT {c:nB} {K:kB} (e:vF c=true) (h:(tP c K).2.2.2=true):(tP c K).2.2.1.length+nA (tP c K).2.2.1<=nS mZ K.fs/\iB c (tP c K).2.1 (tP c K).2.2.1=true/\0<=(tP c K).1/\(tP c K).1<=1000000000000000:=by
 unfold tP at h |-
 split
 ·rename_i d;rw[Ga d]at h;obtain⟨f,g,i⟩:=ql d;have a:=aAa h;have b:=aGw K.fs _ f;rw[g,<-i]at b;exact⟨Ma a.1 b,a.2⟩
 ·exact⟨Ha _,by rw[iB,e];rfl,by decide,by decide⟩
theorem nh {c:nB}:∀{d:List dE} {a:Int} {b:List eA},iB c a b=true->(xE c a b d).2.2=true->iB c (xE c a b d).1 (xE c a b d).2.1=true
 |[],_,_,h,_=>h
 |r::d,a,b,h,h2=>by
  rw[xE]at h2 |-
  split at h2
  ·rename_i e;rw[Ga e];exact nh (FK h e) h2
  ·cases h2
theorem ay {c:nB} {s q:Int×Int×List eA} {p:ByteArray} (h:yX c s p=some q) (a:iB c s.2.1 s.2.2=true) (g:0<=s.1/\s.1<=1000000000000000):iB c q.2.1 q.2.2=true/\(0<=q.1/\q.1<=1000000000000000)/\q.2.2.length+nA q.2.2<=s.2.2.length+nA s.2.2+p.size:=by
 obtain⟨l,n,t⟩:=s;rcases aId c l n t p with⟨_,e⟩|⟨b,⟨_,e⟩|⟨_,⟨_,e⟩|⟨j,⟨_,e⟩|⟨d,e⟩⟩⟩⟩
 all_goals rw[e]at h
 all_goals(try cases h)
 ·exact⟨a,g,A2 _ _⟩
 ·have f:=WY (rs:=(fF p).2.1) a;obtain⟨_,_,i,k,m⟩:=NW b;exact⟨nh a d,by dsimp only;omega,by dsimp only at f |-;omega⟩
theorem WV {c:nB} {s:Int×Int×List eA} {a:List ByteArray} {j:Nat} (b:j<a.length):nU c s (a.drop j)=match yX c s a[j]with
 |none=>none
 |some q=>nU c q (a.drop (j+1)):=by
 rw[Ra b];rfl
theorem XM {a:List ByteArray} {j:Nat} (b:j<a.length):aN (a.drop j)=a[j].size+aN (a.drop (j+1)):=by
 rw[Ra b];rfl
theorem vQ {K:kB} (a:vC K.fs K.c K.k K.cr K.fl=true) (b:K.dn=false):(fB K).2<=6/\vC (fB K).1.fs (fB K).1.c (fB K).1.k (fB K).1.cr (fB K).1.fl=true/\((fB K).2=0->(fB K).1.dn=false)/\xA (fB K).1.fs<=xA K.fs:=by
 have d:dr an=true:=by decide
 unfold fB;split
 ·refine⟨zV _ _,?_⟩;rw[FJ a d];refine⟨AE a d,?_⟩;unfold lG;split
  ·rename_i h;refine⟨fun _=>?_,?_⟩
   ·unfold cC at h |-
    rw[b]at h |-
    simp only[Gd,Hg]at h |-
    split at h<;>rename_i f<;>simp[f]at h |-
    split at h<;>rename_i g<;>simp[g]at h |-
    split at h<;>rename_i i<;>simp[i]at h |-
   ·show xA (dM K.fs K.c an).2<=_;unfold dM;dsimp only;rw[Ca (by decide)];split
    ·exact Da _
    ·split
     ·exact Da _
     ·rw[Ca (by decide),Ca (by decide),Ca (by decide),Ca (by decide)];exact FO _ _
  ·rename_i h;exact⟨fun e=>absurd e h,Da _⟩
 ·exact⟨Ha _,a,fun _=>b,Da _⟩
theorem iV (a b:Int) (c d:ByteArray) (w:World):
 Calls prog 343 #[.agg #[.int .i64 a,.string c],.string d,.int .i64 b] w fun e f=>e=.returned (.agg #[.int .i64 a,.string c,.string d,.int .i64 b])/\Below w.heap.size w f:=by
 go_enter func343,ntmps343;go_wp2;exact bodyPost_ret (v:=.agg #[.int .i64 a,.string c,.string d,.int .i64 b]) (by simp[results,results343,go_sem]) rfl ⟨rfl,pA (cA _ _) (cA _ _)⟩
theorem aAn (d:Int) (f g:ByteArray) (w:World):
 Calls prog 344 #[.agg #[.int .i64 d,.string f,.string g]] w fun e m=>e=.returned (.agg #[.int .i64 d,.string f,.string g,.int .i64 0])/\Below w.heap.size w m:=by
 go_enter func344,ntmps344;go_wp2_with fail;refine(iV _ _ _ _ _).mono ?_;rintro e c ⟨rfl,b⟩;have h:Hid _:=pA (pA (cA _ _) (cA _ _)) b;have a:Hid (lA c (w.heap.size+1) #[.int .i64 0,.string ByteArray.empty,.string ByteArray.empty,.int .i64 0] 122):=by have:=(lA.new (w.alloc (.cells #[.int .i64 d,.string f,.string g] 264)) #[.int .i64 0,.string ByteArray.empty,.string ByteArray.empty,.int .i64 0] 122).later b;exact bA (by simpa using this)
 have i:c.cell? ⟨w.heap.size+1,0,none⟩=some (.int .i64 0):=a.out.cell 0;have j:c.cell? ⟨w.heap.size+1,1,none⟩=some (.string ByteArray.empty):=a.out.cell 1;have k:c.cell? ⟨w.heap.size+1,2,none⟩=some (.string ByteArray.empty):=a.out.cell 2;have l:c.cell? ⟨w.heap.size+1,3,none⟩=some (.int .i64 0):=a.out.cell 3;have n:=a.out.free 0;have o:=a.out.free 1;have p:=a.out.free 2;have q:=a.out.free 3;clear b;go_wp2;refine bodyPost_ret (v:=.agg #[.int .i64 d,.string f,.string g,.int .i64 0]) (by simp[results,results344,go_sem,i,j,k,l]) rfl ⟨rfl,?_⟩;exact(((h.out.setCell (by simp) _).setCell (by simp) _).setCell (by simp) _).setCell (by simp) _
theorem aAo (d f:Int) (g:ByteArray) (w:World):
 Calls prog 345 #[.agg #[.int .i64 d,.string g,.int .i64 f]] w fun e m=>e=.returned (.agg #[.int .i64 d,.string g,.string ByteArray.empty,.int .i64 f])/\Below w.heap.size w m:=by
 go_enter func345,ntmps345;go_wp2_with fail;refine(iV _ _ _ _ _).mono ?_;rintro e c ⟨rfl,b⟩;have h:Hid _:=pA (pA (cA _ _) (cA _ _)) b;have a:Hid (lA c (w.heap.size+1) #[.int .i64 0,.string ByteArray.empty,.string ByteArray.empty,.int .i64 0] 122):=by have:=(lA.new (w.alloc (.cells #[.int .i64 d,.string g,.int .i64 f] 266)) #[.int .i64 0,.string ByteArray.empty,.string ByteArray.empty,.int .i64 0] 122).later b;exact bA (by simpa using this)
 have i:c.cell? ⟨w.heap.size+1,0,none⟩=some (.int .i64 0):=a.out.cell 0;have j:c.cell? ⟨w.heap.size+1,1,none⟩=some (.string ByteArray.empty):=a.out.cell 1;have k:c.cell? ⟨w.heap.size+1,2,none⟩=some (.string ByteArray.empty):=a.out.cell 2;have l:c.cell? ⟨w.heap.size+1,3,none⟩=some (.int .i64 0):=a.out.cell 3;have n:=a.out.free 0;have o:=a.out.free 1;have p:=a.out.free 2;have q:=a.out.free 3;clear b;go_wp2;refine bodyPost_ret (v:=.agg #[.int .i64 d,.string g,.string ByteArray.empty,.int .i64 f]) (by simp[results,results345,go_sem,i,j,k,l];rfl) rfl ⟨rfl,?_⟩;exact(((h.out.setCell (by simp) _).setCell (by simp) _).setCell (by simp) _).setCell (by simp) _
theorem aAm (d f:Int) (g h:ByteArray) (w:World):
 Calls prog 346 #[.agg #[.int .i64 d,.string g,.string h,.int .i64 f]] w fun e n=>e=.returned (.agg #[.int .i64 d,.string g,.string h,.int .i64 f])/\Below w.heap.size w n:=by
 go_enter func346,ntmps346;go_wp2_with fail;refine(iV _ _ _ _ _).mono ?_;rintro e c ⟨rfl,b⟩;have i:Hid _:=pA (pA (cA _ _) (cA _ _)) b;have a:Hid (lA c (w.heap.size+1) #[.int .i64 0,.string ByteArray.empty,.string ByteArray.empty,.int .i64 0] 122):=by have:=(lA.new (w.alloc (.cells #[.int .i64 d,.string g,.string h,.int .i64 f] 268)) #[.int .i64 0,.string ByteArray.empty,.string ByteArray.empty,.int .i64 0] 122).later b;exact bA (by simpa using this)
 have j:c.cell? ⟨w.heap.size+1,0,none⟩=some (.int .i64 0):=a.out.cell 0;have k:c.cell? ⟨w.heap.size+1,1,none⟩=some (.string ByteArray.empty):=a.out.cell 1;have l:c.cell? ⟨w.heap.size+1,2,none⟩=some (.string ByteArray.empty):=a.out.cell 2;have m:c.cell? ⟨w.heap.size+1,3,none⟩=some (.int .i64 0):=a.out.cell 3;have o:=a.out.free 0;have p:=a.out.free 1;have q:=a.out.free 2;have r:=a.out.free 3;clear b;go_wp2;refine bodyPost_ret (v:=.agg #[.int .i64 d,.string g,.string h,.int .i64 f]) (by simp[results,results346,go_sem,j,k,l,m]) rfl ⟨rfl,?_⟩;exact(((i.out.setCell (by simp) _).setCell (by simp) _).setCell (by simp) _).setCell (by simp) _
theorem jn (x : Value) (w : World) : (invoke (.fn (.method "loop.example/s02176/impl.flat") #[]) #[.iface 264 x]).run prog w = .ok (.enter 344 #[x]) w := by kernel_rfl
theorem jo (x : Value) (w : World) : (invoke (.fn (.method "loop.example/s02176/impl.flat") #[]) #[.iface 266 x]).run prog w = .ok (.enter 345 #[x]) w := by kernel_rfl
theorem jq (x : Value) (w : World) : (invoke (.fn (.method "loop.example/s02176/impl.flat") #[]) #[.iface 268 x]).run prog w = .ok (.enter 346 #[x]) w := by kernel_rfl
section
open Go.Maps
theorem om {P:Program} {w:World} {b:Array Oper} {o:Oper} {a:Act} {K:Act->World->Prop} {Q:Exit->Act->World->Prop} {E:Prop} {f:FuncId} {args:Array Value} (c:o.guard=none) (i:(execOp a.eval o).run P w=.ok (.enter f args) w)
 (h:Calls P f args w (fun e d=>∃v,e=.returned v/\K (a.put o.dst v) d)):if Region.wanted o (yielded b a.tmps)=true then Oper.wp P o a w K Q else E:=by
 have hw:Region.wanted o (yielded b a.tmps)=true:=by simp[Region.wanted,c]
 rw[Ga hw];unfold Oper.wp;rw[i];refine h.mono ?_;rintro e d ⟨v,rfl,g⟩;exact g
theorem nz (m:Nat) (L:List (eA×Nat)) (w:World) (h:w.ownsMap prog 9 kD m L.length (oC (L.map fun p=>(p.1.name,eE p.2)))) (j:vB (fun p:eA×Nat=>p.1.name) L) (k:L.length<=1000000000):
 Calls prog 69 #[.func (.func 112) #[] #[.pointer (some ⟨w.heap.size,0,none⟩)]] (w.alloc (.cells #[.map (some m)] 144)) fun e f=>∃v,e=.returned v/\f.ownsRow w.heap.size 9 1 v L.length (L.map fun p=>.string p.1.name)/\Below w.heap.size w f:=by
 have c:Maps.size (oC (L.map fun p=>(p.1.name,eE p.2)))=L.length:=by rw[fL]
 refine Calls.mono (callsIn_wide.1 (slices_Sorted_keys_69_70 m _ _ kD w h (by rw[c];unfold maxLen;omega) (by rw[c];omega))) ?_;rintro e l ⟨v,ss,rfl,d,a,_,g⟩;have i:(strKeys (oC (L.map fun p=>(p.1.name,eE p.2))))=L.map fun p=>p.1.name.data.toList:=by
  rw[jT,Wd];rfl
 rw[i]at d;have b:ss.length=L.length:=by rw[d.length_eq,Ua]
 rw[JA (key:=fun p:eA×Nat=>p.1.name) j d,OI (fun p:eA×Nat=>p.1.name),b]at a;exact⟨v,rfl,ER a (by simp),pA (cA _ _) g⟩
theorem aDe {W:World} {B:Nat} {e:TypeId} {v:Value} {L:List (eA×Nat)} (h:W.ownsRow B e 1 v L.length (L.map fun p=>.string p.1.name)):
 ∃j o,v=.slice j L.length o/\(L=[]\/∃g,j=some ⟨g,0,none⟩/\B<=g/\g<W.heap.size/\∀i (h:i<L.length),W.cell? ⟨g,i,none⟩=some (.string L[i].1.name)):=by
 rcases h.2 with⟨rfl,f⟩|⟨g,b,a,rfl,k,d,_,_,n,c⟩
 ·refine⟨none,0,by rw[f],Ba (Fb.1 f)⟩
 ·refine⟨_,b,rfl,Ea ⟨g,rfl,k,aA d,fun i m=>?_⟩⟩;have l:=lA.cell (show lA W g a e from d) i;rw[l,<-Sd];have:(a.toList.take (L.length*1))[i]?=(L.map fun p=>Value.string p.1.name)[i]?:=by rw[c]
  rw[List.getElem?_take,Ga (by omega)]at this;rw[this,Jd,Ka m];rfl
theorem aGr {w:World} {B:Nat->Prop} {T:Nat->Option Nat} {l m:Nat} {c:nB} {d:Int} {L:List (eA×Nat)} {M:Nat} (h:gJ w B T l m c d L M) (i:Nat) (j:i<L.length) (k:L[i].1.name.size<=maxLen):
 ∃x S,∀W,Below w.heap.size w W->W.cell? ⟨l,7,none⟩=some (.map (some m))/\(Instr.lookup 144 (.map (some m)) (.string L[i].1.name) false).run prog W=.ok (.pointer (some ⟨x,0,none⟩)) W/\lC W S x L[i].1 M:=by
 have f:=Db j;refine⟨L[i].2,_,fun W b=>⟨(h.blk.later b).cell 7,?_,(h.idx _ f).later b⟩⟩;obtain⟨v,n,a,g⟩:=World.ownsMap.lookup ((gA.of b).map (S:=fun _=>False) h.ten (fun e=>e)) vJ underlying144 (show(zeroValue 151).run prog W=.ok (.pointer none) W by kernel_rfl) (zd:=.nil) (zp:=[]) rfl (sK k);rw[a];rw[rQ (key:=fun q:eA×Nat=>q.1.name) (fun q=>eE q.2),cK (key:=fun q:eA×Nat=>q.1.name) h.rise f]at g;rw[xO g]
def aPh (a:List eA):Prop:=∀t∈a,t.name.size<=maxLen/\(∀i (h:i<t.m9.length),t.m9[i].s.size<=maxLen)/\(∀i (h:i<t.s9.length),t.s9[i].s.size<=maxLen)/\t.m9.length<=2000000/\t.s9.length<=2000000
theorem aBu (l m:Nat) (c:nB) (b:Int) (B:Nat->Prop) (ts:List eA) (M:Nat) (w:World) (h:yD w B l m c b ts M) (n:aPh ts) (hlen:ts.length<=2000000):
 Calls prog 32 #[.pointer (some ⟨l,0,none⟩)] w fun e w'=>∃a r,e=.returned (.agg #[.int .i64 b,.slice a ts.length r])/\uC w' w.heap.size a ts/\Below w.heap.size w w':=by
 obtain⟨T0,L,h,rfl⟩:=h;rw[Ua]at hlen |-
 have c6:w.cell? ⟨l,6,none⟩=some (.int .i64 b):=h.blk.cell 6;have hll:=aA h.blk;have HL7:Hid (∀W,Below w.heap.size w W->W.cell? ⟨l,7,none⟩=some (.map (some m))):=fun W hW=>(h.blk.later hW).cell 7;have HLK:Hid _:=fun i E=>aGr h i E (n _ (Pc (Db E))).1;have Y:Hid (∀i (E:i<L.length) x S W,lC W S x L[i].1 M->Calls prog 71 #[.pointer (some ⟨x,0,none⟩),.string L[i].1.name] W fun e w'=>GL W L[i].1.name L[i].1 e w'):=fun i E x S W hix=>by
  obtain⟨_,f1,f2,f3,f4⟩:=n _ (Pc (f:=(·.1)) (Db E));refine(aIv x L[i].1.name L[i].1 S M W hix f1 f2 (by omega) (by omega)).mono ?_;rintro e w' ⟨v1,v2,M',rfl,r1,hM1,hM2,hM3,r2,hb⟩;obtain⟨a1,c1,rfl⟩:=uI r1;obtain⟨a2,c2,rfl⟩:=uI r2;exact⟨M',a1,c1,a2,c2,rfl,hM2,pC r1,fun g o e=>hM1 g (by rw[e];rfl),pC r2,hM3,hb⟩
 have V:Hid _:=fun W hW=>nz m L W ((gA.of hW).map (S:=fun _=>False) h.ten (fun e=>e)) h.rise (by omega);have P:Hid _:=fun W=>callsIn_wide.1 (maps_Keys_70 (some m) W);unfold GL at Y;clear h n;have B2:Hid (Below w.heap.size w ((w.alloc (.cells #[.int .i64 0,.slice none 0 0] 35)).alloc (.cells #[.int .i64 b,.slice none 0 0] 35))):=pA (cA _ _) (cA _ _);have c7:=HL7.out _ B2.out;go_enter func32,ntmps32;go_wp2_with fail;refine(P.out _).mono ?_;rintro e w1 ⟨rfl,rfl⟩;have X2:Hid _:=bA (by have:=lA.new (w.alloc (.cells #[.int .i64 0,.slice none 0 0] 35)) #[.int .i64 b,.slice none 0 0] 35;simpa using this);have Y2:Hid (lA ((w.alloc (.cells #[.int .i64 0,.slice none 0 0] 35)).alloc (.cells #[.int .i64 b,.slice none 0 0] 35)) w.heap.size #[.int .i64 0,.slice none 0 0] 35):=(lA.new _ _ _).alloc _;clear c7 c6;generalize (w.alloc (.cells #[.int .i64 0,.slice none 0 0] 35)).alloc (.cells #[.int .i64 b,.slice none 0 0] 35)=w2 at *;go_wp2_with fail;refine(V.out _ B2.out).mono ?_;rintro e u ⟨kv,rfl,z,s⟩;obtain⟨ka,kc,rfl,hks⟩:=aDe z;have HKS:=bA hks;have B3:Hid _:=pA B2.out s;have X3:Hid (lA u (w.heap.size+1) #[.int .i64 b,.slice none 0 0] 35):=X2.out.later s;have Y3:Hid (lA u w.heap.size #[.int .i64 0,.slice none 0 0] 35):=Y2.out.later s;have HX2:Hid _:=aA X2.out;clear z hks s X2 Y2 B2 V P;go_wp2;go_loopw [5,18] (fun _ i wr=>∃(k:Nat) (v:Value),k<=L.length/\i=.int .i64 k/\Hid (lA wr (w.heap.size+1) #[.int .i64 b,v] 35)/\Hid (pO wr u.heap.size 107 v k ((L.take k).map (·.1)))/\Hid (gA (·=w.heap.size+1) u wr)) (fun _ i _=>L.length-(intOf i).toNat)
 case atStart=>exact⟨0,.slice none 0 0,Ha _,rfl,X3.out,pO.nil _ _ _,gA.refl _ _⟩
 case round=>
  obtain⟨k,v,hk,rfl,I,U,j⟩:=hrel;have K:Hid _:=(((gA.of (S:=fun i=>w.heap.size<=i) B3.out).trans' (j.out.mono fun i _ e=>by omega)).below (Da _) fun i E h=>by omega)
  by_cases d:k<L.length
  ·have hks2:∃g,ka=some ⟨g,0,none⟩/\w2.heap.size<=g/\g<u.heap.size/\∀i (h:i<L.length),u.cell? ⟨g,i,none⟩=some (.string L[i].1.name):=by
    rcases HKS.out with h0|h0
    ·rw[h0]at d;exact absurd d (by simp)
    ·exact h0
   obtain⟨g,rfl,hg1,hg2,hgc⟩:=hks2;have hx2:=HX2.out;have hkey:=(World.cell?_of_block (j.out.block g hg2 (by omega))).trans (hgc k d);obtain⟨x,S,Q⟩:=HLK.out k d;have HQ:=bA Q;have HTK:=bA (Y.out k d x S);have HLT:Hid ((L.take (k+1)).map (·.1)=(L.take k).map (·.1)++[L[k].1]):=by show _=_;rw[La d,Qd];rfl
   have HLL:Hid (((L.take k).map (·.1)).length=k):=by show _=_;rw[Ua,Ta];omega
   have hsz3:=j.out.size;have hB3s:=B3.out.size;clear hgc Q;generalize (L.take k).map (·.1)=TS at *;generalize L[k].1=t at *;obtain⟨T,ys,C,hV2,hV3,hV4⟩:=U.out;have HV1:=bA C;have Z:=bA hV2;have HV3:=bA hV3;have HV4:=bA hV4;have H:=fun q hq=>C.lt q hq;have agv:v.ownBlock≠some (w.heap.size+1):=fun e=>by have:=(H _ e).1;omega
   have N:Hid (∀W,Below wr.heap.size wr W->W.cell? ⟨w.heap.size+1,1,none⟩=some v):=fun W hW=>(I.out.later hW).cell 1;have v5:wr.cell? ⟨w.heap.size+1,1,none⟩=some v:=I.out.cell 1;obtain⟨q1,q2,q3⟩:=HQ.out wr.drew K.out.drew;have Q3:=bA q3;clear C hV2 hV3 hV4 q3;go_wp2_with fail;go_region_law
    (first
     |((fail_if_success (have q:=D));refine om (f:=71) (args:=#[.pointer (some ⟨x,0,none⟩),.string t.name]) rfl (by go_simp) ?_;refine(HTK.out _ Q3.out).mono ?_;rintro e J ⟨M4,a1,d1,a2,d2,rfl,hM,o1,o1M,o2,oM,D⟩;have p:Below wr.heap.size wr J:=pA (Below.refl _ _).drew D;have x4:=N.out _ p;have x5:(J.alloc (.cells #[.string t.name,.int .i64 t.l9,.slice a1 t.m9.length d1,.slice a2 t.s9.length d2] 107)).cell? ⟨w.heap.size+1,1,none⟩=some v:=N.out _ (pA p (cA _ _));have O:=bA (Ee hM (Ee o1 (Ee o1M (Ee o2 oM))));clear hM o1 o1M o2 oM;refine⟨_,rfl,?_⟩)
     |(have q:=D;clear q;refine uN (by rfl) _ _ (by rfl) underlying33 uJ rfl (by omega) (by omega) (by rfl) (by exact cB HV1.out p) (by rfl) (by rfl) (cs:=#[.string t.name,.int .i64 t.l9,.slice a1 t.m9.length d1,.slice a2 t.s9.length d2]) rfl (by simp[Value.oneCell']) (by omega) (by have:=p.size;omega) ?_;intro gg r w5 O5 T5 A5;have A:=bA (T5.out.blk (I.out.later p) (fun e=>by have:=e.1;omega));have s5:=A.out.cell 1;have f5:=A.out.free 1))
   all_goals(
    have hsz4:=p.size
    have hgg:(v.ownBlock=some gg/\gg<wr.heap.size)\/J.heap.size<=gg:=A5.out.imp_left fun h=>⟨h,(H _ h).2⟩
    obtain⟨h1,h3,h4⟩:=bL (I.out.later p) T5.out O5.out (by omega) 1
    have F:=fun g (hg:g<J.heap.size) (y:u.heap.size<=g) (G:v.ownBlock≠some g)=>h4.block g hg (fun e=>by rcases e with e|e;omega;exact G e.2)
    have HX6:=bA h1
    have HT6:=bA (j.out.trans ((gA.of p).trans' (h4.mono fun i _ e=>e.imp_right Me)))
    have HR6:Hid (pO (w5.setCell ⟨w.heap.size+1,1,none⟩ (.slice (some ⟨gg,0,none⟩) (k+1) r)) u.heap.size 107 (.slice (some ⟨gg,0,none⟩) (k+1) r) (k+1) ((L.take (k+1)).map (·.1))):=by
     refine bA ?_;rw[HLT.out];have hyk:ys.length=k:=by have h1:=HLL.out;rw[<-Z.out,Ua]at h1;exact h1
     exact pO.snoc (wr:=wr) (w4:=J) (M:=M4) (v:=v) (T:=T) (ys:=ys) h3 Z.out hyk HV3.out HV4.out (by omega) O.out.1
      (fun g hg y G=>(F g (by omega) y G).trans (p.block g hg))
      (fun g hg hg4=>F g hg4 (by omega) (fun e=>by have:=(H _ e).2;omega))
      O.out.2.1 O.out.2.2.1 O.out.2.2.2.1 hgg hsz4 O.out.2.2.2.2)
   all_goals clear h1 h3 h4 O5 T5 A5 s5 f5 A F
   all_goals go_wp2
   all_goals exact⟨⟨k+1,_,by omega,by go_num,bA (by simpa using HX6.out),HR6.out,HT6.out⟩,by simp[intOf];omega⟩
  ·have ek:k=L.length:=by omega
   have R:Hid (pO wr u.heap.size 107 v L.length (L.map (·.1))):=by
    have:=U.out;rw[ek,Qb]at this;exact this
   obtain⟨ra,rc,rfl⟩:=R.out.row;have YW:Hid (lA wr w.heap.size #[.int .i64 0,.slice none 0 0] 35):=j.out.blk Y3.out (by omega);have x0:wr.cell? ⟨w.heap.size+1,0,none⟩=some (.int .i64 b):=I.out.cell 0;have x1:wr.cell? ⟨w.heap.size+1,1,none⟩=some (.slice ra L.length rc):=I.out.cell 1;have y0:wr.cell? ⟨w.heap.size,0,none⟩=some (.int .i64 0):=YW.out.cell 0;have y1:wr.cell? ⟨w.heap.size,1,none⟩=some (.slice none 0 0):=YW.out.cell 1;have f0:=YW.out.free 0;have f1:=YW.out.free 1;have h31:=aA X3.out;go_wp2;have X:gA (·=w.heap.size) wr ((wr.setCell ⟨w.heap.size,0,none⟩ (.int .i64 b)).setCell ⟨w.heap.size,1,none⟩ (.slice ra L.length rc)):=((gA.refl (·=w.heap.size) wr).setCell (Ba rfl) 0 _).setCell (Ba rfl) 1 _;refine bodyPost_ret (v:=.agg #[.int .i64 b,.slice ra L.length rc]) (by simp[results,results32,go_sem,y0,y1]) rfl ⟨ra,rc,rfl,((R.out.turn X (fun g e=>by omega)).own (by rw[Ua])).mono (by omega),((gA.of (S:=fun i=>w.heap.size<=i) K.out).trans' (X.mono fun i _ e=>by omega)).below (Da _) fun i E h=>by omega⟩
end
def CC (V:Int×List eA×Bool) (w:World) (e:Ending) (c:World):Prop:=
 ∃a b,e=.returned (.tuple #[.agg #[.int .i64 V.1,.slice a V.2.1.length b],.bool V.2.2])/\uC c w.heap.size a V.2.1/\Below w.heap.size w c
theorem YZ {a:List eA} (h:a.length+nA a<=1100000):∀x∈a,x.name.size<=1100000/\(∀p∈x.m9,p.s.size<=1100000)/\(∀p∈x.s9,p.s.size<=1100000)/\x.m9.length<=1100000/\x.s9.length<=1100000:=by
 intro x f;obtain⟨i,e,rfl⟩:=Gb f;have d:=BT a i e;unfold jE at d;refine⟨by omega,fun p c=>?_,fun p c=>?_,by omega,by omega⟩
 ·obtain⟨j,b,rfl⟩:=Gb c;have:=zP _ j b;omega
 ·obtain⟨j,b,rfl⟩:=Gb c;have:=zP _ j b;omega
theorem XQ {b:List eA} (h:∀x∈b,x.name.size<=1100000/\(∀p∈x.m9,p.s.size<=1100000)/\(∀p∈x.s9,p.s.size<=1100000)/\x.m9.length<=1100000/\x.s9.length<=1100000) {a:ByteArray} (f:a.size<=1100000):
 (dB b a).name.size<=1100000/\(∀p∈(dB b a).m9,p.s.size<=1100000)/\(∀p∈(dB b a).s9,p.s.size<=1100000)/\(dB b a).m9.length<=1100000/\(dB b a).s9.length<=1100000:=by
 rcases aP (ts:=b) (name:=a) with⟨d,_⟩|⟨e,_⟩
 ·exact h _ d
 ·rw[e];exact⟨f,fun p c=>(by cases c),fun p c=>(by cases c),Ha _,Ha _⟩
theorem DE {α:Type} {key:α->ByteArray} {a:α} (l:List α):(qA key a l).length<=l.length+1:=by
 induction l with
 |nil=>simp[qA]
 |cons p r b=>
  rw[qA];split
  ·simp only[Sa];omega
  ·split<;>simp
theorem lj {c:nB} {a:Int} {d:List eA} (h:iB c a d=true):∀p∈d,p.name≠⟨#[]⟩:=fun p f e=>by
 have b:=(wI (iI (jI h).2.2.2.2 p f)).1;rw[e]at b;simp only[kC,Na,Ya]at b;have g:(⟨#[]⟩:ByteArray).size=0:=rfl;omega
theorem MN {c:nB} {b:Int} {a:List eA} (h:iB c b a=true) (e:a.length+nA a<=1100000):∀x∈a,XZ x:=fun x d=>by
 obtain⟨_,j,k,_,g⟩:=jI h;obtain⟨_,_,_,l,m⟩:=YZ e x d;refine⟨by omega,by omega,fun i f=>?_⟩;have:=EZ (wI (iI g x d)).2.2.1 _ (Db f);omega
theorem aIk {c:nB} {a:Int} {b:List eA} (h:iB c a b=true):sC c.w a (FY ⟨⟨#[]⟩,0,[],[]⟩ true b)=b:=by
 rw[sS (t:=⟨⟨#[]⟩,0,[],[]⟩) (lj h)];exact ju (jI h).2.2.2.2
theorem cR (c:nB) (b:Int) (a:Option Addr) (f:Nat) (d:List eA) (w:World) (D:eC w a d) (k:iB c b d=true) (C:d.length+nA d<=1100000):
 Calls prog 53 #[tE c,.agg #[.int .i64 b,.slice a d.length f]] w fun e t=>∃p j,e=.returned (.agg #[.int .i64 b,.slice p d.length j])/\uC t w.heap.size p d/\Below w.heap.size w t:=by
 obtain⟨_,z,J,_,_⟩:=jI k;have G:Hid (∀W,Below w.heap.size w W->Calls prog 91 #[tE c,.agg #[.int .i64 b,.slice a d.length f],.int .i64 b,.agg #[.string ⟨#[]⟩,.int .i64 0,.slice none 0 0,.slice none 0 0]] W fun e t=>∃p j,e=.returned (.agg #[.int .i64 b,.slice p d.length j])/\uC t W.heap.size p d/\Below W.heap.size W t):=fun W I=>by
  have:=AU c b b a f d ⟨⟨#[]⟩,0,[],[]⟩ none none 0 0 W (D.later I) (Ba rfl) (Ba rfl) (by omega) (fun x A=>by
   rcases A with rfl|A
   ·exact⟨Ha _,Ha _,fun i h=>absurd h (by simp)⟩
   ·exact MN k C x A) z (by omega)
  have e:(⟨⟨#[]⟩,0,[],[]⟩:eA).name.toList.isEmpty=true:=by kernel_rfl
  rw[e,aIk k]at this;exact this
 clear D k C;unfold tE at *;go_enter func53,ntmps53;have B:Hid (Below w.heap.size w (((w.alloc (.cells #[.int .i64 c.w,.int .i64 c.tl,.int .i64 c.ml,.int .i64 c.sh,.int .i64 c.ha,.int .i64 c.sg] 40)).alloc (.cells #[.int .i64 b,.slice a d.length f] 35)).alloc (.cells #[.int .i64 0,.slice none 0 0] 35))):=pA (pA (cA _ _) (cA _ _)) (cA _ _);have H:Hid _:=bA (by have:=lA.new ((w.alloc (.cells #[.int .i64 c.w,.int .i64 c.tl,.int .i64 c.ml,.int .i64 c.sh,.int .i64 c.ha,.int .i64 c.sg] 40)).alloc (.cells #[.int .i64 b,.slice a d.length f] 35)) #[.int .i64 0,.slice none 0 0] 35;simpa using this);go_wp2_with fail;refine(G.out _ B.out).mono ?_;rintro e m ⟨n,s,rfl,r,l⟩;have y:Hid _:=bA (by simpa using r);have u:Hid (lA m (w.heap.size+1+1) #[.int .i64 0,.slice none 0 0] 35):=H.out.later l;have F:Hid _:=pA B.out l;have K:m.cell? ⟨w.heap.size+1+1,0,none⟩=some (.int .i64 0):=u.out.cell 0;have L:m.cell? ⟨w.heap.size+1+1,1,none⟩=some (.slice none 0 0):=u.out.cell 1;have M:=u.out.free 0;have N:=u.out.free 1;clear r l;go_wp2;have o:gA (·=w.heap.size+1+1) m ((m.setCell ⟨w.heap.size+1+1,0,none⟩ (.int .i64 b)).setCell ⟨w.heap.size+1+1,1,none⟩ (.slice n d.length s)):=((gA.refl (·=w.heap.size+1+1) m).setCell (Ba rfl) 0 _).setCell (Ba rfl) 1 _;have E:uC ((m.setCell ⟨w.heap.size+1+1,0,none⟩ (.int .i64 b)).setCell ⟨w.heap.size+1+1,1,none⟩ (.slice n d.length s)) w.heap.size n d:=(uC.turned y.out o (fun g O P e=>by omega)).mono (by omega);have q:=((gA.of (S:=fun i=>w.heap.size<=i) F.out).trans' (o.mono fun i _ e=>by omega)).below (Da _) fun i Q h=>by omega
 refine bodyPost_ret (v:=.agg #[.int .i64 b,.slice n d.length s]) (by simp[results,results53,go_sem,K,L]) rfl ?_;first
  |exact⟨n,⟨s,rfl⟩,E,q⟩
  |exact⟨n,s,rfl,E,q⟩
def KX (a:World) (X:Nat) (K:eA) (b:World):Prop:=
 ∃c e d f,lA b X #[.string K.name,.int .i64 K.l9,.slice c K.m9.length e,.slice d K.s9.length f] 107/\(∀W,gA (·=X) b W->vA W c K.m9/\vA W d K.s9)/\a.heap.size<=X/\Below a.heap.size a b
theorem EE {w W:World} {B X:Nat} {q:Option Addr} {c:List fA} (h:aD w B q c) (b:gA (·=X) w W) (n:X<B\/w.heap.size<=X):vA W q c:=by
 rcases h with h|⟨g,o,d,t,rfl,m,f,h⟩
 ·exact Ba h
 ·have a:=aA f;have l:=b.block g a (by omega);have e:∀j,W.cell? ⟨g,j,none⟩=w.cell? ⟨g,j,none⟩:=fun j=>World.cell?_of_block l;exact Ea ⟨g,o,rfl,by have:=b.size;omega,fun i k=>by simp only[e];exact h i k⟩
theorem aNz {d a:World} {K:eA} {B M:Nat} {b c:Option Addr} {e f:Nat} (i:aD a B b K.m9) (j:aD a M c K.s9) (g:Below d.heap.size d a):
 KX d a.heap.size K (a.alloc (.cells #[.string K.name,.int .i64 K.l9,.slice b K.m9.length e,.slice c K.s9.length f] 107)):=by
 refine⟨b,e,c,f,lA.new _ _ _,fun W k=>?_,g.size,pA g (cA _ _)⟩;have h:=(gA.of (cA _ _)).trans' k;exact⟨EE i h (Ea (Da _)),EE j h (Ea (Da _))⟩
theorem aFv {f a:World} {K:eA} {B M X:Nat} {b c:Option Addr} {d e:Nat} (k:aD a B b K.m9) (l:aD a M c K.s9) (m:X<B) (o:B<=M) (j:f.heap.size<=X) (g:lA a X #[.string ⟨#[]⟩,.int .i64 0,.slice none 0 0,.slice none 0 0] 107) (n:Below f.heap.size f a):
 KX f X K ((((a.setCell ⟨X,0,none⟩ (.string K.name)).setCell ⟨X,1,none⟩ (.int .i64 K.l9)).setCell ⟨X,2,none⟩ (.slice b K.m9.length d)).setCell ⟨X,3,none⟩ (.slice c K.s9.length e)):=by
 have i:gA (·=X) a ((((a.setCell ⟨X,0,none⟩ (.string K.name)).setCell ⟨X,1,none⟩ (.int .i64 K.l9)).setCell ⟨X,2,none⟩ (.slice b K.m9.length d)).setCell ⟨X,3,none⟩ (.slice c K.s9.length e)):=((((gA.refl (·=X) a).setCell (Ba rfl) 0 _).setCell (Ba rfl) 1 _).setCell (Ba rfl) 2 _).setCell (Ba rfl) 3 _;refine⟨b,d,c,e,?_,fun W h=>⟨EE k (i.trans' h) (Ba m),EE l (i.trans' h) (Ba (by omega))⟩,j,bf n j⟩;have:=(((g.set 0 (.string K.name)).set 1 (.int .i64 K.l9)).set 2 (.slice b K.m9.length d)).set 3 (.slice c K.s9.length e);simpa using this
theorem VF {K:kB} {n:Int} (h:GB K.fs):GB (zO K n).1.fs:=by
 unfold zO;split
 ·exact dX h (by have:=mQ n;unfold maxLen;show(vD n).size<=_;omega) (by show(0:Nat)<=_;omega)
 ·exact h
theorem aAk {K:kB} {n z:Int} (h:GB K.fs):GB (cJ K n z).1.fs:=by
 have a:GB (wD K (jD n z)).1.fs:=dX h (by have:=mQ n;unfold maxLen;show(vD n).size<=_;omega) (by show(0:Nat)<=_;omega);unfold cJ;split
 ·split
  ·exact a
  ·exact VF a
 ·exact VF h
