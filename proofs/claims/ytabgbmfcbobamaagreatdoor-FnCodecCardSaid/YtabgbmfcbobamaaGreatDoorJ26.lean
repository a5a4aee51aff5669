import Derived.Test.YtabgbmfcbobamaaGreatDoorJ24
import Derived.Test.YtabgbmfcbobamaaGreatDoorJ22
set_option maxRecDepth 100000
set_option maxHeartbeats 1000000
namespace Go.Proofs.YtabgbmfcbobamaaGreatDoor
open Go.RowKit Tryz
def yQ (w:World) (A:Nat->Prop) (a:Option Addr) (b:List dA):Prop:=
 b=[]\/∃g o c t T,a=some ⟨g,o,none⟩/\w.heap[g]?=some (.cells c t (0,0))/\T g=0/\(∀x,T x<=2*b.length->A x)/\∀i (h:i<b.length),yY w 0 T i g (o+i*4) b[i]
theorem yQ.tens {w:World} {A:Nat->Prop} {a:Option Addr} {b:List dA} (h:yQ w A a b):oB w a b:=by
 rcases h with h|⟨g,o,c,t,T,rfl,d,_,_,h⟩
 ·exact Ca h
 ·exact Ja ⟨g,o,rfl,aA d,fun i e=>(h i e).at⟩
theorem yQ.turned {S A:Nat->Prop} {w p:World} {a:Option Addr} {n:List dA} (h:yQ w A a n) (m:gA S w p) (k:∀g,A g->g<w.heap.size->¬S g):yQ p A a n:=by
 rcases h with h|⟨g,o,c,t,T,rfl,f,q,e,h⟩
 ·exact Ca h
 ·have l:=m.block g (aA f) (k g (e g (by omega)) (aA f));exact Ja ⟨g,o,c,t,T,rfl,l.trans f,q,e,fun i s=>(h i s).keep (fun j _=>World.cell?_of_block l) fun d b _ r=>⟨m.block d b (k d (e d (by omega)) b),rfl⟩⟩
theorem yQ.mono {w:World} {A A':Nat->Prop} {a:Option Addr} {c:List dA} (h:yQ w A a c) (f:∀x,A x->A' x):yQ w A' a c:=by
 rcases h with h|⟨g,o,b,t,T,e,j,i,d,h⟩
 ·exact Ca h
 ·exact Ja ⟨g,o,b,t,T,e,j,i,fun x k=>f x (d x k),h⟩
theorem oC.toA {w:World} {B H:Nat} {a:Option Addr} {f:List dA} (h:oC w B a f) (P:w.heap.size<=H):yQ w (fun x=>B<=x/\x<H) a f:=by
 rcases h with h|⟨g,o,j,t,T,rfl,I,p,J,h⟩
 ·exact Ca h
 ·have L:=aA p;refine Ja ⟨g,o,j,t,fun x=>if B<=x/\x<H then T x else 2*f.length+1,rfl,p,?_,fun x M=>?_,fun i K=>?_⟩
  ·show(if _ then _ else _)=0;rw[Qa ⟨I,by omega⟩];exact J
  ·by_cases m:B<=x/\x<H
   ·exact m
   ·simp only[Oa m]at M;omega
  ·obtain⟨s,v,u,y,A,C,D,E,F,G⟩:=h i K;have b:∀{n:Nat} {q:Option Addr} {r:List lA},bF w B T n q r->bF w 0 (fun x=>if B<=x/\x<H then T x else 2*f.length+1) n q r:=fun b=>by
    rcases b with b|⟨z,N,c,O,e,k,l,d,b⟩
    ·exact Ca b
    ·have:=aA d;exact Ja ⟨z,N,c,O,e,La _,by show(if _ then _ else _)=_;rw[Qa ⟨k,by omega⟩];exact l,d,b⟩
   exact⟨s,v,u,y,A,C,D,E,b F,b G⟩
def iI (w:World) (A:Nat->Prop) (a:Option Addr) (c:List kA):Prop:=
 c=[]\/∃g o b t,a=some ⟨g,o,none⟩/\A g/\w.heap[g]?=some (.cells b t (0,0))/\AE w g o c
theorem iI.files {w:World} {A:Nat->Prop} {a:Option Addr} {b:List kA} (h:iI w A a b):qA w a b:=by
 rcases h with h|⟨g,o,c,t,rfl,_,d,h⟩
 ·exact Ca h
 ·exact Ja ⟨g,o,rfl,aA d,h⟩
theorem iI.turned {S A:Nat->Prop} {w d:World} {a:Option Addr} {e:List kA} (h:iI w A a e) (p:gA S w d) (l:∀g,A g->g<w.heap.size->¬S g):iI d A a e:=by
 rcases h with h|⟨g,o,b,t,rfl,f,c,h⟩
 ·exact Ca h
 ·have k:=p.block g (aA c) (l g f (aA c));have m:∀j,d.cell? ⟨g,j,none⟩=w.cell? ⟨g,j,none⟩:=fun j=>World.cell?_of_block k;exact Ja ⟨g,o,b,t,rfl,f,k.trans c,fun i n=>by simp only[m];exact h i n⟩
theorem iI.later {w c:World} {A:Nat->Prop} {a:Option Addr} {b:List kA} (h:iI w A a b) (d:Below w.heap.size w c):iI c A a b:=h.turned (gA.of (S:=fun _=>False) d) fun _ _ _ e=>e
theorem iI.mono {w:World} {A A':Nat->Prop} {a:Option Addr} {c:List kA} (h:iI w A a c) (d:∀x,A x->A' x):iI w A' a c:=by
 rcases h with h|⟨g,o,b,t,e,q,h⟩
 ·exact Ca h
 ·exact Ja ⟨g,o,b,t,e,d g q,h⟩
theorem OH.toA {w:World} {B H:Nat} {a:Option Addr} {c:List kA} (h:OH w B a c) (i:w.heap.size<=H):iI w (fun x=>B<=x/\x<H) a c:=by
 rcases h with h|⟨g,o,b,t,e,f,d,h⟩
 ·exact Ca h
 ·have:=aA d;exact Ja ⟨g,o,b,t,e,⟨f,by omega⟩,d,h⟩
theorem gA.end2 {C:World->Prop} {S:Nat->Prop} (w:World) {a:World} (h:gA S w a) (k:∀W,gA S w W->C W):C a:=k a h
structure aHk (w:World) (A:Nat→Prop) (a b:Option Addr) (N:yC):Prop where
 parts:∃F T,iI w F a N.d.fs∧yQ w T b N.ts∧(∀x,F x→A x)∧(∀x,T x→A x)∧∀x,F x→¬T x
def tG (t:lA) (s:List lA×Bool) (p:lA):List lA×Bool:=
 (s.1++(if s.2=true then [] else if wH p.s t.s=true then [] else [t])++(if (p.s.toList==t.s.toList)=true then [] else [p]),if s.2=true then true else !wH p.s t.s)
def vU (t:lA) (b:Bool) (a:List lA):List lA×Bool:=a.foldl (tG t) ([],b)
def ab (t:lA) (b:Bool) (a:List lA):List lA:=(vU t b a).1++if (vU t b a).2=true then [] else [t]
theorem fy (t:lA) (b:Bool) (a:List lA) (k:Nat) (h:k<a.length):vU t b (a.take (k+1))=tG t (vU t b (a.take k)) a[k]:=by
 rw[Ma h,vU,Kf];rfl
theorem pc (t:lA) (c:List lA):∀(a:List lA) (b:Bool),c.foldl (tG t) (a,b)=(a++(c.foldl (tG t) ([],b)).1,(c.foldl (tG t) ([],b)).2):=by
 induction c with
 |nil=>intro a b;simp
 |cons p r d=>
  intro a b;simp only[Yd];rw[d (tG t (a,b) p).1 (tG t (a,b) p).2,d (tG t ([],b) p).1 (tG t ([],b) p).2];simp[tG]
theorem QI (t p:lA) (r:List lA) (b:Bool):ab t b (p::r)=(tG t ([],b) p).1++ab t (tG t ([],b) p).2 r:=by
 unfold ab vU;rw[Yd,pc t r (tG t ([],b) p).1 (tG t ([],b) p).2];simp
theorem iR (t:lA) (c:List lA):ab t true c=dI (·.s) t.s c:=by
 induction c with
 |nil=>rfl
 |cons p r d=>
  rw[QI];by_cases b:(p.s.toList==t.s.toList)=true
  ·simp only[tG,b,Ee,Nb,d];unfold dI;rw[Uc (by rw[b];simp)]
  ·have a:(p.s.toList==t.s.toList)=false:=by simpa using b
   simp only[tG,a,Ee,Nb,d];unfold dI;rw[Mc (by rw[a];rfl)];rfl
theorem ad {t:lA} {g:List lA} (l:jC (·.s) g):ab t false g=bB (·.s) t g:=by
 induction g with
 |nil=>rfl
 |cons p r m=>
  have j:=m l.tail;rw[QI,bB];by_cases d:wH p.s t.s=true
  ·have f:(p.s.toList==t.s.toList)=false:=dD (yK d);simp only[tG,d,f,Ee];simp[j]
  ·have c:wH p.s t.s=false:=by simpa using d
   have b:∀q∈r,q.s≠t.s:=fun q i e=>by
    have k:=l.head q i;rw[e]at k;exact d k
   have a:dI (·.s) t.s r=r:=Lc.2 fun q i=>by rw[dD (b q i)];rfl
   by_cases f:p.s=t.s
   ·have h:(p.s.toList==t.s.toList)=true:=(wC _ _).2 f;simp only[tG,c,h,Ee];simp[iR,a]
   ·have h:(p.s.toList==t.s.toList)=false:=dD f;simp only[tG,c,h];simp[iR,a]
theorem vp {t:dA} {a:ByteArray} {l9:Int} (c:jC (·.s) t.m9) (b:a.toList.isEmpty=false):qH t a l9=⟨t.name,t.l9,ab ⟨a,l9⟩ (decide (l9<0)) t.m9,t.s9⟩:=by
 unfold qH;rw[Oa (by rw[b];simp)];by_cases h:l9<0
 ·rw[Qa h,Zb h,iR]
 ·rw[Oa h,Bc h,ad c]
def rO (a:List jM):List Value:=a.flatMap fun o=>[.int .i64 o.kind,.string o.name,.string o.tq,.string o.data,.int .i64 o.size]
theorem mz:∀(l:List jM) (i:Nat) (a:i<l.length),(rO l)[i*5]?=some (.int .i64 l[i].kind)/\(rO l)[i*5+1]?=some (.string l[i].name)/\(rO l)[i*5+2]?=some (.string l[i].tq)/\(rO l)[i*5+3]?=some (.string l[i].data)/\(rO l)[i*5+4]?=some (.int .i64 l[i].size):=by
 intro l;unfold rO;induction l with
 |nil=>intro i a;exact absurd a (by simp)
 |cons x r b=>
  intro i a;cases i with
  |zero=>simp
  |succ i=>
   have:=b i (by simpa using a);simp only[Sc,Xc,Nb,Ic];have e:∀k,(i+1)*5+k=i*5+k+1+1+1+1+1:=fun k=>by omega
   refine⟨?_,?_,?_,?_,?_⟩
   ·rw[show(i+1)*5=i*5+1+1+1+1+1 by omega];simpa only[Ia]using this.1
   ·rw[e];simpa only[Ia]using this.2.1
   ·rw[e];simpa only[Ia]using this.2.2.1
   ·rw[e];simpa only[Ia]using this.2.2.2.1
   ·rw[e];simpa only[Ia]using this.2.2.2.2
theorem aHb {w:World} {g:Nat} {l:List jM} (h:∀j u,(rO l)[j]?=some u->w.cell? ⟨g,j,none⟩=some u) (i:Nat) (f:i<l.length):
 w.cell? ⟨g,i*5,none⟩=some (.int .i64 l[i].kind)/\w.cell? ⟨g,i*5+1,none⟩=some (.string l[i].name)/\w.cell? ⟨g,i*5+2,none⟩=some (.string l[i].tq)/\w.cell? ⟨g,i*5+3,none⟩=some (.string l[i].data)/\w.cell? ⟨g,i*5+4,none⟩=some (.int .i64 l[i].size):=by
 obtain⟨a,b,c,d,e⟩:=mz l i f;exact⟨h _ _ a,h _ _ b,h _ _ c,h _ _ d,h _ _ e⟩
theorem qw (X b:Nat):wrap64 (wrap64 ((X:Int)*256)+(b:Int))=jB (X*256+b):=by
 rw[CS];unfold wrap64;split<;>omega
theorem VH (s:ByteArray) (p n:Nat) (w:World) (m:s.size<=maxLen) (h:p+n<=s.size) (u:n<=8):
 Calls prog 141 #[.string s,.int .i64 p,.int .i64 n] w fun e o=>e=.returned (.int .i64 (jB (jN (fI s p n))))/\o=w:=by
 unfold maxLen at m;go_enter func141,ntmps141;go_wp2;go_loop [7,8] (fun v i=>∃(k V:Nat) (Z:Int),k<=n/\i=.int .i64 k/\v=.int .i64 Z/\Hid (Z=jB V)/\Hid (V=jN (fI s p k))) (fun _ i=>n-(intOf i).toNat)
 case atStart=>exact⟨0,0,0,La _,rfl,rfl,by show _=_;rw[kD (by omega)];rfl,rfl⟩
 case round=>
  obtain⟨k,V,Z,t,rfl,rfl,c,a⟩:=hrel;by_cases l:k<n
  ·have f:V<72057594037927936:=by
    have d:=aZ (fI s p k);rw[sL (by omega),<-a.out]at d;have q:256 ^ k<=256 ^ 7:=Zc (by omega) (by omega);omega
   obtain rfl:Z=(V:Int):=by rw[c.out,kD (by omega)]
   have g:(0:Int)<=(p:Int)+(k:Int):=by omega
   have j:(p:Int)+(k:Int)<(s.size:Int):=by omega
   have b:p+k<s.size:=by omega
   have r:=s[p+k].toNat_lt;have hw:=qw V s[p+k].toNat;go_wp2;refine⟨⟨k+1,V*256+s[p+k].toNat,jB (V*256+s[p+k].toNat),by omega,by go_num,?_,rfl,by show _=_;rw[ME b,jV,a.out]⟩,by simp[intOf];omega⟩;exact Fd (Value.int .i64) hw
  ·go_wp2;go_ret;have e:k=n:=by omega
   subst e;exact⟨zF (by rw[c.out,a.out]),rfl⟩
theorem xb {a b:Int} {c d:Int} (e:a=b) (f:c=d):Ending.returned (.tuple #[.int .i64 a,.int .i64 c])=.returned (.tuple #[.int .i64 b,.int .i64 d]):=by rw[e,f]
theorem tL (s:ByteArray) (n:Nat) (p:Option Nat) (w:World) (j:s.size<=1000000000) (c:∀q,p=some q->q<=1000000000) (g:n<=8):
 Calls prog 111 #[.string s,.int .i64 (cO p),.int .i64 (n:Nat)] w fun e a=>e=.returned (.tuple #[.int .i64 (jB (cU s n p).1),.int .i64 (cO (cU s n p).2)])/\a=w:=by
 have b:jB 0=0:=kD (by omega);cases p with
 |none=>
  show Calls _ _ #[.string s,.int .i64 (-1),.int .i64 (n:Nat)] w fun e a=>e=.returned (.tuple #[.int .i64 (jB 0),.int .i64 (-1)])/\a=w;rw[b];go_enter func111,ntmps111;go_wp2;go_ret2;exact⟨rfl,rfl⟩
 |some q=>
  have i:=c q rfl;rw[fP];show Calls _ _ #[.string s,.int .i64 (q:Nat),.int .i64 (n:Nat)] w fun e a=>e=.returned (.tuple #[.int .i64 (jB (if q+n<=s.size then(jN (fI s q n),some (q+n)) else(0,none)).1),.int .i64 (cO (if q+n<=s.size then(jN (fI s q n),some (q+n)) else(0,none)).2)])/\a=w;clear c;by_cases h:q+n<=s.size
  ·rw[Qa h];have d:Hid _:=fun W=>VH s q n W (by unfold maxLen;omega) h g;show Calls _ _ #[.string s,.int .i64 (q:Nat),.int .i64 (n:Nat)] w fun e a=>e=.returned (.tuple #[.int .i64 (jB (jN (fI s q n))),.int .i64 ((q+n:Nat):Int)])/\a=w;generalize jB (jN (fI s q n))=V at *;have f:¬((q:Int)+(n:Int) > (s.size:Int)):=by omega
   go_enter func111,ntmps111;go_wp2_with fail;refine(d.out _).mono ?_;rintro e k ⟨rfl,hw⟩;replace hw:=hw.symm;subst hw;go_wp2;go_ret2;exact⟨xb rfl (by omega),rfl⟩
  ·rw[Oa h];show Calls _ _ #[.string s,.int .i64 (q:Nat),.int .i64 (n:Nat)] w fun e a=>e=.returned (.tuple #[.int .i64 (jB 0),.int .i64 (-1)])/\a=w;rw[b];have f:(q:Int)+(n:Int) > (s.size:Int):=by omega
   go_enter func111,ntmps111;go_wp2;go_ret2;exact⟨rfl,rfl⟩
theorem nN (s:ByteArray) (n:Nat) (p:Option Nat) (w:World) (b:s.size<=1000000000) (c:∀q,p=some q->q<=1000000000) (a:n<=2):
 Calls prog 112 #[.string s,.int .i64 (cO p),.int .i64 (n:Nat)] w fun e f=>e=.returned (.tuple #[.string (iG s n p).1,.int .i64 (cO (iG s n p).2)])/\f=w:=by
 cases p with
 |none=>exact CF s n w
 |some q=>
  cases h:tF s q n with
  |none=>rw[cX h];exact cS s q n w b (c q rfl) a h
  |some d=>
   obtain⟨t,r⟩:=d;rw[aW h];exact oN s q n t r w b a h
theorem dU {s:ByteArray} {n:Nat} {p:Option Nat} {q:Nat} (h:(cU s n p).2=some q):q<=s.size:=by
 cases p with
 |none=>exact absurd h (by simp[cU])
 |some p=>
  rw[fP]at h;split at h
  ·simp at h;omega
  ·simp at h
theorem BJ {s:ByteArray} {n:Nat} {p:Option Nat} {q:Nat} (h:(iG s n p).2=some q):q<=s.size:=by
 cases p with
 |none=>exact absurd h (by simp[iG])
 |some p=>
  cases hh:tF s p n with
  |none=>rw[cX hh]at h;simp at h
  |some a=>
   obtain⟨t,r⟩:=a;rw[aW hh]at h;simp at h;have:=(IV hh).1;omega
def tK (s:ByteArray) (w:World) (e:Ending) (c:World):Prop:=
 ∃b a,e=.returned (.tuple #[.agg #[.int .i64 (nE s).1.kind,.string (nE s).1.n9,.string (nE s).1.metric,.int .i64 (nE s).1.num,.slice b (nE s).1.smps.length a],.bool (nE s).2])/\tD c w.heap.size b (nE s).1.smps/\Below w.heap.size w c
structure XV where
 x:jD
 a:Option Addr
 c:Nat
def rV (b:List XV):List Value:=b.flatMap fun y=>[.slice y.a y.x.labs.length y.c,.int .i64 y.x.bits]
theorem TL (a b:List XV):rV (a++b)=rV a++rV b:=by simp[rV]
def rv (w:World) (b:Nat) (T:Nat->Nat) (d:List XV):Prop:=∀i (h:i<d.length),iN w b T (i+1) d[i].a d[i].x.labs/\d[i].x.labs.length<=d[i].c
def sX (w:World) (b:Nat) (e:TypeId) (v:Value) (n:Nat) (a:List jD):Prop:=
 ∃T ys,w.ownsRow b e 2 v n (rV ys)/\ys.map (·.x)=a/\(∀g,v.ownBlock=some g->T g=0)/\rv w b T ys
theorem bd {w:World} {B:Nat} {e:TypeId} {m:Nat} {a:Option Addr} {n c:Nat} {i:List Value} (h:w.ownsRow B e m (.slice a n c) n i):n<=c:=by
 rcases h.2 with⟨_,j⟩|⟨g,b,d,e,_,_,f,_⟩
 ·omega
 ·cases e;exact f
theorem sX.nil (w:World) (b:Nat) (e:TypeId):sX w b e (.slice none 0 0) 0 []:=
 ⟨fun _=>0,[],World.ownsRow_nil _ _ _ _,rfl,fun _ _=>rfl,fun i h=>absurd h (by simp)⟩
theorem sX.row {w:World} {b:Nat} {e:TypeId} {v:Value} {n:Nat} {i:List jD} (h:sX w b e v n i):∃a c,v=.slice a n c:=by
 obtain⟨_,_,h,_⟩:=h;rcases h.2 with⟨rfl,rfl⟩|⟨g,d,f,rfl,_⟩
 ·exact⟨none,0,rfl⟩
 ·exact⟨_,_,rfl⟩
theorem sX.snoc {wr w4 w6:World} {b c f k:Nat} {e:TypeId} {v:Value} {T:Nat->Nat} {ys:List XV} {G:List jD} {x:jD} {q:Option Addr} {r:Nat}
 (p:w6.ownsRow b e 2 (.slice (some ⟨c,0,none⟩) (k+1) f) (k+1) (rV ys++[.slice q x.labs.length r,.int .i64 x.bits]))
 (D:ys.map (·.x)=G) (C:ys.length=k) (F:∀g,v.ownBlock=some g->T g=0) (E:rv wr b T ys) (O:b<=wr.heap.size)
 (A:∀g,g<wr.heap.size->b<=g->v.ownBlock≠some g->w6.heap[g]?=wr.heap[g]?) (B:∀g,wr.heap.size<=g->g<w4.heap.size->w6.heap[g]?=w4.heap[g]?)
 (H:gC w4 wr.heap.size q x.labs) (w:x.labs.length<=r)
 (y:(v.ownBlock=some c/\c<wr.heap.size)\/w4.heap.size<=c) (I:wr.heap.size<=w4.heap.size):sX w6 b e (.slice (some ⟨c,0,none⟩) (k+1) f) (k+1) (G++[x]):=by
 refine⟨fun g=>if g<wr.heap.size then T g else if g<w4.heap.size then k+1 else 0,ys++[⟨x,q,r⟩],?_,?_,?_,?_⟩
 ·rw[TL];exact p
 ·rw[Vd,D];rfl
 ·intro g l;simp only[Value.ownBlock,Pa]at l;subst l;rcases y with⟨h,M⟩|h
  ·simp only[Qa M];exact F _ h
  ·simp only[Oa (show ¬c<wr.heap.size by omega),Oa (show ¬c<w4.heap.size by omega)]
 ·intro i z;by_cases d:i<ys.length
  ·rw[Be d];exact⟨(E i d).1.keep fun g l u K=>⟨A g l u (fun e=>by have:=F g e;omega),by simp only[Qa l];exact K⟩,(E i d).2⟩
  ·have e:i=k:=by simp at z;omega
   subst e;rw[Pe (by omega)];simp only[C,Nat.sub_self,Df];refine⟨?_,w⟩;rcases H with h|⟨g,o,s,N,rfl,J,a,t⟩
   ·exact Ca h
   ·have n:=aA a;have m:=B g (by omega) n;have L:∀j,w6.cell? ⟨g,j,none⟩=w4.cell? ⟨g,j,none⟩:=fun j=>World.cell?_of_block m;exact Ja ⟨g,o,s,N,rfl,by omega,by simp only[Oa (show ¬g<wr.heap.size by omega),Qa n],m.trans a,fun i z=>by simp only[L];exact t i z⟩
theorem sX.own {w:World} {b:Nat} {e:TypeId} {a:Option Addr} {n s:Nat} {q:List jD} (h:sX w b e (.slice a n s) n q) (J:q.length=n):tD w b a q:=by
 obtain⟨T,m,D,y,E,z⟩:=h;have L:m.length=n:=by rw[<-J,<-y,Rb]
 rcases D.2 with⟨_,N⟩|⟨g,v,o,t,F,B,_,_,K,u⟩
 ·exact Ca (Qb.1 (by omega))
 ·simp only[Value.slice.injEq]at t;have G:T g=0:=E g (by rw[t.1];rfl);have H:∀(l:List XV) i (p:i<l.length),(rV l)[i*2]?=some (.slice l[i].a l[i].x.labs.length l[i].c)/\(rV l)[i*2+1]?=some (.int .i64 l[i].x.bits):=by
   intro l;unfold rV;induction l with
   |nil=>intro i p;exact absurd p (by simp)
   |cons x r M=>
    intro i p;cases i with
    |zero=>simp
    |succ i=>
     have:=M i (by simpa using p);simp only[Sc,Xc,Nb,Ic];refine⟨?_,?_⟩
     ·rw[show(i+1)*2=i*2+1+1 by omega,Ia,Ia];exact this.1
     ·rw[show(i+1)*2+1=i*2+1+1+1 by omega,Ia,Ia];exact this.2
  have A:∀j,j<n*2->w.cell? ⟨g,j,none⟩=(rV m)[j]?:=fun j I=>by
   rw[eA.cell (show eA w g o e from B) j,<-Zd,<-u,Mb I]
  refine Ja ⟨g,0,o,e,T,t.1,F,B,G,fun i p=>?_⟩;have k:i<m.length:=by omega
  have C:q[i]=m[i].x:=by simp only[<-y,List.getElem_map]
  obtain⟨d,f⟩:=H m i k;rw[C];refine⟨m[i].a,m[i].c,?_,?_,(z i k).1,(z i k).2⟩
  ·rw[Wa,A _ (by omega)];exact d
  ·rw[Wa,A _ (by omega)];exact f
def kB (w:World) (B P N:Nat):Prop:=∃(a:Option Addr) (n b k:Nat) (c:Int),eA w B #[.slice a n b,.int .i64 (k:Nat),.int .i64 c] 60/\k<=N/\(0<=c/\c<2147483648)/\n<=1048576/\gO w B P a n/\B<P/\P<=w.heap.size
theorem kB.below {w e:World} {B P N:Nat} (h:kB w B P N) (c:Below P w e):kB e B P N:=by
 obtain⟨a,n,b,k,o,f,g,i,j,l,d,m⟩:=h;exact⟨a,n,b,k,o,(c.block B d).trans f,g,i,j,l.below c,d,Ra m c.size⟩
theorem kB.up {w:World} {B P N:Nat} (h:kB w B P N):B<P/\P<=w.heap.size:=by
 obtain⟨a,n,b,k,l,e,f,g,i,j,c,d⟩:=h;exact⟨c,d⟩
theorem kB.later {w a:World} {B P N:Nat} (h:kB w B P N) (b:Below w.heap.size w a):kB a B P N:=h.below (b.mono h.up.2)
theorem kB.mono {w:World} {B P N M:Nat} (h:kB w B P N) (f:N<=M):kB w B P M:=by
 obtain⟨a,n,b,k,g,c,d,e⟩:=h;exact⟨a,n,b,k,g,c,Ra d f,e⟩
theorem dB.drewC {B:Nat} {w a:World} (h:dB B w a):dB B w a.drew:=⟨h.os,h.tape,h.output,h.size,h.block⟩
theorem kB.drew {w:World} {B P N:Nat} (h:kB w B P N):kB w.drew B P N:=h
theorem tw (B P N:Nat) (w:World) (a:Option Addr) (n c k:Nat) (g:Int) (d:eA w B #[.slice a n c,.int .i64 (k:Nat),.int .i64 g] 60) (m:k<=N) (f:0<=g) (i:g<2147483648) (y:n<=1048576) (l:gO w B P a n) (j:B<P/\P<=w.heap.size) (u:N<=100000000) (r:200+40*n<k+1):
 Calls prog 61 #[.pointer (some ⟨B,0,none⟩)] w fun e o=>∃v:Nat,v<256/\e=.returned (.int .i64 (v:Nat))/\kB o B P (N+1)/\dB B w o:=by
 have p:Hid (eA w B #[.slice a n c,.int .i64 (k:Nat),.int .i64 g] 60):=d;have z:=eA.cell d 0;have A:=eA.cell d 1;have C:=eA.cell d 2;simp only[Nc,Cc,Ia]at z A C;have b:=eA.free d 1;clear d;have h:Hid (gO w B P a n/\B<P/\P<=w.heap.size):=⟨l,j⟩
 clear j;have x:(k:Int)<=100000000:=by omega
 have q:Hid (k<=N):=m;clear m u;clear l;have s:(200+40*(n:Int))<(k:Int)+1:=by omega
 clear r;go_enter func61,ntmps61;go_wp2;go_region
 go_wp2;have t:((k:Int)+1)=((k+1:Nat):Int):=by omega
 go_ret;refine⟨0,by omega,rfl,?_,?_⟩
 ·refine kB.drew ⟨a,n,c,k+1,g,?_,Nat.succ_le_succ q.out,⟨f,i⟩,y,h.out.1.but h.out.2.2 ((dB.refl _ _).setCell _ _),h.out.2.1,by simpa using h.out.2.2⟩;have:=eA.set p.out 1 (.int .i64 ((k:Int)+1));rw[t]at this |-
  exact this
 ·exact dB.drewC ((dB.refl _ _).setCell _ _)
theorem ua (B P N:Nat) (w:World) (a:Option Addr) (n d k:Nat) (g:Int) (f:eA w B #[.slice a n d,.int .i64 (k:Nat),.int .i64 g] 60) (l:k<=N) (m:0<=g) (C:g<2147483648) (A:n<=1048576) (j:gO w B P a n) (i:B<P/\P<=w.heap.size) (y:N<=100000000) (r:¬200+40*n<k+1) (t:n<k+1):
 Calls prog 61 #[.pointer (some ⟨B,0,none⟩)] w fun e o=>∃v:Nat,v<256/\e=.returned (.int .i64 (v:Nat))/\kB o B P (N+1)/\dB B w o:=by
 have p:Hid (eA w B #[.slice a n d,.int .i64 (k:Nat),.int .i64 g] 60):=f;have D:=eA.cell f 0;have E:=eA.cell f 1;have F:=eA.cell f 2;simp only[Nc,Cc,Ia]at D E F;have b:=eA.free f 1;have c:=eA.free f 2;clear f;have h:Hid (gO w B P a n/\B<P/\P<=w.heap.size):=⟨j,i⟩
 clear i;have z:(k:Int)<=100000000:=by omega
 have q:Hid (k<=N):=l;clear l y;clear j;have s:¬((200+40*(n:Int))<(k:Int)+1):=by omega
 have u:((n:Int))<(k:Int)+1:=by omega
 clear r t;go_enter func61,ntmps61;go_wp2;go_region
 go_wp2;go_region
 go_wp2;have x:((k:Int)+1)=((k+1:Nat):Int):=by omega
 refine bodyPost_ret (v:=.int .i64 ((g*1103515245+12345) % 2147483648 / 65536 % 256)) (by simp[results,results61,go_sem]) rfl ?_;generalize g*1103515245+12345=X;refine⟨(X % 2147483648 / 65536 % 256).toNat,by omega,by rw[Vg (by omega)],?_,?_⟩
 ·refine kB.drew (kB.drew ⟨a,n,d,k+1,X % 2147483648,?_,Nat.succ_le_succ q.out,⟨by omega,by omega⟩,A,h.out.1.but h.out.2.2 (((dB.refl _ _).setCell _ _).setCell _ _),h.out.2.1,by simpa using h.out.2.2⟩);have:=eA.set (eA.set p.out 1 (.int .i64 ((k:Int)+1))) 2 (.int .i64 (X % 2147483648));rw[x]at this |-
  exact this
 ·exact dB.drewC (dB.drewC (((dB.refl _ _).setCell _ _).setCell _ _))
theorem ub (B P N:Nat) (w:World) (a:Option Addr) (n f k:Nat) (h:Int) (g:eA w B #[.slice a n f,.int .i64 (k:Nat),.int .i64 h] 60) (p:k<=N) (q:0<=h) (H:h<2147483648) (F:n<=1048576) (l:gO w B P a n) (j:B<P/\P<=w.heap.size) (A:N<=100000000) (x:¬n<k+1):
 Calls prog 61 #[.pointer (some ⟨B,0,none⟩)] w fun e r=>∃v:Nat,v<256/\e=.returned (.int .i64 (v:Nat))/\kB r B P (N+1)/\dB B w r:=by
 have s:Hid (eA w B #[.slice a n f,.int .i64 (k:Nat),.int .i64 h] 60):=g;have I:=eA.cell g 0;have J:=eA.cell g 1;have K:=eA.cell g 2;simp only[Nc,Cc,Ia]at I J K;have c:=eA.free g 1;have d:=eA.free g 2;clear g;have i:Hid (gO w B P a n/\B<P/\P<=w.heap.size):=⟨l,j⟩
 clear j;have D:(k:Int)<=100000000:=by omega
 have t:Hid (k<=N):=p;clear p A;rcases l with L|⟨b,o,rfl,G,E,m⟩
 ·omega
 obtain⟨v,M,C⟩:=m k (by omega);clear m;have u:¬((200+40*(n:Int))<(k:Int)+1):=by omega
 have y:¬((n:Int)<(k:Int)+1):=by omega
 clear x;go_enter func61,ntmps61;go_wp2;go_region
 go_wp2;go_region
 go_wp2;go_region
 go_wp2;go_region
 go_wp2;have z:((k:Int)+1)=((k+1:Nat):Int):=by omega
 refine bodyPost_ret (v:=.int .i64 (v:Nat)) (by simp[results,results61,go_sem]) rfl ?_;generalize h*31+v+7=X;refine⟨v,by omega,rfl,?_,?_⟩
 ·refine kB.drew (kB.drew (kB.drew (kB.drew ⟨some ⟨b,o,none⟩,n,f,k+1,X % 2147483648,?_,Nat.succ_le_succ t.out,⟨by omega,by omega⟩,F,i.out.1.but i.out.2.2 (((dB.refl _ _).setCell _ _).setCell _ _),i.out.2.1,by simpa using i.out.2.2⟩)));have:=eA.set (eA.set s.out 1 (.int .i64 ((k:Int)+1))) 2 (.int .i64 (X % 2147483648));rw[z]at this |-
  exact this
 ·exact dB.drewC (dB.drewC (dB.drewC (dB.drewC (((dB.refl _ _).setCell _ _).setCell _ _))))
theorem XE (B P N:Nat) (w:World) (h:kB w B P N) (g:N<=100000000):
 Calls prog 61 #[.pointer (some ⟨B,0,none⟩)] w fun e r=>∃v:Nat,v<256/\e=.returned (.int .i64 (v:Nat))/\kB r B P (N+1)/\dB B w r:=by
 obtain⟨a,n,b,k,o,f,l,⟨c,d⟩,m,j,i⟩:=h;by_cases p:200+40*n<k+1
 ·exact tw B P N w a n b k o f l c d m j i g p
 ·by_cases q:n<k+1
  ·exact ua B P N w a n b k o f l c d m j i g p q
  ·exact ub B P N w a n b k o f l c d m j i g q
theorem cB (B P N n:Nat) (w:World) (h:kB w B P N) (i:N<=10000000) (k:2<=n) (m:n<=256):
 Calls prog 34 #[.pointer (some ⟨B,0,none⟩),.int .i64 (n:Nat)] w fun e c=>∃v:Nat,v<n/\e=.returned (.int .i64 (v:Nat))/\kB c B P (N+1)/\dB B w c:=by
 have g:Hid (Calls prog 61 #[.pointer (some ⟨B,0,none⟩)] w fun e c=>∃v:Nat,v<256/\e=.returned (.int .i64 (v:Nat))/\kB c B P (N+1)/\dB B w c):=XE B P N w h (by omega);clear h i;have j:¬((n:Int)<=1):=by omega
 have l:(n:Int)<=256:=by omega
 go_enter func34,ntmps34;go_wp2_with fail;refine g.out.mono ?_;rintro e d ⟨v,o,rfl,b,a⟩;have f:Hid (kB d B P (N+1)/\dB B w d):=⟨b,a⟩
 clear b a;go_wp2;go_ret;exact⟨v % n,Nat.mod_lt _ (by omega),rfl,f.out⟩
theorem SP (B n:Nat) (w:World) (c:n<=1):
 Calls prog 34 #[.pointer (some ⟨B,0,none⟩),.int .i64 (n:Nat)] w fun e a=>e=.returned (.int .i64 0)/\a=w:=by
 have b:(n:Int)<=1:=by omega
 go_enter func34,ntmps34;go_wp2;go_ret;exact⟨rfl,rfl⟩
def vK (w:World) (g m k:Nat):Prop:=∃(a:Array Value) (t:TypeId),eA w g a t/\∀j,j<m->∃s:ByteArray,a[j]?=some (.string s)/\s.size<=k
theorem vK.but {w d:World} {g m k B:Nat} (h:vK w g m k) (f:dB B w d) (b:g≠B):vK d g m k:=by
 obtain⟨a,t,c,e⟩:=h;exact⟨a,t,(f.block g (aA c) b).trans c,e⟩
theorem vK.later {w b:World} {g m k:Nat} (h:vK w g m k) (e:Below w.heap.size w b):vK b g m k:=by
 obtain⟨a,t,c,d⟩:=h;exact⟨a,t,c.later e,d⟩
theorem vK.at {w:World} {g m k:Nat} (h:vK w g m k) {j:Nat} (d:j<m):∃s:ByteArray,w.cell? ⟨g,j,none⟩=some (.string s)/\s.size<=k:=by
 obtain⟨a,t,b,c⟩:=h;obtain⟨s,e,f⟩:=c j d;exact⟨s,by rw[b.cell];exact e,f⟩
theorem pL (w:World) (L:List ByteArray) (k:Nat) (t:TypeId) (m:Nat) (b:m=L.length) (h:(L.all fun s=>decide (s.size<=k))=true):vK (w.alloc (.cells (L.map .string).toArray t)) w.heap.size m k:=by
 subst b;refine⟨_,t,heap_alloc_new _ _,fun j a=>⟨L[j],by simp[a],?_⟩⟩;have:=Wd.1 h L[j] (Xa a);simpa using this
theorem kB.lt {w:World} {B P N:Nat} (h:kB w B P N):B<w.heap.size:=Ib h.up.1 h.up.2
theorem dB.later {B:Nat} {w b a:World} (h:dB B w b) (c:Below b.heap.size b a):dB B w a:=h.trans (dB.of c)
theorem ND (B P N:Nat) (w:World) (h:kB w B P N) (G:N<=1000000):
 Calls prog 106 #[.pointer (some ⟨B,0,none⟩)] w fun e x=>∃s:ByteArray,s.size<=16/\e=.returned (.string s)/\kB x B P (N+10)/\dB B w x:=by
 have u:Hid (kB w B P N):=h;have p:=h.lt;clear h;go_enter func106,ntmps106;go_wp2_with fail;have a:Hid (vK (w.alloc (.cells ([⟨#[97]⟩,⟨#[98]⟩,⟨#[119,101,98]⟩,⟨#[120,32,121]⟩,⟨#[195,169]⟩,⟨#[226,130,172]⟩,⟨#[240,159,152,128]⟩,⟨#[49]⟩,⟨#[45]⟩,⟨#[122]⟩].map Value.string).toArray 9)) w.heap.size 10 4):=pL w _ 4 _ 10 rfl (by decide);simp only[Lb,Qc]at a;have f:=u.out.later (cA w (.cells #[.string ⟨#[97]⟩,.string ⟨#[98]⟩,.string ⟨#[119,101,98]⟩,.string ⟨#[120,32,121]⟩,.string ⟨#[195,169]⟩,.string ⟨#[226,130,172]⟩,.string ⟨#[240,159,152,128]⟩,.string ⟨#[49]⟩,.string ⟨#[45]⟩,.string ⟨#[122]⟩] 9));refine(cB B P N 4 _ f (by omega) (by omega) (by omega)).mono ?_;rintro e q ⟨n,I,rfl,j,c⟩;have y:Hid (kB q B P (N+1)/\dB B w q/\vK q w.heap.size 10 4):=⟨j,(dB.of (cA _ _)).trans c,a.out.but c (by omega)⟩
 clear j c f a u;generalize C:w.heap.size=g at *;have A:Hid (g≠B):=by show g≠B;omega
 clear C p;go_wp2;go_loopw [4,6] (fun s i wr=>∃(k:Nat) (t:ByteArray),k<=n/\i=.int .i64 (k:Nat)/\s=.string t/\t.size<=4*k/\Hid (kB wr B P (N+1+k)/\dB B w wr/\vK wr g 10 4)) (fun _ i _=>n-(intOf i).toNat)
 case atStart=>exact⟨0,⟨#[]⟩,by omega,rfl,rfl,by decide,y.out⟩
 case round=>
  obtain⟨k,t,H,rfl,rfl,K,a⟩:=hrel;by_cases D:k<n
  ·have m:(k:Int)<(n:Int):=by omega
   go_wp2_with fail;refine(cB B P (N+1+k) 10 _ a.out.1 (by omega) (by omega) (by omega)).mono ?_;rintro e r ⟨v,E,rfl,l,d⟩;have b:=a.out.2.2.but d A.out;obtain⟨s,o,J⟩:=b.at E;have z:Hid (kB r B P (N+1+(k+1))/\dB B w r/\vK r g 10 4):=⟨l,a.out.2.1.trans d,b⟩
   clear l d b;have F:(v:Int)<10:=by omega
   go_wp2;exact⟨⟨k+1,t++s,by omega,by go_num,rfl,by rw[Ga];omega,z.out⟩,by simp[intOf];omega⟩
  ·have m:¬((k:Int)<(n:Int)):=by omega
   go_wp2;go_ret;exact⟨t,by omega,rfl,a.out.1.mono (by omega),a.out.2.1⟩
def uR (a:List mA):Prop:=∀l∈a,l.name.size<=65/\l.value.size<=258
theorem EG {b:List mA} {l:mA} (h:uR b) (c:l.name.size<=65/\l.value.size<=258):uR (b++[l]):=fun x a=>by
 rw[Oc,Tc]at a;rcases a with a|rfl
 ·exact h x a
 ·exact c
theorem qj {b:List mA} {l:mA} (h:uR b) (c:l.name.size<=65/\l.value.size<=258):uR (l::b):=fun x a=>by
 rw[Ab]at a;rcases a with rfl|a
 ·exact c
 ·exact h x a
theorem dB.below_to {B:Nat} {w d e:World} (h:dB B w d) (a:Below w.heap.size d e):dB B w e:=
 ⟨a.os.trans h.os,a.tape.trans h.tape,a.output.trans h.output,Ra h.size a.size,fun k c b=>(a.block k c).trans (h.block k c b)⟩
theorem kh {w:World} {a g:Nat} {e:TypeId} {x y:Value} (b:a<=g) (h:eA w g #[x,y] e):w.ownsRow a e 2 (.slice (some ⟨g,0,none⟩) 1 1) 1 [x,y]:=
 ⟨by simp,.inr ⟨g,1,#[x,y],rfl,b,h,Ka _,by simp[maxLen],by simp,by simp⟩⟩
theorem vK.below {w b:World} {g m k P:Nat} (h:vK w g m k) (e:Below P w b) (f:g<P):vK b g m k:=by
 obtain⟨a,t,c,d⟩:=h;exact⟨a,t,(e.block g f).trans c,d⟩
theorem bg {w:World} {B:Nat} {e:TypeId} {g c:Nat} {b:List mA} (h:w.ownsRow B e 2 (.slice (some ⟨g,0,none⟩) b.length c) b.length (aB b)):∀j u,(aB b)[j]?=some u->w.cell? ((⟨g,0,none⟩:Addr).add j)=some u:=fun j u d=>by
 have a:(⟨g,0,none⟩:Addr).add j=⟨g,j,none⟩:=by unfold Addr.add;split<;>simp_all
 rw[a];exact(cG h).2.2.2 j u d
def aDd (w b:World) (B P N:Nat) (e:Ending):Prop:=∃(g c:Nat) (a:List mA),e=.returned (.slice (some ⟨g,0,none⟩) a.length c)/\1<=a.length/\a.length<=7/\uR a/\b.ownsRow w.heap.size 156 2 (.slice (some ⟨g,0,none⟩) a.length c) a.length (aB a)/\kB b B P N/\dB B w b
theorem pV (B P N:Nat) (w:World) (h:kB w B P N) (hN:N<=100000):
 Calls prog 64 #[.pointer (some ⟨B,0,none⟩)] w fun e w'=>aDd w w' B P (N+100) e:=by
 obtain⟨ti,n0,k0,l0,m0⟩:=vV;have HI:Hid (prog.info? 156=some ti):=n0;clear n0;have HC:Hid (kB w B P N):=h;have hlt:=h.lt;have hPw:=h.up.2;clear h;go_enter func64,ntmps64;go_wp2_with fail;have L:Hid (vK (w.alloc (.cells ([⟨#[106,111,98]⟩,⟨#[104,111,115,116]⟩,⟨#[95,120]⟩,⟨#[90,111,110,101]⟩,⟨#[97,49]⟩,⟨#[108,101]⟩].map Value.string).toArray 9)) w.heap.size 6 4):=pL w _ 4 _ 6 rfl (by decide);simp only[Lb,Qc]at L;generalize Q:w.alloc (.cells #[.string ⟨#[106,111,98]⟩,.string ⟨#[104,111,115,116]⟩,.string ⟨#[95,120]⟩,.string ⟨#[90,111,110,101]⟩,.string ⟨#[97,49]⟩,.string ⟨#[108,101]⟩] 9)=G at *;have o0:G.heap.size=w.heap.size+1:=by rw[<-Q];simp
 have K:Hid (Below w.heap.size w G):=by show Below _ _ _;rw[<-Q];exact cA _ _
 clear Q;have F:Hid (vK (G.alloc (.cells ([⟨#[117,112]⟩,⟨#[99,112,117]⟩,⟨#[109,101,109]⟩,⟨#[117,112]⟩].map Value.string).toArray 9)) G.heap.size 4 3):=pL G _ 3 _ 4 rfl (by decide);simp only[Lb,Qc]at F;generalize R:G.alloc (.cells #[.string ⟨#[117,112]⟩,.string ⟨#[99,112,117]⟩,.string ⟨#[109,101,109]⟩,.string ⟨#[117,112]⟩] 9)=W1 at *;have hz1:W1.heap.size=w.heap.size+2:=by rw[<-R];simp;omega
 have D:Hid (Below G.heap.size G W1):=by show Below _ _ _;rw[<-R];exact cA _ _
 clear R;have X:=(HC.out.later K.out).later D.out;refine(cB B P N 4 _ X (by omega) (by omega) (by omega)).mono ?_;rintro e w1 ⟨v,hv,rfl,a0,u⟩;rw[o0]at F;have W:=F.out.but u (by omega);obtain⟨mv,hcell,hms⟩:=W.at hv;have H1:Hid (kB w1 B P (N+1)/\dB B w w1/\vK w1 w.heap.size 6 4):=⟨a0,((dB.of K.out).trans (dB.of D.out)).trans u,(L.out.later D.out).but u (by omega)⟩
 have hz2:w.heap.size+2<=w1.heap.size:=by have:=u.size;omega
 clear a0 u X L F W K D HC o0 hz1 G W1;have hv':(v:Int)<4:=by omega
 go_wp2;go_loopw [5,7,8,20] (fun out _ _ i wr=>∃(k:Nat) (a:List mA) (g C:Nat),k<=6/\i=.int .i64 (k:Nat)/\out=.slice (some ⟨g,0,none⟩) a.length C/\1<=a.length/\a.length<=k+1/\Hid (uR a/\kB wr B P (N+1+13*k)/\dB B w wr/\vK wr w.heap.size 6 4)/\Hid (wr.ownsRow (w.heap.size+1) 156 2 (.slice (some ⟨g,0,none⟩) a.length C) a.length (aB a))/\w.heap.size+2<=wr.heap.size) (fun _ _ _ i _=>6-(intOf i).toNat)
 case atStart=>
  refine⟨0,[⟨⟨#[95,95,110,97,109,101,95,95]⟩,mv⟩],w1.heap.size,1,by omega,rfl,rfl,by simp,by simp,⟨?_,H1.out.1.later (cA _ _),H1.out.2.1.later (cA _ _),H1.out.2.2.later (cA _ _)⟩,kh (by omega) (heap_alloc_new _ _),by simp;omega⟩;intro l hl;rw[Tc]at hl;subst hl;exact⟨by show(8:Nat)<=65;omega,by simp only;omega⟩
 case round=>
  clear H1;obtain⟨k,a,g,C,hk,rfl,rfl,Y,ha2,E,r,hsz⟩:=hrel;by_cases g0:k<6
  ·have hk6:(k:Int)<6:=by omega
   obtain⟨m,hnc,hns⟩:=E.out.2.2.2.at g0;go_wp2_with fail;refine(cB B P (N+1+13*k) 3 _ E.out.2.1 (by omega) (by omega) (by omega)).mono ?_;rintro e U ⟨v2,hv2,rfl,b0,x⟩;have H:Hid (uR a/\kB U B P (N+1+13*k+1)/\dB B w U/\vK U w.heap.size 6 4):=⟨E.out.1,b0,E.out.2.2.1.trans x,E.out.2.2.2.but x (by omega)⟩
   have f:Hid (U.ownsRow (w.heap.size+1) 156 2 (.slice (some ⟨g,0,none⟩) a.length C) a.length (aB a)):=uE r.out x (by omega);have j0:w.heap.size+2<=U.heap.size:=by have:=x.size;omega
   clear b0 x E r hnc;by_cases h0:v2=0
   ·have M:((v2:Nat):Int)=0:=by omega
    rw[M];clear h0 M hv2;go_wp2_with fail;refine(ND B P _ U H.out.2.1 (by omega)).mono ?_;rintro e J ⟨n,hva,rfl,c0,y⟩;have V:Hid (uR a/\kB J B P (N+1+13*k+11)/\dB B w J/\vK J w.heap.size 6 4):=⟨H.out.1,c0,H.out.2.2.1.trans y,H.out.2.2.2.but y (by omega)⟩
    have s:Hid (J.ownsRow (w.heap.size+1) 156 2 (.slice (some ⟨g,0,none⟩) a.length C) a.length (aB a)):=uE f.out y (by omega);have hsz3:w.heap.size+2<=J.heap.size:=by have:=y.size;omega
    clear c0 y H f;go_wp2_with fail;refine(cB B P (N+1+13*k+11) 2 _ (V.out.2.1.later (cA _ _)) (by omega) (by omega) (by omega)).mono ?_;rintro e o ⟨v4,hv4,rfl,d0,p⟩;have S:eA (J.alloc (.cells #[.string m,.string n] 156)) J.heap.size #[.string m,.string n] 156:=heap_alloc_new _ _;have z:eA o J.heap.size #[.string m,.string n] 156:=(p.block _ (aA S) (by omega)).trans S;have x0:=eA.cell z 0;have x1:=eA.cell z 1;simp only[Nc,Cc,Ia]at x0 x1;have I:Hid (uR a/\kB o B P (N+1+13*k+12)/\dB B w o/\vK o w.heap.size 6 4):=⟨V.out.1,d0,(V.out.2.2.1.later (cA _ _)).trans p,(V.out.2.2.2.later (cA _ _)).but p (by omega)⟩
    have j:Hid (o.ownsRow (w.heap.size+1) 156 2 (.slice (some ⟨g,0,none⟩) a.length C) a.length (aB a)):=uE (vA s.out (cA _ _)) p (by omega);have hsz4:w.heap.size+2<=o.heap.size:=by have:=p.size;simp at this;omega
    clear d0 p V s S z;have i0:m.size<=65/\n.size<=258:=⟨by omega,by omega⟩
    by_cases h4:v4=0
    ·have O:((v4:Nat):Int)=0:=by omega
     rw[O];clear h4 O hv4;go_wp2_with(at_builtin;refine wpList_append_lies _ rfl _ _ _ rfl (w.heap.size+1) 156 ti _ 2 32 underlying123 HI.out k0 l0 m0 rfl (by omega) (.slice (some ⟨g,0,none⟩) a.length C) a.length (aB a) rfl (by exact vA j.out (cA _ _)) ⟨o.heap.size,0,none⟩ 1 1 [.string m,.string n] rfl rfl (by exact World.news_of_block (cs:=#[.string m,.string n]) (heap_alloc_new _ _)) (by simp[Value.oneCell']) (by omega) (by simp[maxLen];omega) (by omega) (by simp;omega) (o.heap.size+1) (by simp) ?_;intro g5 t w5 b d Z e0);have c:Below (w.heap.size+1) o w5:=(((cA o _).mono (by omega)).grown d (by simp;omega) (fun q hq=>uF j.out q hq))
     have A:(a++[(⟨m,n⟩:mA)]).length=a.length+1:=by simp
     have T:aB a++[.string m,.string n]=aB (a++[⟨m,n⟩]):=by rw[eD];rfl
     rw[T,<-A]at b;refine⟨⟨k+1,a++[(⟨m,n⟩:mA)],g5,t,by omega,by go_num,by rw[A],by omega,by omega,⟨EG I.out.1 i0,(I.out.2.1.below (c.mono (by omega))).mono (by omega),I.out.2.2.1.below_to (c.mono (by omega)),I.out.2.2.2.below c (by omega)⟩,b,by have:=c.size;omega⟩,by simp[intOf];omega⟩
    ·have O:¬(((v4:Nat):Int)=0):=by omega
     go_wp2_with(at_builtin;refine wpList_append_lies _ rfl _ _ _ rfl (w.heap.size+1) 156 ti _ 2 32 underlying123 HI.out k0 l0 m0 rfl (by omega) (.slice (some ⟨o.heap.size,0,none⟩) 1 1) 1 [.string m,.string n] rfl (by exact kh (by omega) (heap_alloc_new _ _)) ⟨g,0,none⟩ a.length C (aB a) rfl (lF a) (by exact bg (vA j.out (cA _ _))) (by exact uP a) (by omega) (by simp[maxLen];omega) (by omega) (by simp;omega) (o.heap.size+1) (by simp) ?_;intro g5 t w5 b d Z e0);have c:Below (w.heap.size+1) o w5:=(((cA o _).mono (by omega)).grown d (by simp;omega) (fun q hq=>by simp[Value.ownBlock]at hq;omega))
     have A:((⟨m,n⟩:mA):: a).length=1+a.length:=by simp;omega
     have T:[.string m,.string n]++aB a=aB (⟨m,n⟩:: a):=rfl;rw[T,<-A]at b;refine⟨⟨k+1,(⟨m,n⟩:mA):: a,g5,t,by omega,by go_num,by rw[A],by omega,by omega,⟨qj I.out.1 i0,(I.out.2.1.below (c.mono (by omega))).mono (by omega),I.out.2.2.1.below_to (c.mono (by omega)),I.out.2.2.2.below c (by omega)⟩,b,by have:=c.size;omega⟩,by simp[intOf];omega⟩
   ·have M:¬(((v2:Nat):Int)=0):=by omega
    go_wp2;exact⟨⟨k+1,a,g,C,by omega,by go_num,rfl,Y,by omega,⟨H.out.1,H.out.2.1.mono (by omega),H.out.2.2⟩,f.out,j0⟩,by simp[intOf];omega⟩
  ·have hk6:¬((k:Int)<6):=by omega
   go_wp2;go_ret;exact⟨g,C,a,rfl,Y,by omega,E.out.1,kX r.out (by omega),E.out.2.1.mono (by omega),E.out.2.2.1⟩
section
open Go.Lib
theorem qa {w:World} {B:Nat} {e:TypeId} {size:Nat} {v:Value} {n:Nat} {d:List Value} (h:w.ownsRow B e size v n d):∃a b,v=.slice a n b:=by
 rcases h.2 with⟨rfl,rfl⟩|⟨g,b,c,rfl,_⟩
 ·exact⟨_,_,rfl⟩
 ·exact⟨_,_,rfl⟩
theorem qY (a:List Int):(strOfNums a).size=a.length:=by
 rw[pH];simp[strOfNums]
theorem NV (s:ByteArray):∃a:List Int,strCells s=a.map (Value.int .u8)/\a.length=s.size:=by
 refine⟨s.data.toList.map fun b=>(b.toNat:Int),?_,by rw[Rb,pH]⟩;simp[strCells]
theorem jJ (s:ByteArray) (m n:Nat) (w:World) (T:s.size<=m) (L:m<=4) (S:n<=70000):
 Calls prog 100 #[.string s,.int .i64 (n:Nat)] w fun e P=>∃t:ByteArray,t.size<=n*m/\e=.returned (.string t)/\Below w.heap.size w P:=by
 obtain⟨D,j,x,y,z⟩:=IQ;have E:Hid (prog.info? 5=some D):=j;clear j;obtain⟨u,o,l⟩:=NV s;have B:Hid (strCells s=u.map (Value.int .u8)/\u.length=s.size):=⟨o,l⟩
 clear o l;go_enter func100,ntmps100;go_wp2;go_loopw [5,6] (fun A i wr=>∃(k:Nat) (b:List Int) (p:Option Addr) (r:Nat),k<=n/\i=.int .i64 (k:Nat)/\A=.slice p b.length r/\b.length<=k*m/\Hid (wr.ownsRow w.heap.size 5 1 (.slice p b.length r) b.length (b.map (Value.int .u8)))/\Below w.heap.size w wr) (fun _ i _=>n-(intOf i).toNat)
 case atStart=>
  exact⟨0,[],_,_,by omega,rfl,rfl,by simp,World.ownsRow_made w #[] 0 (Ka _) (by simp[maxLen]) (by simp),cA _ _⟩
 case round=>
  obtain⟨k,b,p,r,R,rfl,rfl,O,c,d⟩:=hrel;have N:=d.size;have J:k*m<=70000*4:=De (by omega) L;have I:(k+1)*m=k*m+m:=Kg _ _;by_cases K:k<n
  ·have g:(k:Int)<(n:Int):=by omega
   go_wp2_with(at_builtin;refine wpList_append_own_string _ rfl _ _ _ _ rfl w.heap.size 5 D underlying22 underlying9 E.out x y z (.slice p b.length r) b.length (b.map (Value.int .u8)) rfl (by exact c.out) s rfl (by simp[maxLen];omega) (by omega) (by omega) ?_;intro U Q a f C);obtain⟨F,G,rfl⟩:=qa a;have v:Below w.heap.size w Q:=d.grown f (by omega) (fun q M=>uF c.out q M);rw[B.out.1,<-Vd]at a;have h:(b++u).length=b.length+s.size:=by rw[Za,B.out.2]
   rw[<-h]at a;refine⟨⟨k+1,b++u,F,G,by omega,by go_num,by rw[h],by omega,a,v⟩,by simp[intOf];omega⟩
  ·have g:¬((k:Int)<(n:Int)):=by omega
   have H:=AN c.out;go_wp2;go_ret;obtain rfl:k=n:=by omega
   exact⟨strOfNums b,by rw[qY];exact O,rfl,d⟩
end
theorem SA (B P N:Nat) (w:World) (h:kB w B P N) (K:N<=100000):
 Calls prog 107 #[.pointer (some ⟨B,0,none⟩)] w fun e u=>∃s:ByteArray,s.size<=258/\e=.returned (.string s)/\kB u B P (N+1)/\dB B w u:=by
 have t:Hid (kB w B P N):=h;have C:=h.lt;clear h;go_enter func107,ntmps107;go_wp2_with fail;refine(jJ ⟨#[195,169]⟩ 2 128 w (by decide) (by omega) (by omega)).mono ?_;rintro e x ⟨a,E,rfl,j⟩;have q:Hid (Below w.heap.size w x):=j;clear j;go_wp2_with fail;refine(jJ ⟨#[195,169]⟩ 2 129 x (by decide) (by omega) (by omega)).mono ?_;rintro e y ⟨b,F,rfl,k⟩;have r:Hid (Below w.heap.size w y):=nA q.out k;clear k q;go_wp2_with fail;refine(jJ ⟨#[122]⟩ 1 129 y (by decide) (by omega) (by omega)).mono ?_;rintro e f ⟨c,G,rfl,l⟩;have n:Hid (Below w.heap.size w f):=nA r.out l;clear l r;go_wp2_with fail;have o:Hid (vK (f.alloc (.cells ([⟨#[128]⟩,⟨#[192,128]⟩,⟨#[237,160,128]⟩,⟨#[244,144,128,128]⟩,⟨#[226,130]⟩,⟨#[31]⟩,⟨#[127]⟩,⟨#[194,133]⟩,⟨#[240,128,128,128]⟩,⟨#[255]⟩,⟨#[97,195]⟩,a,b,c,⟨#[194,160]⟩,⟨#[239,191,189]⟩,⟨#[244,143,191,191]⟩,⟨#[238,128,128]⟩].map Value.string).toArray 9)) f.heap.size 18 258):=pL f _ 258 _ 18 rfl (by
  simp only[List.all_cons,List.all_nil,Ag,Sa,Eb];refine⟨by decide,by decide,by decide,by decide,by decide,by decide,by decide,by decide,by decide,by decide,by decide,by omega,by omega,by omega,by decide,by decide,by decide,by decide⟩)
 simp only[Lb,Qc]at o;have i:=(t.out.later n.out).later (cA f (.cells #[.string ⟨#[128]⟩,.string ⟨#[192,128]⟩,.string ⟨#[237,160,128]⟩,.string ⟨#[244,144,128,128]⟩,.string ⟨#[226,130]⟩,.string ⟨#[31]⟩,.string ⟨#[127]⟩,.string ⟨#[194,133]⟩,.string ⟨#[240,128,128,128]⟩,.string ⟨#[255]⟩,.string ⟨#[97,195]⟩,.string a,.string b,.string c,.string ⟨#[194,160]⟩,.string ⟨#[239,191,189]⟩,.string ⟨#[244,143,191,191]⟩,.string ⟨#[238,128,128]⟩] 9));have J:w.heap.size<=f.heap.size:=n.out.size;refine(cB B P N 18 _ i (by omega) (by omega) (by omega)).mono ?_;rintro e z ⟨v,H,rfl,m,d⟩;have g:=o.out.but d (by omega);obtain⟨s,p,D⟩:=g.at H;have A:Hid (kB z B P (N+1)/\dB B w z):=⟨m,((dB.of n.out).later (cA _ _)).trans d⟩
 clear m d g o i n t;have I:(v:Int)<18:=by omega
 go_wp2;go_ret;exact⟨s,D,rfl,A.out⟩
theorem iU {k:Nat} {r:Rd} (h:(zA k r).2.r9=false):r.r9=false/\(zA k r).2.rest.size+k=r.rest.size:=by
 have e:(zA k r).2=(uB k r).2:=by rw[zA]
 rw[e]at h |-
 obtain⟨a,c,b⟩:=sG (n:=k) (r:=r) h;refine⟨a,?_⟩;have:=Fd ByteArray.size b;rw[Ga]at this;omega
theorem CO {k:Nat} {r:Rd} (h:(oA k r).2.r9=false):r.r9=false/\(oA k r).1.size+(oA k r).2.rest.size+k=r.rest.size:=by
 have e:(oA k r).2=(uB (zA k r).1 (zA k r).2).2:=by rw[oA]
 have a:(oA k r).1=(uB (zA k r).1 (zA k r).2).1:=by rw[oA]
 rw[e]at h |-
 rw[a];obtain⟨b,f,c⟩:=sG (r:=(zA k r).2) h;obtain⟨d,g⟩:=iU (k:=k) (r:=r) b;refine⟨d,?_⟩;have:=Fd ByteArray.size c;rw[Ga]at this;omega
theorem aAn {r:Rd} (h:(zN r).2.r9=false):r.r9=false/\(zN r).1.name.size+(zN r).1.value.size+(zN r).2.rest.size+3=r.rest.size:=by
 rw[dX]at h |-
 obtain⟨a,c⟩:=CO (k:=2) (r:=(oA 1 r).2) h;obtain⟨b,d⟩:=CO (k:=1) (r:=r) a;refine⟨b,?_⟩;simp only;omega
theorem aBh {r:Rd} (k:Nat):(yH r k).2.r9=false->r.r9=false/\k+wB (yH r k).1+(yH r k).2.rest.size<=r.rest.size:=by
 induction k with
 |zero=>
  intro h;rw[yH]at h |-
  exact⟨h,by simp[wB]⟩
 |succ k c=>
  intro h;rw[fQ]at h |-
  simp only at h |-
  obtain⟨b,f⟩:=aAn h;obtain⟨a,d⟩:=c b;refine⟨a,?_⟩;rw[iL];have e:wB [(zN (yH r k).2).1]=(zN (yH r k).2).1.name.size+(zN (yH r k).2).1.value.size:=by simp[wB]
  rw[e];omega
theorem aBz {r:Rd} (h:(xS r).2.r9=false):r.r9=false/\kG (xS r).1+(xS r).2.rest.size+9<=r.rest.size:=by
 rw[oQ,GG]at h;obtain⟨a,b⟩:=iU h;rw[wS]at a;obtain⟨c,d⟩:=aBh _ a;rw[CA]at c;obtain⟨e,i⟩:=iU c;refine⟨e,?_⟩;rw[MG,oQ];have f:kG ⟨(wS r).1,jB (GG r).1⟩=(wS r).1.length+wB (wS r).1:=rfl;have g:(wS r).1.length=(CA r).1:=by rw[wS,kU]
 rw[f,g,GG];rw[wS]at b |-
 rw[CA]at d b |-
 omega
theorem ws {r:Rd} (k:Nat):(yD r k).2.r9=false->r.r9=false/\k+eC (yD r k).1+(yD r k).2.rest.size<=r.rest.size:=by
 induction k with
 |zero=>
  intro h;rw[dJ]at h |-
  exact⟨h,by simp[eC]⟩
 |succ k c=>
  intro h;rw[gX]at h |-
  simp only at h |-
  obtain⟨b,f⟩:=aBz h;obtain⟨a,d⟩:=c b;refine⟨a,?_⟩;rw[oO];have e:eC [(xS (yD r k).2).1]=kG (xS (yD r k).2).1:=by simp[eC]
  rw[e];omega
theorem aBt {s:ByteArray} (h:(rQ s).2.r9=false):(rQ s).1.size+(rQ s).2.rest.size<=s.size:=by
 unfold rQ at h |-
 split
 ·rename_i a;rw[Qa a]at h;obtain⟨b,c⟩:=CO h;rw[eJ]at b c |-
  obtain⟨d,e⟩:=iU b;have:(⟨s,false⟩:Rd).rest.size=s.size:=rfl;omega
 ·rename_i a;rw[Oa a]at h;simp only at h |-
  rw[eJ]at h |-
  obtain⟨d,e⟩:=iU h;have:(⟨s,false⟩:Rd).rest.size=s.size:=rfl;have:ByteArray.empty.size=0:=rfl;omega
theorem aBs {s:ByteArray} (h:(lO s).2.r9=false):(rQ s).2.r9=false/\(lO s).1.length+eC (lO s).1+(lO s).2.rest.size<=(rQ s).2.rest.size:=by
 unfold lO at h |-
 split
 ·rename_i a;rw[Qa a]at h;obtain⟨b,c⟩:=ws _ h;have e:=lR (da s).2 (da s).1;rw[e];rw[da]at b;obtain⟨d,g⟩:=iU b;have f:(da s).2=(zA 2 (rQ s).2).2:=by rw[da]
  rw[f]at c |-
  exact⟨d,by omega⟩
 ·rename_i a;rw[Oa a]at h;exact⟨h,by simp[eC]⟩
theorem aBq {s:ByteArray} (h:(mQ s).2.r9=false):(lO s).2.r9=false/\(mQ s).1.size+(mQ s).2.rest.size<=(lO s).2.rest.size:=by
 unfold mQ at h |-
 split
 ·rename_i a;rw[Qa a]at h;obtain⟨b,c⟩:=CO h;exact⟨b,by omega⟩
 ·rename_i a;rw[Oa a]at h;have:ByteArray.empty.size=0:=rfl;exact⟨h,by simp only;omega⟩
theorem aBr {s:ByteArray} (h:(bP s).2.r9=false):(mQ s).2.r9=false:=by
 unfold bP at h;split at h
 ·exact(iU h).1
 ·exact h
theorem aBu {s:ByteArray} (h:(bP s).2.r9=false):yF (QR s)<=s.size:=by
 have a:=aBr h;obtain⟨b,d⟩:=aBq a;obtain⟨c,f⟩:=aBs b;have g:=aBt c;have e:yF (QR s)=(rQ s).1.size+(mQ s).1.size+(lO s).1.length+eC (lO s).1:=rfl;rw[e];omega
theorem NF (c:vB) (f:Int) (a:Option Addr) (h:Nat) (g:List dA) (M:Nat) (w:World) (s:oB w a g) (b:za g M) (j:g.length<=1000000000) (q:xI w):
 Calls prog 52 #[iD c,.agg #[.int .i64 f,.slice a g.length h]] w fun e u=>e=.returned (.bool (gB c f g))/\Below w.heap.size w u:=by
 have p:Hid _:=fun W (r:Below w.heap.size w W)=>vx c f a h g M W (s.later r) b j (q.later r);clear s b q;unfold ik at p;unfold iD at *;go_enter func52,ntmps52;go_wp2_with fail;refine(p.out _ (nA (cA _ _) (cA _ _))).mono ?_;intro e v t;have o:=bA t;clear t;rcases o.out with⟨k,rfl,i⟩|⟨k,l,m,rfl,_,_,i⟩
 ·have n:Hid _:=nA (nA (cA _ _) (cA _ _)) i;have d:Hid _:=k;clear o i k;go_wp2;go_ret;exact⟨jA d.out.symm,n.out⟩
 ·have n:Hid _:=nA (nA (cA _ _) (cA _ _)) i;have d:Hid _:=k;clear o i k;go_wp2;go_ret;exact⟨jA d.out.symm,n.out⟩
