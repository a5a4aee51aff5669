import Derived.Test.YtflbidbilgndeaaGreatDoorJ14
import Derived.Test.YtflbidbilgndeaaGreatDoorJ12
import Derived.Lib.AppendIntMem
set_option maxRecDepth 100000
set_option maxHeartbeats 2000000
set_option linter.defProp false
open Bool renaming true->dA,false->cA
open Option renaming none->aA,some->bA
open ByteArray renaming empty->kA
open List renaming length->yA
namespace Go.Proofs.YtflbidbilgndeaaGreatDoor
open Go renaming World->eA,TypeId->jA,Value->iA
open Value renaming string->oA,slice->pA,bool->qA,tuple->xA
open Obj renaming cells->vA
open Ending renaming returned->uA
open Go.RowKit Tryz
def aC(a:List fB)(name:jB):fB:=(dD (·.N) name a).getD ⟨name,-1,[],[]⟩
def xG(a:List kB)(m:jB)(d:Int):Int:=a.foldl (λd p=>if p.s.toList==m.toList then p.n else d) d
def jv(a:List kB)(m:jB)(d:Int)(k:Nat)(h:k<yA a):xG (a.take (k+1)) m d=if a[k].s.toList==m.toList then a[k].n else xG (a.take k) m d:=by
 rw[Pa h,xG,Dg];rfl
def ju{a:List kB}{m:jB}(h:∀p∈a,p.s≠m)(d:Int):xG a m d=d:=by induction a<;>grind [xG,zD]
def XI{a:List kB}(b:zC (·.s) a)(m:jB)(d:Int):xG a m d=((dD (·.s) m a).map (·.n)).getD d:=by
 induction a generalizing d with
 |nil=>rfl
 |cons p r g=>
  rw[xG,Og,rT];by_cases e:p.s=m
  .rw[Ma ((kE _ _).2 e),Ma e];exact ju (λq f c=>qJ (b.head q f) (e.trans c.symm)) _
  rw[Ja (by rw[zD e];simp),Ja e];exact g b.tail d
def qE(c:iC)(t:fB)(m:jB):Int×Int:=
 if m.toList.isEmpty=dA then((yA t.Z:Nat),if t.L<0 then c.tl else t.L) else((bJ cE t.Z m:Nat),xG t.M m c.ml)
def oH(c:iC)(b:Int)(d:List fB)(a m:jB):Int×Int:=
 if (nC c b d&&bD a&&(m.toList.isEmpty||bF m))=dA then qE c (aC d a) m else(-1,-1)
def yn(l:List kB)(m:jB)(k:Nat)(h:k<yA l):bJ cE (l.take (k+1)) m=bJ cE (l.take k) m+if (cE l[k].s).toList==m.toList then 1 else 0:=by
 rw[Pa h,bJ,bJ,Vf,Kb];congr 1;cases hb:(cE l[k].s).toList==m.toList<;>simp[hb]
def ED{α:Type}{key:α->jB}{l:List α}{k:jB}:∀(n:Nat),(∀j(_:j<n)(c:j<yA l),key l[j]≠k)->dD key k l=dD key k (l.drop n)
 |0,_=>by simp
 |n+1,h=>by
  rw[ED n (λj d a=>h j (by omega) a)];by_cases b:n<yA l
  .rw[Cb b,rT,Ja (h n (by omega) b)]
  rw[Yb (by omega),Yb (by omega)]
def xE(b a:Int)(t:fB):fB:=⟨t.N,t.L,t.M,t.Z.filter λp=>decide (a-p.n<b)⟩
def aE(b a:Int)(c:List fB):List fB:=(c.map (xE b a)).filter λt=>!cF t
theorem nJ{b a:Int}{d:List fB}(h:eN b a d=dA):∀t∈d,oP b a t=dA:=λt e=>by
 obtain⟨i,c,rfl⟩:=Ib e;have:=yO h c;rw[aX c,Sa]at this;exact this.2
def CE{b a:Int}{d:List kB}(h:gL b a d=dA):∀x∈d,a-x.n<b/\0<=x.n/\x.n<=a:=λx e=>by
 obtain⟨i,c,rfl⟩:=Ib e;have:=yO h c;rw[uW c]at this;simp only[Sa,Ab,bC]at this;exact⟨this.2,this.1.2.1,this.1.2.2⟩
def dK{b a:Int}{t:fB}(h:oP b a t=dA):bD t.N=dA/\dM t.M=dA/\gL b a t.Z=dA/\cF t=cA:=by grind [oP,bD,dM,gL,cF]
def BU{b a:Int}{t:fB}(h:∀x∈t.Z,a-x.n<b):xE b a t=t:=by
 unfold xE;rw[Jc.2 λx c=>Ac (h x c)]
theorem jl{b a:Int}{c:List fB}(h:eN b a c=dA):aE b a c=c:=by
 have e:c.map (xE b a)=c:=by
  have:∀t∈c,xE b a t=id t:=λt d=>BU λx f=>(CE (dK (nJ h t d)).2.2.1 x f).1;rw[Ge this,List.map_id]
 unfold aE;rw[e];exact Jc.2 λt d=>by rw[(dK (nJ h t d)).2.2.2];rfl
def RF {f d:Int} {i:List fB} (h:eN f d i=dA) (y:zC (·.N) i) {t:fB} (z:∀x∈t.Z,d-x.n<f):
 aE f d (fC (·.N) t i)=if cF t=dA then vE (·.N) t.N i else fC (·.N) t i:=by
 have v:∀q∈fC (·.N) t i,xE f d q=id q:=λq a=>by
  rcases yK a with rfl|a
  ·exact BU z
  ·exact BU λx A=>(CE (dK (nJ h q a)).2.2.1 x A).1
 have s:(fC (·.N) t i).map (xE f d)=fC (·.N) t i:=by rw[List.map_congr_left v,List.map_id]
 have g:=λq a=>(dK (nJ h q a)).2.2.2
 unfold aE;rw[s]
 by_cases k:cF t=dA
 ·rw[if_pos k]
  clear h s v z
  induction i with
  |nil=>simp[fC,k,vE]
  |cons p r B=>
   have o:=B y.tail (λq a=>g q (List.mem_cons_of_mem _ a));have w:=g p (List.mem_cons_self ..);have c:(r.filter λt=>!cF t)=r:=List.filter_eq_self.2 λq a=>by rw[g q (List.mem_cons_of_mem _ a)];rfl
   rw[fC]
   by_cases l:eK p.N t.N=dA
   ·rw[if_pos l,List.filter_cons_of_pos (by rw[w];rfl),o]
    unfold vE;rw[List.filter_cons_of_pos (by rw[zD (qJ l)];rfl)]
   ·rw[if_neg l]
    have j:∀q∈r,q.N≠t.N:=λq a e=>by
     have u:=y.head q a;rw[e]at u;exact l u
    have b:vE (·.N) t.N r=r:=List.filter_eq_self.2 λq a=>by rw[zD (j q a)];rfl
    by_cases m:p.N=t.N
    ·rw[if_pos ((kE _ _).2 m),List.filter_cons_of_neg (by simp[k]),c]
     unfold vE at b |-
     rw[List.filter_cons_of_neg (by simp[m]),b]
    ·rw[if_neg (by rw[zD m];simp),List.filter_cons_of_neg (by simp[k]),List.filter_cons_of_pos (by rw[w];rfl),c]
     unfold vE at b |-
     rw[List.filter_cons_of_pos (by rw[zD m];rfl),b]
 ·rw[if_neg k]
  refine List.filter_eq_self.2 λq a=>?_
  rcases yK a with rfl|a
  ·simpa using k
  ·rw[g q a];rfl
def GU{α:Type}{key:α->jB}{a:α}{l:List α}(h:zC key l):yA (fC key a l)=if (dD key (key a) l).isSome=dA then yA l else yA l+1:=by
 induction l with
 |nil=>simp[fC,dD]
 |cons p r j=>
  have f:=j h.tail;rw[fC,rT];by_cases c:eK (key p) (key a)=dA
  .rw[Ma c,Ja (qJ c),Zb,f];split<;>simp
  rw[Ja c];by_cases d:key p=key a
  .rw[Ma ((kE _ _).2 d),Ma d];simp
  have b:dD key (key a) r=aA:=mN λq i e=>by
   have g:=h.head q i;rw[e]at g;exact c g
  rw[Ja (by rw[zD d];simp),Ja d,b];simp
def DN(c:iC)(a:Int)(d:List fB)(b:Int):Int×List fB×Bool:=
 if nC c a d=cA then(0,[],cA) else if b<1\/1000000000000-a<b then(a,d,cA) else(a+b,aE c.w (a+b) d,dA)
def sH(t:fB)(a:jB)(b:Int):fB:=
 if a.toList.isEmpty=dA then⟨t.N,b,t.M,t.Z⟩ else⟨t.N,t.L,if b<0 then vE (·.s) a t.M else fC (·.s) ⟨a,b⟩ t.M,t.Z⟩
def vS(c:iC)(e:Int)(f:List fB)(b a:jB)(d:Int):Int×List fB×Bool:=
 if nC c e f=cA then(0,[],cA)
 else if (bD b&&(a.toList.isEmpty||bF a) &&bC d (-1) 1000000)=cA then(e,f,cA)
 else if 10000<yA (aE c.w e (fC (·.N) (sH (aC f b) a d) f)) then(e,f,cA)
 else(e,aE c.w e (fC (·.N) (sH (aC f b) a d) f),dA)
def TU(w:eA)(a:List TV):Prop:=∀y∈a,jC w y.a1 y.t.M/\jC w y.a2 y.t.Z
def TU.snoc{w:eA}{ys:List TV}(h:TU w ys){y:TV}(a:jC w y.a1 y.t.M)(b:jC w y.a2 y.t.Z):TU w (ys++[y]):=by grind [TU,jC]
def WM:∀(l:List TV)(i:Nat)(a:i<yA l),(lF l)[i*4]?=bA (oA l[i].t.N)/\(lF l)[i*4+1]?=bA (zA l[i].t.L)/\(lF l)[i*4+2]?=bA (.slice l[i].a1 (yA l[i].t.M) l[i].c1)/\(lF l)[i*4+3]?=bA (.slice l[i].a2 (yA l[i].t.Z) l[i].c2):=by
 intro l;unfold lF;induction l with
 |nil=>intro i a;exact absurd a (by simp)
 |cons x r b=>
  intro i a;cases i with
  |zero=>simp
  |succ i=>
   have:=b i (by simpa using a);simp only[Xc,Sd,Mb,Ec];refine⟨?_,?_,?_,?_⟩;rw[show(i+1)*4=i*4+1+1+1+1 by omega,Ga,Ga,Ga,Ga];exact this.1;rw[show(i+1)*4+1=i*4+1+1+1+1+1 by omega,Ga,Ga,Ga,Ga];exact this.2.1;rw[show(i+1)*4+2=i*4+2+1+1+1+1 by omega,Ga,Ga,Ga,Ga];exact this.2.2.1;rw[show(i+1)*4+3=i*4+3+1+1+1+1 by omega,Ga,Ga,Ga,Ga];exact this.2.2.2
def aKr{w m:eA}{B:Nat}{e:jA}{a:mC}{o:Nat}{l:List TV}(h:m.ownsRow B e 4 (pA a (yA l) o) (yA l) (lF l))(y:TU w l):
 ∀i(q:i<yA l),∃b,a=yB b/\b<m.1.size/\m.cell? (dB b (i*4))=bA (oA l[i].t.N)/\m.cell? (dB b (i*4+1))=bA (zA l[i].t.L)/\m.cell? (dB b (i*4+2))=bA (.slice l[i].a1 (yA l[i].t.M) l[i].c1)/\m.cell? (dB b (i*4+3))=bA (.slice l[i].a2 (yA l[i].t.Z) l[i].c2)/\jC w l[i].a1 l[i].t.M/\jC w l[i].a2 l[i].t.Z:=by
 intro i q;obtain⟨_,E⟩|⟨g,s,p,u,D,v,_,_,z,r⟩:=h.2;omega;simp only[iA.slice.injEq]at u;obtain⟨c,d,f,k⟩:=WM l i q;have n:∀j,j<yA l*4->m.cell? (dB g j)=(lF l)[j]?:=λj x=>by
  rw[nB.cell (show nB m g p e from v) j,<-Yd,<-r,Jb x]
 obtain⟨A,C⟩:=y l[i] (Gb q);refine⟨g,u.1,aB v,?_,?_,?_,?_,A,C⟩;rw[n _ (by omega)];exact c;rw[n _ (by omega)];exact d;rw[n _ (by omega)];exact f;rw[n _ (by omega)];exact k
def kJ(t:fB)(key:jB)(a:Int):fB:=⟨t.N,t.L,t.M,fC (·.s) ⟨key,a⟩ t.Z⟩
def cI(c:iC)(b:Int)(d:List fB)(a key:jB):Int×List fB×Nat:=
 if nC c b d=cA then(0,[],5)
 else if (bD a&&rK key)=cA then(b,d,5)
 else if (dD (·.s) key (aC d a).Z).isSome=dA then(b,fC (·.N) (kJ (aC d a) key b) d,1)
 else if (qE c (aC d a) kA).2<=(qE c (aC d a) kA).1\/(cF (aC d a)=dA/\yA d=10000) then(b,d,3)
 else if (qE c (aC d a) (cE key)).2<=(qE c (aC d a) (cE key)).1 then(b,d,4)
 else(b,fC (·.N) (kJ (aC d a) key b) d,2)
theorem kM{ts:List fB}{name:jB}:(aC ts name∈ts/\(dD (·.N) name ts).isSome=dA)\/(aC ts name=⟨name,-1,[],[]⟩/\dD (·.N) name ts=aA):=by
 unfold aC;cases h:dD (·.N) name ts with
 |none=>exact La ⟨rfl,rfl⟩
 |some t=>exact Ca ⟨(uM h).1,rfl⟩
theorem kG{a:List fB}{name:jB}:(aC a name).N=name:=by
 unfold aC;cases h:dD (·.N) name a with
 |none=>rfl
 |some t=>exact(uM h).2
def uc{e d:Int}{a:List fB}(h:eN e d a=dA){name:jB}:cF (aC a name)=!(dD (·.N) name a).isSome:=by
 rcases kM (ts:=a) (name:=name) with⟨b,c⟩|⟨b,c⟩;rw[(dK (nJ h _ b)).2.2.2,c];rfl;rw[b,c];rfl
def FF{b a:Int}{c:List fB}(h:eN b a c=dA){name:jB}:∀x∈(aC c name).Z,a-x.n<b:=by
 rcases kM (ts:=c) (name:=name) with⟨d,_⟩|⟨d,_⟩
 .exact λx e=>(CE (dK (nJ h _ d)).2.2.1 x e).1
 rw[d];exact λx e=>by simp at e
theorem au{α:Type}{key:α->jB}{a:α}{l:List α}:yA (fC key a l)≠0:=by unfold fC;grind
def xu{b a:Int}{t:fB}{key:jB}(c:1<=b)(h:∀x∈t.Z,a-x.n<b):∀x∈(kJ t key a).Z,a-x.n<b:=by grind [kJ,fC,yK]
def VI{t:fB}{key:jB}{a:Int}:cF (kJ t key a)=cA:=by grind [cF,kJ,fC,au]
def qq{c b:Int}{d:List fB}(h:eN c b d=dA)(e:zC (·.N) d)(f:1<=c){a key:jB}:
 aE c b (fC (·.N) (kJ (aC d a) key b) d)=fC (·.N) (kJ (aC d a) key b) d:=by
 rw[RF h e (xu f (FF h)),VI];rfl
def WV{l:List kB}{k:jB}{n:Int}{j:Nat}(f:j<=yA l)(c:∀i(h:i<yA l),i<j->eK l[i].s k=dA)(d:∀h:j<yA l,eK l[j].s k=cA)(e:dD (·.s) k l=aA):
 fC (·.s) ⟨k,n⟩ l=l.take j++⟨k,n⟩:: l.drop j:=by
 induction l generalizing j with
 |nil=>simp[fC]
 |cons p r o=>
  have g:p.s≠k:=vX e p (Kc ..);rw[fC];cases j with
  |zero=>
   have b:eK p.s k=cA:=d (by simp);rw[Ja (by rw[b];simp),Ja (by rw[zD g];simp)];rfl
  |succ j=>
   have b:eK p.s k=dA:=c 0 (by simp) (by omega);have a:dD (·.s) k r=aA:=mN λq m=>vX e q (Sb _ m);rw[Ma b,o (j:=j) (by simpa using f) (λi h t=>by have:=c (i+1) (by simpa using h) (by omega);simpa using this) (λh=>by have:=d (by simpa using h);simpa using this) a];rfl
def uS(d:List fB)(a b:jB)(c:Int):List fB×Bool:=
 if (bD a&&(b.toList.isEmpty||bF b) &&bC c (-1) 1000000)=cA then(d,cA)
 else if cF (sH (aC d a) b c)=dA then(vE (·.N) a d,dA)
 else if ((dD (·.N) a d).isNone&&decide (10000<=yA d))=dA then(d,cA)
 else(fC (·.N) (sH (aC d a) b c) d,dA)
theorem dQ(t:fB)(a:jB)(b:Int):(sH t a b).N=t.N:=by unfold sH;split<;>rfl
def XF(t:fB)(a:jB)(b:Int):(sH t a b).Z=t.Z:=by unfold sH;split<;>rfl
theorem gH{c:iC}{a:Int}{b:List fB}(h:nC c a b=dA):lH c=dA/\0<=a/\a<=1000000000000/\yA b<=10000/\eN c.w a b=dA:=by
 simp only[nC,Sa,Ab]at h;obtain⟨⟨⟨d,e⟩,f⟩,g⟩:=h;have:=xJ e;exact⟨d,this.1,this.2,f,g⟩
theorem wS{c a:Int}{b:List fB}(h:eN c a b=dA):zC (·.N) b:=by
 have:=aCq (n:=yA b) h (Ia _);rwa [Rb]at this
def wj{c:iC}{i:Int}{f:List fB}(h:nC c i f=dA)(b d:jB)(e:Int):vS c i f b d e=(i,(uS f b d e).1,(uS f b d e).2):=by
 obtain⟨_,_,_,r,o⟩:=gH h;have s:=wS o;unfold vS uS;rw[Ja (by rw[h];simp)];by_cases k:(bD b&&(d.toList.isEmpty||bF d) &&bC e (-1) 1000000)=cA
 .rw[Ma k,Ma k]
 rw[Ja k,Ja k];have j:(sH (aC f b) d e).N=b:=by rw[dQ,kG]
 have m:∀x∈(sH (aC f b) d e).Z,i-x.n<c.w:=by rw[XF];exact FF o
 have u:=RF o s (t:=sH (aC f b) d e) m;rw[u,j];by_cases l:cF (sH (aC f b) d e)=dA
 .have v:yA (vE (·.N) b f)<=yA f:=Pc _ _;rw[Ma l,Ma l,Ja (by omega)]
 have g:=GU (a:=sH (aC f b) d e) s;simp only[j]at g;rw[Ja l,Ja l];cases hg:dD (·.N) b f with
 |some q=>
  rw[hg]at g;simp only[Wf,Td]at g;rw[Ja (by omega),Ja (by simp)]
 |none=>
  rw[hg]at g;simp only[Xf,Bd,Cf]at g;by_cases p:10000<=yA f
  .rw[Ma (by omega),Ma (by simp[p])]
  rw[Ja (by omega),Ja (by simp[p])]
def bg{α:Type}{key:α->jB}{a q:α}{l:List α}(g:zC key l)(h:q∈fC key a l):q=a\/(q∈l/\key q≠key a):=by
 induction l with
 |nil=>exact Ca (by simpa[fC]using h)
 |cons p r j=>
  rw[fC]at h;by_cases c:eK (key p) (key a)=dA
  .rw[Ma c]at h;rcases Lb.1 h with h|h
   .exact La ⟨by rw[h];exact Kc ..,by rw[h];exact qJ c⟩
   rcases j g.tail h with h|h;exact Ca h;exact La ⟨Sb _ h.1,h.2⟩
  rw[Ja c]at h;have b:∀q∈r,key q≠key a:=λq i e=>by
   have f:=g.head q i;rw[e]at f;exact c f
  by_cases d:key p=key a
  .rw[Ma ((kE _ _).2 d)]at h;rcases Lb.1 h with h|h
   .exact Ca h
   exact La ⟨Sb _ h,b q h⟩
  rw[Ja (by rw[zD d];simp)]at h;rcases Lb.1 h with h|h;exact Ca h;rcases Lb.1 h with h|h;exact La ⟨by rw[h];exact Kc ..,by rw[h];exact d⟩;exact La ⟨Sb _ h,b q h⟩
def GY{α β:Type}{key:α->jB}{a p:α}{l:List α}(f:α->β)(e:zC key l)(b:p∈l)(c:key p=key a)(g:f p=f a):(fC key a l).map f=l.map f:=by
 induction l with
 |nil=>cases b
 |cons q r h=>
  rw[fC];rcases Lb.1 b with rfl|b;rw[Ja (by rw[c,bO];simp),Ma ((kE _ _).2 c)];simp[g];have d:=e.head p b;rw[c]at d;rw[Ma d,Fc,Fc,h e.tail b]
def aOt(a:List fB):Prop:=∀i(h:i<yA a),yA a[i].M<=maxLen/\yA a[i].Z<=maxLen
def aLc{x:jB}:x.toList.isEmpty=dA ↔ x=kA:=by
 rw[List.isEmpty_iff];constructor;intro h;exact toList_inj (by rw[h,ByteArray.toList_eq];rfl);intro h;rw[h,ByteArray.toList_eq];rfl
def nP{x:jB}:x.toList.isEmpty=cA ↔ x≠kA:=by rw[<-Bool.not_eq_true,aLc]
def fT(w:eA)(A:Nat->Prop)(a:mC)(b:List fB):Prop:=
 b=[]\/∃g o c t T,a=bA (dB g o)/\w.heap[g]?=bA (vA c t (0,0))/\T g=0/\(∀x,T x<=2*yA b->A x)/\∀i(h:i<yA b),DO w 0 T i g (o+i*4) b[i]
def fT.tens{w:eA}{A:Nat->Prop}{a:mC}{b:List fB}(h:fT w A a b):xC w a b:=by
 obtain h|⟨g,o,c,t,T,rfl,d,_,_,h⟩:=h;exact Ca h;exact La ⟨g,o,rfl,aB d,λi e=>(h i e).at⟩
def fT.turned{S A:Nat->Prop}{w p:eA}{a:mC}{n:List fB}(h:fT w A a n)(m:eB S w p)(k:∀g,A g->g<w.1.size->¬S g):fT p A a n:=by
 obtain h|⟨g,o,c,t,T,rfl,f,q,e,h⟩:=h;exact Ca h;have l:=m.block g (aB f) (k g (e g (by omega)) (aB f));exact La ⟨g,o,c,t,T,rfl,l.trans f,q,e,λi s=>(h i s).keep (λj _=>eA.cell?_of_block l) λd b _ r=>⟨m.block d b (k d (e d (by omega)) b),rfl⟩⟩
def fT.z{w c:eA}{A:Nat->Prop}{a:mC}{b:List fB}(h:fT w A a b)(d:uB w c):fT c A a b:=h.turned (eB.of (S:=λ_=>False) d) λ_ _ _ e=>e
def fT.mono{w:eA}{A A':Nat->Prop}{a:mC}{c:List fB}(h:fT w A a c)(f:∀x,A x->A' x):fT w A' a c:=by
 obtain h|⟨g,o,b,t,T,e,j,i,d,h⟩:=h;exact Ca h;exact La ⟨g,o,b,t,T,e,j,i,λx k=>f x (d x k),h⟩
def cD.toA{w:eA}{B H:Nat}{a:mC}{f:List fB}(h:cD w B a f)(P:w.1.size<=H):fT w (λx=>B<=x/\x<H) a f:=by
 obtain h|⟨g,o,j,t,T,rfl,I,p,J,h⟩:=h;exact Ca h;have L:=aB p;refine La ⟨g,o,j,t,λx=>if B<=x/\x<H then T x else 2*yA f+1,rfl,p,?_,λx M=>?_,λi K=>?_⟩;show (if _ then _ else _)=0;rw[Ma ⟨I,by omega⟩];exact J
 .by_cases m:B<=x/\x<H
  .exact m
  simp only[Ja m]at M;omega
 obtain ⟨s,v,u,y,A,C,D,E,F,G⟩:=h i K;have b:∀{n:Nat}{q:mC}{r:List kB},aF w B T n q r->aF w 0 (λx=>if B<=x/\x<H then T x else 2*yA f+1) n q r:=λb=>by
  obtain b|⟨z,N,c,O,e,k,l,d,b⟩:=b;exact Ca b;have:=aB d;exact La ⟨z,N,c,O,e,Oa _,by show(if _ then _ else _)=_;rw[Ma ⟨k,by omega⟩];exact l,d,b⟩
 exact⟨s,v,u,y,A,C,D,E,b F,b G⟩
def oJ(w:eA)(A:Nat->Prop)(a:mC)(c:List iB):Prop:=
 c=[]\/∃g o b t,a=bA (dB g o)/\A g/\w.heap[g]?=bA (vA b t (0,0))/\BF w g o c
def oJ.files{w:eA}{A:Nat->Prop}{a:mC}{b:List iB}(h:oJ w A a b):tB w a b:=by grind [oJ,tB]
def oJ.turned{S A:Nat->Prop}{w d:eA}{a:mC}{e:List iB}(h:oJ w A a e)(p:eB S w d)(l:∀g,A g->g<w.1.size->¬S g):oJ d A a e:=by
 obtain h|⟨g,o,b,t,rfl,f,c,h⟩:=h;exact Ca h;have k:=p.block g (aB c) (l g f (aB c));have m:∀j,d.cell? (dB g j)=w.cell? (dB g j):=λj=>eA.cell?_of_block k;exact La ⟨g,o,b,t,rfl,f,k.trans c,λi n=>by simp only[m];exact h i n⟩
def oJ.z{w c:eA}{A:Nat->Prop}{a:mC}{b:List iB}(h:oJ w A a b)(d:uB w c):oJ c A a b:=h.turned (eB.of (S:=λ_=>False) d) λ_ _ _ e=>e
def oJ.mono{w:eA}{A A':Nat->Prop}{a:mC}{b:List iB}(h:oJ w A a b)(c:∀x,A x->A' x):oJ w A' a b:=by grind [oJ]
def jO.toA{w:eA}{B H:Nat}{a:mC}{b:List iB}(h:jO w B a b)(c:w.1.size<=H):oJ w (λx=>B<=x/\x<H) a b:=by grind [jO,oJ]
def aIi{C:eA->Prop}{w:eA}{O:Nat}{r c d e f g i j l m n o p q a:iA}{t:jA}(h:nB w O #[r,c,d,e,f,g,i,j,l,m,n,o,p,q] t)
(k:∀b,nB b O #[a,c,d,e,f,g,i,j,l,m,n,o,p,q] t->eB (·=O) w b->C b):C (w.setCell (dB O 0) a):=
 k _ (by have:=h.set 0 a;simpa using this) ((eB.refl (·=O) w).setCell (Ca rfl) 0 a)
def eB.end2{C:eA->Prop}{S:Nat->Prop}(w:eA){a:eA}(h:eB S w a)(k:∀W,eB S w W->C W):C a:=k a h
structure wJ(w:World)(A:Nat→Prop)(a b:mC)(N:wC):Prop where
 parts:∃F T,oJ w F a N.d.fs∧fT w T b N.ts∧(∀x,F x→A x)∧(∀x,T x→A x)∧∀x,F x→¬T x
def wJ.files{w:eA}{A:Nat->Prop}{a b:mC}{N:wC}(h:wJ w A a b N):tB w a N.d.fs:=by
 obtain⟨F,T,c,e,_⟩:=h.parts;exact c.files
def wJ.tens{w:eA}{A:Nat->Prop}{a b:mC}{N:wC}(h:wJ w A a b N):xC w b N.ts:=by
 obtain⟨F,T,d,c,_⟩:=h.parts;exact c.tens
def wJ.turned{S A:Nat->Prop}{w j:eA}{a b:mC}{N:wC}(h:wJ w A a b N)(i:eB S w j)(f:∀g,A g->g<w.1.size->¬S g):wJ j A a b N:=by
 obtain⟨F,T,k,l,d,e,m⟩:=h.parts;exact⟨F,T,k.turned i (λg c=>f g (d g c)),l.turned i (λg c=>f g (e g c)),d,e,m⟩
def wJ.z{A:Nat->Prop}{w c:eA}{a b:mC}{N:wC}(h:wJ w A a b N)(d:uB w c):wJ c A a b N:=h.turned (eB.of (S:=λ_=>False) d) λ_ _ _ e=>e
def wJ.mono{A A':Nat->Prop}{w:eA}{a b:mC}{N:wC}(h:wJ w A a b N)(d:∀x,A x->A' x):wJ w A' a b N:=by
 obtain⟨F,T,e,f,g,i,j⟩:=h.parts;exact⟨F,T,e,f,λx c=>d x (g x c),λx c=>d x (i x c),j⟩
def eZ(n:Nat):Nat->List UInt8
 |0=>[]
 |i+1=>(48+UInt8.ofNat (n / 10 ^ i % 10)):: eZ n i
def KH(n:Nat):jB:=⟨(119::97::108::45::eZ n 6).toArray⟩
def zE(n:Int):jB:=if 1<=n/\n<=999999 then KH n.toNat else kA
def AX(n:Nat):∀i,yA (eZ n i)=i
 |0=>rfl
 |i+1=>by simp[eZ,AX n i]
def bL(n:Int):(zE n).size<=10:=by
 unfold zE;split;show (119::97::108::45::eZ n.toNat 6).toArray.size<=10;simp[AX];simp
def zi(k:Nat):UInt8.ofNat (48+k)=48+UInt8.ofNat k:=by rw[UInt8.ofNat_add];rfl
def jj(n:Nat)(h:n<1000000):Lib.itoa ((1000000+n:Nat):Int)=49::eZ n 6:=by
 have a:Lib.nDigits (1000000+n)=7:=Lib.nDigits_unique 6 _ (by omega) (by omega);rw[Lib.itoa,Ja (by omega),Hd,Lib.decDigits_eq,a];simp only[List.range_succ,List.range_zero,Fc,Ag,Mb,Sd,eZ,Lib.dg,zi];congr 1;rw[show(1000000+n) / 10 ^ (7-1-0) % 10=1 by omega];rfl;simp only[List.cons.injEq,Cc];refine⟨?_,?_,?_,?_,?_,?_⟩<;>congr 2<;>omega
def fg{C:eA->Prop}{w:eA}{O:Nat}{q r s u v x y z A l m n o p a b c d e f g B i:iA}{t:jA}(h:nB w O #[q,r,s,u,v,x,y,z,A,l,m,n,o,p] t)
(k:∀j,nB j O #[a,b,c,d,e,f,g,B,i,l,m,n,o,p] t->eB (·=O) w j->C j):C (((((((((w.setCell (dB O 0) a).setCell (dB O 1) b).setCell (dB O 2) c).setCell (dB O 3) d).setCell (dB O 4) e).setCell (dB O 5) f).setCell (dB O 6) g).setCell (dB O 7) B).setCell (dB O 8) i):=
 k _ (by have:=(((((((((h.set 0 a).set 1 b).set 2 c).set 3 d).set 4 e).set 5 f).set 6 g).set 7 B).set 8 i);simpa using this) ((((((((((eB.refl (·=O) w).setCell (Ca rfl) 0 a).setCell (Ca rfl) 1 b).setCell (Ca rfl) 2 c).setCell (Ca rfl) 3 d).setCell (Ca rfl) 4 e).setCell (Ca rfl) 5 f).setCell (Ca rfl) 6 g).setCell (Ca rfl) 7 B).setCell (Ca rfl) 8 i)
def gX(a:List dC):Prop:=∀l∈a,l.N.size<=65/\l.V.size<=258
def YL{b:List dC}{l:dC}(h:gX b)(c:l.N.size<=65/\l.V.size<=258):gX (b++[l]):=λx a=>by
 rw[Ee,Uf]at a;obtain a|rfl:=a;exact h x a;exact c
def aCk{b:List dC}{l:dC}(h:gX b)(c:l.N.size<=65/\l.V.size<=258):gX (l::b):=λx a=>by
 rw[Lb]at a;obtain rfl|a:=a;exact c;exact h x a
def wa{w:eA}{base g:Nat}{e:jA}{x y:iA}(a:base<=g)(h:nB w g #[x,y] e):w.ownsRow base e 2 (pA (yB g) 1 1) 1 [x,y]:=
 ⟨by simp,.inr ⟨g,1,#[x,y],rfl,a,h,Ia _,by simp[maxLen],by simp,by simp⟩⟩
def lx{w:eA}{B:Nat}{e:jA}{g c:Nat}{b:List dC}(h:w.ownsRow B e 2 (pA (yB g) (yA b) c) (yA b) (vC b)):∀j u,(vC b)[j]?=bA u->w.cell? (((dB g 0):Addr).add j)=bA u:=λj u d=>by
 have a:((dB g 0):Addr).add j=(dB g j):=by unfold Addr.add;split<;>simp_all
 rw[a];exact(aL h).2.2.2 j u d
def sI(w : World) : Prop := Lib.TabIs prog w "internal/strconv.uint64pow10" .u64 Lib.pow10Tab
def sI.z{w c:eA}(h:sI w)(d:uB w c):sI c:=by
 unfold sI Lib.TabIs eA.var? at h |-
 cases hg : prog.globalNamed "internal/strconv.uint64pow10" with
 |none=>rw[hg]at h;cases h
 |some g=>
  rw[hg]at h;simp only[Option.bind_some]at h |-
  have b:g<w.1.size:=by
   rcases Gc g w.1.size with a|a;exact a;rw[Mc a]at h;cases h
  rw[d.block g b];exact h
def aKw(n:Nat)(h:n<1000000):(⟨#[119,97,108,45]⟩:jB)++(⟨(Lib.itoa ((1000000+n:Nat):Int)).toArray⟩:jB).extract 1 7=KH n:=by
 rw[jj n h];apply ByteArray.ext;simp[KH,eZ]
def wL(n:Int)(w:eA)(a:sI w):
 dF 126 #[zA n] w (oA (zE n)):=by
 by_cases h:1<=n/\n<=999999
 .obtain ⟨N,rfl⟩:=Yf (show 0<=n by omega);have E:cB (zE N=KH N):=Ma h;have i:1<=N:=by omega
  have j:N<=999999:=by omega
  have f:cB (dF 196 #[zA (1000000+(N:Int))] w (oA ⟨(Lib.itoa ((1000000+N:Nat):Int)).toArray⟩)):=
   (strconv_Itoa ((1000000+N:Nat):Int) (by omega) (by omega) w a).mono (by
    rintro e c ⟨rfl,k,p,rfl⟩;exact⟨rfl,Lib.below_grow _ _ (Ia _) _ _⟩)
  have g:cB _:=aKw N (by omega);have o:(⟨(Lib.itoa ((1000000+N:Nat):Int)).toArray⟩:jB).size=7:=by
   rw[jj N (by omega)];simp[eZ,ByteArray.size]
  generalize (⟨(Lib.itoa ((1000000+N:Nat):Int)).toArray⟩:jB)=X at *;clear h a;go_enter func126,ntmps126;go_wp2_with fail;apply lC f.o;intro q b;have d:cB _:=b;clear b;go_wp2;go_ret;refine⟨?_,d.o⟩;rw[E.o,<-g.o];rfl
 have E:cB (zE n=kA):=Ja h;by_cases l:n<1
 .go_enter func126,ntmps126;go_wp2;go_ret;exact⟨by rw[E.o];rfl,iD⟩
 have m:999999<n:=by omega
 clear h;go_enter func126,ntmps126;go_wp2;go_ret;exact⟨by rw[E.o];rfl,iD⟩
def qu(a C:mC)(D n:Nat)(c d:List dC)(w:eA)(N:sD w a c)(t:sD w C d)(e:yA c<=2000000):
 dF 179 #[pA a (yA c) D,pA C (yA d) n] w (qA (qH c d)):=by
 have R:cB (sD w a c):=N;have z:cB (sD w C d):=t;by_cases F:yA c=yA d
 .have G:((yA c:Int) != (yA d:Int))=cA:=by simp[F]
  have H:yA d<=yA c/\yA c<=yA d:=by omega
  have P:=H;go_enter func179,ntmps179;go_wp2;go_loopw [5,13] (λ_ i wr=>∃k:Nat,k<=yA c/\i=zA k/\cB (qH c d=qH (c.drop k) (d.drop k))/\uB w wr) (λ_ i _=>yA c-(intOf i).toNat)
  case atStart=>exact⟨0,Oa _,rfl,rfl,iD⟩
  case round=>
   obtain⟨k,e,rfl,A,f⟩:=hrel;by_cases u:k<yA c
   .have g:k<yA d:=by omega
    obtain⟨b,o,rfl,e,J,K⟩:=(R.o.z f).at u;obtain⟨b',e,rfl,T,l,m⟩:=(z.o.z f).at g;have y:=ma c d k u g;have j:∀W,Sem.run prog (binOp .neq 181 (.agg #[oA c[k].N,oA c[k].V]) (.agg #[oA d[k].N,oA d[k].V])) W=.ok (qA (!tV c[k] d[k])) W:=λW=>aNm.1 c[k] d[k] W;have O:∀(I:BinOp)(p q:Operand)(W:eA),Sem.run prog (eqGuard I 181 p q (.agg #[oA c[k].N,oA c[k].V]) (.agg #[oA d[k].N,oA d[k].V])) W=.ok () W:=λI p q W=>aNm.2 I p q c[k] d[k] W;have L:=kC.cells J;have M:=kC.cells K;have r:=kC.cells l;have s:=kC.cells m;have v:=kC.there wr;cases he:tV c[k] d[k]with
    |true=>
     have E:cB (qH c d=qH (c.drop (k+1)) (d.drop (k+1))):=by show _=_;rw[A.o,y,he,Oc]
     rw[he]at j;generalize c[k].N=U at *;generalize c[k].V=X at *;generalize d[k].N=V at *;generalize d[k].V=Y at *;go_wp2_with fail;refine wB (by kernel_rfl) (by kernel_rfl) ?_;repeat (go_big_quiet_step (fail))
     refine wpQuiet_nil ?_;rintro _ ⟨x,rfl⟩;have B:cB _:=vB f x.h;generalize x.w'=S at *;go_wp2;exact⟨⟨k+1,by omega,by go_num,E.o,B.o⟩,by simp[intOf];omega⟩
    |false=>
     have E:cB (qH c d=cA):=by show _=_;rw[A.o,y,he,Be]
     rw[he]at j;generalize c[k].N=U at *;generalize c[k].V=X at *;generalize d[k].N=V at *;generalize d[k].V=Y at *;go_wp2_with fail;refine wB (by kernel_rfl) (by kernel_rfl) ?_;repeat (go_big_quiet_step (fail))
     refine wpQuiet_nil ?_;rintro _ ⟨x,rfl⟩;have B:cB _:=vB f x.h;generalize x.w'=S at *;go_wp2;go_ret;exact⟨oB E.o.symm,B.o⟩
   have E:cB (qH c d=dA):=by
    show _=_;rw[A.o,Yb (by omega),Yb (by omega)];rfl
   go_wp2;go_ret;exact⟨oB E.o.symm,f⟩
 have G:((yA c:Int) != (yA d:Int))=dA:=by simp;omega
 have E:cB _:=so F;go_enter func179,ntmps179;go_wp2;go_ret;exact⟨oB E.o.symm,iD⟩
def MT(a:mC)(g:Nat)(c:List dC)(w:eA)(hf:sD w a c)(hB:sU c)(M:yA c<=2000000)(L:yA c<=g):
 dF 114 #[pA a (yA c) g] w (oA (fJ c)):=by
 have s:cB (Calls prog 112 #[pA a (yA c) g] w λe A=>OL e w A (xB c).1 (xB c).2.1 (xB c).2.2):=UY a g c w hf hB M L;have S:cB (sD w a c):=hf;have HB:cB (sU c):=hB;have hcl:=OY c;unfold OL at s;by_cases J:(xB c).2.1=0
 .have Z:(((xB c).2.1:Int) != 0)=cA:=by simp;omega
  have G:cB (∀W p B,sD W p (xB c).1->sD W a c->dF 179 #[.slice p (yA (xB c).1) B,pA a (yA c) g] W (qA (qH (xB c).1 c))):=λW p B h1 h2=>qu p a B g _ c W h1 h2 (by omega);by_cases N:qH (xB c).1 c=dA
  .have n:tO c=dA:=by unfold tO;rw[J,N];rfl
   have E:cB (fJ c=uH c):=by show _=_;rw[fJ,Ma n]
   have h16:=OW n;have U:cB (∀W,dF 54 #[.int .i64 1,.int .i64 (yA c:Nat)] W (oA (pB 1 (yA c:Nat)))):=λW=>lD 1 (yA c:Nat) W (by omega) (by omega) (by omega);have hz1:=gB 1 (yA c:Nat);have T:cB (uH c=pB 1 (yA c:Nat)++mD c):=rfl;have t:cB _:=N;generalize (xB c).1=C at *;generalize (xB c).2.1=Y at *;generalize (xB c).2.2=c2 at *;generalize pB 1 (yA c:Nat)=X at *;go_enter func114,ntmps114;go_wp2_with fail;refine s.o.mono ?_;rintro e D ⟨p,B,rfl,f,d⟩;have r:cB _:=d;have u:cB (sD D p C/\sD D a c):=⟨f.B,S.o.z d⟩
   go_wp2_with fail;apply lC (G.o _ _ _ u.o.1 u.o.2);intro w2 l;rw[t.o];have O:cB _:=vB r.o l;go_wp2_with fail;apply lC (U.o _);intro w3 K;have B3:cB _:=vB O.o K;go_wp2;go_loopw [6,8,28] (λout _ i wr=>∃(k:Nat)(q:jB),k<=yA c/\i=.int .i64 k/\out=oA q/\q.size<=1+k*3000000000/\cB (q=X++mD (c.take k))/\uB w wr) (λ_ _ i _=>yA c-(intOf i).toNat)
   case atStart=>exact⟨0,X,Oa _,rfl,rfl,by omega,by show _=_;simp[mD],B3.o⟩
   case round=>
    obtain⟨k,q,hk,rfl,rfl,hst,H,m⟩:=hrel;by_cases v:k<yA c
    .obtain ⟨b,o,rfl,hb,c0,Y⟩:=(S.o.z m).at v;obtain⟨hs1,hs2⟩:=HB.o k v;have V:cB _:=λW=>jQ c[k].N W hs1;have F:cB _:=λW=>rO c[k].V W hs2;have hz8:=rF c[k].N;have hz16:=iF c[k].V;have HT:=pU c k v;have R:cB (q++(aN c[k].N++aG c[k].V)=X++mD (c.take (k+1))):=by show _=_;rw[HT,H.o,Wa]
     generalize aN c[k].N=I at *;generalize aG c[k].V=j at *;generalize c[k].N=P at *;generalize c[k].V=Q at *;have z:(I++j).size=I.size+j.size:=Ka;have hzst:(q++(I++j)).size=q.size+(I.size+j.size):=by rw[Ka,z]
     have d0:∀x:kC (wr.alloc (vA #[oA P,oA Q] 181)),x.w'.cell? ⟨wr.1.size,0,aA⟩=bA (oA P):=kC.cells (by simp);have d1:∀x:kC (wr.alloc (vA #[oA P,oA Q] 181)),x.w'.cell? ⟨wr.1.size,1,aA⟩=bA (oA Q):=kC.cells (by simp);have hne:=kC.there (wr.alloc (vA #[oA P,oA Q] 181));go_wp2_with fail;refine wB (by kernel_rfl) (by kernel_rfl) ?_;repeat (go_big_quiet_step (first|(go_at_call 92;exact oC (V.o _))|(go_at_call 62;exact oC (F.o _))))
     refine wpQuiet_nil ?_;rintro _ ⟨x,rfl⟩;have HX:cB _:=vB (vB m zB) x.h;generalize x.w'=W2 at *;go_wp2;exact⟨⟨k+1,q++(I++j),by omega,by go_num,rfl,by omega,R.o,HX.o⟩,by simp[intOf];omega⟩
    have R:cB (q=fJ c):=by
     show _=_;rw[E.o,T.o,H.o,Ra (by omega)]
    go_wp2;go_ret;exact⟨by rw[<-R.o];rfl,m⟩
  have y:qH (xB c).1 c=cA:=by simpa using N
  have E:cB (fJ c=kA):=by
   show _=_;rw[fJ,Ja];unfold tO;rw[y,Wg];simp
  have t:cB _:=y;generalize (xB c).1=C at *;generalize (xB c).2.1=Y at *;generalize (xB c).2.2=c2 at *;go_enter func114,ntmps114;go_wp2_with fail;refine s.o.mono ?_;rintro e D ⟨p,B,rfl,f,d⟩;have r:cB _:=d;have u:cB (sD D p C/\sD D a c):=⟨f.B,S.o.z d⟩
  go_wp2_with fail;apply lC (G.o _ _ _ u.o.1 u.o.2);intro w2 l;rw[t.o];have O:cB _:=vB r.o l;go_wp2;go_ret;exact⟨by rw[E.o];rfl,O.o⟩
 have Z:(((xB c).2.1:Int) != 0)=dA:=by simp;omega
 have E:cB (fJ c=kA):=by
  show _=_;rw[fJ,Ja];unfold tO;rw[Ub J];simp
 generalize (xB c).1=C at *;generalize (xB c).2.1=Y at *;generalize (xB c).2.2=c2 at *;go_enter func114,ntmps114;go_wp2_with fail;refine s.o.mono ?_;rintro e D ⟨p,B,rfl,f,d⟩;have r:cB _:=d;go_wp2;go_ret;exact⟨by rw[E.o];rfl,r.o⟩
def lenOf:iA->Nat
 |pA _ n _=>n
 |_=>0
def fX(key:jB)(a:List dC)(c:Int):Prop:=∀b,tO b=dA->uH b=key->yA a<=yA b/\a=b.take (yA a)/\c=((1+(mD a).size:Nat):Int)
def YP(l:dC)(r:List dC):(mD (l::r)).data.toList=(pB 1 (l.N.size:Nat)).data.toList++(l.N.data.toList++((pB 2 (l.V.size:Nat)).data.toList++(l.V.data.toList++(mD r).data.toList))):=by
 simp[mD,aN,aG]
def XE(a:List dC)(k:Nat)(h:k<yA a):(uH a).data.toList=((pB 1 (yA a:Nat)).data.toList++(mD (a.take k)).data.toList)++(mD (a[k]:: a.drop (k+1))).data.toList:=by
 have e:mD a=mD (a.take k)++mD (a[k]:: a.drop (k+1)):=by
  rw[<-cN,<-Cb h,Za]
 rw[uH,e];simp
def vy(a:List dC)(k:Nat):((pB 1 (yA a:Nat)).data.toList++(mD (a.take k)).data.toList).length=1+(mD (a.take k)).size:=by
 rw[Kb,<-fR,<-fR,gB]
def aBs{a:List dC}(b:tO a=dA)(k:Nat)(h:k<yA a):pO (uH a) (1+(mD (a.take k)).size) 1=bA (a[k].N,1+(mD (a.take k)).size+1+a[k].N.size):=by
 have c:=BL b k h;refine cc (post:=(pB 2 (a[k].V.size:Nat)).data.toList++(a[k].V.data.toList++(mD (a.drop (k+1))).data.toList)) ?_ (vy a k) (by omega);rw[XE a k h,YP]
def rx{a:List dC}(b:tO a=dA)(k:Nat)(h:k<yA a):pO (uH a) (1+(mD (a.take k)).size+1+a[k].N.size) 2=bA (a[k].V,1+(mD (a.take k)).size+1+a[k].N.size+2+a[k].V.size):=by
 have c:=BL b k h;refine cc (pre:=((pB 1 (yA a:Nat)).data.toList++(mD (a.take k)).data.toList)++((pB 1 (a[k].N.size:Nat)).data.toList++a[k].N.data.toList)) (post:=(mD (a.drop (k+1))).data.toList) ?_ ?_ (by omega);rw[XE a k h,YP];simp only[Nd];rw[Kb,vy,Kb,<-fR,<-fR,gB];omega
def YQ(a:List dC)(k:Nat)(h:k<yA a):(mD (a.take (k+1))).size=(mD (a.take k)).size+1+a[k].N.size+2+a[k].V.size:=by grind [mD,pU,rF,iF]
def aCo(a:List dC)(k:Nat):(mD (a.take k)).size<=(mD a).size:=by
 have e:mD a=mD (a.take k)++mD (a.drop k):=by rw[<-cN,Za]
 rw[e,Ka];omega
def jm(a:List dC):(uH a).size=1+(mD a).size:=by rw[uH,Ka,gB]
def ch(key:jB):fX key [] 1:=λa _ _=>⟨Oa _,by simp,rfl⟩
def MH{key:jB}{a:List dC}{p:Nat}(h:fX key a (p:Nat))(m:p<key.size):∀b,tO b=dA->uH b=key->∃f:yA a<yA b,pO key p 1=bA (b[yA a].N,p+1+b[yA a].N.size)/\pO key (p+1+b[yA a].N.size) 2=bA (b[yA a].V,p+1+b[yA a].N.size+2+b[yA a].V.size):=by
 intro b i f;obtain⟨k,g,l⟩:=h b i f;have d:p=1+(mD a).size:=by omega
 have c:yA a<yA b:=by
  rcases Gc (yA a) (yA b) with c|j;exact c;exfalso;have e:a=b:=by rw[g];exact Ra (by omega)
  have:=jm b;rw[f]at this;rw[e]at d;omega
 refine⟨c,?_,?_⟩;have:=aBs i (yA a) c;rw[<-g,f,<-d]at this;exact this;have:=rx i (yA a) c;rw[<-g,f,<-d]at this;exact this
def lp{key:jB}{a:List dC}{p:Nat}(h:fX key a (p:Nat))(s:p<key.size){l n:jB}{q m:Nat}(o:pO key p 1=bA (l,q))(r:pO key q 2=bA (n,m)):fX key (a++[⟨l,n⟩]) (m:Nat):=by
 intro b g i;obtain⟨c,d,e⟩:=MH h s b g i;obtain⟨t,f,u⟩:=h b g i;rw[o]at d;simp only[Qa,Dc]at d;obtain⟨rfl,rfl⟩:=d;rw[r]at e;simp only[Qa,Dc]at e;obtain⟨rfl,rfl⟩:=e;have j:(a++[(⟨b[yA a].N,b[yA a].V⟩:dC)]).length=yA a+1:=by simp
 have k:a++[(⟨b[yA a].N,b[yA a].V⟩:dC)]=b.take (yA a+1):=by
  rw[Pa c,<-f]
 refine⟨by rw[j];omega,by rw[j];exact k,?_⟩;rw[k,YQ b (yA a) c,<-f];congr 1;omega
def MI{key:jB}{c:List dC}{p:Nat}(h:fX key c (p:Nat))(n:p<key.size)(d:pO key p 1=aA\/∃i q,pO key p 1=bA (i,q)/\pO key q 2=aA)(a:List dC)(j:Int):fX key a j:=by
 intro o k l;exfalso;obtain⟨m,b,g⟩:=MH h n o k l;obtain d|⟨i,q,e,f⟩:=d;rw[d]at b;exact absurd b (by simp);rw[e]at b;simp only[Qa,Dc]at b;obtain⟨rfl,rfl⟩:=b;rw[f]at g;exact absurd g (by simp)
def se{key:jB}{b:List dC}{a:Int}(h:fX key b a)(p:a<=0\/(key.size:Int)<=a\/16<yA b):
 (pG key=(b,dA)/\fJ b=key/\0<key.size)\/(pG key=([],cA)/\(key.size=0\/fJ b≠key)):=by
 cases hd:(pG key).2 with
 |true=>
  obtain⟨d,c⟩:=ZT hd;obtain⟨k,f,o⟩:=h _ d c;have l:=OW d;have g:=jm (pG key).1;rw[c]at g;have e:b=(pG key).1:=by
   rcases Gc (yA b) (yA (pG key).1) with i|m;exfalso;have n:=YQ (pG key).1 (yA b) i;have q:=aCo (pG key).1 (yA b+1);rw[<-f]at n;omega;rw[f];exact Ra (by omega)
  left;refine⟨?_,?_,by omega⟩
  .rw[e];cases hdk:pG key with
   |mk x y=>rw[hdk]at hd;simp only at hd |-;rw[hd]
  rw[e,fJ,Ma d,c]
 |false=>
  obtain⟨k,f⟩:=NY hd;right;refine⟨k,?_⟩;by_cases j:key.size=0
  .exact Ca j
  right;intro c;unfold fJ at c;split at c
  .rename_i d;exact f b d c
  rw[<-c]at j;exact j rfl
def aDr{a:List dC}(h:sU a){l:dC}(b:l.N.size<=1000000000/\l.V.size<=1000000000):sU (a++[l]):=by grind [sU]
def MR(key:jB)(w:eA)(L:key.size<=1000000000):
 Calls prog 177 #[oA key] w λe y=>∃a Q,e=uA (xA #[.slice a (yA (pG key).1) Q,qA (pG key).2])/\oE y w.1.size a (pG key).1/\uB w y:=by
 go_enter func177,ntmps177;go_wp2;go_loopw [4,5,6,7,8,9] (λC P _ _ _ _ wr=>∃(b:List dC)(p:Int)(g z:Nat),P=zA p/\C=pA (yB g) (yA b) z/\-1<=p/\p<=1000000000/\yA b<=17/\cB (sU b/\fX key b p)/\cB (wr.ownsRow w.1.size 181 2 (pA (yB g) (yA b) z) (yA b) (vC b))/\uB w wr) (λC _ _ _ _ _ _=>18-lenOf C)
 case atStart=>
  exact⟨[],1,_,_,rfl,rfl,by omega,by omega,by simp,⟨λi h=>absurd h (by simp),ch key⟩,eA.ownsRow_made w #[] 0 (Ia _) (by simp[maxLen]) (by simp),zB⟩
 case round=>
  obtain⟨b,s,g,z,rfl,rfl,h,h,h,F,f,c⟩:=hrel;have M:=c.size;by_cases J:0<s/\s<(key.size:Int)/\yA b<=16
  .obtain ⟨hg1,hg2,hg3⟩:=J;obtain⟨p,rfl⟩:∃p:Nat,s=(p:Int):=⟨s.toNat,by omega⟩
   have B:p<key.size:=by omega
   have Y:((yA b:Nat):Int)<=16:=by omega
   obtain⟨d,l,q,t,Z,D,H,h,h,h⟩:∃d l,∃q t:Int,(cB (∀W,rL 101 #[oA key,zA (p:Nat),zA 1] W (xA #[oA d,zA q])))/\(cB (∀W,rL 101 #[oA key,zA q,zA 2] W (xA #[oA l,zA t])))/\fX key (b++[⟨d,l⟩]) t/\-1<=t/\t<=1000000000/\d.size<=1000000000/\l.size<=1000000000:=by
    have G:ByteArray.empty.size=0:=rfl;cases hn1:pO key p 1 with
    |none=>exact⟨_,_,_,_,λW=>DJ key p 1 W L (by omega) (by omega) hn1,λW=>dj key 2 W,MI F.o.2 B (Ca hn1) _ _,by omega,by omega,by omega,by omega⟩
    |some G=>
     obtain⟨d,q⟩:=G;obtain⟨G,G,G⟩:=vw hn1;cases hn2:pO key q 2 with
     |none=>exact⟨d,_,(q:Nat),_,λW=>yQ key p 1 d q W L (by omega) hn1,λW=>DJ key q 2 W L (by omega) (by omega) hn2,MI F.o.2 B (La ⟨d,q,hn1,hn2⟩) _ _,by omega,by omega,by omega,by omega⟩
     |some U=>
      obtain⟨l,t⟩:=U;obtain⟨G,G,G⟩:=vw hn2;exact⟨d,l,(q:Nat),(t:Nat),λW=>yQ key p 1 d q W L (by omega) hn1,λW=>yQ key q 2 l t W L (by omega) hn2,lp F.o.2 B hn1 hn2,by omega,by omega,by omega,by omega⟩
   have O:=bB H;have K:yA (b++[(⟨d,l⟩:dC)])=yA b+1:=by simp
   clear H;go_wp2_with fail;refine tD (Z.o _) ?_;go_wp2_with fail;refine tD (D.o _) ?_;go_wp2_with(at_builtin;refine pQ rfl _ _ rfl underlying108 tT rfl (by omega) (by omega) rfl f.o rfl rfl (cs:=#[oA d,oA l]) rfl (by simp[iA.oneCell']) (by omega) M ?_;intro I G U U W);have n:=U.o;rw[show vC b++(#[iA.string d,oA l]).toList=vC (b++[⟨d,l⟩]) by rw[cG];rfl,<-K]at n;exact⟨⟨b++[(⟨d,l⟩:dC)],t,I,G,rfl,by rw[K],by omega,by omega,by omega,⟨aDr F.o.1 h,O.o⟩,n,c.trans (W.o.below M λi h e=>by omega)⟩,by simp only[lenOf];omega⟩
  have I:=se F.o.2 (by omega);obtain⟨S,_,_,_⟩:=aL f.o;have X:cB (oE wr w.1.size (yB g) b):=gK f.o;have V:cB (dF 114 #[pA (yB g) (yA b) z] wr (oA (fJ b))):=MT _ z b wr X.o.B F.o.1 (by omega) S;have r:cB (key.toList.isEmpty=decide (key.size=0)):=by
   show _=_;rw[ByteArray.toList_eq,fR];cases key.data.toList<;>simp
  have R:(pG key=(b,dA)/\key.toList.isEmpty=cA/\((fJ b).toList==key.toList)=dA)\/(pG key=([],cA)/\key.toList.isEmpty=dA)\/(pG key=([],cA)/\key.toList.isEmpty=cA/\((fJ b).toList==key.toList)=cA):=by
   obtain⟨j,o,H⟩|⟨j,o⟩:=I
   .left;refine⟨j,?_,?_⟩
    .rw[r.o];exact Ub (by omega)
    rw[o];simp
   by_cases T:key.size=0
   .right;left;exact⟨j,by rw[r.o];exact Ac T⟩
   right;right;refine⟨j,by rw[r.o];exact Ub T,?_⟩;rw[<-Bool.not_eq_true];intro h;obtain o|o:=o;exact T o;exact o (toList_inj (by simpa using h))
  have A:s<=0\/(0<s/\(key.size:Int)<=s)\/(0<s/\s<(key.size:Int)/\(16:Int)<(yA b:Nat)):=by omega
  clear I f J r;generalize fJ b=h at *;obtain⟨j,o,H⟩|⟨j,o⟩|⟨j,o,H⟩:=R
  .have E:cB _:=j;clear j;obtain u|⟨u,m⟩|⟨u,m,x⟩:=A
   all_goals
    go_wp2_with fail;apply lC V.o;intro N k;have D:cB (oE N w.1.size (yB g) b/\uB w N):=⟨X.o.z k,vB c k⟩
    clear k;go_wp2;refine bodyPost_ret (v:=xA #[pA (yB g) (yA b) z,qA dA]) (by simp[results,results177,go_sem]) rfl ⟨yB g,z,?_,?_,D.o.2⟩
    .rw[E.o]
    rw[E.o];exact D.o.1
  .have E:cB _:=j;clear j;obtain u|⟨u,m⟩|⟨u,m,x⟩:=A
   all_goals
    go_wp2;refine bodyPost_ret (v:=xA #[pA (yB wr.1.size) 0 0,qA cA]) (by simp[results,results177,go_sem]) rfl ?_;first
     |exact⟨bA ⟨wr.1.size,0,aA⟩,0,by rw[E.o];rfl,by rw[E.o];exact Ca rfl,vB c zB⟩
     |exact⟨bA ⟨wr.1.size,0,aA⟩,⟨0,by rw[E.o];rfl⟩,by rw[E.o];exact Ca rfl,vB c zB⟩
     |exact⟨⟨bA ⟨wr.1.size,0,aA⟩,⟨0,by rw[E.o];rfl⟩,by rw[E.o];exact Ca rfl⟩,vB c zB⟩
     |exact⟨⟨bA ⟨wr.1.size,0,aA⟩,0,by rw[E.o];rfl,by rw[E.o];exact Ca rfl⟩,vB c zB⟩
  have E:cB _:=j;clear j;obtain u|⟨u,m⟩|⟨u,m,x⟩:=A
  all_goals
   go_wp2_with fail;apply lC V.o;intro N k;have D:cB _:=vB c k;clear k;go_wp2;refine bodyPost_ret (v:=xA #[pA (yB N.1.size) 0 0,qA cA]) (by simp[results,results177,go_sem]) rfl ⟨yB N.1.size,0,?_,?_,vB D.o zB⟩
   .rw[E.o];rfl
   rw[E.o];exact Ca rfl
def PL(key:jB):yA (pG key).1<=16:=by grind [pG,OW,ZT,NY]
def AA(key:jB)(w:eA)(q:key.size<=1000000000)(k:uG w):
 dF 210 #[oA key] w (oA (oL (pG key).1)):=by
 have r:=PL key;have i:cB (Calls prog 261 #[oA key] w λe c=>∃a b,e=uA (xA #[.slice a (yA (pG key).1) b,qA (pG key).2])/\oE c w.1.size a (pG key).1/\uB w c):=im key w q k;clear k;generalize (pG key).1=L at *;generalize (pG key).2=p at *;generalize j:oL L=M;have n:cB _:=j;clear j;go_enter func210,ntmps210;go_wp2_with fail;refine i.o.mono ?_;rintro e h ⟨a,b,rfl,g,d⟩;have o:cB (dF 262 #[pA a (yA L) b] h (oA M)):=by
  have:=GZ a b L h g.B (by omega);rw[n.o]at this;exact this
 have l:cB _:=d;clear g d i;go_wp2_with fail;apply lC o.o;intro s f;have m:cB _:=vB l.o f;clear f;go_wp2;go_ret;exact⟨rfl,m.o⟩
def BA(key:jB)(w:eA)(z:key.size<=1000000000):
 dF 175 #[oA key] w (oA (oL (pG key).1)):=by
 have G:=PL key;have u:cB (Calls prog 177 #[oA key] w λe n=>∃a g,e=uA (xA #[.slice a (yA (pG key).1) g,qA (pG key).2])/\oE n w.1.size a (pG key).1/\uB w n):=MR key w z;generalize (pG key).1=c at *;generalize (pG key).2=p at *;go_enter func175,ntmps175;go_wp2_with fail;refine u.o.mono ?_;rintro e s ⟨a,g,rfl,j,h⟩;have y:cB (sD s a c):=j.B;have t:cB _:=h;clear j h u;go_wp2;go_loopw [6,14] (λ_ i wr=>∃k:Nat,k<=yA c/\i=zA k/\cB (oL c=oL (c.drop k))/\uB s wr) (λ_ i _=>yA c-(intOf i).toNat)
 case atStart=>exact⟨0,Oa _,rfl,rfl,iD⟩
 case round=>
  obtain⟨k,F,rfl,q,d⟩:=hrel;by_cases l:k<yA c
  .obtain ⟨b,o,rfl,D,B,C⟩:=(y.o.z d).at l;have m:=XJ c k l;have v:cB (sP c[k]=(c[k].N.toList==[95,95,110,97,109,101,95,95])):=by show _=_;rw[sP,RU]
   generalize c[k].N=x at *;by_cases f:sP c[k]=dA
   .have r:(x.toList==[95,95,110,97,109,101,95,95])=dA:=by rw[<-v.o];exact f
    have E:cB (oL c=c[k].V):=by show _=_;rw[q.o,m,Ma f]
    clear m f;generalize c[k].V=A at *;go_wp2;go_ret;exact⟨by rw[E.o];rfl,vB t.o (vB d zB)⟩
   have r:(x.toList==[95,95,110,97,109,101,95,95])=cA:=by rw[<-v.o];simpa using f
   have E:cB (oL c=oL (c.drop (k+1))):=by show _=_;rw[q.o,m,Ja f]
   clear m f;generalize c[k].V=A at *;go_wp2;exact⟨⟨k+1,by omega,by go_num,E.o,vB d zB⟩,by simp[intOf];omega⟩
  have E:cB (oL c=kA):=by
   show _=_;rw[q.o,Yb (by omega)];rfl
  go_wp2;go_ret;exact⟨by rw[E.o];rfl,vB t.o d⟩
theorem aNt(c:UInt8):okM [45] c=okT c:=by
 have e:decide (0<=Lib.indexByte [45] c)=(c==45):=by
  by_cases h:c=45
  .subst h;rfl
  have a:((45:UInt8)==c)=cA:=by simpa using λe=>h e.symm
  have b:(c==45)=cA:=by simpa using h
  simp[Lib.indexByte,a,b]
 rw[okM,okT,e]
def np(s:jB):iU s 32 ⟨#[45]⟩=bD s:=by grind [iU,bD,aNt]
def wM(s:jB)(w:eA)(b:s.size<=maxLen):rL 84 #[oA s] w (qA (bD s)):=by
 have H:cB _:=λW=>np s ▸ LV s 32 ⟨#[45]⟩ W b;generalize bD s=R at *;go_enter func84,ntmps84;go_wp2_with fail;apply dR (H.o _);go_wp2;go_ret;exact⟨rfl,rfl⟩
def aKf(c:UInt8):okT c=decide ((97<=(c.toNat:Int)/\(c.toNat:Int)<=122)\/(48<=(c.toNat:Int)/\(c.toNat:Int)<=57)\/(c.toNat:Int)=45):=by
 have a:(c==45)=decide (c.toNat=45):=by rw[Qb];simp[<-UInt8.toNat_inj]
 rw[Qb];simp[okT,a,Df];omega
def pI(s:jB)(w:eA)(n:s.size<=maxLen):
 rL 52 #[oA s] w (qA (bD s)):=by
 unfold maxLen at n;by_cases c:1<=s.size/\s.size<=32
 .have m:bC (s.size:Int) 1 32=dA:=by unfold bC;simp;omega
  have g:cB (bD s=s.data.toList.all okT):=by show _=_;simp[bD,c.1,c.2]
  have p:=c.1;have q:=c.2;clear c;go_enter func52,ntmps52;go_wp2_with(go_at_call 91;apply lC (dE _ _ _ _);rintro j rfl);go_loop [3,4] (λi _=>∃k:Nat,k<=s.size/\i=zA k/\(s.data.toList.take k).all okT=dA) (λi _=>s.size-(intOf i).toNat)
  case atStart=>exact⟨0,Oa _,rfl,by simp⟩
  case round=>
   obtain⟨k,o,rfl,d⟩:=hrel;have b:cB _:=d;clear d m;by_cases h:k<s.size
   .have a:=CM (f:=okT) h;rw[b.o,Oc,aKf]at a;have l:cB _:=a;clear a;go_wp2;all_goals first
     |(go_ret
       refine⟨oB ?_,rfl⟩;rw[g.o];refine(uw (k:=k+1) ?_).symm;rw[l.o,Xe];simp at *;omega)
     |(refine⟨⟨k+1,by omega,by go_num,?_⟩,by simp[intOf];omega⟩
       rw[l.o,Af];simp at *;omega)
   go_wp2;go_ret;exact⟨oB (by rw[g.o,<-b.o,Ra (by simp;omega)]),rfl⟩
 have m:bC (s.size:Int) 1 32=cA:=by unfold bC;simp;omega
 have g:cB (bD s=cA):=by show _=_;simp[bD];omega
 go_enter func52,ntmps52;go_wp2_with(go_at_call 91;apply lC (dE _ _ _ _);rintro j rfl);go_ret;exact⟨oB g.o.symm,rfl⟩
def mW(s:jB)(w:eA)(h:s.size<=1000000000)(d:uG w):dF 209 #[oA s] w (qA (bF s)):=by
 have H:cB (dF 260 #[oA s] w (zA (qP s:Nat))):=LS s w h d;have c:cB (bF s=(!s.toList.isEmpty&&decide (qP s=0))):=rfl;clear d;generalize qP s=v at *;by_cases a:s.toList.isEmpty=dA
 .go_enter func209,ntmps209;go_wp2;go_ret;exact⟨oB (by rw[c.o,a];rfl),iD⟩
 have f:s.toList.isEmpty=cA:=by simpa using a
 clear a;go_enter func209,ntmps209;go_wp2_with fail;apply lC H.o;intro i g;go_wp2;go_ret;exact⟨oB (by rw[c.o,f];rw[Qb];simp),g⟩
def xM(s:jB)(w:eA)(g:s.size<=1000000000):dF 110 #[oA s] w (qA (bF s)):=by
 have H:cB (dF 176 #[oA s] w (zA (qP s:Nat))):=MU s w g;have c:cB (bF s=(!s.toList.isEmpty&&decide (qP s=0))):=rfl;generalize qP s=v at *;by_cases a:s.toList.isEmpty=dA
 .go_enter func110,ntmps110;go_wp2;go_ret;exact⟨oB (by rw[c.o,a];rfl),iD⟩
 have d:s.toList.isEmpty=cA:=by simpa using a
 clear a;go_enter func110,ntmps110;go_wp2_with fail;apply lC H.o;intro h f;go_wp2;go_ret;exact⟨oB (by rw[c.o,d];rw[Qb];simp),f⟩
def aJu{key:jB}(h:(pG key).2=cA):(oL (pG key).1).toList.isEmpty=dA:=by rw[(NY h).1];simp[oL]
def KB(s:jB)(w:eA)(i:s.size<=1000000000):dF 111 #[oA s] w (qA (rK s)):=by
 have d:cB (Calls prog 177 #[oA s] w λe f=>∃a c,e=uA (xA #[.slice a (yA (pG s).1) c,qA (pG s).2])/\oE f w.1.size a (pG s).1/\uB w f):=MR s w i;have k:cB _:=λW=>BA s W i;have h:cB (rK s=!(oL (pG s).1).toList.isEmpty):=rfl;cases hd:(pG s).2 with
 |false=>
  have l:=aJu hd;rw[hd]at d;generalize oL (pG s).1=m at *;generalize (pG s).1=L at *;clear hd;go_enter func111,ntmps111;go_wp2_with fail;refine d.o.mono ?_;rintro e n ⟨a,c,rfl,_,b⟩;go_wp2;go_ret;exact⟨oB (by rw[h.o,l];rfl),b⟩
 |true=>
  rw[hd]at d;generalize oL (pG s).1=m at *;generalize (pG s).1=L at *;clear hd;go_enter func111,ntmps111;go_wp2_with fail;refine d.o.mono ?_;rintro e n ⟨a,c,rfl,_,b⟩;have j:cB _:=b;clear b;go_wp2_with fail;apply lC (k.o _);intro o g;go_wp2;go_ret;exact⟨oB (by rw[h.o]),vB j.o g⟩
def EI(t:fB)(c d:mC)(f g:Nat)(w:eA):dF 109 #[.agg #[oA t.N,zA t.L,pA c (yA t.M) f,pA d (yA t.Z) g]] w (qA (cF t)):=by
 have E:cB (cF t=(t.L==-1&&yA t.M==0&&yA t.Z==0)):=rfl;generalize yA t.M=h at *;generalize yA t.Z=j at *;generalize t.L=L at *;by_cases a:L = -1
 .by_cases b:h=0
  .go_enter func109,ntmps109;go_wp2;go_ret;exact⟨oB (by rw[E.o,a,b];rw[Qb];simp),zB⟩
  go_enter func109,ntmps109;go_wp2;go_ret;exact⟨oB (by rw[E.o,a];rw[Qb];simp[b]),zB⟩
 go_enter func109,ntmps109;go_wp2;go_ret;exact⟨oB (by rw[E.o];rw[Qb];simp[a]),zB⟩
def bV(x:Int)(w:eA):rL 142 #[zA x] w (qA (bC x (-1) 1000000)):=by
 by_cases h:x = -1
 .have E:cB (bC x (-1) 1000000=dA):=by show _=_;subst h;rfl
  go_enter func142,ntmps142;go_wp2_with(go_at_call 63;apply lC (nG _ _);rintro a rfl);go_ret;exact⟨oB E.o.symm,rfl⟩
 have E:cB (bC x (-1) 1000000=bC x 0 1000000):=by
  show _=_;unfold bC;congr 1;rw[Qb];simp;omega
 go_enter func142,ntmps142;go_wp2_with(go_at_call 63;apply lC (nG _ _);rintro a rfl);go_ret;exact⟨oB (by rw[E.o,show(x==-1)=cA by simpa using h,Rf]),rfl⟩
section
open Go.Maps Go.ChangeMaps
def eJ(n:Int):DataW Unit:=.lit (.int .i64 n)
def mF(g:Nat):DataW Unit:=.lit (.int .i64 (g:Int))
def tE:iA->Option (DataW Unit×List MemPlace)
 |.pointer (bA ⟨g,0,aA⟩)=>bA (mF g,[])
 |.pointer aA=>bA (.nil,[])
 |_=>aA
def eY(g:Nat):tE (.pointer (yB g))=bA (mF g,[]):=rfl
def aM:Keyed prog 9:=string_keyed underlying9
def lN{s:jB}(h:s.size<=maxLen):keyOf prog 9 (oA s)=bA (kL s):=WideMaps.keyOf_string_mk underlying9 h
def TM{H:Type}{P:Program}{w:eA}{k:jA}{R:iA->Option (DataW H×List MemPlace)}{b n:Nat}{D:DataW H}(h:w.ownsMap P k R b n D):w.ownsMap P k R b (Maps.size D) D:=by
 obtain⟨c,a,d,F,e,rfl⟩:=h;refine⟨c,a,d,F,?_,rfl⟩;rw[size_eq,length_sorted,Xa,Qg];exact Ia _
structure jS(w:World)(S:Nat→Prop)(x:Nat)(t:fB)(M lm sm cm:Nat)(iv:Value)(Q:List (kB×Nat))(hs:List zI)(D:DataW Unit):Prop where
 blk:nB w x #[zA t.L,.map (bA lm),.map (bA sm),.map (bA cm),iv] 228
 lims:w.ownsMap prog 9 (plainElem prog 3) lm (yA t.M) (fE (t.M.map λp=>(p.s,eJ p.n)))
 Z:w.ownsMap prog 9 tE sm (yA Q) (fE (Q.map λq=>(q.1.s,mF q.2)))
 cnts:w.ownsMap prog 9 (plainElem prog 3) cm M D
 cnt:∀m:jB,D.atKey (kL m) (eJ 0)=eJ (bJ cE t.Z m)
 q1:Q.map (·.1)=t.Z
 cells:∀q∈Q,nB w q.2 #[oA q.1.s,zA q.1.n] 98
 row:w.ownsRow 0 334 2 iv (yA hs) (qK hs)
 heap:uJ hs
 perm:(hs.map (·.b)).Perm (Q.map (·.2))
 early:∀h∈hs,∀q∈Q,q.2=h.b→h.t≤q.1.n
 rm:zC (·.s) t.M
 rs:zC (·.s) t.Z
 sx:S x
 sl:S lm
 ss:S sm
 sc:S cm
 sq:∀q∈Q,S q.2
 si:∀g,iv.ownBlock=bA g→S g
 d1:lm≠sm
 d2:lm≠cm
 d3:sm≠cm
 nd:(Q.map (·.2)).Nodup
 dx:∀q∈Q,q.2≠x
 di:∀g,iv.ownBlock=bA g→g≠x∧∀q∈Q,q.2≠g
def vD(w:eA)(S:Nat->Prop)(x:Nat)(t:fB)(M:Nat):Prop:=∃d e a c Q b D,jS w S x t M d e a c Q b D
def jS.keep{w w':eA}{S S':Nat->Prop}{x:Nat}{t:fB}{M u v m:Nat}{s:iA}{Q:List (kB×Nat)}{f:List zI}{D:DataW Unit}(h:jS w S x t M u v m s Q f D)
(c:∀g,g<w.1.size->S g->w'.heap[g]?=w.heap[g]?/\S' g):jS w' S' x t M u v m s Q f D:=by
 have p:∀{R:iA->Option (DataW Unit×List MemPlace)}{b n:Nat}{E:DataW Unit},w.ownsMap prog 9 R b n E->S b->w'.ownsMap prog 9 R b n E:=fun{R b n E} h f=>by
  have o:=h.lt;obtain⟨A,d,i,r⟩:=h;exact⟨A,d,(c b o f).1.trans i,r⟩
 have i:∀{g:Nat}{a:Array iA}{y:jA},nB w g a y->S g->nB w' g a y:=fun{g a y} h f=>(c g (aB h) f).1.trans h;exact { h with
  blk:=i h.blk h.sx
  lims:=p h.lims h.sl
  Z:=p h.Z h.ss
  cnts:=p h.cnts h.sc
  cells:=λq k=>i (h.cells q k) (h.sq q k)
  row:=by
   refine⟨h.row.1,?_⟩;obtain B|⟨g,l,a,e,C,j,r⟩:=h.row.2;exact Ca B;have:s.ownBlock=bA g:=by rw[e];rfl
   exact La ⟨g,l,a,e,C,i j (h.si g this),r⟩
  sx:=(c x (aB h.blk) h.sx).2
  sl:=(c u h.lims.lt h.sl).2
  ss:=(c v h.Z.lt h.ss).2
  sc:=(c m h.cnts.lt h.sc).2
  sq:=λq k=>(c q.2 (aB (h.cells q k)) (h.sq q k)).2
  si:=λg z=>(c g (jP h.row g z) (h.si g z)).2}
def vD.keep{w w':eA}{S S':Nat->Prop}{x:Nat}{t:fB}{M:Nat}(h:vD w S x t M)(b:∀g,g<w.1.size->S g->w'.heap[g]?=w.heap[g]?/\S' g):vD w' S' x t M:=by
 obtain⟨e,f,a,d,Q,c,D,h⟩:=h;exact⟨e,f,a,d,Q,c,D,h.keep b⟩
def vD.z{w a:eA}{S:Nat->Prop}{x:Nat}{t:fB}{M:Nat}(h:vD w S x t M)(b:uB w a):vD a S x t M:=h.keep λg c d=>⟨b.block g c,d⟩
def vD.lt{w:eA}{S:Nat->Prop}{x:Nat}{t:fB}{M:Nat}(h:vD w S x t M):x<w.1.size:=by
 obtain⟨d,e,a,c,Q,b,D,h⟩:=h;exact aB h.blk
def vD.mono{w:eA}{S:Nat->Prop}{x:Nat}{t:fB}{M a:Nat}(h:vD w S x t M)(c:M<=a):vD w S x t a:=by
 obtain⟨f,g,b,e,Q,d,D,h⟩:=h;exact⟨f,g,b,e,Q,d,D,{ h with cnts:=h.cnts.mono c}⟩
def IC(a:Int)(o:jB)(w:eA):
 Calls prog 143 #[zA a] w λe d=>∃x,e=uA (.pointer (yB x))/\w.1.size<=x/\vD d (λg=>w.1.size<=g) x ⟨o,a,[],[]⟩ 0/\uB w d:=by
 have j:=@run_makeMap prog;go_enter func143,ntmps143;go_wp2;go_ret;refine⟨w.1.size+1+1+1,rfl,by omega,⟨w.1.size,w.1.size+1,w.1.size+1+1,pA aA 0 0,[],[],.map [],?_⟩,vB (vB (vB zB zB) zB) zB⟩;have k:∀R:iA->Option (DataW Unit×List MemPlace),(w.alloc (.map #[] 0)).ownsMap prog 9 R w.1.size 0 (.map []):=λR=>eA.ownsMap_made w _ _ R;have l:∀R:iA->Option (DataW Unit×List MemPlace),((w.alloc (.map #[] 0)).alloc (.map #[] 0)).ownsMap prog 9 R (w.1.size+1) 0 (.map []):=λR=>by have:=eA.ownsMap_made (w.alloc (.map #[] 0)) prog 9 R;simpa using this
 have n:∀R:iA->Option (DataW Unit×List MemPlace),(((w.alloc (.map #[] 0)).alloc (.map #[] 0)).alloc (.map #[] 0)).ownsMap prog 9 R (w.1.size+1+1) 0 (.map []):=λR=>by have:=eA.ownsMap_made ((w.alloc (.map #[] 0)).alloc (.map #[] 0)) prog 9 R;simpa using this
 exact {
  blk:=by have:=nB.new (((w.alloc (.map #[] 0)).alloc (.map #[] 0)).alloc (.map #[] 0)) #[zA a,.map (bA w.1.size),.map (bA (w.1.size+1)),.map (bA (w.1.size+1+1)),pA aA 0 0] 228;simpa using this
  lims:=(((k _).alloc _).alloc _).alloc _
  Z:=((l _).alloc _).alloc _
  cnts:=(n _).alloc _
  cnt:=λm=>rfl
  q1:=rfl
  cells:=λq b=>by cases b
  row:=eA.ownsRow_nil _ _ _ _
  heap:=λi _ h=>by simp at h
  perm:=Lf _
  early:=λh f=>by cases f
  rm:=Gd
  rs:=Gd
  sx:=by show w.1.size<=_;omega
  sl:=Ia _
  ss:=by show w.1.size<=_;omega
  sc:=by show w.1.size<=_;omega
  sq:=λq b=>by cases b
  si:=λg c=>by cases c
  d1:=by omega
  d2:=by omega
  d3:=by omega
  nd:=List.nodup_nil
  dx:=λq b=>by cases b
  di:=λg c=>by cases c}
def QS(x:Nat)(t:fB)(S:Nat->Prop)(M:Nat)(w:eA)(h:vD w S x t M):
 rL 146 #[.pointer (yB x)] w (qA (cF t)):=by
 obtain⟨g,j,o,q,Q,p,D,h⟩:=h;have l:tC w x 0 (zA t.L):=h.blk.cell 0;have m:tC w x 1 (.map (bA g)):=h.blk.cell 1;have n:tC w x 2 (.map (bA j)):=h.blk.cell 2;have f:=h.lims.len underlying222 3;have d:=h.Z.len underlying223 3;rw[bN]at f d;have c:yA Q=yA t.Z:=by rw[<-h.q1,Xa]
 rw[c]at d;clear h c;have E:cB (cF t=(t.L==-1&&yA t.M==0&&yA t.Z==0)):=rfl;generalize yA t.M=i at *;generalize yA t.Z=r at *;generalize t.L=L at *;by_cases a:L = -1
 .by_cases b:i=0
  .go_enter func146,ntmps146;go_wp2;go_ret;exact⟨oB (by rw[E.o,a,b];rw[Qb];simp),rfl⟩
  go_enter func146,ntmps146;go_wp2;go_ret;exact⟨oB (by rw[E.o,a];rw[Qb];simp[b]),rfl⟩
 go_enter func146,ntmps146;go_wp2;go_ret;exact⟨oB (by rw[E.o];rw[Qb];simp[a]),rfl⟩
end
