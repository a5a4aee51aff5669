import Derived.Test.YtejebmgbenmimaaGreatDoorJ14
import Derived.Test.YtejebmgbenmimaaGreatDoorJ12
import Derived.Lib.AppendIntMem
set_option maxRecDepth 100000
set_option maxHeartbeats 1000000
set_option linter.defProp false
open Bool renaming true->iA,false->gA
open Option renaming some->fA
open ByteArray renaming empty->pA
open List renaming length->cB
namespace Go.Proofs.YtejebmgbenmimaaGreatDoor
open Go renaming World->jA,TypeId->oA,Value->mA
open Value renaming string->tA,slice->uA
open Obj renaming cells->aB
open Go.RowKit Tryz
def eC(a:List kB)(name:vB):kB:=(eD (·.N) name a).getD ⟨name,-1,[],[]⟩
def zG(a:List pB)(m:vB)(d:Int):Int:=a.foldl (λd p=>if p.s.toList==m.toList then p.n else d) d
def ec(a:List pB)(m:vB)(d:Int)(k:Nat)(h:k<cB a):zG (a.take (k+1)) m d=if a[k].s.toList==m.toList then a[k].n else zG (a.take k) m d:=by
 rw[Pa h,zG,Dg];rfl
def eb{a:List pB}{m:vB}(h:∀p∈a,p.s≠m)(d:Int):zG a m d=d:=by induction a<;>grind [zG,aE]
def UE{a:List pB}(b:zC (·.s) a)(m:vB)(d:Int):zG a m d=((eD (·.s) m a).map (·.n)).getD d:=by
 induction a generalizing d with
 |nil=>rfl
 |cons p r g=>
  rw[zG,Og,rS];by_cases e:p.s=m
  .rw[Ma ((mE _ _).2 e),Ma e];exact eb (λq f c=>iJ (b.head q f) (e.trans c.symm)) _
  rw[Ja (by rw[aE e];simp),Ja e];exact g b.tail d
def uE(c:kC)(t:kB)(m:vB):Int×Int:=
 if m.toList.isEmpty=iA then((cB t.Z:Nat),if t.L<0 then c.tl else t.L) else((sI cE t.Z m:Nat),zG t.M m c.ml)
def sH(c:kC)(b:Int)(d:List kB)(a m:vB):Int×Int:=
 if (pC c b d&&xC a&&(m.toList.isEmpty||dF m))=iA then uE c (eC d a) m else(-1,-1)
def rz(l:List pB)(m:vB)(k:Nat)(h:k<cB l):sI cE (l.take (k+1)) m=sI cE (l.take k) m+if (cE l[k].s).toList==m.toList then 1 else 0:=by
 rw[Pa h,sI,sI,Vf,Kb];congr 1;cases hb:(cE l[k].s).toList==m.toList<;>simp[hb]
def CA{α:Type}{key:α->vB}{l:List α}{k:vB}:∀(n:Nat),(∀j(_:j<n)(c:j<cB l),key l[j]≠k)->eD key k l=eD key k (l.drop n)
 |0,_=>by simp
 |n+1,h=>by
  rw[CA n (λj d a=>h j (by omega) a)];by_cases b:n<cB l
  .rw[Cb b,rS,Ja (h n (by omega) b)]
  rw[Yb (by omega),Yb (by omega)]
def aF(b a:Int)(t:kB):kB:=⟨t.N,t.L,t.M,t.Z.filter λp=>decide (a-p.n<b)⟩
def xD(b a:Int)(c:List kB):List kB:=(c.map (aF b a)).filter λt=>!eF t
theorem dJ{b a:Int}{d:List kB}(h:wM b a d=iA):∀t∈d,wO b a t=iA:=λt e=>by
 obtain⟨i,c,rfl⟩:=Ib e;have:=iO h c;rw[sV c,Sa]at this;exact this.2
def AJ{b a:Int}{d:List pB}(h:vK b a d=iA):∀x∈d,a-x.n<b/\0<=x.n/\x.n<=a:=λx e=>by
 obtain⟨i,c,rfl⟩:=Ib e;have:=iO h c;rw[nV c]at this;simp only[Sa,Ab,dC]at this;exact⟨this.2,this.1.2.1,this.1.2.2⟩
def tJ{b a:Int}{t:kB}(h:wO b a t=iA):xC t.N=iA/\tL t.M=iA/\vK b a t.Z=iA/\eF t=gA:=by grind [wO,xC,tL,vK,eF]
def AF{b a:Int}{t:kB}(h:∀x∈t.Z,a-x.n<b):aF b a t=t:=by
 unfold aF;rw[Jc.2 λx c=>Ac (h x c)]
theorem dt{b a:Int}{c:List kB}(h:wM b a c=iA):xD b a c=c:=by
 have e:c.map (aF b a)=c:=by
  have:∀t∈c,aF b a t=id t:=λt d=>AF λx f=>(AJ (tJ (dJ h t d)).2.2.1 x f).1;rw[Ge this,List.map_id]
 unfold xD;rw[e];exact Jc.2 λt d=>by rw[(tJ (dJ h t d)).2.2.2];rfl
def OL {f d:Int} {i:List kB} (h:wM f d i=iA) (y:zC (·.N) i) {t:kB} (z:∀x∈t.Z,d-x.n<f):
 xD f d (iC (·.N) t i)=if eF t=iA then yE (·.N) t.N i else iC (·.N) t i:=by
 have v:∀q∈iC (·.N) t i,aF f d q=id q:=λq a=>by
  rcases lK a with rfl|a
  ·exact AF z
  ·exact AF λx A=>(AJ (tJ (dJ h q a)).2.2.1 x A).1
 have s:(iC (·.N) t i).map (aF f d)=iC (·.N) t i:=by rw[List.map_congr_left v,List.map_id]
 have g:=λq a=>(tJ (dJ h q a)).2.2.2
 unfold xD;rw[s]
 by_cases k:eF t=iA
 ·rw[if_pos k]
  clear h s v z
  induction i with
  |nil=>simp[iC,k,yE]
  |cons p r B=>
   have o:=B y.tail (λq a=>g q (List.mem_cons_of_mem _ a));have w:=g p (List.mem_cons_self ..);have c:(r.filter λt=>!eF t)=r:=List.filter_eq_self.2 λq a=>by rw[g q (List.mem_cons_of_mem _ a)];rfl
   rw[iC]
   by_cases l:vJ p.N t.N=iA
   ·rw[if_pos l,List.filter_cons_of_pos (by rw[w];rfl),o]
    unfold yE;rw[List.filter_cons_of_pos (by rw[aE (iJ l)];rfl)]
   ·rw[if_neg l]
    have j:∀q∈r,q.N≠t.N:=λq a e=>by
     have u:=y.head q a;rw[e]at u;exact l u
    have b:yE (·.N) t.N r=r:=List.filter_eq_self.2 λq a=>by rw[aE (j q a)];rfl
    by_cases m:p.N=t.N
    ·rw[if_pos ((mE _ _).2 m),List.filter_cons_of_neg (by simp[k]),c]
     unfold yE at b |-
     rw[List.filter_cons_of_neg (by simp[m]),b]
    ·rw[if_neg (by rw[aE m];simp),List.filter_cons_of_neg (by simp[k]),List.filter_cons_of_pos (by rw[w];rfl),c]
     unfold yE at b |-
     rw[List.filter_cons_of_pos (by rw[aE m];rfl),b]
 ·rw[if_neg k]
  refine List.filter_eq_self.2 λq a=>?_
  rcases lK a with rfl|a
  ·simpa using k
  ·rw[g q a];rfl
def EM{α:Type}{key:α->vB}{a:α}{l:List α}(h:zC key l):cB (iC key a l)=if (eD key (key a) l).isSome=iA then cB l else cB l+1:=by
 induction l with
 |nil=>simp[iC,eD]
 |cons p r j=>
  have f:=j h.tail;rw[iC,rS];by_cases c:vJ (key p) (key a)=iA
  .rw[Ma c,Ja (iJ c),Zb,f];split<;>simp
  rw[Ja c];by_cases d:key p=key a
  .rw[Ma ((mE _ _).2 d),Ma d];simp
  have b:eD key (key a) r=none:=bN λq i e=>by
   have g:=h.head q i;rw[e]at g;exact c g
  rw[Ja (by rw[aE d];simp),Ja d,b];simp
def pZ(c:kC)(a:Int)(d:List kB)(b:Int):Int×List kB×Bool:=
 if pC c a d=gA then(0,[],gA) else if b<1\/1000000000000-a<b then(a,d,gA) else(a+b,xD c.w (a+b) d,iA)
def xH(t:kB)(a:vB)(b:Int):kB:=
 if a.toList.isEmpty=iA then⟨t.N,b,t.M,t.Z⟩ else⟨t.N,t.L,if b<0 then yE (·.s) a t.M else iC (·.s) ⟨a,b⟩ t.M,t.Z⟩
def xR(c:kC)(e:Int)(f:List kB)(b a:vB)(d:Int):Int×List kB×Bool:=
 if pC c e f=gA then(0,[],gA)
 else if (xC b&&(a.toList.isEmpty||dF a) &&dC d (-1) 1000000)=gA then(e,f,gA)
 else if 10000<cB (xD c.w e (iC (·.N) (xH (eC f b) a d) f)) then(e,f,gA)
 else(e,xD c.w e (iC (·.N) (xH (eC f b) a d) f),iA)
def QN(w:jA)(a:List TV):Prop:=∀y∈a,jC w y.a1 y.t.M/\jC w y.a2 y.t.Z
def QN.snoc{w:jA}{ys:List TV}(h:QN w ys){y:TV}(a:jC w y.a1 y.t.M)(b:jC w y.a2 y.t.Z):QN w (ys++[y]):=by grind [QN,jC]
def TF:∀(l:List TV)(i:Nat)(a:i<cB l),(mF l)[i*4]?=fA (tA l[i].t.N)/\(mF l)[i*4+1]?=fA (dB l[i].t.L)/\(mF l)[i*4+2]?=fA (.slice l[i].a1 (cB l[i].t.M) l[i].c1)/\(mF l)[i*4+3]?=fA (.slice l[i].a2 (cB l[i].t.Z) l[i].c2):=by
 intro l;unfold mF;induction l with
 |nil=>intro i a;exact absurd a (by simp)
 |cons x r b=>
  intro i a;cases i with
  |zero=>simp
  |succ i=>
   have:=b i (by simpa using a);simp only[Xc,Sd,Mb,Ec];refine⟨?_,?_,?_,?_⟩;rw[show(i+1)*4=i*4+1+1+1+1 by omega,Ga,Ga,Ga,Ga];exact this.1;rw[show(i+1)*4+1=i*4+1+1+1+1+1 by omega,Ga,Ga,Ga,Ga];exact this.2.1;rw[show(i+1)*4+2=i*4+2+1+1+1+1 by omega,Ga,Ga,Ga,Ga];exact this.2.2.1;rw[show(i+1)*4+3=i*4+3+1+1+1+1 by omega,Ga,Ga,Ga,Ga];exact this.2.2.2
def aGk{w m:jA}{B:Nat}{e:oA}{a:nC}{o:Nat}{l:List TV}(h:m.ownsRow B e 4 (uA a (cB l) o) (cB l) (mF l))(y:QN w l):
 ∀i(q:i<cB l),∃b,a=cC b/\b<m.1.size/\m.cell? (iB b (i*4))=fA (tA l[i].t.N)/\m.cell? (iB b (i*4+1))=fA (dB l[i].t.L)/\m.cell? (iB b (i*4+2))=fA (.slice l[i].a1 (cB l[i].t.M) l[i].c1)/\m.cell? (iB b (i*4+3))=fA (.slice l[i].a2 (cB l[i].t.Z) l[i].c2)/\jC w l[i].a1 l[i].t.M/\jC w l[i].a2 l[i].t.Z:=by
 intro i q;obtain⟨_,E⟩|⟨g,s,p,u,D,v,_,_,z,r⟩:=h.2;omega;simp only[mA.slice.injEq]at u;obtain⟨c,d,f,k⟩:=TF l i q;have n:∀j,j<cB l*4->m.cell? (iB g j)=(mF l)[j]?:=λj x=>by
  rw[rB.cell (show rB m g p e from v) j,<-Yd,<-r,Jb x]
 obtain⟨A,C⟩:=y l[i] (Gb q);refine⟨g,u.1,eB v,?_,?_,?_,?_,A,C⟩;rw[n _ (by omega)];exact c;rw[n _ (by omega)];exact d;rw[n _ (by omega)];exact f;rw[n _ (by omega)];exact k
def zI(t:kB)(key:vB)(a:Int):kB:=⟨t.N,t.L,t.M,iC (·.s) ⟨key,a⟩ t.Z⟩
def cI(c:kC)(b:Int)(d:List kB)(a key:vB):Int×List kB×Nat:=
 if pC c b d=gA then(0,[],5)
 else if (xC a&&gK key)=gA then(b,d,5)
 else if (eD (·.s) key (eC d a).Z).isSome=iA then(b,iC (·.N) (zI (eC d a) key b) d,1)
 else if (uE c (eC d a) pA).2<=(uE c (eC d a) pA).1\/(eF (eC d a)=iA/\cB d=10000) then(b,d,3)
 else if (uE c (eC d a) (cE key)).2<=(uE c (eC d a) (cE key)).1 then(b,d,4)
 else(b,iC (·.N) (zI (eC d a) key b) d,2)
theorem zL{ts:List kB}{name:vB}:(eC ts name∈ts/\(eD (·.N) name ts).isSome=iA)\/(eC ts name=⟨name,-1,[],[]⟩/\eD (·.N) name ts=none):=by
 unfold eC;cases h:eD (·.N) name ts with
 |none=>exact La ⟨rfl,rfl⟩
 |some t=>exact Ca ⟨(eM h).1,rfl⟩
theorem nG{a:List kB}{name:vB}:(eC a name).N=name:=by
 unfold eC;cases h:eD (·.N) name a with
 |none=>rfl
 |some t=>exact(eM h).2
def ob{e d:Int}{a:List kB}(h:wM e d a=iA){name:vB}:eF (eC a name)=!(eD (·.N) name a).isSome:=by
 rcases zL (ts:=a) (name:=name) with⟨b,c⟩|⟨b,c⟩;rw[(tJ (dJ h _ b)).2.2.2,c];rfl;rw[b,c];rfl
def DD{b a:Int}{c:List kB}(h:wM b a c=iA){name:vB}:∀x∈(eC c name).Z,a-x.n<b:=by
 rcases zL (ts:=c) (name:=name) with⟨d,_⟩|⟨d,_⟩
 .exact λx e=>(AJ (tJ (dJ h _ d)).2.2.1 x e).1
 rw[d];exact λx e=>by simp at e
theorem XO{α:Type}{key:α->vB}{a:α}{l:List α}:cB (iC key a l)≠0:=by unfold iC;grind
def rh{b a:Int}{t:kB}{key:vB}(c:1<=b)(h:∀x∈t.Z,a-x.n<b):∀x∈(zI t key a).Z,a-x.n<b:=by grind [zI,iC,lK]
def RW{t:kB}{key:vB}{a:Int}:eF (zI t key a)=gA:=by grind [eF,zI,iC,XO]
def lp{c b:Int}{d:List kB}(h:wM c b d=iA)(e:zC (·.N) d)(f:1<=c){a key:vB}:
 xD c b (iC (·.N) (zI (eC d a) key b) d)=iC (·.N) (zI (eC d a) key b) d:=by
 rw[OL h e (rh f (DD h)),RW];rfl
def TM{l:List pB}{k:vB}{n:Int}{j:Nat}(f:j<=cB l)(c:∀i(h:i<cB l),i<j->vJ l[i].s k=iA)(d:∀h:j<cB l,vJ l[j].s k=gA)(e:eD (·.s) k l=none):
 iC (·.s) ⟨k,n⟩ l=l.take j++⟨k,n⟩:: l.drop j:=by
 induction l generalizing j with
 |nil=>simp[iC]
 |cons p r o=>
  have g:p.s≠k:=qW e p (Kc ..);rw[iC];cases j with
  |zero=>
   have b:vJ p.s k=gA:=d (by simp);rw[Ja (by rw[b];simp),Ja (by rw[aE g];simp)];rfl
  |succ j=>
   have b:vJ p.s k=iA:=c 0 (by simp) (by omega);have a:eD (·.s) k r=none:=bN λq m=>qW e q (Sb _ m);rw[Ma b,o (j:=j) (by simpa using f) (λi h t=>by have:=c (i+1) (by simpa using h) (by omega);simpa using this) (λh=>by have:=d (by simpa using h);simpa using this) a];rfl
def wR(d:List kB)(a b:vB)(c:Int):List kB×Bool:=
 if (xC a&&(b.toList.isEmpty||dF b) &&dC c (-1) 1000000)=gA then(d,gA)
 else if eF (xH (eC d a) b c)=iA then(yE (·.N) a d,iA)
 else if ((eD (·.N) a d).isNone&&decide (10000<=cB d))=iA then(d,gA)
 else(iC (·.N) (xH (eC d a) b c) d,iA)
theorem nP(t:kB)(a:vB)(b:Int):(xH t a b).N=t.N:=by unfold xH;split<;>rfl
def UA(t:kB)(a:vB)(b:Int):(xH t a b).Z=t.Z:=by unfold xH;split<;>rfl
theorem dH{c:kC}{a:Int}{b:List kB}(h:pC c a b=iA):mH c=iA/\0<=a/\a<=1000000000000/\cB b<=10000/\wM c.w a b=iA:=by
 simp only[pC,Sa,Ab]at h;obtain⟨⟨⟨d,e⟩,f⟩,g⟩:=h;have:=gL e;exact⟨d,this.1,this.2,f,g⟩
theorem yR{c a:Int}{b:List kB}(h:wM c a b=iA):zC (·.N) b:=by
 have:=xq (n:=cB b) h (Ia _);rwa [Rb]at this
def qi{c:kC}{i:Int}{f:List kB}(h:pC c i f=iA)(b d:vB)(e:Int):xR c i f b d e=(i,(wR f b d e).1,(wR f b d e).2):=by
 obtain⟨_,_,_,r,o⟩:=dH h;have s:=yR o;unfold xR wR;rw[Ja (by rw[h];simp)];by_cases k:(xC b&&(d.toList.isEmpty||dF d) &&dC e (-1) 1000000)=gA
 .rw[Ma k,Ma k]
 rw[Ja k,Ja k];have j:(xH (eC f b) d e).N=b:=by rw[nP,nG]
 have m:∀x∈(xH (eC f b) d e).Z,i-x.n<c.w:=by rw[UA];exact DD o
 have u:=OL o s (t:=xH (eC f b) d e) m;rw[u,j];by_cases l:eF (xH (eC f b) d e)=iA
 .have v:cB (yE (·.N) b f)<=cB f:=Pc _ _;rw[Ma l,Ma l,Ja (by omega)]
 have g:=EM (a:=xH (eC f b) d e) s;simp only[j]at g;rw[Ja l,Ja l];cases hg:eD (·.N) b f with
 |some q=>
  rw[hg]at g;simp only[Wf,Td]at g;rw[Ja (by omega),Ja (by simp)]
 |none=>
  rw[hg]at g;simp only[Xf,Bd,Cf]at g;by_cases p:10000<=cB f
  .rw[Ma (by omega),Ma (by simp[p])]
  rw[Ja (by omega),Ja (by simp[p])]
def XX{α:Type}{key:α->vB}{a q:α}{l:List α}(g:zC key l)(h:q∈iC key a l):q=a\/(q∈l/\key q≠key a):=by
 induction l with
 |nil=>exact Ca (by simpa[iC]using h)
 |cons p r j=>
  rw[iC]at h;by_cases c:vJ (key p) (key a)=iA
  .rw[Ma c]at h;rcases Lb.1 h with h|h
   .exact La ⟨by rw[h];exact Kc ..,by rw[h];exact iJ c⟩
   rcases j g.tail h with h|h;exact Ca h;exact La ⟨Sb _ h.1,h.2⟩
  rw[Ja c]at h;have b:∀q∈r,key q≠key a:=λq i e=>by
   have f:=g.head q i;rw[e]at f;exact c f
  by_cases d:key p=key a
  .rw[Ma ((mE _ _).2 d)]at h;rcases Lb.1 h with h|h
   .exact Ca h
   exact La ⟨Sb _ h,b q h⟩
  rw[Ja (by rw[aE d];simp)]at h;rcases Lb.1 h with h|h;exact Ca h;rcases Lb.1 h with h|h;exact La ⟨by rw[h];exact Kc ..,by rw[h];exact d⟩;exact La ⟨Sb _ h,b q h⟩
def EP{α β:Type}{key:α->vB}{a p:α}{l:List α}(f:α->β)(e:zC key l)(b:p∈l)(c:key p=key a)(g:f p=f a):(iC key a l).map f=l.map f:=by
 induction l with
 |nil=>cases b
 |cons q r h=>
  rw[iC];rcases Lb.1 b with rfl|b;rw[Ja (by rw[c,mN];simp),Ma ((mE _ _).2 c)];simp[g];have d:=e.head p b;rw[c]at d;rw[Ma d,Fc,Fc,h e.tail b]
def aKq(a:List kB):Prop:=∀i(h:i<cB a),cB a[i].M<=maxLen/\cB a[i].Z<=maxLen
def aGv{x:vB}:x.toList.isEmpty=iA ↔ x=pA:=by
 rw[List.isEmpty_iff];constructor;intro h;exact toList_inj (by rw[h,ByteArray.toList_eq];rfl);intro h;rw[h,ByteArray.toList_eq];rfl
def vO{x:vB}:x.toList.isEmpty=gA ↔ x≠pA:=by rw[<-Bool.not_eq_true,aGv]
def jS(w:jA)(A:Nat->Prop)(a:nC)(b:List kB):Prop:=
 b=[]\/∃g o c t T,a=fA (iB g o)/\w.heap[g]?=fA (aB c t (0,0))/\T g=0/\(∀x,T x<=2*cB b->A x)/\∀i(h:i<cB b),BM w 0 T i g (o+i*4) b[i]
def jS.tens{w:jA}{A:Nat->Prop}{a:nC}{b:List kB}(h:jS w A a b):uC w a b:=by
 obtain h|⟨g,o,c,t,T,rfl,d,_,_,h⟩:=h;exact Ca h;exact La ⟨g,o,rfl,eB d,λi e=>(h i e).at⟩
def jS.turned{S A:Nat->Prop}{w p:jA}{a:nC}{n:List kB}(h:jS w A a n)(m:jB S w p)(k:∀g,A g->g<w.1.size->¬S g):jS p A a n:=by
 obtain h|⟨g,o,c,t,T,rfl,f,q,e,h⟩:=h;exact Ca h;have l:=m.block g (eB f) (k g (e g (by omega)) (eB f));exact La ⟨g,o,c,t,T,rfl,l.trans f,q,e,λi s=>(h i s).keep (λj _=>jA.cell?_of_block l) λd b _ r=>⟨m.block d b (k d (e d (by omega)) b),rfl⟩⟩
def jS.z{w c:jA}{A:Nat->Prop}{a:nC}{b:List kB}(h:jS w A a b)(d:zB w c):jS c A a b:=h.turned (jB.of (S:=λ_=>False) d) λ_ _ _ e=>e
def jS.mono{w:jA}{A A':Nat->Prop}{a:nC}{c:List kB}(h:jS w A a c)(f:∀x,A x->A' x):jS w A' a c:=by
 obtain h|⟨g,o,b,t,T,e,j,i,d,h⟩:=h;exact Ca h;exact La ⟨g,o,b,t,T,e,j,i,λx k=>f x (d x k),h⟩
def cD.toA{w:jA}{B H:Nat}{a:nC}{f:List kB}(h:cD w B a f)(P:w.1.size<=H):jS w (λx=>B<=x/\x<H) a f:=by
 obtain h|⟨g,o,j,t,T,rfl,I,p,J,h⟩:=h;exact Ca h;have L:=eB p;refine La ⟨g,o,j,t,λx=>if B<=x/\x<H then T x else 2*cB f+1,rfl,p,?_,λx M=>?_,λi K=>?_⟩;show (if _ then _ else _)=0;rw[Ma ⟨I,by omega⟩];exact J
 .by_cases m:B<=x/\x<H
  .exact m
  simp only[Ja m]at M;omega
 obtain ⟨s,v,u,y,A,C,D,E,F,G⟩:=h i K;have b:∀{n:Nat}{q:nC}{r:List pB},cF w B T n q r->cF w 0 (λx=>if B<=x/\x<H then T x else 2*cB f+1) n q r:=λb=>by
  obtain b|⟨z,N,c,O,e,k,l,d,b⟩:=b;exact Ca b;have:=eB d;exact La ⟨z,N,c,O,e,Oa _,by show(if _ then _ else _)=_;rw[Ma ⟨k,by omega⟩];exact l,d,b⟩
 exact⟨s,v,u,y,A,C,D,E,b F,b G⟩
def fJ(w:jA)(A:Nat->Prop)(a:nC)(c:List nB):Prop:=
 c=[]\/∃g o b t,a=fA (iB g o)/\A g/\w.heap[g]?=fA (aB b t (0,0))/\rZ w g o c
def fJ.files{w:jA}{A:Nat->Prop}{a:nC}{b:List nB}(h:fJ w A a b):wB w a b:=by grind [fJ,wB]
def fJ.turned{S A:Nat->Prop}{w d:jA}{a:nC}{e:List nB}(h:fJ w A a e)(p:jB S w d)(l:∀g,A g->g<w.1.size->¬S g):fJ d A a e:=by
 obtain h|⟨g,o,b,t,rfl,f,c,h⟩:=h;exact Ca h;have k:=p.block g (eB c) (l g f (eB c));have m:∀j,d.cell? (iB g j)=w.cell? (iB g j):=λj=>jA.cell?_of_block k;exact La ⟨g,o,b,t,rfl,f,k.trans c,λi n=>by simp only[m];exact h i n⟩
def fJ.z{w c:jA}{A:Nat->Prop}{a:nC}{b:List nB}(h:fJ w A a b)(d:zB w c):fJ c A a b:=h.turned (jB.of (S:=λ_=>False) d) λ_ _ _ e=>e
def fJ.mono{w:jA}{A A':Nat->Prop}{a:nC}{b:List nB}(h:fJ w A a b)(c:∀x,A x->A' x):fJ w A' a b:=by grind [fJ]
def tN.toA{w:jA}{B H:Nat}{a:nC}{b:List nB}(h:tN w B a b)(c:w.1.size<=H):fJ w (λx=>B<=x/\x<H) a b:=by grind [tN,fJ]
def aEh{C:jA->Prop}{w:jA}{O:Nat}{r c d e f g i j l m n o p q a:mA}{t:oA}(h:rB w O #[r,c,d,e,f,g,i,j,l,m,n,o,p,q] t)
(k:∀b,rB b O #[a,c,d,e,f,g,i,j,l,m,n,o,p,q] t->jB (·=O) w b->C b):C (w.setCell (iB O 0) a):=
 k _ (by have:=h.set 0 a;simpa using this) ((jB.refl (·=O) w).setCell (Ca rfl) 0 a)
def jB.end2{C:jA->Prop}{S:Nat->Prop}(w:jA){a:jA}(h:jB S w a)(k:∀W,jB S w W->C W):C a:=k a h
structure pJ(w:World)(A:Nat→Prop)(a b:nC)(N:vC):Prop where
 parts:∃F T,fJ w F a N.d.fs∧jS w T b N.ts∧(∀x,F x→A x)∧(∀x,T x→A x)∧∀x,F x→¬T x
def pJ.files{w:jA}{A:Nat->Prop}{a b:nC}{N:vC}(h:pJ w A a b N):wB w a N.d.fs:=by
 obtain⟨F,T,c,e,_⟩:=h.parts;exact c.files
def pJ.tens{w:jA}{A:Nat->Prop}{a b:nC}{N:vC}(h:pJ w A a b N):uC w b N.ts:=by
 obtain⟨F,T,d,c,_⟩:=h.parts;exact c.tens
def pJ.turned{S A:Nat->Prop}{w j:jA}{a b:nC}{N:vC}(h:pJ w A a b N)(i:jB S w j)(f:∀g,A g->g<w.1.size->¬S g):pJ j A a b N:=by
 obtain⟨F,T,k,l,d,e,m⟩:=h.parts;exact⟨F,T,k.turned i (λg c=>f g (d g c)),l.turned i (λg c=>f g (e g c)),d,e,m⟩
def pJ.z{A:Nat->Prop}{w c:jA}{a b:nC}{N:vC}(h:pJ w A a b N)(d:zB w c):pJ c A a b N:=h.turned (jB.of (S:=λ_=>False) d) λ_ _ _ e=>e
def pJ.mono{A A':Nat->Prop}{w:jA}{a b:nC}{N:vC}(h:pJ w A a b N)(d:∀x,A x->A' x):pJ w A' a b N:=by
 obtain⟨F,T,e,f,g,i,j⟩:=h.parts;exact⟨F,T,e,f,λx c=>d x (g x c),λx c=>d x (i x c),j⟩
def xX(n:Nat):Nat->List UInt8
 |0=>[]
 |i+1=>(48+UInt8.ofNat (n / 10 ^ i % 10)):: xX n i
def PN(n:Nat):vB:=⟨(119::97::108::45::xX n 6).toArray⟩
def tF(n:Int):vB:=if 1<=n/\n<=999999 then PN n.toNat else pA
def lZ(n:Nat):∀i,cB (xX n i)=i
 |0=>rfl
 |i+1=>by simp[xX,lZ n i]
def pK(n:Int):(tF n).size<=10:=by
 unfold tF;split;show (119::97::108::45::xX n.toNat 6).toArray.size<=10;simp[lZ];simp
def tc(k:Nat):UInt8.ofNat (48+k)=48+UInt8.ofNat k:=by rw[UInt8.ofNat_add];rfl
def dr(n:Nat)(h:n<1000000):Lib.itoa ((1000000+n:Nat):Int)=49::xX n 6:=by
 have a:Lib.nDigits (1000000+n)=7:=Lib.nDigits_unique 6 _ (by omega) (by omega);rw[Lib.itoa,Ja (by omega),Hd,Lib.decDigits_eq,a];simp only[List.range_succ,List.range_zero,Fc,Ag,Mb,Sd,xX,Lib.dg,tc];congr 1;rw[show(1000000+n) / 10 ^ (7-1-0) % 10=1 by omega];rfl;simp only[List.cons.injEq,Cc];refine⟨?_,?_,?_,?_,?_,?_⟩<;>congr 2<;>omega
def yx{C:jA->Prop}{w:jA}{O:Nat}{q r s u v x y z A l m n o p a b c d e f g B i:mA}{t:oA}(h:rB w O #[q,r,s,u,v,x,y,z,A,l,m,n,o,p] t)
(k:∀j,rB j O #[a,b,c,d,e,f,g,B,i,l,m,n,o,p] t->jB (·=O) w j->C j):C (((((((((w.setCell (iB O 0) a).setCell (iB O 1) b).setCell (iB O 2) c).setCell (iB O 3) d).setCell (iB O 4) e).setCell (iB O 5) f).setCell (iB O 6) g).setCell (iB O 7) B).setCell (iB O 8) i):=
 k _ (by have:=(((((((((h.set 0 a).set 1 b).set 2 c).set 3 d).set 4 e).set 5 f).set 6 g).set 7 B).set 8 i);simpa using this) ((((((((((jB.refl (·=O) w).setCell (Ca rfl) 0 a).setCell (Ca rfl) 1 b).setCell (Ca rfl) 2 c).setCell (Ca rfl) 3 d).setCell (Ca rfl) 4 e).setCell (Ca rfl) 5 f).setCell (Ca rfl) 6 g).setCell (Ca rfl) 7 B).setCell (Ca rfl) 8 i)
def zV(a:List hC):Prop:=∀l∈a,l.N.size<=65/\l.V.size<=258
def VC{b:List hC}{l:hC}(h:zV b)(c:l.N.size<=65/\l.V.size<=258):zV (b++[l]):=λx a=>by
 rw[Ee,Uf]at a;obtain a|rfl:=a;exact h x a;exact c
def xi{b:List hC}{l:hC}(h:zV b)(c:l.N.size<=65/\l.V.size<=258):zV (l::b):=λx a=>by
 rw[Lb]at a;obtain rfl|a:=a;exact c;exact h x a
def uD.below_to{B:Nat}{w d e:jA}(h:uD B w d)(a:Below w.1.size d e):uD B w e:=
 ⟨a.os.trans h.os,a.tape.trans h.tape,a.output.trans h.output,Ua h.size a.size,λk c b=>(a.block k c).trans (h.block k c b)⟩
def qg{w:jA}{base g:Nat}{e:oA}{x y:mA}(a:base<=g)(h:rB w g #[x,y] e):w.ownsRow base e 2 (uA (cC g) 1 1) 1 [x,y]:=
 ⟨by simp,.inr ⟨g,1,#[x,y],rfl,a,h,Ia _,by simp[maxLen],by simp,by simp⟩⟩
def eP.below{w b:jA}{g m k P:Nat}(h:eP w g m k)(e:Below P w b)(f:g<P):eP b g m k:=by
 obtain⟨a,t,c,d⟩:=h;exact⟨a,t,(e.block g f).trans c,d⟩
def fw{w:jA}{B:Nat}{e:oA}{g c:Nat}{b:List hC}(h:w.ownsRow B e 2 (uA (cC g) (cB b) c) (cB b) (wC b)):∀j u,(wC b)[j]?=fA u->w.cell? (((iB g 0):Addr).add j)=fA u:=λj u d=>by
 have a:((iB g 0):Addr).add j=(iB g j):=by unfold Addr.add;split<;>simp_all
 rw[a];exact(mK h).2.2.2 j u d
def aHw(w b:jA)(B P N:Nat)(e:Ending):Prop:=∃(g c:Nat)(a:List hC),e=.returned (uA (cC g) (cB a) c)/\1<=cB a/\cB a<=7/\zV a/\b.ownsRow w.1.size 190 2 (uA (cC g) (cB a) c) (cB a) (wC a)/\bF b B P N/\uD B w b
def NI(B P N:Nat)(w:jA)(h:bF w B P N)(m:N<=100000):
 Calls prog 50 #[.pointer (cC B)] w λe w'=>aHw w w' B P (N+100) e:=by
 obtain⟨ti,m,k0,l0,m0⟩:=EJ;have HI:fB (prog.info? 190=fA ti):=m;clear m;have I:fB (bF w B P N):=h;have m:=h.lt;have m:=h.up.2;clear h;go_enter func50,ntmps50;go_wp2_with fail;have L:fB (eP (w.alloc (aB ([⟨#[106,111,98]⟩,⟨#[104,111,115,116]⟩,⟨#[95,120]⟩,⟨#[90,111,110,101]⟩,⟨#[97,49]⟩,⟨#[108,101]⟩].map mA.string).toArray 9)) w.1.size 6 4):=gT w _ 4 _ 6 rfl (by decide);simp only[Fc,Ag]at L;generalize Q:w.alloc (aB #[tA ⟨#[106,111,98]⟩,tA ⟨#[104,111,115,116]⟩,tA ⟨#[95,120]⟩,tA ⟨#[90,111,110,101]⟩,tA ⟨#[97,49]⟩,tA ⟨#[108,101]⟩] 9)=G at *;have J:G.1.size=w.1.size+1:=by rw[<-Q];simp
 have K:fB (zB w G):=by show Below _ _ _;rw[<-Q];exact aC
 clear Q;have F:fB (eP (G.alloc (aB ([⟨#[117,112]⟩,⟨#[99,112,117]⟩,⟨#[109,101,109]⟩,⟨#[117,112]⟩].map mA.string).toArray 9)) G.1.size 4 3):=gT G _ 3 _ 4 rfl (by decide);simp only[Fc,Ag]at F;generalize R:G.alloc (aB #[tA ⟨#[117,112]⟩,tA ⟨#[99,112,117]⟩,tA ⟨#[109,101,109]⟩,tA ⟨#[117,112]⟩] 9)=m at *;have o:m.1.size=w.1.size+2:=by rw[<-R];simp;omega
 have D:fB (zB G m):=by show Below _ _ _;rw[<-R];exact aC
 clear R;have X:=(I.o.z K.o).z D.o;refine(nD B P N 4 _ X (by omega) (by omega) (by omega)).mono ?_;rintro e w1 ⟨v,U,rfl,O,u⟩;rw[J]at F;have W:=F.o.but u (by omega);obtain⟨Y,h,h⟩:=W.at U;have h:fB (bF w1 B P (N+1)/\uD B w w1/\eP w1 w.1.size 6 4):=⟨O,((uD.of K.o).trans (uD.of D.o)).trans u,(L.o.z D.o).but u (by omega)⟩
 have U:w.1.size+2<=w1.1.size:=by have:=u.size;omega
 clear O u X L F W K D I J o G m;have m:(v:Int)<4:=by omega
 go_wp2;go_loopw [5,7,8,20] (λm _ _ i wr=>∃(k:Nat)(a:List hC)(g C:Nat),k<=6/\i=dB (k:Nat)/\m=uA (cC g) (cB a) C/\1<=cB a/\cB a<=k+1/\fB (zV a/\bF wr B P (N+1+13*k)/\uD B w wr/\eP wr w.1.size 6 4)/\fB (wr.ownsRow (w.1.size+1) 190 2 (uA (cC g) (cB a) C) (cB a) (wC a))/\w.1.size+2<=wr.1.size) (λ_ _ _ i _=>6-(intOf i).toNat)
 case atStart=>
  refine⟨0,[⟨⟨#[95,95,110,97,109,101,95,95]⟩,Y⟩],w1.1.size,1,by omega,rfl,rfl,by simp,by simp,⟨?_,h.o.1.z aC,h.o.2.1.z aC,h.o.2.2.z aC⟩,qg (by omega) (heap_alloc_new _ _),by simp;omega⟩;intro l m;rw[Uf]at m;subst m;exact⟨by show(8:Nat)<=65;omega,by simp only;omega⟩
 case round=>
  clear h;obtain⟨k,a,g,C,h,rfl,rfl,Y,h,E,r,h⟩:=hrel;by_cases G:k<6
  .have h:(k:Int)<6:=by omega
   obtain⟨m,o,I⟩:=E.o.2.2.2.at G;go_wp2_with fail;refine(nD B P (N+1+13*k) 3 _ E.o.2.1 (by omega) (by omega) (by omega)).mono ?_;rintro e U ⟨v2,G,rfl,I,x⟩;have H:fB (zV a/\bF U B P (N+1+13*k+1)/\uD B w U/\eP U w.1.size 6 4):=⟨E.o.1,I,E.o.2.2.1.trans x,E.o.2.2.2.but x (by omega)⟩
   have f:fB (U.ownsRow (w.1.size+1) 190 2 (uA (cC g) (cB a) C) (cB a) (wC a)):=sO r.o x (by omega);have j0:w.1.size+2<=U.1.size:=by have:=x.size;omega
   clear I x E r o;by_cases o:v2=0
   .have M:((v2:Nat):Int)=0:=by omega
    rw[M];clear o M G;go_wp2_with fail;refine(QS B P _ U H.o.2.1 (by omega)).mono ?_;rintro e J ⟨n,o,rfl,o,y⟩;have V:fB (zV a/\bF J B P (N+1+13*k+11)/\uD B w J/\eP J w.1.size 6 4):=⟨H.o.1,o,H.o.2.2.1.trans y,H.o.2.2.2.but y (by omega)⟩
    have s:fB (J.ownsRow (w.1.size+1) 190 2 (uA (cC g) (cB a) C) (cB a) (wC a)):=sO f.o y (by omega);have G:w.1.size+2<=J.1.size:=by have:=y.size;omega
    clear o y H f;go_wp2_with fail;refine(nD B P (N+1+13*k+11) 2 _ (V.o.2.1.z aC) (by omega) (by omega) (by omega)).mono ?_;rintro e o ⟨v4,G,rfl,O,p⟩;have S:rB (J.alloc (aB #[tA m,tA n] 190)) J.1.size #[tA m,tA n] 190:=heap_alloc_new _ _;have z:rB o J.1.size #[tA m,tA n] 190:=(p.block _ (eB S) (by omega)).trans S;have I:=rB.cell z 0;have J:=rB.cell z 1;simp only[Xb,Ob,Ga]at I J;have I:fB (zV a/\bF o B P (N+1+13*k+12)/\uD B w o/\eP o w.1.size 6 4):=⟨V.o.1,O,(V.o.2.2.1.z aC).trans p,(V.o.2.2.2.z aC).but p (by omega)⟩
    have j:fB (o.ownsRow (w.1.size+1) 190 2 (uA (cC g) (cB a) C) (cB a) (wC a)):=sO (lC s.o aC) p (by omega);have J:w.1.size+2<=o.1.size:=by have:=p.size;simp at this;omega
    clear O p V s S z;have W:m.size<=65/\n.size<=258:=⟨by omega,by omega⟩
    by_cases J:v4=0
    .have O:((v4:Nat):Int)=0:=by omega
     rw[O];clear J O G;go_wp2_with(at_builtin;refine wpList_append_lies _ rfl _ _ _ rfl (w.1.size+1) 190 ti _ 2 32 underlying129 HI.o k0 l0 m0 rfl (by omega) (uA (cC g) (cB a) C) (cB a) (wC a) rfl (by exact lC j.o aC) (iB o.1.size 0) 1 1 [tA m,tA n] rfl rfl (by exact jA.news_of_block (cs:=#[tA m,tA n]) (heap_alloc_new _ _)) (by simp[mA.oneCell']) (by omega) (by simp[maxLen];omega) (by omega) (by simp;omega) (o.1.size+1) (by simp) ?_;intro G t J b d Z e0);have c:Below (w.1.size+1) o J:=(((uF o _).mono (by omega)).grown d (by simp;omega) (λq U=>qI j.o q U))
     have A:cB (a++[(⟨m,n⟩:hC)])=cB a+1:=by simp
     have T:wC a++[tA m,tA n]=wC (a++[⟨m,n⟩]):=by rw[cG];rfl
     rw[T,<-A]at b;refine⟨⟨k+1,a++[(⟨m,n⟩:hC)],G,t,by omega,by go_num,by rw[A],by omega,by omega,⟨VC I.o.1 W,(I.o.2.1.below (c.mono (by omega))).mono (by omega),I.o.2.2.1.below_to (c.mono (by omega)),I.o.2.2.2.below c (by omega)⟩,b,by have:=c.size;omega⟩,by simp[intOf];omega⟩
    have O:¬(((v4:Nat):Int)=0):=by omega
    go_wp2_with(at_builtin;refine wpList_append_lies _ rfl _ _ _ rfl (w.1.size+1) 190 ti _ 2 32 underlying129 HI.o k0 l0 m0 rfl (by omega) (uA (cC o.1.size) 1 1) 1 [tA m,tA n] rfl (by exact qg (by omega) (heap_alloc_new _ _)) (iB g 0) (cB a) C (wC a) rfl (wG a) (by exact fw (lC j.o aC)) (by exact qS a) (by omega) (by simp[maxLen];omega) (by omega) (by simp;omega) (o.1.size+1) (by simp) ?_;intro G t J b d Z e0);have c:Below (w.1.size+1) o J:=(((uF o _).mono (by omega)).grown d (by simp;omega) (λq U=>by simp[mA.ownBlock]at U;omega))
    have A:cB ((⟨m,n⟩:hC):: a)=1+cB a:=by simp;omega
    have T:[tA m,tA n]++wC a=wC (⟨m,n⟩:: a):=rfl;rw[T,<-A]at b;refine⟨⟨k+1,(⟨m,n⟩:hC):: a,G,t,by omega,by go_num,by rw[A],by omega,by omega,⟨xi I.o.1 W,(I.o.2.1.below (c.mono (by omega))).mono (by omega),I.o.2.2.1.below_to (c.mono (by omega)),I.o.2.2.2.below c (by omega)⟩,b,by have:=c.size;omega⟩,by simp[intOf];omega⟩
   have M:¬(((v2:Nat):Int)=0):=by omega
   go_wp2;exact⟨⟨k+1,a,g,C,by omega,by go_num,rfl,Y,by omega,⟨H.o.1,H.o.2.1.mono (by omega),H.o.2.2⟩,f.o,j0⟩,by simp[intOf];omega⟩
  have h:¬((k:Int)<6):=by omega
  go_wp2;go_ret;exact⟨g,C,a,rfl,Y,by omega,E.o.1,mV r.o (by omega),E.o.2.1.mono (by omega),E.o.2.2.1⟩
def kI(w : World) : Prop := Lib.TabIs prog w "internal/strconv.uint64pow10" .u64 Lib.pow10Tab
def kI.z{w c:jA}(h:kI w)(d:zB w c):kI c:=by
 unfold kI Lib.TabIs jA.var? at h |-
 cases hg : prog.globalNamed "internal/strconv.uint64pow10" with
 |none=>rw[hg]at h;cases h
 |some g=>
  rw[hg]at h;simp only[Option.bind_some]at h |-
  have b:g<w.1.size:=by
   rcases Gc g w.1.size with a|a;exact a;rw[Mc a]at h;cases h
  rw[d.block g b];exact h
def aGp(n:Nat)(h:n<1000000):(⟨#[119,97,108,45]⟩:vB)++(⟨(Lib.itoa ((1000000+n:Nat):Int)).toArray⟩:vB).extract 1 7=PN n:=by
 rw[dr n h];apply ByteArray.ext;simp[PN,xX]
def lL(n:Int)(w:jA)(a:kI w):
 gF 110 #[dB n] w (tA (tF n)):=by
 by_cases h:1<=n/\n<=999999
 .obtain ⟨N,rfl⟩:=Yf (show 0<=n by omega);have E:fB (tF N=PN N):=Ma h;have i:1<=N:=by omega
  have j:N<=999999:=by omega
  have f:fB (gF 187 #[dB (1000000+(N:Int))] w (tA ⟨(Lib.itoa ((1000000+N:Nat):Int)).toArray⟩)):=
   (strconv_Itoa ((1000000+N:Nat):Int) (by omega) (by omega) w a).mono (by
    rintro e c ⟨rfl,k,p,rfl⟩;exact⟨rfl,Lib.below_grow _ _ (Ia _) _ _⟩)
  have g:fB _:=aGp N (by omega);have o:(⟨(Lib.itoa ((1000000+N:Nat):Int)).toArray⟩:vB).size=7:=by
   rw[dr N (by omega)];simp[xX,ByteArray.size]
  generalize (⟨(Lib.itoa ((1000000+N:Nat):Int)).toArray⟩:vB)=X at *;clear h a;go_enter func110,ntmps110;go_wp2_with fail;apply oC f.o;intro q b;have d:fB _:=b;clear b;go_wp2;go_ret;refine⟨?_,d.o⟩;rw[E.o,<-g.o];rfl
 have E:fB (tF n=pA):=Ja h;by_cases l:n<1
 .go_enter func110,ntmps110;go_wp2;go_ret;exact⟨by rw[E.o];rfl,jD⟩
 have m:999999<n:=by omega
 clear h;go_enter func110,ntmps110;go_wp2;go_ret;exact⟨by rw[E.o];rfl,jD⟩
