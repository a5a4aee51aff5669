import Derived.Test.YtcmdjimlmnaojaaGreatDoorJ15
import Derived.Test.YtcmdjimlmnaojaaGreatDoorJ13
import Derived.Lib.AppendIntMem
set_option maxRecDepth 100000
set_option maxHeartbeats 1000000
set_option linter.defProp false
open Bool renaming true->eA,false->dA
open Option renaming some->cA
open ByteArray renaming empty->lA
open List renaming length->zA
namespace Go.Proofs.YtcmdjimlmnaojaaGreatDoor
open Go renaming World->fA,TypeId->kA,Value->jA
open Value renaming string->pA,slice->qA
open Obj renaming cells->xA
open Go.RowKit Tryz
def rB(a:List gB)(name:pB):gB:=(xC (·.N) name a).getD ⟨name,-1,[],[]⟩
def cH(a:List kB)(m:pB)(d:Int):Int:=a.foldl (λd p=>if p.s.toList==m.toList then p.n else d) d
def gl(a:List kB)(m:pB)(d:Int)(k:Nat)(h:k<zA a):cH (a.take (k+1)) m d=if a[k].s.toList==m.toList then a[k].n else cH (a.take k) m d:=by
 rw[Pa h,cH,Dg];rfl
def gk{a:List kB}{m:pB}(h:∀p∈a,p.s≠m)(d:Int):cH a m d=d:=by induction a<;>grind [cH,yD]
def VH{a:List kB}(b:tC (·.s) a)(m:pB)(d:Int):cH a m d=((xC (·.s) m a).map (·.n)).getD d:=by
 induction a generalizing d with
 |nil=>rfl
 |cons p r g=>
  rw[cH,Og,lF];by_cases e:p.s=m
  .rw[Ma ((gE _ _).2 e),Ma e];exact gk (λq f c=>mI (b.head q f) (e.trans c.symm)) _
  rw[Ja (by rw[yD e];simp),Ja e];exact g b.tail d
def pE(c:lC)(t:gB)(m:pB):Int×Int:=
 if m.toList.isEmpty=eA then((zA t.Z:Nat),if t.L<0 then c.tl else t.L) else((tI dE t.Z m:Nat),cH t.M m c.ml)
def pG(c:lC)(b:Int)(d:List gB)(a m:pB):Int×Int:=
 if (iC c b d&&uC a&&(m.toList.isEmpty||aF m))=eA then pE c (rB d a) m else(-1,-1)
def vi(l:List kB)(m:pB)(k:Nat)(h:k<zA l):tI dE (l.take (k+1)) m=tI dE (l.take k) m+if (dE l[k].s).toList==m.toList then 1 else 0:=by
 rw[Pa h,tI,tI,Vf,Kb];congr 1;cases hb:(dE l[k].s).toList==m.toList<;>simp[hb]
def CF{α:Type}{key:α->pB}{l:List α}{k:pB}:∀(n:Nat),(∀j(_:j<n)(c:j<zA l),key l[j]≠k)->xC key k l=xC key k (l.drop n)
 |0,_=>by simp
 |n+1,h=>by
  rw[CF n (λj d a=>h j (by omega) a)];by_cases b:n<zA l
  .rw[Cb b,lF,Ja (h n (by omega) b)]
  rw[Yb (by omega),Yb (by omega)]
def oE(b a:Int)(t:gB):gB:=⟨t.N,t.L,t.M,t.Z.filter λp=>decide (a-p.n<b)⟩
def kD(b a:Int)(c:List gB):List gB:=(c.map (oE b a)).filter λt=>!xE t
theorem kJ{b a:Int}{d:List gB}(h:bN b a d=eA):∀t∈d,cP b a t=eA:=λt e=>by
 obtain⟨i,c,rfl⟩:=Ib e;have:=nO h c;rw[tV c,Sa]at this;exact this.2
def AH{b a:Int}{d:List kB}(h:fL b a d=eA):∀x∈d,a-x.n<b/\0<=x.n/\x.n<=a:=λx e=>by
 obtain⟨i,c,rfl⟩:=Ib e;have:=nO h c;rw[oV c]at this;simp only[Sa,Ab,yB]at this;exact⟨this.2,this.1.2.1,this.1.2.2⟩
def aK{b a:Int}{t:gB}(h:cP b a t=eA):uC t.N=eA/\yL t.M=eA/\fL b a t.Z=eA/\xE t=dA:=by grind [cP,uC,yL,fL,xE]
def AA{b a:Int}{t:gB}(h:∀x∈t.Z,a-x.n<b):oE b a t=t:=by
 unfold oE;rw[Jc.2 λx c=>Ac (h x c)]
theorem fu{b a:Int}{c:List gB}(h:bN b a c=eA):kD b a c=c:=by
 have e:c.map (oE b a)=c:=by
  have:∀t∈c,oE b a t=id t:=λt d=>AA λx f=>(AH (aK (kJ h t d)).2.2.1 x f).1;rw[Ge this,List.map_id]
 unfold kD;rw[e];exact Jc.2 λt d=>by rw[(aK (kJ h t d)).2.2.2];rfl
def PF {f d:Int} {i:List gB} (h:bN f d i=eA) (y:tC (·.N) i) {t:gB} (z:∀x∈t.Z,d-x.n<f):
 kD f d (fC (·.N) t i)=if xE t=eA then sE (·.N) t.N i else fC (·.N) t i:=by
 have v:∀q∈fC (·.N) t i,oE f d q=id q:=λq a=>by
  rcases uK a with rfl|a
  ·exact AA z
  ·exact AA λx A=>(AH (aK (kJ h q a)).2.2.1 x A).1
 have s:(fC (·.N) t i).map (oE f d)=fC (·.N) t i:=by rw[List.map_congr_left v,List.map_id]
 have g:=λq a=>(aK (kJ h q a)).2.2.2
 unfold kD;rw[s]
 by_cases k:xE t=eA
 ·rw[if_pos k]
  clear h s v z
  induction i with
  |nil=>simp[fC,k,sE]
  |cons p r B=>
   have o:=B y.tail (λq a=>g q (List.mem_cons_of_mem _ a));have w:=g p (List.mem_cons_self ..);have c:(r.filter λt=>!xE t)=r:=List.filter_eq_self.2 λq a=>by rw[g q (List.mem_cons_of_mem _ a)];rfl
   rw[fC]
   by_cases l:bK p.N t.N=eA
   ·rw[if_pos l,List.filter_cons_of_pos (by rw[w];rfl),o]
    unfold sE;rw[List.filter_cons_of_pos (by rw[yD (mI l)];rfl)]
   ·rw[if_neg l]
    have j:∀q∈r,q.N≠t.N:=λq a e=>by
     have u:=y.head q a;rw[e]at u;exact l u
    have b:sE (·.N) t.N r=r:=List.filter_eq_self.2 λq a=>by rw[yD (j q a)];rfl
    by_cases m:p.N=t.N
    ·rw[if_pos ((gE _ _).2 m),List.filter_cons_of_neg (by simp[k]),c]
     unfold sE at b |-
     rw[List.filter_cons_of_neg (by simp[m]),b]
    ·rw[if_neg (by rw[yD m];simp),List.filter_cons_of_neg (by simp[k]),List.filter_cons_of_pos (by rw[w];rfl),c]
     unfold sE at b |-
     rw[List.filter_cons_of_pos (by rw[yD m];rfl),b]
 ·rw[if_neg k]
  refine List.filter_eq_self.2 λq a=>?_
  rcases uK a with rfl|a
  ·simpa using k
  ·rw[g q a];rfl
def FB{α:Type}{key:α->pB}{a:α}{l:List α}(h:tC key l):zA (fC key a l)=if (xC key (key a) l).isSome=eA then zA l else zA l+1:=by
 induction l with
 |nil=>simp[fC,xC]
 |cons p r j=>
  have f:=j h.tail;rw[fC,lF];by_cases c:bK (key p) (key a)=eA
  .rw[Ma c,Ja (mI c),Zb,f];split<;>simp
  rw[Ja c];by_cases d:key p=key a
  .rw[Ma ((gE _ _).2 d),Ma d];simp
  have b:xC key (key a) r=none:=qJ λq i e=>by
   have g:=h.head q i;rw[e]at g;exact c g
  rw[Ja (by rw[yD d];simp),Ja d,b];simp
def BL(c:lC)(a:Int)(d:List gB)(b:Int):Int×List gB×Bool:=
 if iC c a d=dA then(0,[],dA) else if b<1\/1000000000000-a<b then(a,d,dA) else(a+b,kD c.w (a+b) d,eA)
def pH(t:gB)(a:pB)(b:Int):gB:=
 if a.toList.isEmpty=eA then⟨t.N,b,t.M,t.Z⟩ else⟨t.N,t.L,if b<0 then sE (·.s) a t.M else fC (·.s) ⟨a,b⟩ t.M,t.Z⟩
def zR(c:lC)(e:Int)(f:List gB)(b a:pB)(d:Int):Int×List gB×Bool:=
 if iC c e f=dA then(0,[],dA)
 else if (uC b&&(a.toList.isEmpty||aF a) &&yB d (-1) 1000000)=dA then(e,f,dA)
 else if 10000<zA (kD c.w e (fC (·.N) (pH (rB f b) a d) f)) then(e,f,dA)
 else(e,kD c.w e (fC (·.N) (pH (rB f b) a d) f),eA)
def RW(w:fA)(a:List TV):Prop:=∀y∈a,mC w y.a1 y.t.M/\mC w y.a2 y.t.Z
def RW.snoc{w:fA}{ys:List TV}(h:RW w ys){y:TV}(a:mC w y.a1 y.t.M)(b:mC w y.a2 y.t.Z):RW w (ys++[y]):=by grind [RW,mC]
def US:∀(l:List TV)(i:Nat)(a:i<zA l),(iF l)[i*4]?=cA (pA l[i].t.N)/\(iF l)[i*4+1]?=cA (aB l[i].t.L)/\(iF l)[i*4+2]?=cA (.slice l[i].a1 (zA l[i].t.M) l[i].c1)/\(iF l)[i*4+3]?=cA (.slice l[i].a2 (zA l[i].t.Z) l[i].c2):=by
 intro l;unfold iF;induction l with
 |nil=>intro i a;exact absurd a (by simp)
 |cons x r b=>
  intro i a;cases i with
  |zero=>simp
  |succ i=>
   have:=b i (by simpa using a);simp only[Xc,Sd,Mb,Ec];refine⟨?_,?_,?_,?_⟩;rw[show(i+1)*4=i*4+1+1+1+1 by omega,Ga,Ga,Ga,Ga];exact this.1;rw[show(i+1)*4+1=i*4+1+1+1+1+1 by omega,Ga,Ga,Ga,Ga];exact this.2.1;rw[show(i+1)*4+2=i*4+2+1+1+1+1 by omega,Ga,Ga,Ga,Ga];exact this.2.2.1;rw[show(i+1)*4+3=i*4+3+1+1+1+1 by omega,Ga,Ga,Ga,Ga];exact this.2.2.2
def aIn{w m:fA}{B:Nat}{e:kA}{a:nC}{o:Nat}{l:List TV}(h:m.ownsRow B e 4 (qA a (zA l) o) (zA l) (iF l))(y:RW w l):
 ∀i(q:i<zA l),∃b,a=vB b/\b<m.1.size/\m.cell? (eB b (i*4))=cA (pA l[i].t.N)/\m.cell? (eB b (i*4+1))=cA (aB l[i].t.L)/\m.cell? (eB b (i*4+2))=cA (.slice l[i].a1 (zA l[i].t.M) l[i].c1)/\m.cell? (eB b (i*4+3))=cA (.slice l[i].a2 (zA l[i].t.Z) l[i].c2)/\mC w l[i].a1 l[i].t.M/\mC w l[i].a2 l[i].t.Z:=by
 intro i q;obtain⟨_,E⟩|⟨g,s,p,u,D,v,_,_,z,r⟩:=h.2;omega;simp only[jA.slice.injEq]at u;obtain⟨c,d,f,k⟩:=US l i q;have n:∀j,j<zA l*4->m.cell? (eB g j)=(iF l)[j]?:=λj x=>by
  rw[jB.cell (show jB m g p e from v) j,<-Yd,<-r,Jb x]
 obtain⟨A,C⟩:=y l[i] (Gb q);refine⟨g,u.1,bB v,?_,?_,?_,?_,A,C⟩;rw[n _ (by omega)];exact c;rw[n _ (by omega)];exact d;rw[n _ (by omega)];exact f;rw[n _ (by omega)];exact k
def sI(t:gB)(key:pB)(a:Int):gB:=⟨t.N,t.L,t.M,fC (·.s) ⟨key,a⟩ t.Z⟩
def dI(c:lC)(b:Int)(d:List gB)(a key:pB):Int×List gB×Nat:=
 if iC c b d=dA then(0,[],5)
 else if (uC a&&qK key)=dA then(b,d,5)
 else if (xC (·.s) key (rB d a).Z).isSome=eA then(b,fC (·.N) (sI (rB d a) key b) d,1)
 else if (pE c (rB d a) lA).2<=(pE c (rB d a) lA).1\/(xE (rB d a)=eA/\zA d=10000) then(b,d,3)
 else if (pE c (rB d a) (dE key)).2<=(pE c (rB d a) (dE key)).1 then(b,d,4)
 else(b,fC (·.N) (sI (rB d a) key b) d,2)
theorem dM{ts:List gB}{name:pB}:(rB ts name∈ts/\(xC (·.N) name ts).isSome=eA)\/(rB ts name=⟨name,-1,[],[]⟩/\xC (·.N) name ts=none):=by
 unfold rB;cases h:xC (·.N) name ts with
 |none=>exact La ⟨rfl,rfl⟩
 |some t=>exact Ca ⟨(jM h).1,rfl⟩
theorem gF{a:List gB}{name:pB}:(rB a name).N=name:=by
 unfold rB;cases h:xC (·.N) name a with
 |none=>rfl
 |some t=>exact(jM h).2
def qo{e d:Int}{a:List gB}(h:bN e d a=eA){name:pB}:xE (rB a name)=!(xC (·.N) name a).isSome:=by
 rcases dM (ts:=a) (name:=name) with⟨b,c⟩|⟨b,c⟩;rw[(aK (kJ h _ b)).2.2.2,c];rfl;rw[b,c];rfl
def DG{b a:Int}{c:List gB}(h:bN b a c=eA){name:pB}:∀x∈(rB c name).Z,a-x.n<b:=by
 rcases dM (ts:=c) (name:=name) with⟨d,_⟩|⟨d,_⟩
 .exact λx e=>(AH (aK (kJ h _ d)).2.2.1 x e).1
 rw[d];exact λx e=>by simp at e
theorem YJ{α:Type}{key:α->pB}{a:α}{l:List α}:zA (fC key a l)≠0:=by unfold fC;grind
def uq{b a:Int}{t:gB}{key:pB}(c:1<=b)(h:∀x∈t.Z,a-x.n<b):∀x∈(sI t key a).Z,a-x.n<b:=by grind [sI,fC,uK]
def TM{t:gB}{key:pB}{a:Int}:xE (sI t key a)=dA:=by grind [xE,sI,fC,YJ]
def ob{c b:Int}{d:List gB}(h:bN c b d=eA)(e:tC (·.N) d)(f:1<=c){a key:pB}:
 kD c b (fC (·.N) (sI (rB d a) key b) d)=fC (·.N) (sI (rB d a) key b) d:=by
 rw[PF h e (uq f (DG h)),TM];rfl
def UW{l:List kB}{k:pB}{n:Int}{j:Nat}(f:j<=zA l)(c:∀i(h:i<zA l),i<j->bK l[i].s k=eA)(d:∀h:j<zA l,bK l[j].s k=dA)(e:xC (·.s) k l=none):
 fC (·.s) ⟨k,n⟩ l=l.take j++⟨k,n⟩:: l.drop j:=by
 induction l generalizing j with
 |nil=>simp[fC]
 |cons p r o=>
  have g:p.s≠k:=pW e p (Kc ..);rw[fC];cases j with
  |zero=>
   have b:bK p.s k=dA:=d (by simp);rw[Ja (by rw[b];simp),Ja (by rw[yD g];simp)];rfl
  |succ j=>
   have b:bK p.s k=eA:=c 0 (by simp) (by omega);have a:xC (·.s) k r=none:=qJ λq m=>pW e q (Sb _ m);rw[Ma b,o (j:=j) (by simpa using f) (λi h t=>by have:=c (i+1) (by simpa using h) (by omega);simpa using this) (λh=>by have:=d (by simpa using h);simpa using this) a];rfl
def bQ(d:List gB)(a b:pB)(c:Int):List gB×Bool:=
 if (uC a&&(b.toList.isEmpty||aF b) &&yB c (-1) 1000000)=dA then(d,dA)
 else if xE (pH (rB d a) b c)=eA then(sE (·.N) a d,eA)
 else if ((xC (·.N) a d).isNone&&decide (10000<=zA d))=eA then(d,dA)
 else(fC (·.N) (pH (rB d a) b c) d,eA)
theorem sM(t:gB)(a:pB)(b:Int):(pH t a b).N=t.N:=by unfold pH;split<;>rfl
def VE(t:gB)(a:pB)(b:Int):(pH t a b).Z=t.Z:=by unfold pH;split<;>rfl
theorem bG{c:lC}{a:Int}{b:List gB}(h:iC c a b=eA):lG c=eA/\0<=a/\a<=1000000000000/\zA b<=10000/\bN c.w a b=eA:=by
 simp only[iC,Sa,Ab]at h;obtain⟨⟨⟨d,e⟩,f⟩,g⟩:=h;have:=nL e;exact⟨d,this.1,this.2,f,g⟩
theorem gL{c a:Int}{b:List gB}(h:bN c a b=eA):tC (·.N) b:=by
 have:=aAe (n:=zA b) h (Ia _);rwa [Rb]at this
def MN{c:lC}{i:Int}{f:List gB}(h:iC c i f=eA)(b d:pB)(e:Int):zR c i f b d e=(i,(bQ f b d e).1,(bQ f b d e).2):=by
 obtain⟨_,_,_,r,o⟩:=bG h;have s:=gL o;unfold zR bQ;rw[Ja (by rw[h];simp)];by_cases k:(uC b&&(d.toList.isEmpty||aF d) &&yB e (-1) 1000000)=dA
 .rw[Ma k,Ma k]
 rw[Ja k,Ja k];have j:(pH (rB f b) d e).N=b:=by rw[sM,gF]
 have m:∀x∈(pH (rB f b) d e).Z,i-x.n<c.w:=by rw[VE];exact DG o
 have u:=PF o s (t:=pH (rB f b) d e) m;rw[u,j];by_cases l:xE (pH (rB f b) d e)=eA
 .have v:zA (sE (·.N) b f)<=zA f:=Pc _ _;rw[Ma l,Ma l,Ja (by omega)]
 have g:=FB (a:=pH (rB f b) d e) s;simp only[j]at g;rw[Ja l,Ja l];cases hg:xC (·.N) b f with
 |some q=>
  rw[hg]at g;simp only[Wf,Td]at g;rw[Ja (by omega),Ja (by simp)]
 |none=>
  rw[hg]at g;simp only[Xf,Bd,Cf]at g;by_cases p:10000<=zA f
  .rw[Ma (by omega),Ma (by simp[p])]
  rw[Ja (by omega),Ja (by simp[p])]
def YT{α:Type}{key:α->pB}{a q:α}{l:List α}(g:tC key l)(h:q∈fC key a l):q=a\/(q∈l/\key q≠key a):=by
 induction l with
 |nil=>exact Ca (by simpa[fC]using h)
 |cons p r j=>
  rw[fC]at h;by_cases c:bK (key p) (key a)=eA
  .rw[Ma c]at h;rcases Lb.1 h with h|h
   .exact La ⟨by rw[h];exact Kc ..,by rw[h];exact mI c⟩
   rcases j g.tail h with h|h;exact Ca h;exact La ⟨Sb _ h.1,h.2⟩
  rw[Ja c]at h;have b:∀q∈r,key q≠key a:=λq i e=>by
   have f:=g.head q i;rw[e]at f;exact c f
  by_cases d:key p=key a
  .rw[Ma ((gE _ _).2 d)]at h;rcases Lb.1 h with h|h
   .exact Ca h
   exact La ⟨Sb _ h,b q h⟩
  rw[Ja (by rw[yD d];simp)]at h;rcases Lb.1 h with h|h;exact Ca h;rcases Lb.1 h with h|h;exact La ⟨by rw[h];exact Kc ..,by rw[h];exact d⟩;exact La ⟨Sb _ h,b q h⟩
def FG{α β:Type}{key:α->pB}{a p:α}{l:List α}(f:α->β)(e:tC key l)(b:p∈l)(c:key p=key a)(g:f p=f a):(fC key a l).map f=l.map f:=by
 induction l with
 |nil=>cases b
 |cons q r h=>
  rw[fC];rcases Lb.1 b with rfl|b;rw[Ja (by rw[c,sN];simp),Ma ((gE _ _).2 c)];simp[g];have d:=e.head p b;rw[c]at d;rw[Ma d,Fc,Fc,h e.tail b]
def aMo(a:List gB):Prop:=∀i(h:i<zA a),zA a[i].M<=maxLen/\zA a[i].Z<=maxLen
def tt{x:pB}:x.toList.isEmpty=eA ↔ x=lA:=by
 rw[List.isEmpty_iff];constructor;intro h;exact toList_inj (by rw[h,ByteArray.toList_eq];rfl);intro h;rw[h,ByteArray.toList_eq];rfl
def rV{x:pB}:x.toList.isEmpty=dA ↔ x≠lA:=by rw[<-Bool.not_eq_true,tt]
def tQ(w:fA)(A:Nat->Prop)(a:nC)(b:List gB):Prop:=
 b=[]\/∃g o c t T,a=cA (eB g o)/\w.heap[g]?=cA (xA c t (0,0))/\T g=0/\(∀x,T x<=2*zA b->A x)/\∀i(h:i<zA b),BM w 0 T i g (o+i*4) b[i]
def tQ.tens{w:fA}{A:Nat->Prop}{a:nC}{b:List gB}(h:tQ w A a b):aD w a b:=by
 obtain h|⟨g,o,c,t,T,rfl,d,_,_,h⟩:=h;exact Ca h;exact La ⟨g,o,rfl,bB d,λi e=>(h i e).at⟩
def tQ.turned{S A:Nat->Prop}{w p:fA}{a:nC}{n:List gB}(h:tQ w A a n)(m:fB S w p)(k:∀g,A g->g<w.1.size->¬S g):tQ p A a n:=by
 obtain h|⟨g,o,c,t,T,rfl,f,q,e,h⟩:=h;exact Ca h;have l:=m.block g (bB f) (k g (e g (by omega)) (bB f));exact La ⟨g,o,c,t,T,rfl,l.trans f,q,e,λi s=>(h i s).keep (λj _=>fA.cell?_of_block l) λd b _ r=>⟨m.block d b (k d (e d (by omega)) b),rfl⟩⟩
def tQ.z{w c:fA}{A:Nat->Prop}{a:nC}{b:List gB}(h:tQ w A a b)(d:xB w c):tQ c A a b:=h.turned (fB.of (S:=λ_=>False) d) λ_ _ _ e=>e
def tQ.mono{w:fA}{A A':Nat->Prop}{a:nC}{c:List gB}(h:tQ w A a c)(f:∀x,A x->A' x):tQ w A' a c:=by
 obtain h|⟨g,o,b,t,T,e,j,i,d,h⟩:=h;exact Ca h;exact La ⟨g,o,b,t,T,e,j,i,λx k=>f x (d x k),h⟩
def dD.toA{w:fA}{B H:Nat}{a:nC}{f:List gB}(h:dD w B a f)(P:w.1.size<=H):tQ w (λx=>B<=x/\x<H) a f:=by
 obtain h|⟨g,o,j,t,T,rfl,I,p,J,h⟩:=h;exact Ca h;have L:=bB p;refine La ⟨g,o,j,t,λx=>if B<=x/\x<H then T x else 2*zA f+1,rfl,p,?_,λx M=>?_,λi K=>?_⟩;show (if _ then _ else _)=0;rw[Ma ⟨I,by omega⟩];exact J
 .by_cases m:B<=x/\x<H
  .exact m
  simp only[Ja m]at M;omega
 obtain ⟨s,v,u,y,A,C,D,E,F,G⟩:=h i K;have b:∀{n:Nat}{q:nC}{r:List kB},zE w B T n q r->zE w 0 (λx=>if B<=x/\x<H then T x else 2*zA f+1) n q r:=λb=>by
  obtain b|⟨z,N,c,O,e,k,l,d,b⟩:=b;exact Ca b;have:=bB d;exact La ⟨z,N,c,O,e,Oa _,by show(if _ then _ else _)=_;rw[Ma ⟨k,by omega⟩];exact l,d,b⟩
 exact⟨s,v,u,y,A,C,D,E,b F,b G⟩
def mJ(w:fA)(A:Nat->Prop)(a:nC)(c:List iB):Prop:=
 c=[]\/∃g o b t,a=cA (eB g o)/\A g/\w.heap[g]?=cA (xA b t (0,0))/\DN w g o c
def mJ.files{w:fA}{A:Nat->Prop}{a:nC}{b:List iB}(h:mJ w A a b):uB w a b:=by grind [mJ,uB]
def mJ.turned{S A:Nat->Prop}{w d:fA}{a:nC}{e:List iB}(h:mJ w A a e)(p:fB S w d)(l:∀g,A g->g<w.1.size->¬S g):mJ d A a e:=by
 obtain h|⟨g,o,b,t,rfl,f,c,h⟩:=h;exact Ca h;have k:=p.block g (bB c) (l g f (bB c));have m:∀j,d.cell? (eB g j)=w.cell? (eB g j):=λj=>fA.cell?_of_block k;exact La ⟨g,o,b,t,rfl,f,k.trans c,λi n=>by simp only[m];exact h i n⟩
def mJ.z{w c:fA}{A:Nat->Prop}{a:nC}{b:List iB}(h:mJ w A a b)(d:xB w c):mJ c A a b:=h.turned (fB.of (S:=λ_=>False) d) λ_ _ _ e=>e
def mJ.mono{w:fA}{A A':Nat->Prop}{a:nC}{b:List iB}(h:mJ w A a b)(c:∀x,A x->A' x):mJ w A' a b:=by grind [mJ]
def eJ.toA{w:fA}{B H:Nat}{a:nC}{b:List iB}(h:eJ w B a b)(c:w.1.size<=H):mJ w (λx=>B<=x/\x<H) a b:=by grind [eJ,mJ]
def aGf{C:fA->Prop}{w:fA}{O:Nat}{r c d e f g i j l m n o p q a:jA}{t:kA}(h:jB w O #[r,c,d,e,f,g,i,j,l,m,n,o,p,q] t)
(k:∀b,jB b O #[a,c,d,e,f,g,i,j,l,m,n,o,p,q] t->fB (·=O) w b->C b):C (w.setCell (eB O 0) a):=
 k _ (by have:=h.set 0 a;simpa using this) ((fB.refl (·=O) w).setCell (Ca rfl) 0 a)
def fB.end2{C:fA->Prop}{S:Nat->Prop}(w:fA){a:fA}(h:fB S w a)(k:∀W,fB S w W->C W):C a:=k a h
structure wJ(w:World)(A:Nat→Prop)(a b:nC)(N:sC):Prop where
 parts:∃F T,mJ w F a N.d.fs∧tQ w T b N.ts∧(∀x,F x→A x)∧(∀x,T x→A x)∧∀x,F x→¬T x
def wJ.files{w:fA}{A:Nat->Prop}{a b:nC}{N:sC}(h:wJ w A a b N):uB w a N.d.fs:=by
 obtain⟨F,T,c,e,_⟩:=h.parts;exact c.files
def wJ.tens{w:fA}{A:Nat->Prop}{a b:nC}{N:sC}(h:wJ w A a b N):aD w b N.ts:=by
 obtain⟨F,T,d,c,_⟩:=h.parts;exact c.tens
def wJ.turned{S A:Nat->Prop}{w j:fA}{a b:nC}{N:sC}(h:wJ w A a b N)(i:fB S w j)(f:∀g,A g->g<w.1.size->¬S g):wJ j A a b N:=by
 obtain⟨F,T,k,l,d,e,m⟩:=h.parts;exact⟨F,T,k.turned i (λg c=>f g (d g c)),l.turned i (λg c=>f g (e g c)),d,e,m⟩
def wJ.z{A:Nat->Prop}{w c:fA}{a b:nC}{N:sC}(h:wJ w A a b N)(d:xB w c):wJ c A a b N:=h.turned (fB.of (S:=λ_=>False) d) λ_ _ _ e=>e
def wJ.mono{A A':Nat->Prop}{w:fA}{a b:nC}{N:sC}(h:wJ w A a b N)(d:∀x,A x->A' x):wJ w A' a b N:=by
 obtain⟨F,T,e,f,g,i,j⟩:=h.parts;exact⟨F,T,e,f,λx c=>d x (g x c),λx c=>d x (i x c),j⟩
def zX(n:Nat):Nat->List UInt8
 |0=>[]
 |i+1=>(48+UInt8.ofNat (n / 10 ^ i % 10)):: zX n i
def SN(n:Nat):pB:=⟨(119::97::108::45::zX n 6).toArray⟩
def sH(n:Int):pB:=if 1<=n/\n<=999999 then SN n.toNat else lA
def jZ(n:Nat):∀i,zA (zX n i)=i
 |0=>rfl
 |i+1=>by simp[zX,jZ n i]
def fO(n:Int):(sH n).size<=10:=by
 unfold sH;split;show (119::97::108::45::zX n.toNat 6).toArray.size<=10;simp[jZ];simp
def vx(k:Nat):UInt8.ofNat (48+k)=48+UInt8.ofNat k:=by rw[UInt8.ofNat_add];rfl
def fq(n:Nat)(h:n<1000000):Lib.itoa ((1000000+n:Nat):Int)=49::zX n 6:=by
 have a:Lib.nDigits (1000000+n)=7:=Lib.nDigits_unique 6 _ (by omega) (by omega);rw[Lib.itoa,Ja (by omega),Hd,Lib.decDigits_eq,a];simp only[List.range_succ,List.range_zero,Fc,Ag,Mb,Sd,zX,Lib.dg,vx];congr 1;rw[show(1000000+n) / 10 ^ (7-1-0) % 10=1 by omega];rfl;simp only[List.cons.injEq,Cc];refine⟨?_,?_,?_,?_,?_,?_⟩<;>congr 2<;>omega
def ux{C:fA->Prop}{w:fA}{O:Nat}{q r s u v x y z A B D E F G a b c d e f g H i j l m n o:jA}{t:kA}(h:jB w O #[q,r,s,u,v,x,y,z,A,B,D,E,F,G] t)
(k:∀p,jB p O #[a,b,c,d,e,f,g,H,i,j,l,m,n,o] t->fB (·=O) w p->C p):C ((((((((((((((w.setCell (eB O 0) a).setCell (eB O 1) b).setCell (eB O 2) c).setCell (eB O 3) d).setCell (eB O 4) e).setCell (eB O 5) f).setCell (eB O 6) g).setCell (eB O 7) H).setCell (eB O 8) i).setCell (eB O 9) j).setCell (eB O 10) l).setCell (eB O 11) m).setCell (eB O 12) n).setCell (eB O 13) o):=
 k _ (by have:=((((((((((((((h.set 0 a).set 1 b).set 2 c).set 3 d).set 4 e).set 5 f).set 6 g).set 7 H).set 8 i).set 9 j).set 10 l).set 11 m).set 12 n).set 13 o);simpa using this) (((((((((((((((fB.refl (·=O) w).setCell (Ca rfl) 0 a).setCell (Ca rfl) 1 b).setCell (Ca rfl) 2 c).setCell (Ca rfl) 3 d).setCell (Ca rfl) 4 e).setCell (Ca rfl) 5 f).setCell (Ca rfl) 6 g).setCell (Ca rfl) 7 H).setCell (Ca rfl) 8 i).setCell (Ca rfl) 9 j).setCell (Ca rfl) 10 l).setCell (Ca rfl) 11 m).setCell (Ca rfl) 12 n).setCell (Ca rfl) 13 o)
def aBd{C:fA->Prop}{w:fA}{O:Nat}{q r s u v x y z A l m n o p a b c d e f g B i:jA}{t:kA}(h:jB w O #[q,r,s,u,v,x,y,z,A,l,m,n,o,p] t)
(k:∀j,jB j O #[a,b,c,d,e,f,g,B,i,l,m,n,o,p] t->fB (·=O) w j->C j):C (((((((((w.setCell (eB O 0) a).setCell (eB O 1) b).setCell (eB O 2) c).setCell (eB O 3) d).setCell (eB O 4) e).setCell (eB O 5) f).setCell (eB O 6) g).setCell (eB O 7) B).setCell (eB O 8) i):=
 k _ (by have:=(((((((((h.set 0 a).set 1 b).set 2 c).set 3 d).set 4 e).set 5 f).set 6 g).set 7 B).set 8 i);simpa using this) ((((((((((fB.refl (·=O) w).setCell (Ca rfl) 0 a).setCell (Ca rfl) 1 b).setCell (Ca rfl) 2 c).setCell (Ca rfl) 3 d).setCell (Ca rfl) 4 e).setCell (Ca rfl) 5 f).setCell (Ca rfl) 6 g).setCell (Ca rfl) 7 B).setCell (Ca rfl) 8 i)
def jU(a:List cC):Prop:=∀l∈a,l.N.size<=65/\l.V.size<=258
def JC{b:List cC}{l:cC}(h:jU b)(c:l.N.size<=65/\l.V.size<=258):jU (b++[l]):=λx a=>by
 rw[Ee,Uf]at a;obtain a|rfl:=a;exact h x a;exact c
def zy{b:List cC}{l:cC}(h:jU b)(c:l.N.size<=65/\l.V.size<=258):jU (l::b):=λx a=>by
 rw[Lb]at a;obtain rfl|a:=a;exact c;exact h x a
def sD.below_to{B:Nat}{w d e:fA}(h:sD B w d)(a:Below w.1.size d e):sD B w e:=
 ⟨a.os.trans h.os,a.tape.trans h.tape,a.output.trans h.output,Ua h.size a.size,λk c b=>(a.block k c).trans (h.block k c b)⟩
def tb{w:fA}{base g:Nat}{e:kA}{x y:jA}(a:base<=g)(h:jB w g #[x,y] e):w.ownsRow base e 2 (qA (vB g) 1 1) 1 [x,y]:=
 ⟨by simp,.inr ⟨g,1,#[x,y],rfl,a,h,Ia _,by simp[maxLen],by simp,by simp⟩⟩
def nP.below{w b:fA}{g m k P:Nat}(h:nP w g m k)(e:Below P w b)(f:g<P):nP b g m k:=by
 obtain⟨a,t,c,d⟩:=h;exact⟨a,t,(e.block g f).trans c,d⟩
def jb{w:fA}{B:Nat}{e:kA}{g c:Nat}{b:List cC}(h:w.ownsRow B e 2 (qA (vB g) (zA b) c) (zA b) (rC b)):∀j u,(rC b)[j]?=cA u->w.cell? (((eB g 0):Addr).add j)=cA u:=λj u d=>by
 have a:((eB g 0):Addr).add j=(eB g j):=by unfold Addr.add;split<;>simp_all
 rw[a];exact(vK h).2.2.2 j u d
def aJv(w b:fA)(B P N:Nat)(e:Ending):Prop:=∃(g c:Nat)(a:List cC),e=.returned (qA (vB g) (zA a) c)/\1<=zA a/\zA a<=7/\jU a/\b.ownsRow w.1.size 175 2 (qA (vB g) (zA a) c) (zA a) (rC a)/\wD b B P N/\sD B w b
def NZ(B P N:Nat)(w:fA)(h:wD w B P N)(m:N<=100000):
 Calls prog 30 #[.pointer (vB B)] w λe w'=>aJv w w' B P (N+100) e:=by
 obtain⟨ti,m,k0,l0,m0⟩:=EX;have HI:cB (prog.info? 175=cA ti):=m;clear m;have I:cB (wD w B P N):=h;have m:=h.lt;have m:=h.up.2;clear h;go_enter func30,ntmps30;go_wp2_with fail;have L:cB (nP (w.alloc (xA ([⟨#[106,111,98]⟩,⟨#[104,111,115,116]⟩,⟨#[95,120]⟩,⟨#[90,111,110,101]⟩,⟨#[97,49]⟩,⟨#[108,101]⟩].map jA.string).toArray 9)) w.1.size 6 4):=cT w _ 4 _ 6 rfl (by decide);simp only[Fc,Ag]at L;generalize Q:w.alloc (xA #[pA ⟨#[106,111,98]⟩,pA ⟨#[104,111,115,116]⟩,pA ⟨#[95,120]⟩,pA ⟨#[90,111,110,101]⟩,pA ⟨#[97,49]⟩,pA ⟨#[108,101]⟩] 9)=G at *;have J:G.1.size=w.1.size+1:=by rw[<-Q];simp
 have K:cB (xB w G):=by show Below _ _ _;rw[<-Q];exact bC
 clear Q;have F:cB (nP (G.alloc (xA ([⟨#[117,112]⟩,⟨#[99,112,117]⟩,⟨#[109,101,109]⟩,⟨#[117,112]⟩].map jA.string).toArray 9)) G.1.size 4 3):=cT G _ 3 _ 4 rfl (by decide);simp only[Fc,Ag]at F;generalize R:G.alloc (xA #[pA ⟨#[117,112]⟩,pA ⟨#[99,112,117]⟩,pA ⟨#[109,101,109]⟩,pA ⟨#[117,112]⟩] 9)=m at *;have o:m.1.size=w.1.size+2:=by rw[<-R];simp;omega
 have D:cB (xB G m):=by show Below _ _ _;rw[<-R];exact bC
 clear R;have X:=(I.o.z K.o).z D.o;refine(iD B P N 4 _ X (by omega) (by omega) (by omega)).mono ?_;rintro e w1 ⟨v,Y,rfl,O,u⟩;rw[J]at F;have W:=F.o.but u (by omega);obtain⟨Z,h,h⟩:=W.at Y;have h:cB (wD w1 B P (N+1)/\sD B w w1/\nP w1 w.1.size 6 4):=⟨O,((sD.of K.o).trans (sD.of D.o)).trans u,(L.o.z D.o).but u (by omega)⟩
 have Y:w.1.size+2<=w1.1.size:=by have:=u.size;omega
 clear O u X L F W K D I J o G m;have m:(v:Int)<4:=by omega
 go_wp2;go_loopw [5,7,8,20] (λm _ _ i wr=>∃(k:Nat)(a:List cC)(g C:Nat),k<=6/\i=aB (k:Nat)/\m=qA (vB g) (zA a) C/\1<=zA a/\zA a<=k+1/\cB (jU a/\wD wr B P (N+1+13*k)/\sD B w wr/\nP wr w.1.size 6 4)/\cB (wr.ownsRow (w.1.size+1) 175 2 (qA (vB g) (zA a) C) (zA a) (rC a))/\w.1.size+2<=wr.1.size) (λ_ _ _ i _=>6-(intOf i).toNat)
 case atStart=>
  refine⟨0,[⟨⟨#[95,95,110,97,109,101,95,95]⟩,Z⟩],w1.1.size,1,by omega,rfl,rfl,by simp,by simp,⟨?_,h.o.1.z bC,h.o.2.1.z bC,h.o.2.2.z bC⟩,tb (by omega) (heap_alloc_new _ _),by simp;omega⟩;intro l m;rw[Uf]at m;subst m;exact⟨by show(8:Nat)<=65;omega,by simp only;omega⟩
 case round=>
  clear h;obtain⟨k,a,g,C,h,rfl,rfl,Y,h,E,r,h⟩:=hrel;by_cases G:k<6
  .have h:(k:Int)<6:=by omega
   obtain⟨m,o,I⟩:=E.o.2.2.2.at G;go_wp2_with fail;refine(iD B P (N+1+13*k) 3 _ E.o.2.1 (by omega) (by omega) (by omega)).mono ?_;rintro e U ⟨v2,G,rfl,I,x⟩;have H:cB (jU a/\wD U B P (N+1+13*k+1)/\sD B w U/\nP U w.1.size 6 4):=⟨E.o.1,I,E.o.2.2.1.trans x,E.o.2.2.2.but x (by omega)⟩
   have f:cB (U.ownsRow (w.1.size+1) 175 2 (qA (vB g) (zA a) C) (zA a) (rC a)):=pI r.o x (by omega);have j0:w.1.size+2<=U.1.size:=by have:=x.size;omega
   clear I x E r o;by_cases o:v2=0
   .have M:((v2:Nat):Int)=0:=by omega
    rw[M];clear o M G;go_wp2_with fail;refine(RZ B P _ U H.o.2.1 (by omega)).mono ?_;rintro e J ⟨n,o,rfl,o,y⟩;have V:cB (jU a/\wD J B P (N+1+13*k+11)/\sD B w J/\nP J w.1.size 6 4):=⟨H.o.1,o,H.o.2.2.1.trans y,H.o.2.2.2.but y (by omega)⟩
    have s:cB (J.ownsRow (w.1.size+1) 175 2 (qA (vB g) (zA a) C) (zA a) (rC a)):=pI f.o y (by omega);have G:w.1.size+2<=J.1.size:=by have:=y.size;omega
    clear o y H f;go_wp2_with fail;refine(iD B P (N+1+13*k+11) 2 _ (V.o.2.1.z bC) (by omega) (by omega) (by omega)).mono ?_;rintro e o ⟨v4,G,rfl,O,p⟩;have S:jB (J.alloc (xA #[pA m,pA n] 175)) J.1.size #[pA m,pA n] 175:=heap_alloc_new _ _;have z:jB o J.1.size #[pA m,pA n] 175:=(p.block _ (bB S) (by omega)).trans S;have x0:=jB.cell z 0;have x1:=jB.cell z 1;simp only[Xb,Ob,Ga]at x0 x1;have I:cB (jU a/\wD o B P (N+1+13*k+12)/\sD B w o/\nP o w.1.size 6 4):=⟨V.o.1,O,(V.o.2.2.1.z bC).trans p,(V.o.2.2.2.z bC).but p (by omega)⟩
    have j:cB (o.ownsRow (w.1.size+1) 175 2 (qA (vB g) (zA a) C) (zA a) (rC a)):=pI (hC s.o bC) p (by omega);have J:w.1.size+2<=o.1.size:=by have:=p.size;simp at this;omega
    clear O p V s S z;have i0:m.size<=65/\n.size<=258:=⟨by omega,by omega⟩
    by_cases J:v4=0
    .have O:((v4:Nat):Int)=0:=by omega
     rw[O];clear J O G;go_wp2_with(at_builtin;refine wpList_append_lies _ rfl _ _ _ rfl (w.1.size+1) 175 ti _ 2 32 underlying90 HI.o k0 l0 m0 rfl (by omega) (qA (vB g) (zA a) C) (zA a) (rC a) rfl (by exact hC j.o bC) (eB o.1.size 0) 1 1 [pA m,pA n] rfl rfl (by exact fA.news_of_block (cs:=#[pA m,pA n]) (heap_alloc_new _ _)) (by simp[jA.oneCell']) (by omega) (by simp[maxLen];omega) (by omega) (by simp;omega) (o.1.size+1) (by simp) ?_;intro G t J b d Z e0);have c:Below (w.1.size+1) o J:=(((zF o _).mono (by omega)).grown d (by simp;omega) (λq W=>uH j.o q W))
     have A:zA (a++[(⟨m,n⟩:cC)])=zA a+1:=by simp
     have T:rC a++[pA m,pA n]=rC (a++[⟨m,n⟩]):=by rw[qF];rfl
     rw[T,<-A]at b;refine⟨⟨k+1,a++[(⟨m,n⟩:cC)],G,t,by omega,by go_num,by rw[A],by omega,by omega,⟨JC I.o.1 i0,(I.o.2.1.below (c.mono (by omega))).mono (by omega),I.o.2.2.1.below_to (c.mono (by omega)),I.o.2.2.2.below c (by omega)⟩,b,by have:=c.size;omega⟩,by simp[intOf];omega⟩
    have O:¬(((v4:Nat):Int)=0):=by omega
    go_wp2_with(at_builtin;refine wpList_append_lies _ rfl _ _ _ rfl (w.1.size+1) 175 ti _ 2 32 underlying90 HI.o k0 l0 m0 rfl (by omega) (qA (vB o.1.size) 1 1) 1 [pA m,pA n] rfl (by exact tb (by omega) (heap_alloc_new _ _)) (eB g 0) (zA a) C (rC a) rfl (hI a) (by exact jb (hC j.o bC)) (by exact oS a) (by omega) (by simp[maxLen];omega) (by omega) (by simp;omega) (o.1.size+1) (by simp) ?_;intro G t J b d Z e0);have c:Below (w.1.size+1) o J:=(((zF o _).mono (by omega)).grown d (by simp;omega) (λq W=>by simp[jA.ownBlock]at W;omega))
    have A:zA ((⟨m,n⟩:cC):: a)=1+zA a:=by simp;omega
    have T:[pA m,pA n]++rC a=rC (⟨m,n⟩:: a):=rfl;rw[T,<-A]at b;refine⟨⟨k+1,(⟨m,n⟩:cC):: a,G,t,by omega,by go_num,by rw[A],by omega,by omega,⟨zy I.o.1 i0,(I.o.2.1.below (c.mono (by omega))).mono (by omega),I.o.2.2.1.below_to (c.mono (by omega)),I.o.2.2.2.below c (by omega)⟩,b,by have:=c.size;omega⟩,by simp[intOf];omega⟩
   have M:¬(((v2:Nat):Int)=0):=by omega
   go_wp2;exact⟨⟨k+1,a,g,C,by omega,by go_num,rfl,Y,by omega,⟨H.o.1,H.o.2.1.mono (by omega),H.o.2.2⟩,f.o,j0⟩,by simp[intOf];omega⟩
  have h:¬((k:Int)<6):=by omega
  go_wp2;go_ret;exact⟨g,C,a,rfl,Y,by omega,E.o.1,AF r.o (by omega),E.o.2.1.mono (by omega),E.o.2.2.1⟩
def nJ(w : World) : Prop := Lib.TabIs prog w "internal/strconv.uint64pow10" .u64 Lib.pow10Tab
def nJ.z{w c:fA}(h:nJ w)(d:xB w c):nJ c:=by
 unfold nJ Lib.TabIs fA.var? at h |-
 cases hg : prog.globalNamed "internal/strconv.uint64pow10" with
 |none=>rw[hg]at h;cases h
 |some g=>
  rw[hg]at h;simp only[Option.bind_some]at h |-
  have b:g<w.1.size:=by
   rcases Gc g w.1.size with a|a;exact a;rw[Mc a]at h;cases h
  rw[d.block g b];exact h
def aIr(n:Nat)(h:n<1000000):(⟨#[119,97,108,45]⟩:pB)++(⟨(Lib.itoa ((1000000+n:Nat):Int)).toArray⟩:pB).extract 1 7=SN n:=by
 rw[fq n h];apply ByteArray.ext;simp[SN,zX]
def bO(n:Int)(w:fA)(a:nJ w):
 cF 120 #[aB n] w (pA (sH n)):=by
 by_cases h:1<=n/\n<=999999
 .obtain ⟨N,rfl⟩:=Yf (show 0<=n by omega);have E:cB (sH N=SN N):=Ma h;have i:1<=N:=by omega
  have j:N<=999999:=by omega
  have f:cB (cF 191 #[aB (1000000+(N:Int))] w (pA ⟨(Lib.itoa ((1000000+N:Nat):Int)).toArray⟩)):=
   (strconv_Itoa ((1000000+N:Nat):Int) (by omega) (by omega) w a).mono (by
    rintro e c ⟨rfl,k,p,rfl⟩;exact⟨rfl,Lib.below_grow _ _ (Ia _) _ _⟩)
  have g:cB _:=aIr N (by omega);have o:(⟨(Lib.itoa ((1000000+N:Nat):Int)).toArray⟩:pB).size=7:=by
   rw[fq N (by omega)];simp[zX,ByteArray.size]
  generalize (⟨(Lib.itoa ((1000000+N:Nat):Int)).toArray⟩:pB)=X at *;clear h a;go_enter func120,ntmps120;go_wp2_with fail;apply jC f.o;intro q b;have d:cB _:=b;clear b;go_wp2;go_ret;refine⟨?_,d.o⟩;rw[E.o,<-g.o];rfl
 have E:cB (sH n=lA):=Ja h;by_cases l:n<1
 .go_enter func120,ntmps120;go_wp2;go_ret;exact⟨by rw[E.o];rfl,gD⟩
 have m:999999<n:=by omega
 clear h;go_enter func120,ntmps120;go_wp2;go_ret;exact⟨by rw[E.o];rfl,gD⟩
