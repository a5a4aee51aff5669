import Derived.Test.YtiegonaogehghaaGreatDoorJ15
import Derived.Test.YtiegonaogehghaaGreatDoorJ13
import Derived.Lib.AppendIntMem
set_option maxRecDepth 100000
set_option maxHeartbeats 1000000
set_option linter.defProp false
open Bool renaming true->dA,false->cA
open Option renaming some->bA
open ByteArray renaming empty->kA
open List renaming length->yA
namespace Go.Proofs.YtiegonaogehghaaGreatDoor
open Go renaming World->eA,TypeId->jA,Value->iA
open Value renaming string->oA,slice->pA
open Obj renaming cells->vA
open Go.RowKit Tryz
def xB(a:List fB)(name:nB):fB:=(xC (·.N) name a).getD ⟨name,-1,[],[]⟩
def tG(a:List iB)(m:nB)(d:Int):Int:=a.foldl (λd p=>if p.s.toList==m.toList then p.n else d) d
def gi(a:List iB)(m:nB)(d:Int)(k:Nat)(h:k<yA a):tG (a.take (k+1)) m d=if a[k].s.toList==m.toList then a[k].n else tG (a.take k) m d:=by
 rw[Pa h,tG,Dg];rfl
def gh{a:List iB}{m:nB}(h:∀p∈a,p.s≠m)(d:Int):tG a m d=d:=by induction a<;>grind [tG,zD]
def VD{a:List iB}(b:sC (·.s) a)(m:nB)(d:Int):tG a m d=((xC (·.s) m a).map (·.n)).getD d:=by
 induction a generalizing d with
 |nil=>rfl
 |cons p r g=>
  rw[tG,Og,lS];by_cases e:p.s=m
  .rw[Ma ((dE _ _).2 e),Ma e];exact gh (λq f c=>eJ (b.head q f) (e.trans c.symm)) _
  rw[Ja (by rw[zD e];simp),Ja e];exact g b.tail d
def kE(c:gC)(t:fB)(m:nB):Int×Int:=
 if m.toList.isEmpty=dA then((yA t.Z:Nat),if t.L<0 then c.tl else t.L) else((oI wD t.Z m:Nat),tG t.M m c.ml)
def fG(c:gC)(b:Int)(d:List fB)(a m:nB):Int×Int:=
 if (kC c b d&&oC a&&(m.toList.isEmpty||xE m))=dA then kE c (xB d a) m else(-1,-1)
def vg(l:List iB)(m:nB)(k:Nat)(h:k<yA l):oI wD (l.take (k+1)) m=oI wD (l.take k) m+if (wD l[k].s).toList==m.toList then 1 else 0:=by
 rw[Pa h,oI,oI,Vf,Kb];congr 1;cases hb:(wD l[k].s).toList==m.toList<;>simp[hb]
def BV{α:Type}{key:α->nB}{l:List α}{k:nB}:∀(n:Nat),(∀j(_:j<n)(c:j<yA l),key l[j]≠k)->xC key k l=xC key k (l.drop n)
 |0,_=>by simp
 |n+1,h=>by
  rw[BV n (λj d a=>h j (by omega) a)];by_cases b:n<yA l
  .rw[Cb b,lS,Ja (h n (by omega) b)]
  rw[Yb (by omega),Yb (by omega)]
def uE(b a:Int)(t:fB):fB:=⟨t.N,t.L,t.M,t.Z.filter λp=>decide (a-p.n<b)⟩
def uD(b a:Int)(c:List fB):List fB:=(c.map (uE b a)).filter λt=>!yE t
theorem zI{b a:Int}{d:List fB}(h:tM b a d=dA):∀t∈d,fO b a t=dA:=λt e=>by
 obtain⟨i,c,rfl⟩:=Ib e;have:=zM h c;rw[fT c,Sa]at this;exact this.2
def AH{b a:Int}{d:List iB}(h:bL b a d=dA):∀x∈d,a-x.n<b/\0<=x.n/\x.n<=a:=λx e=>by
 obtain⟨i,c,rfl⟩:=Ib e;have:=zM h c;rw[pV c]at this;simp only[Sa,Ab,zB]at this;exact⟨this.2,this.1.2.1,this.1.2.2⟩
def tJ{b a:Int}{t:fB}(h:fO b a t=dA):oC t.N=dA/\tL t.M=dA/\bL b a t.Z=dA/\yE t=cA:=by grind [fO,oC,tL,bL,yE]
def zZ{b a:Int}{t:fB}(h:∀x∈t.Z,a-x.n<b):uE b a t=t:=by
 unfold uE;rw[Jc.2 λx c=>Ac (h x c)]
theorem fo{b a:Int}{c:List fB}(h:tM b a c=dA):uD b a c=c:=by
 have e:c.map (uE b a)=c:=by
  have:∀t∈c,uE b a t=id t:=λt d=>zZ λx f=>(AH (tJ (zI h t d)).2.2.1 x f).1;rw[Ge this,List.map_id]
 unfold uD;rw[e];exact Jc.2 λt d=>by rw[(tJ (zI h t d)).2.2.2];rfl
def OX {f d:Int} {i:List fB} (h:tM f d i=dA) (y:sC (·.N) i) {t:fB} (z:∀x∈t.Z,d-x.n<f):
 uD f d (cC (·.N) t i)=if yE t=dA then rE (·.N) t.N i else cC (·.N) t i:=by
 have v:∀q∈cC (·.N) t i,uE f d q=id q:=λq a=>by
  rcases sK a with rfl|a
  ·exact zZ z
  ·exact zZ λx A=>(AH (tJ (zI h q a)).2.2.1 x A).1
 have s:(cC (·.N) t i).map (uE f d)=cC (·.N) t i:=by rw[List.map_congr_left v,List.map_id]
 have g:=λq a=>(tJ (zI h q a)).2.2.2
 unfold uD;rw[s]
 by_cases k:yE t=dA
 ·rw[if_pos k]
  clear h s v z
  induction i with
  |nil=>simp[cC,k,rE]
  |cons p r B=>
   have o:=B y.tail (λq a=>g q (List.mem_cons_of_mem _ a));have w:=g p (List.mem_cons_self ..);have c:(r.filter λt=>!yE t)=r:=List.filter_eq_self.2 λq a=>by rw[g q (List.mem_cons_of_mem _ a)];rfl
   rw[cC]
   by_cases l:uJ p.N t.N=dA
   ·rw[if_pos l,List.filter_cons_of_pos (by rw[w];rfl),o]
    unfold rE;rw[List.filter_cons_of_pos (by rw[zD (eJ l)];rfl)]
   ·rw[if_neg l]
    have j:∀q∈r,q.N≠t.N:=λq a e=>by
     have u:=y.head q a;rw[e]at u;exact l u
    have b:rE (·.N) t.N r=r:=List.filter_eq_self.2 λq a=>by rw[zD (j q a)];rfl
    by_cases m:p.N=t.N
    ·rw[if_pos ((dE _ _).2 m),List.filter_cons_of_neg (by simp[k]),c]
     unfold rE at b |-
     rw[List.filter_cons_of_neg (by simp[m]),b]
    ·rw[if_neg (by rw[zD m];simp),List.filter_cons_of_neg (by simp[k]),List.filter_cons_of_pos (by rw[w];rfl),c]
     unfold rE at b |-
     rw[List.filter_cons_of_pos (by rw[zD m];rfl),b]
 ·rw[if_neg k]
  refine List.filter_eq_self.2 λq a=>?_
  rcases sK a with rfl|a
  ·simpa using k
  ·rw[g q a];rfl
def EW{α:Type}{key:α->nB}{a:α}{l:List α}(h:sC key l):yA (cC key a l)=if (xC key (key a) l).isSome=dA then yA l else yA l+1:=by
 induction l with
 |nil=>simp[cC,xC]
 |cons p r j=>
  have f:=j h.tail;rw[cC,lS];by_cases c:uJ (key p) (key a)=dA
  .rw[Ma c,Ja (eJ c),Zb,f];split<;>simp
  rw[Ja c];by_cases d:key p=key a
  .rw[Ma ((dE _ _).2 d),Ma d];simp
  have b:xC key (key a) r=none:=aN λq i e=>by
   have g:=h.head q i;rw[e]at g;exact c g
  rw[Ja (by rw[zD d];simp),Ja d,b];simp
def uV(c:gC)(a:Int)(d:List fB)(b:Int):Int×List fB×Bool:=
 if kC c a d=cA then(0,[],cA) else if b<1\/1000000000000-a<b then(a,d,cA) else(a+b,uD c.w (a+b) d,dA)
def qH(t:fB)(a:nB)(b:Int):fB:=
 if a.toList.isEmpty=dA then⟨t.N,b,t.M,t.Z⟩ else⟨t.N,t.L,if b<0 then rE (·.s) a t.M else cC (·.s) ⟨a,b⟩ t.M,t.Z⟩
def kN(c:gC)(e:Int)(f:List fB)(b a:nB)(d:Int):Int×List fB×Bool:=
 if kC c e f=cA then(0,[],cA)
 else if (oC b&&(a.toList.isEmpty||xE a) &&zB d (-1) 1000000)=cA then(e,f,cA)
 else if 10000<yA (uD c.w e (cC (·.N) (qH (xB f b) a d) f)) then(e,f,cA)
 else(e,uD c.w e (cC (·.N) (qH (xB f b) a d) f),dA)
def RP(w:eA)(a:List TV):Prop:=∀y∈a,lC w y.a1 y.t.M/\lC w y.a2 y.t.Z
def RP.snoc{w:eA}{ys:List TV}(h:RP w ys){y:TV}(a:lC w y.a1 y.t.M)(b:lC w y.a2 y.t.Z):RP w (ys++[y]):=by grind [RP,lC]
def UN:∀(l:List TV)(i:Nat)(a:i<yA l),(dF l)[i*4]?=bA (oA l[i].t.N)/\(dF l)[i*4+1]?=bA (zA l[i].t.L)/\(dF l)[i*4+2]?=bA (.slice l[i].a1 (yA l[i].t.M) l[i].c1)/\(dF l)[i*4+3]?=bA (.slice l[i].a2 (yA l[i].t.Z) l[i].c2):=by
 intro l;unfold dF;induction l with
 |nil=>intro i a;exact absurd a (by simp)
 |cons x r b=>
  intro i a;cases i with
  |zero=>simp
  |succ i=>
   have:=b i (by simpa using a);simp only[Xc,Sd,Mb,Ec];refine⟨?_,?_,?_,?_⟩;rw[show(i+1)*4=i*4+1+1+1+1 by omega,Ga,Ga,Ga,Ga];exact this.1;rw[show(i+1)*4+1=i*4+1+1+1+1+1 by omega,Ga,Ga,Ga,Ga];exact this.2.1;rw[show(i+1)*4+2=i*4+2+1+1+1+1 by omega,Ga,Ga,Ga,Ga];exact this.2.2.1;rw[show(i+1)*4+3=i*4+3+1+1+1+1 by omega,Ga,Ga,Ga,Ga];exact this.2.2.2
def aIp{w m:eA}{B:Nat}{e:jA}{a:jC}{o:Nat}{l:List TV}(h:m.ownsRow B e 4 (pA a (yA l) o) (yA l) (dF l))(y:RP w l):
 ∀i(q:i<yA l),∃b,a=pB b/\b<m.1.size/\m.cell? (dB b (i*4))=bA (oA l[i].t.N)/\m.cell? (dB b (i*4+1))=bA (zA l[i].t.L)/\m.cell? (dB b (i*4+2))=bA (.slice l[i].a1 (yA l[i].t.M) l[i].c1)/\m.cell? (dB b (i*4+3))=bA (.slice l[i].a2 (yA l[i].t.Z) l[i].c2)/\lC w l[i].a1 l[i].t.M/\lC w l[i].a2 l[i].t.Z:=by
 intro i q;obtain⟨_,E⟩|⟨g,s,p,u,D,v,_,_,z,r⟩:=h.2;omega;simp only[iA.slice.injEq]at u;obtain⟨c,d,f,k⟩:=UN l i q;have n:∀j,j<yA l*4->m.cell? (dB g j)=(dF l)[j]?:=λj x=>by
  rw[gB.cell (show gB m g p e from v) j,<-Yd,<-r,Jb x]
 obtain⟨A,C⟩:=y l[i] (Gb q);refine⟨g,u.1,aB v,?_,?_,?_,?_,A,C⟩;rw[n _ (by omega)];exact c;rw[n _ (by omega)];exact d;rw[n _ (by omega)];exact f;rw[n _ (by omega)];exact k
def vI(t:fB)(key:nB)(a:Int):fB:=⟨t.N,t.L,t.M,cC (·.s) ⟨key,a⟩ t.Z⟩
def sH(c:gC)(b:Int)(d:List fB)(a key:nB):Int×List fB×Nat:=
 if kC c b d=cA then(0,[],5)
 else if (oC a&&kK key)=cA then(b,d,5)
 else if (xC (·.s) key (xB d a).Z).isSome=dA then(b,cC (·.N) (vI (xB d a) key b) d,1)
 else if (kE c (xB d a) kA).2<=(kE c (xB d a) kA).1\/(yE (xB d a)=dA/\yA d=10000) then(b,d,3)
 else if (kE c (xB d a) (wD key)).2<=(kE c (xB d a) (wD key)).1 then(b,d,4)
 else(b,cC (·.N) (vI (xB d a) key b) d,2)
theorem xL{ts:List fB}{name:nB}:(xB ts name∈ts/\(xC (·.N) name ts).isSome=dA)\/(xB ts name=⟨name,-1,[],[]⟩/\xC (·.N) name ts=none):=by
 unfold xB;cases h:xC (·.N) name ts with
 |none=>exact La ⟨rfl,rfl⟩
 |some t=>exact Ca ⟨(bM h).1,rfl⟩
theorem cG{a:List fB}{name:nB}:(xB a name).N=name:=by
 unfold xB;cases h:xC (·.N) name a with
 |none=>rfl
 |some t=>exact(bM h).2
def qp{e d:Int}{a:List fB}(h:tM e d a=dA){name:nB}:yE (xB a name)=!(xC (·.N) name a).isSome:=by
 rcases xL (ts:=a) (name:=name) with⟨b,c⟩|⟨b,c⟩;rw[(tJ (zI h _ b)).2.2.2,c];rfl;rw[b,c];rfl
def DC{b a:Int}{c:List fB}(h:tM b a c=dA){name:nB}:∀x∈(xB c name).Z,a-x.n<b:=by
 rcases xL (ts:=c) (name:=name) with⟨d,_⟩|⟨d,_⟩
 .exact λx e=>(AH (tJ (zI h _ d)).2.2.1 x e).1
 rw[d];exact λx e=>by simp at e
theorem YK{α:Type}{key:α->nB}{a:α}{l:List α}:yA (cC key a l)≠0:=by unfold cC;grind
def uo{b a:Int}{t:fB}{key:nB}(c:1<=b)(h:∀x∈t.Z,a-x.n<b):∀x∈(vI t key a).Z,a-x.n<b:=by grind [vI,cC,sK]
def TF{t:fB}{key:nB}{a:Int}:yE (vI t key a)=cA:=by grind [yE,vI,cC,YK]
def ob{c b:Int}{d:List fB}(h:tM c b d=dA)(e:sC (·.N) d)(f:1<=c){a key:nB}:
 uD c b (cC (·.N) (vI (xB d a) key b) d)=cC (·.N) (vI (xB d a) key b) d:=by
 rw[OX h e (uo f (DC h)),TF];rfl
def UR{l:List iB}{k:nB}{n:Int}{j:Nat}(f:j<=yA l)(c:∀i(h:i<yA l),i<j->uJ l[i].s k=dA)(d:∀h:j<yA l,uJ l[j].s k=cA)(e:xC (·.s) k l=none):
 cC (·.s) ⟨k,n⟩ l=l.take j++⟨k,n⟩:: l.drop j:=by
 induction l generalizing j with
 |nil=>simp[cC]
 |cons p r o=>
  have g:p.s≠k:=pW e p (Kc ..);rw[cC];cases j with
  |zero=>
   have b:uJ p.s k=cA:=d (by simp);rw[Ja (by rw[b];simp),Ja (by rw[zD g];simp)];rfl
  |succ j=>
   have b:uJ p.s k=dA:=c 0 (by simp) (by omega);have a:xC (·.s) k r=none:=aN λq m=>pW e q (Sb _ m);rw[Ma b,o (j:=j) (by simpa using f) (λi h t=>by have:=c (i+1) (by simpa using h) (by omega);simpa using this) (λh=>by have:=d (by simpa using h);simpa using this) a];rfl
def uR(d:List fB)(a b:nB)(c:Int):List fB×Bool:=
 if (oC a&&(b.toList.isEmpty||xE b) &&zB c (-1) 1000000)=cA then(d,cA)
 else if yE (qH (xB d a) b c)=dA then(rE (·.N) a d,dA)
 else if ((xC (·.N) a d).isNone&&decide (10000<=yA d))=dA then(d,cA)
 else(cC (·.N) (qH (xB d a) b c) d,dA)
theorem uP(t:fB)(a:nB)(b:Int):(qH t a b).N=t.N:=by unfold qH;split<;>rfl
def VA(t:fB)(a:nB)(b:Int):(qH t a b).Z=t.Z:=by unfold qH;split<;>rfl
theorem yG{c:gC}{a:Int}{b:List fB}(h:kC c a b=dA):cF c=dA/\0<=a/\a<=1000000000000/\yA b<=10000/\tM c.w a b=dA:=by
 simp only[kC,Sa,Ab]at h;obtain⟨⟨⟨d,e⟩,f⟩,g⟩:=h;have:=zJ e;exact⟨d,this.1,this.2,f,g⟩
theorem mQ{c a:Int}{b:List fB}(h:tM c a b=dA):sC (·.N) b:=by
 have:=aAk (n:=yA b) h (Ia _);rwa [Rb]at this
def tb{c:gC}{i:Int}{f:List fB}(h:kC c i f=dA)(b d:nB)(e:Int):kN c i f b d e=(i,(uR f b d e).1,(uR f b d e).2):=by
 obtain⟨_,_,_,r,o⟩:=yG h;have s:=mQ o;unfold kN uR;rw[Ja (by rw[h];simp)];by_cases k:(oC b&&(d.toList.isEmpty||xE d) &&zB e (-1) 1000000)=cA
 .rw[Ma k,Ma k]
 rw[Ja k,Ja k];have j:(qH (xB f b) d e).N=b:=by rw[uP,cG]
 have m:∀x∈(qH (xB f b) d e).Z,i-x.n<c.w:=by rw[VA];exact DC o
 have u:=OX o s (t:=qH (xB f b) d e) m;rw[u,j];by_cases l:yE (qH (xB f b) d e)=dA
 .have v:yA (rE (·.N) b f)<=yA f:=Pc _ _;rw[Ma l,Ma l,Ja (by omega)]
 have g:=EW (a:=qH (xB f b) d e) s;simp only[j]at g;rw[Ja l,Ja l];cases hg:xC (·.N) b f with
 |some q=>
  rw[hg]at g;simp only[Wf,Td]at g;rw[Ja (by omega),Ja (by simp)]
 |none=>
  rw[hg]at g;simp only[Xf,Bd,Cf]at g;by_cases p:10000<=yA f
  .rw[Ma (by omega),Ma (by simp[p])]
  rw[Ja (by omega),Ja (by simp[p])]
def YV{α:Type}{key:α->nB}{a q:α}{l:List α}(g:sC key l)(h:q∈cC key a l):q=a\/(q∈l/\key q≠key a):=by
 induction l with
 |nil=>exact Ca (by simpa[cC]using h)
 |cons p r j=>
  rw[cC]at h;by_cases c:uJ (key p) (key a)=dA
  .rw[Ma c]at h;rcases Lb.1 h with h|h
   .exact La ⟨by rw[h];exact Kc ..,by rw[h];exact eJ c⟩
   rcases j g.tail h with h|h;exact Ca h;exact La ⟨Sb _ h.1,h.2⟩
  rw[Ja c]at h;have b:∀q∈r,key q≠key a:=λq i e=>by
   have f:=g.head q i;rw[e]at f;exact c f
  by_cases d:key p=key a
  .rw[Ma ((dE _ _).2 d)]at h;rcases Lb.1 h with h|h
   .exact Ca h
   exact La ⟨Sb _ h,b q h⟩
  rw[Ja (by rw[zD d];simp)]at h;rcases Lb.1 h with h|h;exact Ca h;rcases Lb.1 h with h|h;exact La ⟨by rw[h];exact Kc ..,by rw[h];exact d⟩;exact La ⟨Sb _ h,b q h⟩
def FB{α β:Type}{key:α->nB}{a p:α}{l:List α}(f:α->β)(e:sC key l)(b:p∈l)(c:key p=key a)(g:f p=f a):(cC key a l).map f=l.map f:=by
 induction l with
 |nil=>cases b
 |cons q r h=>
  rw[cC];rcases Lb.1 b with rfl|b;rw[Ja (by rw[c,mN];simp),Ma ((dE _ _).2 c)];simp[g];have d:=e.head p b;rw[c]at d;rw[Ma d,Fc,Fc,h e.tail b]
def aMq(a:List fB):Prop:=∀i(h:i<yA a),yA a[i].M<=maxLen/\yA a[i].Z<=maxLen
def tp{x:nB}:x.toList.isEmpty=dA ↔ x=kA:=by
 rw[List.isEmpty_iff];constructor;intro h;exact toList_inj (by rw[h,ByteArray.toList_eq];rfl);intro h;rw[h,ByteArray.toList_eq];rfl
def sV{x:nB}:x.toList.isEmpty=cA ↔ x≠kA:=by rw[<-Bool.not_eq_true,tp]
def pQ(w:eA)(A:Nat->Prop)(a:jC)(b:List fB):Prop:=
 b=[]\/∃g o c t T,a=bA (dB g o)/\w.heap[g]?=bA (vA c t (0,0))/\T g=0/\(∀x,T x<=2*yA b->A x)/\∀i(h:i<yA b),BK w 0 T i g (o+i*4) b[i]
def pQ.tens{w:eA}{A:Nat->Prop}{a:jC}{b:List fB}(h:pQ w A a b):uC w a b:=by
 obtain h|⟨g,o,c,t,T,rfl,d,_,_,h⟩:=h;exact Ca h;exact La ⟨g,o,rfl,aB d,λi e=>(h i e).at⟩
def pQ.turned{S A:Nat->Prop}{w p:eA}{a:jC}{n:List fB}(h:pQ w A a n)(m:eB S w p)(k:∀g,A g->g<w.1.size->¬S g):pQ p A a n:=by
 obtain h|⟨g,o,c,t,T,rfl,f,q,e,h⟩:=h;exact Ca h;have l:=m.block g (aB f) (k g (e g (by omega)) (aB f));exact La ⟨g,o,c,t,T,rfl,l.trans f,q,e,λi s=>(h i s).keep (λj _=>eA.cell?_of_block l) λd b _ r=>⟨m.block d b (k d (e d (by omega)) b),rfl⟩⟩
def pQ.z{w c:eA}{A:Nat->Prop}{a:jC}{b:List fB}(h:pQ w A a b)(d:tB w c):pQ c A a b:=h.turned (eB.of (S:=λ_=>False) d) λ_ _ _ e=>e
def pQ.mono{w:eA}{A A':Nat->Prop}{a:jC}{c:List fB}(h:pQ w A a c)(f:∀x,A x->A' x):pQ w A' a c:=by
 obtain h|⟨g,o,b,t,T,e,j,i,d,h⟩:=h;exact Ca h;exact La ⟨g,o,b,t,T,e,j,i,λx k=>f x (d x k),h⟩
def zC.toA{w:eA}{B H:Nat}{a:jC}{f:List fB}(h:zC w B a f)(P:w.1.size<=H):pQ w (λx=>B<=x/\x<H) a f:=by
 obtain h|⟨g,o,j,t,T,rfl,I,p,J,h⟩:=h;exact Ca h;have L:=aB p;refine La ⟨g,o,j,t,λx=>if B<=x/\x<H then T x else 2*yA f+1,rfl,p,?_,λx M=>?_,λi K=>?_⟩;show (if _ then _ else _)=0;rw[Ma ⟨I,by omega⟩];exact J
 .by_cases m:B<=x/\x<H
  .exact m
  simp only[Ja m]at M;omega
 obtain ⟨s,v,u,y,A,C,D,E,F,G⟩:=h i K;have b:∀{n:Nat}{q:jC}{r:List iB},wE w B T n q r->wE w 0 (λx=>if B<=x/\x<H then T x else 2*yA f+1) n q r:=λb=>by
  obtain b|⟨z,N,c,O,e,k,l,d,b⟩:=b;exact Ca b;have:=aB d;exact La ⟨z,N,c,O,e,Oa _,by show(if _ then _ else _)=_;rw[Ma ⟨k,by omega⟩];exact l,d,b⟩
 exact⟨s,v,u,y,A,C,D,E,b F,b G⟩
def bJ(w:eA)(A:Nat->Prop)(a:jC)(c:List jB):Prop:=
 c=[]\/∃g o b t,a=bA (dB g o)/\A g/\w.heap[g]?=bA (vA b t (0,0))/\DI w g o c
def bJ.files{w:eA}{A:Nat->Prop}{a:jC}{b:List jB}(h:bJ w A a b):rB w a b:=by grind [bJ,rB]
def bJ.turned{S A:Nat->Prop}{w d:eA}{a:jC}{e:List jB}(h:bJ w A a e)(p:eB S w d)(l:∀g,A g->g<w.1.size->¬S g):bJ d A a e:=by
 obtain h|⟨g,o,b,t,rfl,f,c,h⟩:=h;exact Ca h;have k:=p.block g (aB c) (l g f (aB c));have m:∀j,d.cell? (dB g j)=w.cell? (dB g j):=λj=>eA.cell?_of_block k;exact La ⟨g,o,b,t,rfl,f,k.trans c,λi n=>by simp only[m];exact h i n⟩
def bJ.z{w c:eA}{A:Nat->Prop}{a:jC}{b:List jB}(h:bJ w A a b)(d:tB w c):bJ c A a b:=h.turned (eB.of (S:=λ_=>False) d) λ_ _ _ e=>e
def bJ.mono{w:eA}{A A':Nat->Prop}{a:jC}{b:List jB}(h:bJ w A a b)(c:∀x,A x->A' x):bJ w A' a b:=by grind [bJ]
def uI.toA{w:eA}{B H:Nat}{a:jC}{b:List jB}(h:uI w B a b)(c:w.1.size<=H):bJ w (λx=>B<=x/\x<H) a b:=by grind [uI,bJ]
def aGk{C:eA->Prop}{w:eA}{O:Nat}{r c d e f g i j l m n o p q a:iA}{t:jA}(h:gB w O #[r,c,d,e,f,g,i,j,l,m,n,o,p,q] t)
(k:∀b,gB b O #[a,c,d,e,f,g,i,j,l,m,n,o,p,q] t->eB (·=O) w b->C b):C (w.setCell (dB O 0) a):=
 k _ (by have:=h.set 0 a;simpa using this) ((eB.refl (·=O) w).setCell (Ca rfl) 0 a)
def eB.end2{C:eA->Prop}{S:Nat->Prop}(w:eA){a:eA}(h:eB S w a)(k:∀W,eB S w W->C W):C a:=k a h
structure oJ(w:World)(A:Nat→Prop)(a b:jC)(N:pC):Prop where
 parts:∃F T,bJ w F a N.d.fs∧pQ w T b N.ts∧(∀x,F x→A x)∧(∀x,T x→A x)∧∀x,F x→¬T x
def oJ.files{w:eA}{A:Nat->Prop}{a b:jC}{N:pC}(h:oJ w A a b N):rB w a N.d.fs:=by
 obtain⟨F,T,c,e,_⟩:=h.parts;exact c.files
def oJ.tens{w:eA}{A:Nat->Prop}{a b:jC}{N:pC}(h:oJ w A a b N):uC w b N.ts:=by
 obtain⟨F,T,d,c,_⟩:=h.parts;exact c.tens
def oJ.turned{S A:Nat->Prop}{w j:eA}{a b:jC}{N:pC}(h:oJ w A a b N)(i:eB S w j)(f:∀g,A g->g<w.1.size->¬S g):oJ j A a b N:=by
 obtain⟨F,T,k,l,d,e,m⟩:=h.parts;exact⟨F,T,k.turned i (λg c=>f g (d g c)),l.turned i (λg c=>f g (e g c)),d,e,m⟩
def oJ.z{A:Nat->Prop}{w c:eA}{a b:jC}{N:pC}(h:oJ w A a b N)(d:tB w c):oJ c A a b N:=h.turned (eB.of (S:=λ_=>False) d) λ_ _ _ e=>e
def oJ.mono{A A':Nat->Prop}{w:eA}{a b:jC}{N:pC}(h:oJ w A a b N)(d:∀x,A x->A' x):oJ w A' a b N:=by
 obtain⟨F,T,e,f,g,i,j⟩:=h.parts;exact⟨F,T,e,f,λx c=>d x (g x c),λx c=>d x (i x c),j⟩
def CR(n:Nat):Nat->List UInt8
 |0=>[]
 |i+1=>(48+UInt8.ofNat (n / 10 ^ i % 10)):: CR n i
def ZN(n:Nat):nB:=⟨(119::97::108::45::CR n 6).toArray⟩
def gK(n:Int):nB:=if 1<=n/\n<=999999 then ZN n.toNat else kA
def gZ(n:Nat):∀i,yA (CR n i)=i
 |0=>rfl
 |i+1=>by simp[CR,gZ n i]
def zN(n:Int):(gK n).size<=10:=by
 unfold gK;split;show (119::97::108::45::CR n.toNat 6).toArray.size<=10;simp[gZ];simp
def vx(k:Nat):UInt8.ofNat (48+k)=48+UInt8.ofNat k:=by rw[UInt8.ofNat_add];rfl
def fk(n:Nat)(h:n<1000000):Lib.itoa ((1000000+n:Nat):Int)=49::CR n 6:=by
 have a:Lib.nDigits (1000000+n)=7:=Lib.nDigits_unique 6 _ (by omega) (by omega);rw[Lib.itoa,Ja (by omega),Hd,Lib.decDigits_eq,a];simp only[List.range_succ,List.range_zero,Fc,Ag,Mb,Sd,CR,Lib.dg,vx];congr 1;rw[show(1000000+n) / 10 ^ (7-1-0) % 10=1 by omega];rfl;simp only[List.cons.injEq,Cc];refine⟨?_,?_,?_,?_,?_,?_⟩<;>congr 2<;>omega
def uw{C:eA->Prop}{w:eA}{O:Nat}{q r s u v x y z A B D E F G a b c d e f g H i j l m n o:iA}{t:jA}(h:gB w O #[q,r,s,u,v,x,y,z,A,B,D,E,F,G] t)
(k:∀p,gB p O #[a,b,c,d,e,f,g,H,i,j,l,m,n,o] t->eB (·=O) w p->C p):C ((((((((((((((w.setCell (dB O 0) a).setCell (dB O 1) b).setCell (dB O 2) c).setCell (dB O 3) d).setCell (dB O 4) e).setCell (dB O 5) f).setCell (dB O 6) g).setCell (dB O 7) H).setCell (dB O 8) i).setCell (dB O 9) j).setCell (dB O 10) l).setCell (dB O 11) m).setCell (dB O 12) n).setCell (dB O 13) o):=
 k _ (by have:=((((((((((((((h.set 0 a).set 1 b).set 2 c).set 3 d).set 4 e).set 5 f).set 6 g).set 7 H).set 8 i).set 9 j).set 10 l).set 11 m).set 12 n).set 13 o);simpa using this) (((((((((((((((eB.refl (·=O) w).setCell (Ca rfl) 0 a).setCell (Ca rfl) 1 b).setCell (Ca rfl) 2 c).setCell (Ca rfl) 3 d).setCell (Ca rfl) 4 e).setCell (Ca rfl) 5 f).setCell (Ca rfl) 6 g).setCell (Ca rfl) 7 H).setCell (Ca rfl) 8 i).setCell (Ca rfl) 9 j).setCell (Ca rfl) 10 l).setCell (Ca rfl) 11 m).setCell (Ca rfl) 12 n).setCell (Ca rfl) 13 o)
def aBj{C:eA->Prop}{w:eA}{O:Nat}{q r s u v x y z A l m n o p a b c d e f g B i:iA}{t:jA}(h:gB w O #[q,r,s,u,v,x,y,z,A,l,m,n,o,p] t)
(k:∀j,gB j O #[a,b,c,d,e,f,g,B,i,l,m,n,o,p] t->eB (·=O) w j->C j):C (((((((((w.setCell (dB O 0) a).setCell (dB O 1) b).setCell (dB O 2) c).setCell (dB O 3) d).setCell (dB O 4) e).setCell (dB O 5) f).setCell (dB O 6) g).setCell (dB O 7) B).setCell (dB O 8) i):=
 k _ (by have:=(((((((((h.set 0 a).set 1 b).set 2 c).set 3 d).set 4 e).set 5 f).set 6 g).set 7 B).set 8 i);simpa using this) ((((((((((eB.refl (·=O) w).setCell (Ca rfl) 0 a).setCell (Ca rfl) 1 b).setCell (Ca rfl) 2 c).setCell (Ca rfl) 3 d).setCell (Ca rfl) 4 e).setCell (Ca rfl) 5 f).setCell (Ca rfl) 6 g).setCell (Ca rfl) 7 B).setCell (Ca rfl) 8 i)
def iU(a:List bC):Prop:=∀l∈a,l.N.size<=65/\l.V.size<=258
def IW{b:List bC}{l:bC}(h:iU b)(c:l.N.size<=65/\l.V.size<=258):iU (b++[l]):=λx a=>by
 rw[Ee,Uf]at a;obtain a|rfl:=a;exact h x a;exact c
def aAd{b:List bC}{l:bC}(h:iU b)(c:l.N.size<=65/\l.V.size<=258):iU (l::b):=λx a=>by
 rw[Lb]at a;obtain rfl|a:=a;exact c;exact h x a
def pD.below_to{B:Nat}{w d e:eA}(h:pD B w d)(a:Below w.1.size d e):pD B w e:=
 ⟨a.os.trans h.os,a.tape.trans h.tape,a.output.trans h.output,Ua h.size a.size,λk c b=>(a.block k c).trans (h.block k c b)⟩
def sw{w:eA}{base g:Nat}{e:jA}{x y:iA}(a:base<=g)(h:gB w g #[x,y] e):w.ownsRow base e 2 (pA (pB g) 1 1) 1 [x,y]:=
 ⟨by simp,.inr ⟨g,1,#[x,y],rfl,a,h,Ia _,by simp[maxLen],by simp,by simp⟩⟩
def lP.below{w b:eA}{g m k P:Nat}(h:lP w g m k)(e:Below P w b)(f:g<P):lP b g m k:=by
 obtain⟨a,t,c,d⟩:=h;exact⟨a,t,(e.block g f).trans c,d⟩
def iw{w:eA}{B:Nat}{e:jA}{g c:Nat}{b:List bC}(h:w.ownsRow B e 2 (pA (pB g) (yA b) c) (yA b) (nC b)):∀j u,(nC b)[j]?=bA u->w.cell? (((dB g 0):Addr).add j)=bA u:=λj u d=>by
 have a:((dB g 0):Addr).add j=(dB g j):=by unfold Addr.add;split<;>simp_all
 rw[a];exact(tK h).2.2.2 j u d
def aJz(w b:eA)(B P N:Nat)(e:Ending):Prop:=∃(g c:Nat)(a:List bC),e=.returned (pA (pB g) (yA a) c)/\1<=yA a/\yA a<=7/\iU a/\b.ownsRow w.1.size 181 2 (pA (pB g) (yA a) c) (yA a) (nC a)/\sD b B P N/\pD B w b
def NO(B P N:Nat)(w:eA)(h:sD w B P N)(m:N<=100000):
 Calls prog 35 #[.pointer (pB B)] w λe w'=>aJz w w' B P (N+100) e:=by
 obtain⟨ti,m,k0,l0,m0⟩:=EP;have HI:bB (prog.info? 181=bA ti):=m;clear m;have I:bB (sD w B P N):=h;have m:=h.lt;have m:=h.up.2;clear h;go_enter func35,ntmps35;go_wp2_with fail;have L:bB (lP (w.alloc (vA ([⟨#[106,111,98]⟩,⟨#[104,111,115,116]⟩,⟨#[95,120]⟩,⟨#[90,111,110,101]⟩,⟨#[97,49]⟩,⟨#[108,101]⟩].map iA.string).toArray 9)) w.1.size 6 4):=aT w _ 4 _ 6 rfl (by decide);simp only[Fc,Ag]at L;generalize Q:w.alloc (vA #[oA ⟨#[106,111,98]⟩,oA ⟨#[104,111,115,116]⟩,oA ⟨#[95,120]⟩,oA ⟨#[90,111,110,101]⟩,oA ⟨#[97,49]⟩,oA ⟨#[108,101]⟩] 9)=G at *;have J:G.1.size=w.1.size+1:=by rw[<-Q];simp
 have K:bB (tB w G):=by show Below _ _ _;rw[<-Q];exact yB
 clear Q;have F:bB (lP (G.alloc (vA ([⟨#[117,112]⟩,⟨#[99,112,117]⟩,⟨#[109,101,109]⟩,⟨#[117,112]⟩].map iA.string).toArray 9)) G.1.size 4 3):=aT G _ 3 _ 4 rfl (by decide);simp only[Fc,Ag]at F;generalize R:G.alloc (vA #[oA ⟨#[117,112]⟩,oA ⟨#[99,112,117]⟩,oA ⟨#[109,101,109]⟩,oA ⟨#[117,112]⟩] 9)=m at *;have o:m.1.size=w.1.size+2:=by rw[<-R];simp;omega
 have D:bB (tB G m):=by show Below _ _ _;rw[<-R];exact yB
 clear R;have X:=(I.o.z K.o).z D.o;refine(cD B P N 4 _ X (by omega) (by omega) (by omega)).mono ?_;rintro e w1 ⟨v,U,rfl,O,u⟩;rw[J]at F;have W:=F.o.but u (by omega);obtain⟨Y,h,h⟩:=W.at U;have h:bB (sD w1 B P (N+1)/\pD B w w1/\lP w1 w.1.size 6 4):=⟨O,((pD.of K.o).trans (pD.of D.o)).trans u,(L.o.z D.o).but u (by omega)⟩
 have U:w.1.size+2<=w1.1.size:=by have:=u.size;omega
 clear O u X L F W K D I J o G m;have m:(v:Int)<4:=by omega
 go_wp2;go_loopw [5,7,8,20] (λm _ _ i wr=>∃(k:Nat)(a:List bC)(g C:Nat),k<=6/\i=zA (k:Nat)/\m=pA (pB g) (yA a) C/\1<=yA a/\yA a<=k+1/\bB (iU a/\sD wr B P (N+1+13*k)/\pD B w wr/\lP wr w.1.size 6 4)/\bB (wr.ownsRow (w.1.size+1) 181 2 (pA (pB g) (yA a) C) (yA a) (nC a))/\w.1.size+2<=wr.1.size) (λ_ _ _ i _=>6-(intOf i).toNat)
 case atStart=>
  refine⟨0,[⟨⟨#[95,95,110,97,109,101,95,95]⟩,Y⟩],w1.1.size,1,by omega,rfl,rfl,by simp,by simp,⟨?_,h.o.1.z yB,h.o.2.1.z yB,h.o.2.2.z yB⟩,sw (by omega) (heap_alloc_new _ _),by simp;omega⟩;intro l m;rw[Uf]at m;subst m;exact⟨by show(8:Nat)<=65;omega,by simp only;omega⟩
 case round=>
  clear h;obtain⟨k,a,g,C,h,rfl,rfl,Y,h,E,r,h⟩:=hrel;by_cases G:k<6
  .have h:(k:Int)<6:=by omega
   obtain⟨m,o,I⟩:=E.o.2.2.2.at G;go_wp2_with fail;refine(cD B P (N+1+13*k) 3 _ E.o.2.1 (by omega) (by omega) (by omega)).mono ?_;rintro e U ⟨v2,G,rfl,I,x⟩;have H:bB (iU a/\sD U B P (N+1+13*k+1)/\pD B w U/\lP U w.1.size 6 4):=⟨E.o.1,I,E.o.2.2.1.trans x,E.o.2.2.2.but x (by omega)⟩
   have f:bB (U.ownsRow (w.1.size+1) 181 2 (pA (pB g) (yA a) C) (yA a) (nC a)):=lI r.o x (by omega);have j0:w.1.size+2<=U.1.size:=by have:=x.size;omega
   clear I x E r o;by_cases o:v2=0
   .have M:((v2:Nat):Int)=0:=by omega
    rw[M];clear o M G;go_wp2_with fail;refine(RQ B P _ U H.o.2.1 (by omega)).mono ?_;rintro e J ⟨n,o,rfl,o,y⟩;have V:bB (iU a/\sD J B P (N+1+13*k+11)/\pD B w J/\lP J w.1.size 6 4):=⟨H.o.1,o,H.o.2.2.1.trans y,H.o.2.2.2.but y (by omega)⟩
    have s:bB (J.ownsRow (w.1.size+1) 181 2 (pA (pB g) (yA a) C) (yA a) (nC a)):=lI f.o y (by omega);have G:w.1.size+2<=J.1.size:=by have:=y.size;omega
    clear o y H f;go_wp2_with fail;refine(cD B P (N+1+13*k+11) 2 _ (V.o.2.1.z yB) (by omega) (by omega) (by omega)).mono ?_;rintro e o ⟨v4,G,rfl,O,p⟩;have S:gB (J.alloc (vA #[oA m,oA n] 181)) J.1.size #[oA m,oA n] 181:=heap_alloc_new _ _;have z:gB o J.1.size #[oA m,oA n] 181:=(p.block _ (aB S) (by omega)).trans S;have x0:=gB.cell z 0;have x1:=gB.cell z 1;simp only[Xb,Ob,Ga]at x0 x1;have I:bB (iU a/\sD o B P (N+1+13*k+12)/\pD B w o/\lP o w.1.size 6 4):=⟨V.o.1,O,(V.o.2.2.1.z yB).trans p,(V.o.2.2.2.z yB).but p (by omega)⟩
    have j:bB (o.ownsRow (w.1.size+1) 181 2 (pA (pB g) (yA a) C) (yA a) (nC a)):=lI (eC s.o yB) p (by omega);have J:w.1.size+2<=o.1.size:=by have:=p.size;simp at this;omega
    clear O p V s S z;have W:m.size<=65/\n.size<=258:=⟨by omega,by omega⟩
    by_cases J:v4=0
    .have O:((v4:Nat):Int)=0:=by omega
     rw[O];clear J O G;go_wp2_with(at_builtin;refine wpList_append_lies _ rfl _ _ _ rfl (w.1.size+1) 181 ti _ 2 32 underlying104 HI.o k0 l0 m0 rfl (by omega) (pA (pB g) (yA a) C) (yA a) (nC a) rfl (by exact eC j.o yB) (dB o.1.size 0) 1 1 [oA m,oA n] rfl rfl (by exact eA.news_of_block (cs:=#[oA m,oA n]) (heap_alloc_new _ _)) (by simp[iA.oneCell']) (by omega) (by simp[maxLen];omega) (by omega) (by simp;omega) (o.1.size+1) (by simp) ?_;intro G t J b d Z e0);have c:Below (w.1.size+1) o J:=(((pF o _).mono (by omega)).grown d (by simp;omega) (λq U=>mH j.o q U))
     have A:yA (a++[(⟨m,n⟩:bC)])=yA a+1:=by simp
     have T:nC a++[oA m,oA n]=nC (a++[⟨m,n⟩]):=by rw[jF];rfl
     rw[T,<-A]at b;refine⟨⟨k+1,a++[(⟨m,n⟩:bC)],G,t,by omega,by go_num,by rw[A],by omega,by omega,⟨IW I.o.1 W,(I.o.2.1.below (c.mono (by omega))).mono (by omega),I.o.2.2.1.below_to (c.mono (by omega)),I.o.2.2.2.below c (by omega)⟩,b,by have:=c.size;omega⟩,by simp[intOf];omega⟩
    have O:¬(((v4:Nat):Int)=0):=by omega
    go_wp2_with(at_builtin;refine wpList_append_lies _ rfl _ _ _ rfl (w.1.size+1) 181 ti _ 2 32 underlying104 HI.o k0 l0 m0 rfl (by omega) (pA (pB o.1.size) 1 1) 1 [oA m,oA n] rfl (by exact sw (by omega) (heap_alloc_new _ _)) (dB g 0) (yA a) C (nC a) rfl (cI a) (by exact iw (eC j.o yB)) (by exact kS a) (by omega) (by simp[maxLen];omega) (by omega) (by simp;omega) (o.1.size+1) (by simp) ?_;intro G t J b d Z e0);have c:Below (w.1.size+1) o J:=(((pF o _).mono (by omega)).grown d (by simp;omega) (λq U=>by simp[iA.ownBlock]at U;omega))
    have A:yA ((⟨m,n⟩:bC):: a)=1+yA a:=by simp;omega
    have T:[oA m,oA n]++nC a=nC (⟨m,n⟩:: a):=rfl;rw[T,<-A]at b;refine⟨⟨k+1,(⟨m,n⟩:bC):: a,G,t,by omega,by go_num,by rw[A],by omega,by omega,⟨aAd I.o.1 W,(I.o.2.1.below (c.mono (by omega))).mono (by omega),I.o.2.2.1.below_to (c.mono (by omega)),I.o.2.2.2.below c (by omega)⟩,b,by have:=c.size;omega⟩,by simp[intOf];omega⟩
   have M:¬(((v2:Nat):Int)=0):=by omega
   go_wp2;exact⟨⟨k+1,a,g,C,by omega,by go_num,rfl,Y,by omega,⟨H.o.1,H.o.2.1.mono (by omega),H.o.2.2⟩,f.o,j0⟩,by simp[intOf];omega⟩
  have h:¬((k:Int)<6):=by omega
  go_wp2;go_ret;exact⟨g,C,a,rfl,Y,by omega,E.o.1,AE r.o (by omega),E.o.2.1.mono (by omega),E.o.2.2.1⟩
def cJ(w : World) : Prop := Lib.TabIs prog w "internal/strconv.uint64pow10" .u64 Lib.pow10Tab
def cJ.z{w c:eA}(h:cJ w)(d:tB w c):cJ c:=by
 unfold cJ Lib.TabIs eA.var? at h |-
 cases hg : prog.globalNamed "internal/strconv.uint64pow10" with
 |none=>rw[hg]at h;cases h
 |some g=>
  rw[hg]at h;simp only[Option.bind_some]at h |-
  have b:g<w.1.size:=by
   rcases Gc g w.1.size with a|a;exact a;rw[Mc a]at h;cases h
  rw[d.block g b];exact h
def aIs(n:Nat)(h:n<1000000):(⟨#[119,97,108,45]⟩:nB)++(⟨(Lib.itoa ((1000000+n:Nat):Int)).toArray⟩:nB).extract 1 7=ZN n:=by
 rw[fk n h];apply ByteArray.ext;simp[ZN,CR]
def wN(n:Int)(w:eA)(a:cJ w):
 vE 128 #[zA n] w (oA (gK n)):=by
 by_cases h:1<=n/\n<=999999
 .obtain ⟨N,rfl⟩:=Yf (show 0<=n by omega);have E:bB (gK N=ZN N):=Ma h;have i:1<=N:=by omega
  have j:N<=999999:=by omega
  have f:bB (vE 197 #[zA (1000000+(N:Int))] w (oA ⟨(Lib.itoa ((1000000+N:Nat):Int)).toArray⟩)):=
   (strconv_Itoa ((1000000+N:Nat):Int) (by omega) (by omega) w a).mono (by
    rintro e c ⟨rfl,k,p,rfl⟩;exact⟨rfl,Lib.below_grow _ _ (Ia _) _ _⟩)
  have g:bB _:=aIs N (by omega);have o:(⟨(Lib.itoa ((1000000+N:Nat):Int)).toArray⟩:nB).size=7:=by
   rw[fk N (by omega)];simp[CR,ByteArray.size]
  generalize (⟨(Lib.itoa ((1000000+N:Nat):Int)).toArray⟩:nB)=X at *;clear h a;go_enter func128,ntmps128;go_wp2_with fail;apply hC f.o;intro q b;have d:bB _:=b;clear b;go_wp2;go_ret;refine⟨?_,d.o⟩;rw[E.o,<-g.o];rfl
 have E:bB (gK n=kA):=Ja h;by_cases l:n<1
 .go_enter func128,ntmps128;go_wp2;go_ret;exact⟨by rw[E.o];rfl,bD⟩
 have m:999999<n:=by omega
 clear h;go_enter func128,ntmps128;go_wp2;go_ret;exact⟨by rw[E.o];rfl,bD⟩
