import Derived.Maps.Ext
import Derived.Sort.KeysCollected
import Derived.Test.YtflbidbilgndeaaGreatDoorJ05
import Derived.Deep.DeepCutAuto
import Derived.Deep.CutBlock
set_option maxRecDepth 100000
set_option maxHeartbeats 4000000
set_option linter.defProp false
open Option renaming some->bA
open Bool renaming false->cA,true->dA
open ByteArray renaming empty->kA
open List renaming length->yA
namespace Go.Proofs.YtflbidbilgndeaaGreatDoor
open Go renaming World->eA,Value->iA,TypeId->jA
open Value renaming string->oA,slice->pA
open Go.RowKit Tryz
structure eB(S:Nat→Prop)(w w':World):Prop where
 os:w'.os=w.os
 tape:w'.tape=w.tape
 output:w'.output=w.output
 size:w.1.size≤w'.1.size
 block:∀k,k<w.1.size→¬S k→w'.heap[k]?=w.heap[k]?
def eB.refl(S:Nat->Prop)(w:eA):eB S w w:=⟨rfl,rfl,rfl,Ia _,λ_ _ _=>rfl⟩
def eB.trans{S:Nat->Prop}{a b c:eA}(h:eB S a b)(k:eB (λi=>S i\/a.1.size<=i) b c):eB S a c:=
 ⟨k.os.trans h.os,k.tape.trans h.tape,k.output.trans h.output,Ua h.size k.size,λi e f=>(k.block i (Bb e h.size) (λd=>by obtain d|d:=d;exact f d;omega)).trans (h.block i e f)⟩
def eB.trans'{S:Nat->Prop}{a b c:eA}(h:eB S a b)(k:eB S b c):eB S a c:=
 ⟨k.os.trans h.os,k.tape.trans h.tape,k.output.trans h.output,Ua h.size k.size,λi d e=>(k.block i (Bb d h.size) e).trans (h.block i d e)⟩
def eB.mono{S S':Nat->Prop}{a b:eA}(h:eB S a b)(f:∀i,i<a.1.size->S i->S' i):eB S' a b:=
 ⟨h.os,h.tape,h.output,h.size,λi c e=>h.block i c (λd=>e (f i c d))⟩
def eB.of{S:Nat->Prop}{a b:eA}(h:uB a b):eB S a b:=⟨h.os,h.tape,h.output,h.size,λk c _=>h.block k c⟩
def eB.but{g:Nat}{a b:eA}(h:qD g a b):eB (·=g) a b:=⟨h.os,h.tape,h.output,h.size,λk c d=>h.block k c d⟩
def eB.grown{r:Option Nat}{a b:eA}(h:a.grownBy b r):eB (λk=>r=bA k) a b:=⟨h.os,h.tape,h.output,h.size,λk c d=>h.block k c (λe=>d e.symm)⟩
def eB.below{S:Nat->Prop}{B:Nat}{a b:eA}(h:eB S a b)(e:B<=a.1.size)(d:∀k,k<B->¬S k):Below B a b:=
 ⟨h.os,h.tape,h.output,h.size,λk c=>h.block k (by omega) (d k c)⟩
def eB.drew{S:Nat->Prop}{a b:eA}(h:eB S a b):eB S a b.drew:=⟨h.os,h.tape,h.output,h.size,h.block⟩
def eB.setCell{S:Nat->Prop}{a b:eA}(h:eB S a b){g:Nat}(c:S g\/a.1.size<=g)(o:Nat)(v:iA):eB S a (b.setCell (dB g o) v):=
 h.trans ((eB.but ((qD.refl g b).setCell o v)).mono λi _ e=>by subst e;exact c)
def eB.blk{S:Nat->Prop}{a b:eA}(h:eB S a b){g:Nat}{c:Array iA}{t:jA}(d:nB a g c t)(e:¬S g):nB b g c t:=(h.block g (aB d) e).trans d
def eB.row{S:Nat->Prop}{a b:eA}(h:eB S a b){B:Nat}{e:jA}{c:Nat}{v:iA}{n:Nat}{k:List iA}(j:a.ownsRow B e c v n k)(o:∀g,v.ownBlock=bA g->¬S g):b.ownsRow B e c v n k:=by
 refine⟨j.1,?_⟩;obtain l|⟨g,d,f,rfl,m,i,r⟩:=j.2;exact Ca l;exact La ⟨g,d,f,rfl,m,(h.block g (aB i) (o g rfl)).trans i,r⟩
def eB.map{H:Type}{S:Nat->Prop}{a b:eA}(h:eB S a b){P:Program}{k:jA}{R:iA->Option (DataW H×List MemPlace)}{m n:Nat}{D:DataW H}(e:a.ownsMap P k R m n D)(i:¬S m):b.ownsMap P k R m n D:=by
 have d:=e.lt;obtain⟨f,c,g,r⟩:=e;exact⟨f,c,(h.block m d i).trans g,r⟩
section
open Go.Maps
def kL(s:jB):Lit:=.string s.data.toList
theorem BS(s:jB):kL s=.string s.toList:=by rw[kL,ByteArray.toList_eq]
theorem aFi{x y:jB}(h:kL x=kL y):x=y:=by
 rw[BS,BS]at h;exact toList_inj (by simpa using h)
def KT:∀x y:List UInt8,bytesBefore x y=Op.bytesLess x y
 |[],[]=>rfl
 |[],_::_=>rfl
 |_::_,[]=>rfl
 |a::x,b::y=>by rw[bytesBefore,Op.bytesLess,KT x y]
def eK(x y:jB):Bool:=Op.bytesLess x.toList y.toList
def bO(x:jB):eK x x=cA:=yE _
def JQ{x y z:jB}(a:eK x y=dA)(b:eK y z=dA):eK x z=dA:=rJ _ _ _ a b
def BK{x y:jB}(h:eK x y=dA):eK y x=cA:=eO h
def eW{x y:jB}(h:eK x y=cA)(a:x≠y):eK y x=dA:=lK _ _ h (λe=>a (toList_inj e))
theorem qJ{x y:jB}(h:eK x y=dA):x≠y:=λe=>by rw[e,bO]at h;cases h
theorem VJ(x y:jB):(kL x).before (kL y)=eK x y:=by
 rw[BS,BS,eK];exact KT _ _
theorem EX(x y:jB):(kL x).sameKey (kL y)=(x.toList==y.toList):=by rw[BS,BS];rfl
theorem kE(x y:jB):(x.toList==y.toList)=dA ↔ x=y:=by
 rw[Lg];exact⟨toList_inj,λe=>by rw[e]⟩
theorem zD{x y:jB}(h:x≠y):(x.toList==y.toList)=cA:=by
 rw[Yc];exact λe=>h ((kE x y).1 e)
section
variable {V:Type}
def dT(L:List (jB×V)):Prop:=L.Pairwise (λp q=>eK p.1 q.1=dA)
def lk(L:List (jB×V))(k:jB):Option V:=(L.find? (λp=>p.1.toList==k.toList)).map (·.2)
def vT(k:jB)(d:V):List (jB×V)->List (jB×V)
 |[]=>[(k,d)]
 |p::r=>if eK p.1 k=dA then p::vT k d r else if p.1.toList==k.toList then(k,d):: r else(k,d):: p::r
def GC(k:jB)(L:List (jB×V)):List (jB×V):=L.filter (λp=>!(p.1.toList==k.toList))
theorem aNg(k:jB):lk ([]:List (jB×V)) k=none:=rfl
theorem GX(p:jB×V)(r:List (jB×V))(k:jB):lk (p::r) k=if p.1=k then bA p.2 else lk r k:=by grind [lk,kE,zD]
theorem rb{L:List (jB×V)}{k:jB}{d:V}(h:lk L k=bA d):(k,d) ∈L:=by induction L<;>grind [lk,GX]
theorem aJs{L:List (jB×V)}{k:jB}(h:lk L k=none):∀p∈L,p.1≠k:=by induction L<;>grind [lk,GX]
theorem rf{L:List (jB×V)}{k:jB}(h:∀p∈L,p.1≠k):lk L k=none:=by
 cases hl:lk L k with
 |none=>rfl
 |some d=>exact absurd rfl (h _ (rb hl))
theorem dT.head{p:jB×V}{r:List (jB×V)}(h:dT (p::r)):∀q∈r,eK p.1 q.1=dA:=(Bc.1 h).1
theorem dT.tail{p:jB×V}{r:List (jB×V)}(h:dT (p::r)):dT r:=(Bc.1 h).2
theorem XG{L:List (jB×V)}(a:dT L){k:jB}{d:V}(h:(k,d) ∈L):lk L k=bA d:=by
 induction L with
 |nil=>cases h
 |cons p r b=>
  rw[GX];rcases Lb.1 h with e|h;rw[<-e,Ma rfl];have:=a.head _ h;rw[Ja (qJ this)];exact b a.tail h
theorem aAn{k:jB}{d:V}{L:List (jB×V)}{q:jB×V}(h:q∈vT k d L):q=(k,d)\/q∈L:=by induction L<;>grind [vT]
theorem qk{k:jB}{d:V}{L:List (jB×V)}(h:dT L):dT (vT k d L):=by
 induction L with
 |nil=>exact We ..
 |cons p r g=>
  unfold vT;split
  .rename_i b;refine Bc.2 ⟨λq a=>?_,g h.tail⟩;rcases aAn a with rfl|a
   .exact b
   exact h.head q a
  rename_i b;split
  .rename_i f;rw[kE]at f;refine Bc.2 ⟨λq a=>?_,h.tail⟩;show eK k q.1=dA;rw[<-f];exact h.head q a
  rename_i f;have c:=eW (by simpa using b) (λe=>f ((kE _ _).2 e));refine Bc.2 ⟨λq a=>?_,h⟩;rcases Lb.1 a with rfl|a
  .exact c
  exact JQ c (h.head q a)
theorem aFv{k:jB}{d:V}{L:List (jB×V)}(b:dT L)(a:jB):lk (vT k d L) a=if k=a then bA d else lk L a:=by induction L<;>grind [dT,lk,vT,GX,qJ,kE]
theorem PN{k:jB}{L:List (jB×V)}(h:dT L):dT (GC k L):=Mf _ h
theorem jq{k:jB}{L:List (jB×V)}(a:jB):lk (GC k L) a=if k=a then none else lk L a:=by grind [lk,GC,aNg,kE,GX,zD]
theorem dT.eq_of_lk{g i:List (jB×V)}(j:dT g)(l:dT i)(h:∀k,lk g k=lk i k):g=i:=by
 refine Qf (le:=fun(p q:jB×V)=>eK p.1 q.1=dA) (λp q f r n m=>by rw[BK n]at m;cases m) j l ?_;have s:∀{L:List (jB×V)},dT L->L.Nodup:=λo=>o.imp (fun{a b} c e=>by rw[e,bO]at c;cases c);refine(List.perm_ext_iff_of_nodup (s j) (s l)).2 λp=>?_;constructor
 .intro f;exact rb (k:=p.1) (d:=p.2) (by rw[<-h];exact XG j f)
 intro f;exact rb (k:=p.1) (d:=p.2) (by rw[h];exact XG l f)
end
def fE(L:List (jB×DataW Unit)):DataW Unit:=.map (L.map λp=>(kL p.1,p.2))
def QL(L:List (jB×DataW Unit))(k:jB):(L.map λp=>(kL p.1,p.2)).find? (λp=>p.1.sameKey (kL k))=(L.find? (λp=>p.1.toList==k.toList)).map (λp=>(kL p.1,p.2)):=by
 rw[List.find?_map];congr 1;apply congrFun;congr 1;funext p;exact EX p.1 k
def ff(L:List (jB×DataW Unit))(k:jB)(z:DataW Unit):(fE L).atKey (kL k) z=(lk L k).getD z:=by
 simp only[fE,DataW.atKey];rw[QL,lk];cases L.find? (λp=>p.1.toList==k.toList)<;>rfl
def aAh(L:List (jB×DataW Unit))(k:jB):has (fE L) (kL k)=(lk L k).isSome:=by
 have h:∀(l:List (Lit×DataW Unit)) f,l.any f=(l.find? f).isSome:=λl f=>by rw[Qb,List.find?_isSome,Zd]
 rw[fE,has_eq,h,QL,lk];cases L.find? (λp=>p.1.toList==k.toList)<;>rfl
def ta(L:List (jB×DataW Unit)):Maps.size (fE L)=yA L:=by rw[fE,size_eq,Xa]
def aBn(k:jB)(q:jB×DataW Unit):ChangeMaps.notKey (kL k) (kL q.1,q.2)=!(q.1.toList==k.toList):=by
 show(!(kL q.1).sameKey (kL k))=_;rw[EX]
def GG(k:jB)(L:List (jB×DataW Unit)):(L.map λp=>(kL p.1,p.2)).filter (ChangeMaps.notKey (kL k))=(GC k L).map λp=>(kL p.1,p.2):=by
 rw[List.filter_map,GC];congr 1;apply List.filter_congr;intro q _;exact aBn k q
def zh(k:jB)(L:List (jB×DataW Unit)):(fE L).del (kL k)=fE (GC k L):=by
 rw[fE,DataW.del_eq,ChangeMaps.delKey,GG,fE]
def ax(k:jB)(d:DataW Unit){L:List (jB×DataW Unit)}(g:dT L)(e:lk L k=none):DataW.insert (kL k,d) (L.map λp=>(kL p.1,p.2))=(vT k d L).map λp=>(kL p.1,p.2):=by
 induction L with
 |nil=>rfl
 |cons p r i=>
  have b:=aJs e;rw[Fc,DataW.insert,vT];by_cases h:eK p.1 k=dA
  .rw[Ja (by rw[VJ,BK h];simp),Ma h,Fc,i g.tail (rf λq f=>b q (Sb _ f))]
  have a:=b p (Kc ..);have c:=eW (by simpa using h) a;rw[Ma (by rw[VJ];exact c),Ja h,Ja (by rw[zD a];simp)];rfl
def ja(k:jB)(d:DataW Unit){L:List (jB×DataW Unit)}(a:dT L):vT k d (GC k L)=vT k d L:=by grind [dT,vT,GC,dT.eq_of_lk,qk,PN,aFv,jq]
def aBw(k:jB)(d:DataW Unit){L:List (jB×DataW Unit)}(a:dT L):(fE L).put (kL k) d=fE (vT k d L):=by
 rw[fE,DataW.put_eq,ChangeMaps.putKey,GG,ax k d (PN a) (by rw[jq,Ma rfl]),ja k d a,fE]
theorem zV(L:List (jB×DataW Unit)):strKeys (fE L)=L.map (λp=>p.1.data.toList):=by
 show((L.map λp=>(kL p.1,p.2)).map λp=>strOf p.1)=_;rw[Vd];rfl
end
def tV(x y:dC):Bool:=x.N.toList==y.N.toList&&x.V.toList==y.V.toList
def qH:List dC->List dC->Bool
 |[],[]=>dA
 |x::r,y::q=>tV x y&&qH r q
 |_,_=>cA
def pk(x y:dC):tV x y=dA ↔ x=y:=by
 unfold tV;rw[Sa,Lg,Lg];constructor
 .rintro ⟨a,b⟩;cases x;cases y
  simp only[dC.mk.injEq];exact⟨toList_inj a,toList_inj b⟩
 rintro rfl;exact⟨rfl,rfl⟩
theorem iY:∀(a b:List dC),qH a b=dA ↔ a=b
 |[],[]=>by simp[qH]
 |[],_::_=>by simp[qH]
 |_::_,[]=>by simp[qH]
 |x::r,y::q=>by
  rw[qH,Sa,pk,iY r q];simp
def so{a b:List dC}(h:yA a≠yA b):qH a b=cA:=by
 rw[Yc];intro c;exact h (by rw[(iY a b).1 c])
def ma(a b:List dC)(k:Nat)(c:k<yA a)(d:k<yA b):qH (a.drop k) (b.drop k)=(tV a[k] b[k] &&qH (a.drop (k+1)) (b.drop (k+1))):=by
 rw[Cb c,Cb d,qH]
def tO(a:List dC):Bool:=decide ((xB a).2.1=0) &&qH (xB a).1 a
def mD:List dC->jB
 |[]=>kA
 |l::r=>aN l.N++aG l.V++mD r
def uH(a:List dC):jB:=pB 1 (yA a:Nat)++mD a
def fJ(a:List dC):jB:=if tO a=dA then uH a else kA
def cN:∀(a b:List dC),mD (a++b)=mD a++mD b
 |[],b=>by simp[mD]
 |l::r,b=>by
  show aN l.N++aG l.V++mD (r++b)=aN l.N++aG l.V++mD r++mD b;rw[cN r b,Wa (b:=mD r)]
theorem pU(a:List dC)(k:Nat)(h:k<yA a):mD (a.take (k+1))=mD (a.take k)++(aN a[k].N++aG a[k].V):=by
 rw[Pa h,cN];simp[mD]
def OY(a:List dC):yA (xB a).1<=16:=by grind [xB,EF,BT]
theorem ZJ{a:List dC}(h:(xB a).2.1=0):yA a<=16:=by
 unfold xB at h;split at h;exact absurd h (by simp);omega
theorem OW{a:List dC}(h:tO a=dA):yA a<=16:=by grind [tO,ZJ]
def aDt{a:List dC}(h:tO a=dA):xB a=(a,0,(xB a).2.2):=by grind [tO,xB,iY]
theorem rQ(s:jB)(i j:Nat):(s.extract i j).data.toList=(s.data.toList.take j).drop i:=by
 rw[ByteArray.data_extract,Array.toList_extract,List.extract_eq_drop_take']
theorem fR(s:jB):s.size=yA s.data.toList:=by simp
structure Rd where
 rest:jB
 H:Bool
def bG(n:Nat)(r:Rd):jB×Rd:=if r.rest.size<n then(kA,⟨r.rest,dA⟩) else(r.rest.extract 0 n,⟨r.rest.extract n r.rest.size,r.H⟩)
def mK(k:Nat)(r:Rd):Nat×Rd:=(jT (bG k r).1.data.toList,(bG k r).2)
def oG(k:Nat)(r:Rd):jB×Rd:=bG (mK k r).1 (mK k r).2
theorem CG(n:Nat)(r:Rd):(bG n r).1.size<=n/\(bG n r).1.size<=r.rest.size/\(bG n r).2.rest.size<=r.rest.size:=by
 unfold bG;split;exact ⟨by simp,by simp,Ia _⟩;refine ⟨?_,?_,?_⟩<;>simp<;>omega
def FE{n:Nat}{r:Rd}(h:(bG n r).2.H=cA):r.H=cA/\(bG n r).1.size=n/\r.rest=(bG n r).1++(bG n r).2.rest:=by
 unfold bG at *;split at h;exact absurd h (by simp)
 rename_i a;rw[Ja a];refine⟨h,by simp;omega,?_⟩;apply DU;rw[qM,rQ,rQ,Kf,fR,Rb,Za]
def yW{n:Nat}{r:Rd}{t q:jB}(h:r.rest=t++q)(a:t.size=n):bG n r=(t,⟨q,r.H⟩):=by grind [bG,DU,rQ,qM,fR]
def TL{k:Nat}{r:Rd}(h:(oG k r).2.H=cA):r.H=cA/\r.rest=pB k ((oG k r).1.size:Nat)++((oG k r).1++(oG k r).2.rest):=by
 obtain⟨f,g,i⟩:=FE (r:=(mK k r).2) h;obtain⟨b,c,d⟩:=FE (n:=k) (r:=r) f;refine⟨b,?_⟩;have e:pB k ((oG k r).1.size:Nat)=(bG k r).1:=by
  show pB k ((bG (mK k r).1 (mK k r).2).1.size:Nat)=_;rw[g];have:=vr (bG k r).1.data.toList k (by rw[<-fR];exact c);show pB k (jT (bG k r).1.data.toList:Nat)=_;rw[this]
 rw[e];have a:(bG k r).2.rest=(oG k r).1++(oG k r).2.rest:=i;rw[<-a];exact d
def KN{k:Nat}{r:Rd}{t q:jB}(h:r.rest=pB k (t.size:Nat)++(t++q))(d:t.size<256 ^ k):oG k r=(t,⟨q,r.H⟩):=by
 have a:=yW (n:=k) h (gB k _);have b:(mK k r).1=t.size:=by
  show jT (bG k r).1.data.toList=_;rw[a];exact qQ k t.size d
 have c:(mK k r).2=⟨t++q,r.H⟩:=by
  show(bG k r).2=_;rw[a]
 rw[oG,b,c];exact yW rfl rfl
theorem xc(k:Nat)(r:Rd):(oG k r).1.size<=r.rest.size/\(oG k r).2.rest.size<=r.rest.size:=by grind [oG,mK,bG,CG]
def rr(k:Nat)(r:Rd):(mK k r).1<256 ^ k:=by
 have h:=DR (bG k r).1.data.toList;have a:=(CG k r).1;have b:256 ^ yA (bG k r).1.data.toList<=256 ^ k:=Sc (by omega) (by rw[<-fR];exact a);show jT (bG k r).1.data.toList<_;omega
def zF(x a:Int)(w:eA):rL 64 #[zA x,zA a] w (.bool (bC x 0 a)):=by
 by_cases b:0<=x
 .by_cases c:x<=a
  .have e:bC x 0 a=dA:=by simp[bC,b,c]
   rw[e];go_enter func64,ntmps64;go_wp2;go_ret;exact⟨rfl,rfl⟩
  have e:bC x 0 a=cA:=by simp[bC,c]
  rw[e];go_enter func64,ntmps64;go_wp2;go_ret;exact⟨rfl,rfl⟩
 have e:bC x 0 a=cA:=by simp[bC,b]
 rw[e];go_enter func64,ntmps64;go_wp2;go_ret;exact⟨rfl,rfl⟩
def qe{C D:Prop}[Decidable C][Decidable D]{α:Type}{x y:α}(h:C ↔ D):(if C then x else y)=if D then x else y:=by grind
def fL{a b c d:Int}(e:a=c)(f:b=d):Ending.returned (.tuple #[zA a,zA b])=.returned (.tuple #[zA c,zA d]):=by rw[e,f]
def yU(t:jB)(v:Nat):Nat->Nat
 |0=>v
 |j+1=>yU t v j*64+aD t (j+1) % 64
def iQ(t:jB)(n v a:Nat):Nat×Nat:=
 if n<=t.size/\(∀k,k<n->1<=k->aD t k / 64=2)/\a<=yU t v (n-1)/\okR (yU t v (n-1)) then(yU t v (n-1),n) else(0,0)
def aPp(t:jB)(h:aD t 0 / 32=6):LW t=iQ t 2 (aD t 0 % 32) 128:=by
 rw[aJm t h,iQ];have e:yU t (aD t 0 % 32) (2-1)=aD t 0 % 32*64+aD t 1 % 64:=rfl;rw[e];refine qe ?_;constructor
 .rintro ⟨a,b,c⟩;refine⟨a,λk _ _=>?_,c,by unfold okR aNs;simp;omega⟩;have:k=1:=by omega
  subst this;exact b
 rintro ⟨a,b,c,_⟩;exact⟨a,b 1 (by omega) (by omega),c⟩
def aPq(t:jB)(h:aD t 0 / 16=14):LW t=iQ t 3 (aD t 0 % 16) 2048:=by
 rw[aAx t h,iQ];have e:yU t (aD t 0 % 16) (3-1)=(aD t 0 % 16*64+aD t 1 % 64)*64+aD t 2 % 64:=rfl;rw[e];refine qe ?_;constructor
 .rintro ⟨b,a,c,d,f⟩;refine⟨b,λk _ _=>?_,d,f⟩;have:k=1\/k=2:=by omega
  obtain rfl|rfl:=this;exact a;exact c
 rintro ⟨b,a,c,d⟩;exact⟨b,a 1 (by omega) (by omega),a 2 (by omega) (by omega),c,d⟩
def aPr(t:jB)(h:aD t 0 / 8=30):LW t=iQ t 4 (aD t 0 % 8) 65536:=by
 rw[aFm t h,iQ];have e:yU t (aD t 0 % 8) (4-1)=((aD t 0 % 8*64+aD t 1 % 64)*64+aD t 2 % 64)*64+aD t 3 % 64:=rfl;rw[e];refine qe ?_;constructor
 .rintro ⟨b,a,c,d,f,g⟩;refine⟨b,λk _ _=>?_,f,g⟩;have:k=1\/k=2\/k=3:=by omega
  obtain rfl|rfl|rfl:=this;exact a;exact c;exact d
 rintro ⟨b,a,c,d⟩;exact⟨b,a 1 (by omega) (by omega),a 2 (by omega) (by omega),a 3 (by omega) (by omega),c,d⟩
def fk(t:jB)(v:Nat):∀j,yU t v j<(v+1)*64 ^ j
 |0=>by simp[yU]
 |j+1=>by
  have:=fk t v j;rw[yU,Od,<-Nat.mul_assoc];omega
def dq(t:jB)(w:eA)(Q:0<t.size)(W:t.size<=maxLen):
 rL 232 #[oA t] w (.tuple #[zA ((LW t).1:Nat),zA ((LW t).2:Nat)]):=by
 unfold maxLen at W;have h:t[0].toNat<256:=t[0].toNat_lt;have a:cB _:=fW t 0 Q;by_cases p:t[0].toNat<128
 .have E:cB (LW t=(t[0].toNat,1)):=by show _=_;rw[a.o];exact aJl t (by rw[<-a.o];exact p)
  rw[E.o];go_enter func232,ntmps232;go_wp2;go_ret2;exact⟨rfl,rfl⟩
 have c:(((t[0].toNat:Int) / 32==6)=dA/\LW t=iQ t 2 (t[0].toNat % 32) 128)\/((t[0].toNat:Int) / 32==6)=cA/\((((t[0].toNat:Int) / 16==14)=dA/\LW t=iQ t 3 (t[0].toNat % 16) 2048)\/((t[0].toNat:Int) / 16==14)=cA/\((((t[0].toNat:Int) / 8==30)=dA/\LW t=iQ t 4 (t[0].toNat % 8) 65536)\/((t[0].toNat:Int) / 8==30)=cA/\LW t=(0,0))):=by
  by_cases z:t[0].toNat / 32=6
  .exact Ca ⟨by simp;omega,by rw[a.o];exact aPp t (by rw[<-a.o];exact z)⟩
  refine La ⟨by simp;omega,?_⟩;by_cases s:t[0].toNat / 16=14
  .exact Ca ⟨by simp;omega,by rw[a.o];exact aPq t (by rw[<-a.o];exact s)⟩
  refine La ⟨by simp;omega,?_⟩;by_cases u:t[0].toNat / 8=30
  .exact Ca ⟨by simp;omega,by rw[a.o];exact aPr t (by rw[<-a.o];exact u)⟩
  exact La ⟨by simp;omega,by rw[a.o]at p z s u;exact aFn t (by omega) z s u⟩
 have g:=bB c;clear c;go_enter func232,ntmps232;go_upto_block 0 with fail;go_cut [5,6,7] (λX G h Z=>∃n v d:Nat,X=zA n/\G=zA v/\h=zA d/\2<=n/\n<=4/\(v+1)*64 ^ (n-1)<=8388608/\LW t=iQ t n v d/\d<=65536/\Z=w)
 case first=>
  obtain⟨N,E⟩|⟨N,⟨O,E⟩|⟨O,⟨P,E⟩|⟨P,E⟩⟩⟩:=g.o
  all_goals
   have E:=bB E;clear g
  .go_wp2;go_meet;exact⟨2,t[0].toNat % 32,128,rfl,by go_num,rfl,by omega,by omega,by omega,E.o,by omega,rfl⟩
  .go_wp2;go_meet;exact⟨3,t[0].toNat % 16,2048,rfl,by go_num,rfl,by omega,by omega,by omega,E.o,by omega,rfl⟩
  .go_wp2;go_meet;exact⟨4,t[0].toNat % 8,65536,rfl,by go_num,rfl,by omega,by omega,by omega,E.o,by omega,rfl⟩
  go_wp2;go_ret2;exact⟨fL (by simp[E.o]) (by simp[E.o]),rfl⟩
 clear g;obtain⟨n,v,d,rfl,rfl,rfl,T,U,L,H,S,rfl⟩:=hcut;have E:=bB H;have o:=bB L;clear H L;by_cases h:t.size<n
 .have b:cB (LW t=(0,0)):=by show _=_;rw[E.o,iQ,Ja (λh=>by have:=h.1;omega)]
  go_wp2;go_ret2;exact⟨fL (by simp[b.o]) (by simp[b.o]),rfl⟩
 go_wp2;go_loop [6,8] (λG i=>∃j V:Nat,1<=j/\j<=n/\i=zA j/\G=zA V/\V<8388608/\cB (V=yU t v (j-1)/\∀k,k<j->1<=k->aD t k / 64=2)) (λ_ i=>n-(intOf i).toNat)
 case atStart=>exact⟨1,v,by omega,by omega,rfl,rfl,by have p:=o.o;have s:=Nat.le_mul_of_pos_right (v+1) (show 0<64 ^ (n-1) from Zf (by omega));omega,rfl,λk K h=>absurd h (by omega)⟩
 case round=>
  obtain⟨j,V,B,G,rfl,rfl,G,q⟩:=hrel;by_cases F:j<n
  .have C:j<t.size:=by omega
   have R:t[j].toNat<256:=t[j].toNat_lt;have x:cB _:=fW t j C;by_cases J:t[j].toNat / 64=2
   .have A:((t[j].toNat:Int) / 64 != 2)=cA:=by simp;omega
    have I:cB (yU t v j=V*64+t[j].toNat % 64):=by
     show _=_;obtain⟨m,rfl⟩:∃m,j=m+1:=⟨j-1,by omega⟩
     rw[yU,x.o,q.o.1];rfl
    go_wp2;refine⟨⟨j+1,V*64+t[j].toNat % 64,by omega,by omega,by go_num,by go_num,?_,I.o.symm,?_⟩,by simp[intOf];omega⟩
    .have p:=fk t v j;rw[I.o]at p;have u:(v+1)*64 ^ j<=(v+1)*64 ^ (n-1):=Hf (Ia _) (Sc (by omega) (by omega));have:=o.o;omega
    intro k K D;by_cases e:k=j
    .subst e;rw[<-x.o];exact J
    exact q.o.2 k (by omega) D
   have A:((t[j].toNat:Int) / 64 != 2)=dA:=by simp;omega
   have b:cB (LW t=(0,0)):=by show _=_;rw[E.o,iQ,Ja (λh=>J (by rw[x.o];exact h.2.1 j F B))]
   go_wp2;go_ret2;exact⟨fL (by simp[b.o]) (by simp[b.o]),rfl⟩
  have y:cB (j=n):=by show _=_;omega
  have M:cB (yU t v (n-1)=V):=by show _=_;rw[<-y.o];exact q.o.1.symm
  have c:(V<d\/¬V<d/\1114111<V\/¬V<d/\¬1114111<V/\bC (V:Int) 55296 57343=dA)/\LW t=(0,0)\/¬V<d/\¬1114111<V/\bC (V:Int) 55296 57343=cA/\LW t=(V,n):=by
   rw[E.o,iQ,M.o];by_cases f:V<d
   .exact Ca ⟨Ca f,Ja (λh=>by have:=h.2.2.1;omega)⟩
   by_cases l:1114111<V
   .exact Ca ⟨La (Ca ⟨f,l⟩),Ja (λh=>by have:=(bt h.2.2.2).1;omega)⟩
   by_cases r:55296<=V/\V<=57343
   .exact Ca ⟨La (La ⟨f,l,by simp[bC];omega⟩),Ja (λh=>(bt h.2.2.2).2 r)⟩
   exact La ⟨f,l,by simp[bC];omega,Ma ⟨by omega,λk K=>q.o.2 k (by have:=y.o;omega),by omega,aNr ⟨by omega,r⟩⟩⟩
  clear y;obtain⟨f|⟨f,l⟩|⟨f,l,r⟩,b⟩|⟨f,l,r,b⟩:=c
  all_goals
   have b:=bB b;go_wp2_with(go_at_call 91;refine dR (rD (by assumption) _) ?_);go_ret2;exact⟨fL (by simp[b.o]) (by simp[b.o]),rfl⟩
def OO(w:eA)(a:mC)(l:List Int):Prop:=l=[]\/∃b o,a=bA (dB b o)/\b<w.1.size/\∀i(h:i<yA l),w.cell? (dB b (o+i))=bA (zA l[i])
def OO.at{w:eA}{a:mC}{l:List Int}(h:OO w a l){i:Nat}(c:i<yA l):∃b o,a=bA (dB b o)/\b<w.1.size/\w.cell? (dB b (o+i))=bA (zA l[i]):=by grind [OO]
def km{w:eA}{B:Nat}{e:jA}{a:mC}{c:Nat}{l:List Int}(h:w.ownsRow B e 1 (pA a (yA l) c) (yA l) (l.map (iA.int .i64))):OO w a l:=by
 obtain⟨_,o⟩|⟨g,f,b,k,q,m,_,_,p,d⟩:=h.2;exact Ca (Nb.1 o);simp only[iA.slice.injEq]at k;refine La ⟨g,0,k.1,aB m,λi n=>?_⟩;rw[Ya,cell_of_row w g i b _ _ m];have j:(b.toList.take (yA l*1))[i]?=(l.map (iA.int .i64))[i]?:=by rw[d]
 rw[Jb (by omega)]at j;rw[<-Yd,j];simp[Va n]
def aFe:∃i,prog.info? 3=bA i/\i.zero=bA (zA 0)/\i.size=1/\i.bytes=8:=by
 have h:(prog.info? 3).map (λi=>(i.zero,i.size,i.bytes))=bA (bA (zA 0),1,8):=by kernel_rfl
 obtain⟨i,b,a⟩:=Wb.1 h;simp only[Dc]at a;exact⟨i,b,a.1,a.2.1,a.2.2⟩
def tT:(prog.info? 181).map (λi=>(i.zero,i.size,i.bytes))=bA (bA (.agg #[oA kA,oA kA]),2,32):=by kernel_rfl
abbrev aJn:Inhabited dC:=⟨⟨kA,kA⟩⟩
def aNm:NeqAt prog 181 (λx:dC=>.agg #[oA x.N,oA x.V]) tV:=by
 refine⟨λx y w=>?_,GuardAt.agg _ (by kernel_rfl)⟩;have f:=underlying9;have e:=isAgg9;have g:=sizeOf9;have c:prog.underlying 181=bA (.struct (prog.fieldsOf 181)):=by kernel_rfl
 have d:prog.stoodInHeld 181=cA:=by kernel_rfl
 rw[run_neq_struct,show(10000:Nat)=9999+1 from rfl,run_equalIn_agg w 9999 181 _ _ c d];simp only[Program.fieldsOf,underlying181];go_simp;by_cases a:x.N.toList=y.N.toList<;>by_cases b:x.V.toList=y.V.toList<;>simp[tV,a,b]
structure sF where
 B:List dC
 bits:Int
structure gG where
 K:Int
 T:jB
 R:jB
 U:Int
 P:List sF
def ey(w:eA)(b o:Nat)(x:sF):Prop:=
 ∃a c,w.cell? (dB b o)=bA (pA a (yA x.B) c)/\w.cell? (dB b (o+1))=bA (zA x.bits)/\sD w a x.B/\yA x.B<=c
def aMc(w:eA)(b o:Nat)(a:List sF):Prop:=∀i(h:i<yA a),ey w b (o+i*2) a[i]
def pJ(w:eA)(a:mC)(c:List sF):Prop:=c=[]\/∃b o,a=bA (dB b o)/\b<w.1.size/\aMc w b o c
def ey.z{w f:eA}{b o:Nat}{x:sF}(h:ey w b o x)(d:b<w.1.size)(e:uB w f):ey f b o x:=by
 obtain⟨a,c,g,i,j,k⟩:=h;exact⟨a,c,(e.cell d).trans g,(e.cell d).trans i,j.z e,k⟩
def pJ.z{w e:eA}{a:mC}{f:List sF}(h:pJ w a f)(d:uB w e):pJ e a f:=by
 obtain h|⟨b,o,rfl,c,h⟩:=h;exact Ca h;exact La ⟨b,o,rfl,Bb c d.size,λi g=>(h i g).z c d⟩
def pJ.atc{w:eA}{a:mC}{c:List sF}(h:pJ w a c){i:Nat}(g:i<yA c):
 ∃b o d e,a=bA (dB b o)/\b<w.1.size/\w.cell? (dB b (o+i*2))=bA (.slice d (yA c[i].B) e)/\w.cell? (dB b (o+i*2+1))=bA (zA c[i].bits)/\sD w d c[i].B/\yA c[i].B<=e:=by
 obtain rfl|⟨b,o,rfl,f,h⟩:=h;exact absurd g (by simp);obtain ⟨d,e,h⟩:=h i g;exact⟨b,o,d,e,rfl,f,h⟩
def pJ.at{w:eA}{a:mC}{c:List sF}(h:pJ w a c){i:Nat}(m:i<yA c):
 ∃b o d e,a=bA (dB b o)/\b<w.1.size/\w.cell? (dB b (o+i*2))=bA (.slice d (yA c[i].B) e)/\w.cell? (dB b (o+i*2+1))=bA (zA c[i].bits)/\sD w d c[i].B:=by
 obtain⟨b,o,d,e,f,g,j,k,l,_⟩:=h.atc m;exact⟨b,o,d,e,f,g,j,k,l⟩
def oE.butS{g b o B:Nat}{w d:eA}{f:List dC}(h:oE w B (bA (dB b o)) f)(m:qD g w d)(p:b≠g):oE d B (bA (dB b o)) f:=by
 obtain h|⟨r,s,c,t,e,l,a,h⟩:=h;exact Ca h;simp only[Qa,Addr.mk.injEq,Cc]at e;obtain⟨rfl,rfl⟩:=e;have k:=m.block b (aB a) p;have n:∀j,d.cell? (dB b j)=w.cell? (dB b j):=λj=>eA.cell?_of_block k;exact La ⟨b,o,c,t,rfl,l,k.trans a,λi q=>by simp only[n];exact h i q⟩
def sN(w:eA)(B:Nat)(T:Nat->Nat)(n:Nat)(a:mC)(c:List dC):Prop:=
 c=[]\/∃g o b t,a=bA (dB g o)/\B<=g/\T g=n/\w.heap[g]?=bA (.cells b t (0,0))/\vP w g o c
def sN.B{w:eA}{B n:Nat}{T:Nat->Nat}{a:mC}{b:List dC}(h:sN w B T n a b):sD w a b:=by grind [sN,sD]
def sN.base{w:eA}{B b n:Nat}{T:Nat->Nat}{a:mC}{c:List dC}(h:sN w B T n a c)(d:b<=B):sN w b T n a c:=by grind [sN]
def sN.keep{w w':eA}{B n:Nat}{T c:Nat->Nat}{a:mC}{l:List dC}(h:sN w B T n a l)
(s:∀g,g<w.1.size->B<=g->T g=n->w'.heap[g]?=w.heap[g]?/\c g=n):sN w' B c n a l:=by
 obtain h|⟨g,o,b,t,e,f,p,k,h⟩:=h;exact Ca h;obtain ⟨d,m⟩:=s g (aB k) f p;have q:∀j,w'.cell? (dB g j)=w.cell? (dB g j):=λj=>eA.cell?_of_block d;exact La ⟨g,o,b,t,e,f,m,d.trans k,λi r=>by simp only[q];exact h i r⟩
def JL(w:eA)(B:Nat)(T:Nat->Nat)(i b o:Nat)(x:sF):Prop:=
 ∃a c,w.cell? (dB b o)=bA (pA a (yA x.B) c)/\w.cell? (dB b (o+1))=bA (zA x.bits)/\sN w B T (i+1) a x.B/\yA x.B<=c
def tG(w:eA)(B:Nat)(a:mC)(c:List sF):Prop:=
 c=[]\/∃g o b t T,a=bA (dB g o)/\B<=g/\w.heap[g]?=bA (.cells b t (0,0))/\T g=0/\∀i(h:i<yA c),JL w B T i g (o+i*2) c[i]
def JL.at{w:eA}{B i b o:Nat}{T:Nat->Nat}{x:sF}(h:JL w B T i b o x):ey w b o x:=by
 obtain⟨a,c,d,e,f,g⟩:=h;exact⟨a,c,d,e,f.B,g⟩
def tG.P{w:eA}{B:Nat}{a:mC}{b:List sF}(h:tG w B a b):pJ w a b:=by
 obtain h|⟨g,o,c,t,T,rfl,_,d,_,h⟩:=h;exact Ca h;exact La ⟨g,o,rfl,aB d,λi e=>(h i e).at⟩
def JL.keep{w w':eA}{B i b o:Nat}{T d:Nat->Nat}{x:sF}(h:JL w B T i b o x)(f:∀j,j<2->w'.cell? (dB b (o+j))=w.cell? (dB b (o+j)))
(r:∀g,g<w.1.size->B<=g->T g=i+1->w'.heap[g]?=w.heap[g]?/\d g=T g):JL w' B d i b o x:=by
 obtain⟨a,c,k,l,m,n⟩:=h;refine⟨a,c,(f 0 (by omega)).trans k,(f 1 (by omega)).trans l,m.keep λg q p e=>?_,n⟩;obtain⟨s,t⟩:=r g q p e;exact⟨s,t.trans e⟩
def tG.z{w k:eA}{B:Nat}{a:mC}{l:List sF}(h:tG w B a l)(d:uB w k):tG k B a l:=by
 obtain h|⟨g,o,c,t,T,rfl,n,f,p,h⟩:=h;exact Ca h;have b:=aB f;exact La ⟨g,o,c,t,T,rfl,n,(d.block g b).trans f,p,λi q=>(h i q).keep (λj _=>eA.cell?_of_block (d.block g b)) λm e _ _=>⟨d.block m e,rfl⟩⟩
def tG.but{g B:Nat}{w k:eA}{a:mC}{l:List sF}(h:tG w B a l)(e:qD g w k)(s:g<B):tG k B a l:=by
 obtain h|⟨d,o,c,t,T,rfl,m,b,p,h⟩:=h;exact Ca h;have f:=e.block d (aB b) (by omega);exact La ⟨d,o,c,t,T,rfl,m,f.trans b,p,λi q=>(h i q).keep (λj _=>eA.cell?_of_block f) λx r n _=>⟨e.block x r (by omega),rfl⟩⟩
def tG.mono{B B':Nat}{w:eA}{a:mC}{f:List sF}(h:tG w B a f)(d:B'<=B):tG w B' a f:=by
 obtain h|⟨g,o,b,t,T,rfl,q,e,j,h⟩:=h;exact Ca h;refine La ⟨g,o,b,t,T,rfl,by omega,e,j,λi k=>?_⟩;obtain⟨a,c,l,m,n,p⟩:=h i k;exact⟨a,c,l,m,n.base d,p⟩
def tJ(x:sF):Nat:=yA x.B+bE x.B
def yF:List sF->Nat
 |[]=>0
 |f::r=>tJ f+yF r
def wY(a b:List sF):yF (a++b)=yF a+yF b:=by induction a<;>grind [yF]
def FB(a:List sF)(k:Nat)(h:k<yA a):yF (a.take (k+1))=yF (a.take k)+tJ a[k]:=by
 rw[Pa h,wY];simp[yF]
def KK(a:List sF)(k:Nat):yF (a.take k)<=yF a:=by
 have:=wY (a.take k) (a.drop k);rw[Za]at this;omega
def SU(a:List sF)(k:Nat)(h:k<yA a):tJ a[k]<=yF a:=by
 have b:=FB a k h;have c:=KK a (k+1);omega
def IK(r:gG):Nat:=r.T.size+r.R.size+yA r.P+yF r.P
def EP(c:UInt8):Bool:=(97<=c&&c<=122) ||(48<=c&&c<=57) ||c==45||c==46
def eL(l:List UInt8):Bool:=l.all EP
def qG(s:jB):Bool:=decide (1<=s.size) &&decide (s.size<=40) &&eL s.data.toList
def br(l:List UInt8)(c:UInt8):eL (l++[c])=(eL l&&EP c):=by simp[eL]
def kn{l:List UInt8}{k:Nat}(h:eL (l.take k)=cA):eL l=cA:=by grind [eL]
def aBq(c:UInt8):EP c=decide ((97<=(c.toNat:Int)/\(c.toNat:Int)<=122)\/(48<=(c.toNat:Int)/\(c.toNat:Int)<=57)\/(c.toNat:Int)=45\/(c.toNat:Int)=46):=by
 have a:(c==45)=decide (c.toNat=45):=by rw[Qb];simp[<-UInt8.toNat_inj]
 have b:(c==46)=decide (c.toNat=46):=by rw[Qb];simp[<-UInt8.toNat_inj]
 rw[Qb];simp[EP,a,b,Df];omega
def RG(s:jB)(w:eA)(m:s.size<=maxLen):
 rL 98 #[oA s] w (.bool (qG s)):=by
 unfold maxLen at m;by_cases c:1<=s.size/\s.size<=40
 .have l:bC (s.size:Int) 1 40=dA:=by unfold bC;simp;omega
  have f:cB (qG s=eL s.data.toList):=by show qG s=_;simp[qG,c.1,c.2]
  have o:=c.1;have p:=c.2;clear c;go_enter func98,ntmps98;go_wp2_with(go_at_call 91;apply lC (dE _ _ _ _);rintro h rfl);go_loop [3,4] (λi _=>∃k:Nat,k<=s.size/\i=zA k/\eL (s.data.toList.take k)=dA) (λi _=>s.size-(intOf i).toNat)
  case atStart=>exact⟨0,Oa _,rfl,by simp[eL]⟩
  case round=>
   obtain⟨k,n,rfl,d⟩:=hrel;have b:cB _:=d;clear d l;by_cases g:k<s.size
   .have a:=br (s.data.toList.take k) s[k];rw[<-zW s k g,b.o,Oc,aBq]at a;have j:cB _:=a;clear a;go_wp2;all_goals first
     |(go_ret
       refine⟨oB ?_,rfl⟩;rw[f.o];refine(kn (k:=k+1) ?_).symm;rw[j.o,Xe];simp at *;omega)
     |(refine⟨⟨k+1,by omega,by go_num,?_⟩,by simp[intOf];omega⟩
       rw[j.o,Af];simp at *;omega)
   go_wp2;go_ret;exact⟨oB (by rw[f.o,<-b.o,Ra (by simp;omega)]),rfl⟩
 have l:bC (s.size:Int) 1 40=cA:=by unfold bC;simp;omega
 have f:cB (qG s=cA):=by show qG s=_;simp[qG];omega
 go_enter func98,ntmps98;go_wp2_with(go_at_call 91;apply lC (dE _ _ _ _);rintro h rfl);go_ret;exact⟨oB f.o.symm,rfl⟩
theorem bq(c:UInt8):okM [45,46] c=EP c:=by
 have e:decide (0<=Lib.indexByte [45,46] c)=(c==45||c==46):=by
  by_cases h:c=45
  .subst h;rfl
  by_cases a:c=46
  .subst a;rfl
  have b:((45:UInt8)==c)=cA:=by simpa using λe=>h e.symm
  have d:(c==45)=cA:=by simpa using h
  have f:((46:UInt8)==c)=cA:=by simpa using λe=>a e.symm
  have g:(c==46)=cA:=by simpa using a
  simp[Lib.indexByte,b,d,f,g]
 rw[okM,EP,e,Bool.or_assoc (_||_)]
def rn(s:jB):iU s 40 ⟨#[45,46]⟩=qG s:=by grind [iU,qG,eL,bq]
def RE(s:jB)(w:eA)(b:s.size<=maxLen):
 rL 181 #[oA s] w (.bool (qG s)):=by
 have H:cB _:=λW=>rn s ▸ LV s 40 ⟨#[45,46]⟩ W b;generalize qG s=R at *;go_enter func181,ntmps181;go_wp2_with fail;apply dR (H.o _);go_wp2;go_ret;exact⟨rfl,rfl⟩
def cP(f:iB):Bool:=qG f.N&&bC f.Y 0 f.data.size
def aCs(b o:Nat)(f:iB)(w:eA)(i:w.cell? (dB b o)=bA (oA f.N))(j:w.cell? (dB b (o+1))=bA (oA f.data))(k:w.cell? (dB b (o+2))=bA (zA f.Y))
(l:f.N.size<=maxLen):
 dF 121 #[.pointer (bA (dB b o))] w (.bool (cP f)):=by
 have p:=kC.cells i;have q:=kC.cells j;have r:=kC.cells k;have n:=kC.there w;have g:=λd=>RE f.N d l;clear i j k l;by_cases c:qG f.N=dA
 .simp only[c]at g;have m:=λd=>zF f.Y f.data.size d;have E:cB (cP f=bC f.Y 0 f.data.size):=by show cP f=_;simp[cP,c]
  clear c;go_enter func121,ntmps121;go_wp2_with fail;refine wB (by kernel_rfl) (by kernel_rfl) ?_;repeat (go_big_quiet_step (first|(go_at_call 181;exact uC (g _))|(go_at_call 64;exact uC (m _))))
  refine wpQuiet_nil ?_;rintro _ ⟨x,rfl⟩;go_wp2;go_ret;exact⟨oB E.o.symm,x.h⟩
 have a:qG f.N=cA:=by simpa using c
 simp only[a]at g;have E:cB (cP f=cA):=by show cP f=_;simp[cP,a]
 clear c a;go_enter func121,ntmps121;go_wp2_with fail;refine wB (by kernel_rfl) (by kernel_rfl) ?_;repeat (go_big_quiet_step (first|(go_at_call 181;exact uC (g _))))
 refine wpQuiet_nil ?_;rintro _ ⟨x,rfl⟩;go_wp2;go_ret;exact⟨oB E.o.symm,x.h⟩
def uU(a:List iB)(i:Nat):Bool:=
 match a[i]? with
 |none=>dA
 |some f=>cP f&&(match i with
  |0=>dA
  |j+1=>match a[j]? with
   |none=>dA
   |some g=>Op.bytesLess g.N.toList f.N.toList)
def dU(a:List iB)(k:Nat):Bool:=(List.range k).all (uU a)
def iI(a:List iB):Bool:=dU a (yA a)
def CC(a:List iB)(k:Nat):dU a (k+1)=(dU a k&&uU a k):=by simp[dU,List.range_succ]
def AO{a:List iB}{k n:Nat}(h:uU a k=cA)(b:k<n):dU a n=cA:=by grind [uU,dU]
def QH(a:mC)(y:Nat)(c:List iB)(w:eA)(z:tB w a c)(D:xO c)(s:yA c<=maxLen):
 dF 65 #[pA a (yA c) y] w (.bool (decide (yA c<=1000) &&iI c)):=by
 unfold maxLen at s;by_cases V:(1000:Int)<yA c
 .have E:cB ((decide (yA c<=1000) &&iI c)=cA):=by
   show _=_;rw[Ub (by omega)];rfl
  clear z D;go_enter func65,ntmps65;go_wp2;go_ret;exact⟨oB E.o.symm,iD⟩
 have E:cB ((decide (yA c<=1000) &&iI c)=dU c (yA c)):=by
  show _=_;rw[Ac (by omega)];rfl
 have F:cB (tB w a c):=z;have L:cB (xO c):=D;clear z D;go_enter func65,ntmps65;go_wp2;go_loopw [3,9] (λ_ i wr=>∃k:Nat,k<=yA c/\i=zA k/\dU c k=dA/\uB w wr) (λ_ i _=>yA c-(intOf i).toNat)
 case atStart=>exact⟨0,Oa _,rfl,rfl,iD⟩
 case round=>
  obtain⟨k,X,rfl,t,d⟩:=hrel;have n:cB (dU c k=dA):=t;clear t;by_cases l:k<yA c
  .obtain ⟨b,o,rfl,W,v,G,H⟩:=(F.o.z d).at l;have u:=L.o k l;have r:=λx:kC wr=>aCs b (o+k*3) c[k] x.w' (x.cell v) (x.cell G) (x.cell H) u.1;have M:=kC.cells v;have P:=kC.there wr;clear v G H u;by_cases g:cP c[k]=dA
   .simp only[g]at r;by_cases O:(0:Int)<k
    .obtain ⟨U,Y,I,Q,q,R,S⟩:=(F.o.z d).at (i:=k-1) (by omega)
     simp only[Qa,Addr.mk.injEq,Cc]at I;obtain⟨rfl,rfl⟩:=I;have f:uU c k=Op.bytesLess c[k-1].N.toList c[k].N.toList:=by
      obtain⟨j,rfl⟩:∃j,k=j+1:=⟨k-1,by omega⟩
      simp[uU,Va l,Va (show j<yA c by omega),g]
     generalize c[k-1].N=K at q f;generalize c[k].N=J at M f;have N:=kC.cells q;have A:0<k:=by omega
     clear Q R S q g;by_cases B:Op.bytesLess K.toList J.toList=dA
     .have p:cB (dU c (k+1)=dA):=by show dU c (k+1)=dA;rw[CC,n.o,f,B];rfl
      clear f;go_wp2_with fail;refine wB (by kernel_rfl) (by kernel_rfl) ?_;repeat (go_big_quiet_step (first|(go_at_call 121;exact oC (r _))))
      refine wpQuiet_nil ?_;rintro _ ⟨x,rfl⟩;go_wp2;exact⟨⟨k+1,by omega,by go_num,p.o,d.trans (x.h.mono d.size)⟩,by simp[intOf];omega⟩
     have C:Op.bytesLess K.toList J.toList=cA:=by simpa using B
     have p:cB (dU c (yA c)=cA):=AO (by rw[f];exact C) l;clear f B;go_wp2_with fail;refine wB (by kernel_rfl) (by kernel_rfl) ?_;repeat (go_big_quiet_step (first|(go_at_call 121;exact oC (r _))))
     refine wpQuiet_nil ?_;rintro _ ⟨x,rfl⟩;go_wp2;go_ret;exact⟨oB (by rw[E.o,p.o]),d.trans (x.h.mono d.size)⟩
    have f:uU c k=dA:=by
     obtain rfl:k=0:=by omega
     simp[uU,Va l,g]
    have p:cB (dU c (k+1)=dA):=by show dU c (k+1)=dA;rw[CC,n.o,f];rfl
    have A:decide (0<k)=cA:=by simp;omega
    clear f g;go_wp2_with fail;refine wB (by kernel_rfl) (by kernel_rfl) ?_;repeat (go_big_quiet_step (first|(go_at_call 121;exact oC (r _))))
    refine wpQuiet_nil ?_;rintro _ ⟨x,rfl⟩;go_wp2;exact⟨⟨k+1,by omega,by go_num,p.o,d.trans (x.h.mono d.size)⟩,by simp[intOf];omega⟩
   have m:cP c[k]=cA:=by simpa using g
   simp only[m]at r;have f:uU c k=cA:=by simp[uU,Va l,m]
   have p:cB (dU c (yA c)=cA):=AO f l;clear f g m;go_wp2_with fail;refine wB (by kernel_rfl) (by kernel_rfl) ?_;repeat (go_big_quiet_step (first|(go_at_call 121;exact oC (r _))))
   refine wpQuiet_nil ?_;rintro _ ⟨x,rfl⟩;go_wp2;go_ret;exact⟨oB (by rw[E.o,p.o]),d.trans (x.h.mono d.size)⟩
  go_wp2;go_ret;have e:k=yA c:=by omega
  exact⟨oB (by rw[E.o,<-e];exact n.o.symm),d⟩
def cO(d:jB)(p n:Nat):(d.extract p (p+n)).data.toList=aI d p n:=by
 simp[aI,ByteArray.data_extract,Array.toList_extract]
def kT(d:jB):yA d.data.toList=d.size:=by simp
def uD(p:jB):jB:=if 1<=p.size/\p.size<=60000 then pB 4 p.size++pB 4 (cJ p:Nat)++p else kA
def mG(d:jB):Nat:=jT (aI d 0 4)
def jJ(d:jB):Prop:=8<=d.size/\1<=mG d/\mG d<=60000/\mG d<=d.size-8/\jT (aI d 4 4)=cJ (d.extract 8 (8+mG d))
def frD(d:jB):Decidable (jJ d):=by unfold jJ;exact inferInstance
def frB(d:jB):Bool:=@decide (jJ d) (frD d)
def aLu{d:jB}(h:jJ d):frB d=dA:=@Ac _ (frD d) h
def ia{d:jB}(h:¬jJ d):frB d=cA:=@Ub _ (frD d) h
def XS{d:jB}{p n:Nat}(h:p+n<=d.size):(d.extract p (p+n)).size=n:=by rw[Je];omega
def mO{p:jB}(h:1<=p.size/\p.size<=60000):(uD p).size=8+p.size:=by grind [uD,gB]
def DE(d:jB):Nat->Nat->List jB×Nat
 |0,p=>([],p)
 |n+1,p=>haveI:=frD (d.extract p d.size);if jJ (d.extract p d.size) then
  let q:=(d.extract p d.size).extract 8 (8+mG (d.extract p d.size))
  (q::(DE d n (p+8+q.size)).1,(DE d n (p+8+q.size)).2) else([],p)
def jV(d:jB):List jB×Nat:=DE d (d.size+1) 0
structure xD where
 K:Int
 T:jB
 X:jB
 U:Int
def aDg(w:eA)(b o:Nat)(a:List xD):Prop:=
 ∀i(h:i<yA a),w.cell? (dB b (o+i*4))=bA (zA a[i].K)/\w.cell? (dB b (o+i*4+1))=bA (oA a[i].T)/\w.cell? (dB b (o+i*4+2))=bA (oA a[i].X)/\w.cell? (dB b (o+i*4+3))=bA (zA a[i].U)
def tI(w:eA)(a:mC)(c:List xD):Prop:=c=[]\/∃b o,a=bA (dB b o)/\b<w.1.size/\aDg w b o c
def tI.z{w f:eA}{a:mC}{e:List xD}(h:tI w a e)(d:uB w f):tI f a e:=by
 obtain h|⟨b,o,rfl,c,h⟩:=h;exact Ca h;refine La ⟨b,o,rfl,Bb c d.size,λi m=>?_⟩;obtain⟨g,j,k,l⟩:=h i m;exact⟨by rw[<-g];exact d.cell c,by rw[<-j];exact d.cell c,by rw[<-k];exact d.cell c,by rw[<-l];exact d.cell c⟩
def tI.at{w:eA}{a:mC}{c:List xD}(h:tI w a c){i:Nat}(e:i<yA c):
 ∃b o,a=bA (dB b o)/\b<w.1.size/\w.cell? (dB b (o+i*4))=bA (zA c[i].K)/\w.cell? (dB b (o+i*4+1))=bA (oA c[i].T)/\w.cell? (dB b (o+i*4+2))=bA (oA c[i].X)/\w.cell? (dB b (o+i*4+3))=bA (zA c[i].U):=by
 obtain rfl|⟨b,o,rfl,d,h⟩:=h;exact absurd e (by simp);exact ⟨b,o,rfl,d,h i e⟩
def vO(w:eA)(B:Nat)(a:mC)(c:List xD):Prop:=
 c=[]\/∃g o b t,a=bA (dB g o)/\B<=g/\w.heap[g]?=bA (.cells b t (0,0))/\aDg w g o c
def vO.recs{w:eA}{B:Nat}{a:mC}{b:List xD}(h:vO w B a b):tI w a b:=by grind [vO,tI]
def AW{w:eA}{B:Nat}{e:jA}{a:mC}{k:Nat}{l:List xD}
(h:w.ownsRow B e 4 (pA a (yA l) k) (yA l) (l.flatMap λx=>[zA x.K,oA x.T,oA x.X,zA x.U])):vO w B a l:=by
 obtain⟨_,t⟩|⟨g,n,b,o,p,d,_,_,u,m⟩:=h.2;exact Ca (Nb.1 t);simp only[iA.slice.injEq]at o;have q:∀(l:List xD) i(c:i<yA l),(l.flatMap λx=>[iA.int .i64 x.K,oA x.T,oA x.X,zA x.U])[i*4]?=bA (zA l[i].K)/\(l.flatMap λx=>[iA.int .i64 x.K,oA x.T,oA x.X,zA x.U])[i*4+1]?=bA (oA l[i].T)/\(l.flatMap λx=>[iA.int .i64 x.K,oA x.T,oA x.X,zA x.U])[i*4+2]?=bA (oA l[i].X)/\(l.flatMap λx=>[iA.int .i64 x.K,oA x.T,oA x.X,zA x.U])[i*4+3]?=bA (zA l[i].U):=by
  intro l;induction l with
  |nil=>intro i c;exact absurd c (by simp)
  |cons x r v=>
   intro i c;cases i with
   |zero=>simp
   |succ i=>
    have:=v i (by simpa using c);simp only[Xc,Sd,Mb,Ec];refine⟨?_,?_,?_,?_⟩;rw[show(i+1)*4=i*4+1+1+1+1 by omega,Ga,Ga,Ga,Ga];exact this.1;rw[show(i+1)*4+1=i*4+1+1+1+1+1 by omega,Ga,Ga,Ga,Ga];exact this.2.1;rw[show(i+1)*4+2=i*4+2+1+1+1+1 by omega,Ga,Ga,Ga,Ga];exact this.2.2.1;rw[show(i+1)*4+3=i*4+3+1+1+1+1 by omega,Ga,Ga,Ga,Ga];exact this.2.2.2
 refine La ⟨g,0,b,e,o.1,p,d,λi c=>?_⟩;have f:∀j,j<yA l*4->b[j]?=(l.flatMap λx=>[iA.int .i64 x.K,oA x.T,oA x.X,zA x.U])[j]?:=λj s=>by
  rw[<-m,Jb s,Yd]
 rw[cell_of_row w g _ b _ _ d,cell_of_row w g _ b _ _ d,cell_of_row w g _ b _ _ d,cell_of_row w g _ b _ _ d,Ya,f _ (by omega),f _ (by omega),f _ (by omega),f _ (by omega)];exact q l i c
def gD:List xD->Nat
 |[]=>0
 |f::r=>f.T.size+f.X.size+gD r
def kU(a b:List xD):gD (a++b)=gD a+gD b:=by induction a<;>grind [gD]
def iV(a:List xD)(k:Nat)(h:k<yA a):gD (a.take (k+1))=gD (a.take k)+(a[k].T.size+a[k].X.size):=by
 rw[Pa h,kU];simp[gD]
def vY(a:List xD)(k:Nat):gD (a.take k)<=gD a:=by
 have:=kU (a.take k) (a.drop k);rw[Za]at this;omega
def xk(a:List xD):Prop:=∀i(h:i<yA a),a[i].T.size<=1000000000/\a[i].X.size<=1000000000
