import Derived.Maps.Ext
import Derived.Sort.KeysCollected
import Derived.Test.YtejebmgbenmimaaGreatDoorJ05
import Derived.Deep.DeepCutAuto
import Derived.Deep.CutBlock
set_option maxRecDepth 100000
set_option maxHeartbeats 4000000
set_option linter.defProp false
open Option renaming some->fA
open Bool renaming false->gA,true->iA
open ByteArray renaming empty->pA
open List renaming length->cB
namespace Go.Proofs.YtejebmgbenmimaaGreatDoor
open Go renaming World->jA,Value->mA,TypeId->oA
open Value renaming string->tA,slice->uA
open Go.RowKit Tryz
structure jB(S:Nat→Prop)(w w':World):Prop where
 os:w'.os=w.os
 tape:w'.tape=w.tape
 output:w'.output=w.output
 size:w.1.size≤w'.1.size
 block:∀k,k<w.1.size→¬S k→w'.heap[k]?=w.heap[k]?
def jB.refl(S:Nat->Prop)(w:jA):jB S w w:=⟨rfl,rfl,rfl,Ia _,λ_ _ _=>rfl⟩
def jB.trans{S:Nat->Prop}{a b c:jA}(h:jB S a b)(k:jB (λi=>S i\/a.1.size<=i) b c):jB S a c:=
 ⟨k.os.trans h.os,k.tape.trans h.tape,k.output.trans h.output,Ua h.size k.size,λi e f=>(k.block i (Bb e h.size) (λd=>by obtain d|d:=d;exact f d;omega)).trans (h.block i e f)⟩
def jB.trans'{S:Nat->Prop}{a b c:jA}(h:jB S a b)(k:jB S b c):jB S a c:=
 ⟨k.os.trans h.os,k.tape.trans h.tape,k.output.trans h.output,Ua h.size k.size,λi d e=>(k.block i (Bb d h.size) e).trans (h.block i d e)⟩
def jB.mono{S S':Nat->Prop}{a b:jA}(h:jB S a b)(f:∀i,i<a.1.size->S i->S' i):jB S' a b:=
 ⟨h.os,h.tape,h.output,h.size,λi c e=>h.block i c (λd=>e (f i c d))⟩
def jB.of{S:Nat->Prop}{a b:jA}(h:zB a b):jB S a b:=⟨h.os,h.tape,h.output,h.size,λk c _=>h.block k c⟩
def jB.but{g:Nat}{a b:jA}(h:uD g a b):jB (·=g) a b:=⟨h.os,h.tape,h.output,h.size,λk c d=>h.block k c d⟩
def jB.grown{r:Option Nat}{a b:jA}(h:a.grownBy b r):jB (λk=>r=fA k) a b:=⟨h.os,h.tape,h.output,h.size,λk c d=>h.block k c (λe=>d e.symm)⟩
def jB.below{S:Nat->Prop}{B:Nat}{a b:jA}(h:jB S a b)(e:B<=a.1.size)(d:∀k,k<B->¬S k):Below B a b:=
 ⟨h.os,h.tape,h.output,h.size,λk c=>h.block k (by omega) (d k c)⟩
def jB.drew{S:Nat->Prop}{a b:jA}(h:jB S a b):jB S a b.drew:=⟨h.os,h.tape,h.output,h.size,h.block⟩
def jB.setCell{S:Nat->Prop}{a b:jA}(h:jB S a b){g:Nat}(c:S g\/a.1.size<=g)(o:Nat)(v:mA):jB S a (b.setCell (iB g o) v):=
 h.trans ((jB.but ((uD.refl g b).setCell o v)).mono λi _ e=>by subst e;exact c)
def jB.blk{S:Nat->Prop}{a b:jA}(h:jB S a b){g:Nat}{c:Array mA}{t:oA}(d:rB a g c t)(e:¬S g):rB b g c t:=(h.block g (eB d) e).trans d
def jB.row{S:Nat->Prop}{a b:jA}(h:jB S a b){B:Nat}{e:oA}{c:Nat}{v:mA}{n:Nat}{k:List mA}(j:a.ownsRow B e c v n k)(o:∀g,v.ownBlock=fA g->¬S g):b.ownsRow B e c v n k:=by
 refine⟨j.1,?_⟩;obtain l|⟨g,d,f,rfl,m,i,r⟩:=j.2;exact Ca l;exact La ⟨g,d,f,rfl,m,(h.block g (eB i) (o g rfl)).trans i,r⟩
def jB.map{H:Type}{S:Nat->Prop}{a b:jA}(h:jB S a b){P:Program}{k:oA}{R:mA->Option (DataW H×List MemPlace)}{m n:Nat}{D:DataW H}(e:a.ownsMap P k R m n D)(i:¬S m):b.ownsMap P k R m n D:=by
 have d:=e.lt;obtain⟨f,c,g,r⟩:=e;exact⟨f,c,(h.block m d i).trans g,r⟩
section
open Go.Maps
def kL(s:vB):Lit:=.string s.data.toList
theorem AD(s:vB):kL s=.string s.toList:=by rw[kL,ByteArray.toList_eq]
theorem aBc{x y:vB}(h:kL x=kL y):x=y:=by
 rw[AD,AD]at h;exact toList_inj (by simpa using h)
def IS:∀x y:List UInt8,bytesBefore x y=Op.bytesLess x y
 |[],[]=>rfl
 |[],_::_=>rfl
 |_::_,[]=>rfl
 |a::x,b::y=>by rw[bytesBefore,Op.bytesLess,IS x y]
def vJ(x y:vB):Bool:=Op.bytesLess x.toList y.toList
def mN(x:vB):vJ x x=gA:=iF _
def GI{x y z:vB}(a:vJ x y=iA)(b:vJ y z=iA):vJ x z=iA:=kJ _ _ _ a b
def tZ{x y:vB}(h:vJ x y=iA):vJ y x=gA:=mP h
def yU{x y:vB}(h:vJ x y=gA)(a:x≠y):vJ y x=iA:=qL _ _ h (λe=>a (toList_inj e))
theorem iJ{x y:vB}(h:vJ x y=iA):x≠y:=λe=>by rw[e,mN]at h;cases h
theorem RY(x y:vB):(kL x).before (kL y)=vJ x y:=by
 rw[AD,AD,vJ];exact IS _ _
theorem CU(x y:vB):(kL x).sameKey (kL y)=(x.toList==y.toList):=by rw[AD,AD];rfl
theorem mE(x y:vB):(x.toList==y.toList)=iA ↔ x=y:=by
 rw[Lg];exact⟨toList_inj,λe=>by rw[e]⟩
theorem aE{x y:vB}(h:x≠y):(x.toList==y.toList)=gA:=by
 rw[Yc];exact λe=>h ((mE x y).1 e)
section
variable {V:Type}
def fS(L:List (vB×V)):Prop:=L.Pairwise (λp q=>vJ p.1 q.1=iA)
def lk(L:List (vB×V))(k:vB):Option V:=(L.find? (λp=>p.1.toList==k.toList)).map (·.2)
def uS(k:vB)(d:V):List (vB×V)->List (vB×V)
 |[]=>[(k,d)]
 |p::r=>if vJ p.1 k=iA then p::uS k d r else if p.1.toList==k.toList then(k,d):: r else(k,d):: p::r
def DW(k:vB)(L:List (vB×V)):List (vB×V):=L.filter (λp=>!(p.1.toList==k.toList))
theorem aJh(k:vB):lk ([]:List (vB×V)) k=none:=rfl
theorem EO(p:vB×V)(r:List (vB×V))(k:vB):lk (p::r) k=if p.1=k then fA p.2 else lk r k:=by grind [lk,mE,aE]
theorem lz{L:List (vB×V)}{k:vB}{d:V}(h:lk L k=fA d):(k,d) ∈L:=by induction L<;>grind [lk,EO]
theorem aFn{L:List (vB×V)}{k:vB}(h:lk L k=none):∀p∈L,p.1≠k:=by induction L<;>grind [lk,EO]
theorem ma{L:List (vB×V)}{k:vB}(h:∀p∈L,p.1≠k):lk L k=none:=by
 cases hl:lk L k with
 |none=>rfl
 |some d=>exact absurd rfl (h _ (lz hl))
theorem fS.head{p:vB×V}{r:List (vB×V)}(h:fS (p::r)):∀q∈r,vJ p.1 q.1=iA:=(Bc.1 h).1
theorem fS.tail{p:vB×V}{r:List (vB×V)}(h:fS (p::r)):fS r:=(Bc.1 h).2
theorem UC{L:List (vB×V)}(a:fS L){k:vB}{d:V}(h:(k,d) ∈L):lk L k=fA d:=by
 induction L with
 |nil=>cases h
 |cons p r b=>
  rw[EO];rcases Lb.1 h with e|h;rw[<-e,Ma rfl];have:=a.head _ h;rw[Ja (iJ this)];exact b a.tail h
theorem us{k:vB}{d:V}{L:List (vB×V)}{q:vB×V}(h:q∈uS k d L):q=(k,d)\/q∈L:=by induction L<;>grind [uS]
theorem kx{k:vB}{d:V}{L:List (vB×V)}(h:fS L):fS (uS k d L):=by
 induction L with
 |nil=>exact We ..
 |cons p r g=>
  unfold uS;split
  .rename_i b;refine Bc.2 ⟨λq a=>?_,g h.tail⟩;rcases us a with rfl|a
   .exact b
   exact h.head q a
  rename_i b;split
  .rename_i f;rw[mE]at f;refine Bc.2 ⟨λq a=>?_,h.tail⟩;show vJ k q.1=iA;rw[<-f];exact h.head q a
  rename_i f;have c:=yU (by simpa using b) (λe=>f ((mE _ _).2 e));refine Bc.2 ⟨λq a=>?_,h⟩;rcases Lb.1 a with rfl|a
  .exact c
  exact GI c (h.head q a)
theorem aBp{k:vB}{d:V}{L:List (vB×V)}(b:fS L)(a:vB):lk (uS k d L) a=if k=a then fA d else lk L a:=by induction L<;>grind [fS,lk,uS,EO,iJ,mE]
theorem ND{k:vB}{L:List (vB×V)}(h:fS L):fS (DW k L):=Mf _ h
theorem dy{k:vB}{L:List (vB×V)}(a:vB):lk (DW k L) a=if k=a then none else lk L a:=by grind [lk,DW,aJh,mE,EO,aE]
theorem fS.eq_of_lk{g i:List (vB×V)}(j:fS g)(l:fS i)(h:∀k,lk g k=lk i k):g=i:=by
 refine Qf (le:=fun(p q:vB×V)=>vJ p.1 q.1=iA) (λp q f r n m=>by rw[tZ n]at m;cases m) j l ?_;have m:∀{L:List (vB×V)},fS L->L.Nodup:=λo=>o.imp (fun{a b} c e=>by rw[e,mN]at c;cases c);refine(List.perm_ext_iff_of_nodup (m j) (m l)).2 λp=>?_;constructor
 .intro f;exact lz (k:=p.1) (d:=p.2) (by rw[<-h];exact UC j f)
 intro f;exact lz (k:=p.1) (d:=p.2) (by rw[h];exact UC l f)
end
def fE(L:List (vB×DataW Unit)):DataW Unit:=.map (L.map λp=>(kL p.1,p.2))
def NX(L:List (vB×DataW Unit))(k:vB):(L.map λp=>(kL p.1,p.2)).find? (λp=>p.1.sameKey (kL k))=(L.find? (λp=>p.1.toList==k.toList)).map (λp=>(kL p.1,p.2)):=by
 rw[List.find?_map];congr 1;apply congrFun;congr 1;funext p;exact CU p.1 k
def af(L:List (vB×DataW Unit))(k:vB)(z:DataW Unit):(fE L).atKey (kL k) z=(lk L k).getD z:=by
 simp only[fE,DataW.atKey];rw[NX,lk];cases L.find? (λp=>p.1.toList==k.toList)<;>rfl
def ul(L:List (vB×DataW Unit))(k:vB):has (fE L) (kL k)=(lk L k).isSome:=by
 have h:∀(l:List (Lit×DataW Unit)) f,l.any f=(l.find? f).isSome:=λl f=>by rw[Qb,List.find?_isSome,Zd]
 rw[fE,has_eq,h,NX,lk];cases L.find? (λp=>p.1.toList==k.toList)<;>rfl
def ng(L:List (vB×DataW Unit)):Maps.size (fE L)=cB L:=by rw[fE,size_eq,Xa]
def vv(k:vB)(q:vB×DataW Unit):ChangeMaps.notKey (kL k) (kL q.1,q.2)=!(q.1.toList==k.toList):=by
 show(!(kL q.1).sameKey (kL k))=_;rw[CU]
def DZ(k:vB)(L:List (vB×DataW Unit)):(L.map λp=>(kL p.1,p.2)).filter (ChangeMaps.notKey (kL k))=(DW k L).map λp=>(kL p.1,p.2):=by
 rw[List.filter_map,DW];congr 1;apply List.filter_congr;intro q _;exact vv k q
def tb(k:vB)(L:List (vB×DataW Unit)):(fE L).del (kL k)=fE (DW k L):=by
 rw[fE,DataW.del_eq,ChangeMaps.delKey,DZ,fE]
def XQ(k:vB)(d:DataW Unit){L:List (vB×DataW Unit)}(g:fS L)(e:lk L k=none):DataW.insert (kL k,d) (L.map λp=>(kL p.1,p.2))=(uS k d L).map λp=>(kL p.1,p.2):=by
 induction L with
 |nil=>rfl
 |cons p r i=>
  have b:=aFn e;rw[Fc,DataW.insert,uS];by_cases h:vJ p.1 k=iA
  .rw[Ja (by rw[RY,tZ h];simp),Ma h,Fc,i g.tail (ma λq f=>b q (Sb _ f))]
  have a:=b p (Kc ..);have c:=yU (by simpa using h) a;rw[Ma (by rw[RY];exact c),Ja h,Ja (by rw[aE a];simp)];rfl
def dd(k:vB)(d:DataW Unit){L:List (vB×DataW Unit)}(a:fS L):uS k d (DW k L)=uS k d L:=by grind [fS,uS,DW,fS.eq_of_lk,kx,ND,aBp,dy]
def wh(k:vB)(d:DataW Unit){L:List (vB×DataW Unit)}(a:fS L):(fE L).put (kL k) d=fE (uS k d L):=by
 rw[fE,DataW.put_eq,ChangeMaps.putKey,DZ,XQ k d (ND a) (by rw[dy,Ma rfl]),dd k d a,fE]
theorem sU(L:List (vB×DataW Unit)):strKeys (fE L)=L.map (λp=>p.1.data.toList):=by
 show((L.map λp=>(kL p.1,p.2)).map λp=>strOf p.1)=_;rw[Vd];rfl
end
def kU(x y:hC):Bool:=x.N.toList==y.N.toList&&x.V.toList==y.V.toList
def uH:List hC->List hC->Bool
 |[],[]=>iA
 |x::r,y::q=>kU x y&&uH r q
 |_,_=>gA
def jw(x y:hC):kU x y=iA ↔ x=y:=by
 unfold kU;rw[Sa,Lg,Lg];constructor
 .rintro ⟨a,b⟩;cases x;cases y
  simp only[hC.mk.injEq];exact⟨toList_inj a,toList_inj b⟩
 rintro rfl;exact⟨rfl,rfl⟩
theorem cX:∀(a b:List hC),uH a b=iA ↔ a=b
 |[],[]=>by simp[uH]
 |[],_::_=>by simp[uH]
 |_::_,[]=>by simp[uH]
 |x::r,y::q=>by
  rw[uH,Sa,jw,cX r q];simp
def nb{a b:List hC}(h:cB a≠cB b):uH a b=gA:=by
 rw[Yc];intro c;exact h (by rw[(cX a b).1 c])
def gc(a b:List hC)(k:Nat)(c:k<cB a)(d:k<cB b):uH (a.drop k) (b.drop k)=(kU a[k] b[k] &&uH (a.drop (k+1)) (b.drop (k+1))):=by
 rw[Cb c,Cb d,uH]
def dO(a:List hC):Bool:=decide ((yB a).2.1=0) &&uH (yB a).1 a
def pD:List hC->vB
 |[]=>pA
 |l::r=>vM l.N++eG l.V++pD r
def bI(a:List hC):vB:=uB 1 (cB a:Nat)++pD a
def wI(a:List hC):vB:=if dO a=iA then bI a else pA
def sM:∀(a b:List hC),pD (a++b)=pD a++pD b
 |[],b=>by simp[pD]
 |l::r,b=>by
  show vM l.N++eG l.V++pD (r++b)=vM l.N++eG l.V++pD r++pD b;rw[sM r b,Wa (b:=pD r)]
theorem kT(a:List hC)(k:Nat)(h:k<cB a):pD (a.take (k+1))=pD (a.take k)++(vM a[k].N++eG a[k].V):=by
 rw[Pa h,sM];simp[pD]
def MS(a:List hC):cB (yB a).1<=16:=by grind [yB,CF,AE]
theorem WF{a:List hC}(h:(yB a).2.1=0):cB a<=16:=by
 unfold yB at h;split at h;exact absurd h (by simp);omega
theorem MQ{a:List hC}(h:dO a=iA):cB a<=16:=by grind [dO,WF]
def zh{a:List hC}(h:dO a=iA):yB a=(a,0,(yB a).2.2):=by grind [dO,yB,cX]
theorem KT{x y:vB}(h:x.data.toList=y.data.toList):x=y:=by
 cases x;cases y
 simp only[ByteArray.mk.injEq];exact Array.toList_inj.1 h
theorem DR(x y:vB):(x++y).data.toList=x.data.toList++y.data.toList:=by simp
theorem zP(s:vB)(i j:Nat):(s.extract i j).data.toList=(s.data.toList.take j).drop i:=by
 rw[ByteArray.data_extract,Array.toList_extract,List.extract_eq_drop_take']
theorem fR(s:vB):s.size=cB s.data.toList:=by simp
structure Rd where
 rest:vB
 H:Bool
def bG(n:Nat)(r:Rd):vB×Rd:=if r.rest.size<n then(pA,⟨r.rest,iA⟩) else(r.rest.extract 0 n,⟨r.rest.extract n r.rest.size,r.H⟩)
def dK(k:Nat)(r:Rd):Nat×Rd:=(uX (bG k r).1.data.toList,(bG k r).2)
def rG(k:Nat)(r:Rd):vB×Rd:=bG (dK k r).1 (dK k r).2
theorem AL(n:Nat)(r:Rd):(bG n r).1.size<=n/\(bG n r).1.size<=r.rest.size/\(bG n r).2.rest.size<=r.rest.size:=by
 unfold bG;split;exact ⟨by simp,by simp,Ia _⟩;refine ⟨?_,?_,?_⟩<;>simp<;>omega
def DC{n:Nat}{r:Rd}(h:(bG n r).2.H=gA):r.H=gA/\(bG n r).1.size=n/\r.rest=(bG n r).1++(bG n r).2.rest:=by
 unfold bG at *;split at h;exact absurd h (by simp)
 rename_i a;rw[Ja a];refine⟨h,by simp;omega,?_⟩;apply KT;rw[DR,zP,zP,Kf,fR,Rb,Za]
def qV{n:Nat}{r:Rd}{t q:vB}(h:r.rest=t++q)(a:t.size=n):bG n r=(t,⟨q,r.H⟩):=by grind [bG,KT,zP,DR,fR]
def QH{k:Nat}{r:Rd}(h:(rG k r).2.H=gA):r.H=gA/\r.rest=uB k ((rG k r).1.size:Nat)++((rG k r).1++(rG k r).2.rest):=by
 obtain⟨f,g,i⟩:=DC (r:=(dK k r).2) h;obtain⟨b,c,d⟩:=DC (n:=k) (r:=r) f;refine⟨b,?_⟩;have e:uB k ((rG k r).1.size:Nat)=(bG k r).1:=by
  show uB k ((bG (dK k r).1 (dK k r).2).1.size:Nat)=_;rw[g];have:=px (bG k r).1.data.toList k (by rw[<-fR];exact c);show uB k (uX (bG k r).1.data.toList:Nat)=_;rw[this]
 rw[e];have a:(bG k r).2.rest=(rG k r).1++(rG k r).2.rest:=i;rw[<-a];exact d
def IN{k:Nat}{r:Rd}{t q:vB}(h:r.rest=uB k (t.size:Nat)++(t++q))(d:t.size<256 ^ k):rG k r=(t,⟨q,r.H⟩):=by
 have a:=qV (n:=k) h (oB k _);have b:(dK k r).1=t.size:=by
  show uX (bG k r).1.data.toList=_;rw[a];exact pT k t.size d
 have c:(dK k r).2=⟨t++q,r.H⟩:=by
  show(bG k r).2=_;rw[a]
 rw[rG,b,c];exact qV rfl rfl
theorem qq(k:Nat)(r:Rd):(rG k r).1.size<=r.rest.size/\(rG k r).2.rest.size<=r.rest.size:=by grind [rG,dK,bG,AL]
def mm(k:Nat)(r:Rd):(dK k r).1<256 ^ k:=by
 have h:=GH (bG k r).1.data.toList;have a:=(AL k r).1;have b:256 ^ cB (bG k r).1.data.toList<=256 ^ k:=Sc (by omega) (by rw[<-fR];exact a);show uX (bG k r).1.data.toList<_;omega
def zF(x a:Int)(w:jA):bM 41 #[dB x,dB a] w (.bool (dC x 0 a)):=by
 by_cases b:0<=x
 .by_cases c:x<=a
  .have e:dC x 0 a=iA:=by simp[dC,b,c]
   rw[e];go_enter func41,ntmps41;go_wp2;go_ret;exact⟨rfl,rfl⟩
  have e:dC x 0 a=gA:=by simp[dC,c]
  rw[e];go_enter func41,ntmps41;go_wp2;go_ret;exact⟨rfl,rfl⟩
 have e:dC x 0 a=gA:=by simp[dC,b]
 rw[e];go_enter func41,ntmps41;go_wp2;go_ret;exact⟨rfl,rfl⟩
def km{C D:Prop}[Decidable C][Decidable D]{α:Type}{x y:α}(h:C ↔ D):(if C then x else y)=if D then x else y:=by grind
def tK{a b c d:Int}(e:a=c)(f:b=d):Ending.returned (.tuple #[dB a,dB b])=.returned (.tuple #[dB c,dB d]):=by rw[e,f]
def qT(t:vB)(v:Nat):Nat->Nat
 |0=>v
 |j+1=>qT t v j*64+aD t (j+1) % 64
def rP(t:vB)(n v a:Nat):Nat×Nat:=
 if n<=t.size/\(∀k,k<n->1<=k->aD t k / 64=2)/\a<=qT t v (n-1)/\yc (qT t v (n-1)) then(qT t v (n-1),n) else(0,0)
def aLk(t:vB)(h:aD t 0 / 32=6):JT t=rP t 2 (aD t 0 % 32) 128:=by
 rw[aFj t h,rP];have e:qT t (aD t 0 % 32) (2-1)=aD t 0 % 32*64+aD t 1 % 64:=rfl;rw[e];refine km ?_;constructor
 .rintro ⟨a,b,c⟩;refine⟨a,λk _ _=>?_,c,by unfold yc aJt;simp;omega⟩;have:k=1:=by omega
  subst this;exact b
 rintro ⟨a,b,c,_⟩;exact⟨a,b 1 (by omega) (by omega),c⟩
def aLl(t:vB)(h:aD t 0 / 16=14):JT t=rP t 3 (aD t 0 % 16) 2048:=by
 rw[vf t h,rP];have e:qT t (aD t 0 % 16) (3-1)=(aD t 0 % 16*64+aD t 1 % 64)*64+aD t 2 % 64:=rfl;rw[e];refine km ?_;constructor
 .rintro ⟨b,a,c,d,f⟩;refine⟨b,λk _ _=>?_,d,f⟩;have:k=1\/k=2:=by omega
  obtain rfl|rfl:=this;exact a;exact c
 rintro ⟨b,a,c,d⟩;exact⟨b,a 1 (by omega) (by omega),a 2 (by omega) (by omega),c,d⟩
def aLm(t:vB)(h:aD t 0 / 8=30):JT t=rP t 4 (aD t 0 % 8) 65536:=by
 rw[aBh t h,rP];have e:qT t (aD t 0 % 8) (4-1)=((aD t 0 % 8*64+aD t 1 % 64)*64+aD t 2 % 64)*64+aD t 3 % 64:=rfl;rw[e];refine km ?_;constructor
 .rintro ⟨b,a,c,d,f,g⟩;refine⟨b,λk _ _=>?_,f,g⟩;have:k=1\/k=2\/k=3:=by omega
  obtain rfl|rfl|rfl:=this;exact a;exact c;exact d
 rintro ⟨b,a,c,d⟩;exact⟨b,a 1 (by omega) (by omega),a 2 (by omega) (by omega),a 3 (by omega) (by omega),c,d⟩
def aj(t:vB)(v:Nat):∀j,qT t v j<(v+1)*64 ^ j
 |0=>by simp[qT]
 |j+1=>by
  have:=aj t v j;rw[qT,Od,<-Nat.mul_assoc];omega
def ZC(t:vB)(w:jA)(Q:0<t.size)(W:t.size<=maxLen):
 bM 252 #[tA t] w (.tuple #[dB ((JT t).1:Nat),dB ((JT t).2:Nat)]):=by
 unfold maxLen at W;have h:t[0].toNat<256:=t[0].toNat_lt;have a:fB _:=zU t 0 Q;by_cases p:t[0].toNat<128
 .have E:fB (JT t=(t[0].toNat,1)):=by show _=_;rw[a.o];exact aFi t (by rw[<-a.o];exact p)
  rw[E.o];go_enter func252,ntmps252;go_wp2;go_ret2;exact⟨rfl,rfl⟩
 have c:(((t[0].toNat:Int) / 32==6)=iA/\JT t=rP t 2 (t[0].toNat % 32) 128)\/((t[0].toNat:Int) / 32==6)=gA/\((((t[0].toNat:Int) / 16==14)=iA/\JT t=rP t 3 (t[0].toNat % 16) 2048)\/((t[0].toNat:Int) / 16==14)=gA/\((((t[0].toNat:Int) / 8==30)=iA/\JT t=rP t 4 (t[0].toNat % 8) 65536)\/((t[0].toNat:Int) / 8==30)=gA/\JT t=(0,0))):=by
  by_cases z:t[0].toNat / 32=6
  .exact Ca ⟨by simp;omega,by rw[a.o];exact aLk t (by rw[<-a.o];exact z)⟩
  refine La ⟨by simp;omega,?_⟩;by_cases s:t[0].toNat / 16=14
  .exact Ca ⟨by simp;omega,by rw[a.o];exact aLl t (by rw[<-a.o];exact s)⟩
  refine La ⟨by simp;omega,?_⟩;by_cases u:t[0].toNat / 8=30
  .exact Ca ⟨by simp;omega,by rw[a.o];exact aLm t (by rw[<-a.o];exact u)⟩
  exact La ⟨by simp;omega,by rw[a.o]at p z s u;exact aBi t (by omega) z s u⟩
 have g:=gB c;clear c;go_enter func252,ntmps252;go_upto_block 0 with fail;go_cut [5,6,7] (λX G h Z=>∃n v d:Nat,X=dB n/\G=dB v/\h=dB d/\2<=n/\n<=4/\(v+1)*64 ^ (n-1)<=8388608/\JT t=rP t n v d/\d<=65536/\Z=w)
 case first=>
  obtain⟨N,E⟩|⟨N,⟨O,E⟩|⟨O,⟨P,E⟩|⟨P,E⟩⟩⟩:=g.o
  all_goals
   have E:=gB E;clear g
  .go_wp2;go_meet;exact⟨2,t[0].toNat % 32,128,rfl,by go_num,rfl,by omega,by omega,by omega,E.o,by omega,rfl⟩
  .go_wp2;go_meet;exact⟨3,t[0].toNat % 16,2048,rfl,by go_num,rfl,by omega,by omega,by omega,E.o,by omega,rfl⟩
  .go_wp2;go_meet;exact⟨4,t[0].toNat % 8,65536,rfl,by go_num,rfl,by omega,by omega,by omega,E.o,by omega,rfl⟩
  go_wp2;go_ret2;exact⟨tK (by simp[E.o]) (by simp[E.o]),rfl⟩
 clear g;obtain⟨n,v,d,rfl,rfl,rfl,T,U,L,H,S,rfl⟩:=hcut;have E:=gB H;have o:=gB L;clear H L;by_cases h:t.size<n
 .have b:fB (JT t=(0,0)):=by show _=_;rw[E.o,rP,Ja (λh=>by have:=h.1;omega)]
  go_wp2;go_ret2;exact⟨tK (by simp[b.o]) (by simp[b.o]),rfl⟩
 go_wp2;go_loop [6,8] (λG i=>∃j V:Nat,1<=j/\j<=n/\i=dB j/\G=dB V/\V<8388608/\fB (V=qT t v (j-1)/\∀k,k<j->1<=k->aD t k / 64=2)) (λ_ i=>n-(intOf i).toNat)
 case atStart=>exact⟨1,v,by omega,by omega,rfl,rfl,by have p:=o.o;have s:=Nat.le_mul_of_pos_right (v+1) (show 0<64 ^ (n-1) from Zf (by omega));omega,rfl,λk K h=>absurd h (by omega)⟩
 case round=>
  obtain⟨j,V,B,m,rfl,rfl,m,q⟩:=hrel;by_cases F:j<n
  .have C:j<t.size:=by omega
   have R:t[j].toNat<256:=t[j].toNat_lt;have x:fB _:=zU t j C;by_cases J:t[j].toNat / 64=2
   .have A:((t[j].toNat:Int) / 64 != 2)=gA:=by simp;omega
    have I:fB (qT t v j=V*64+t[j].toNat % 64):=by
     show _=_;obtain⟨m,rfl⟩:∃m,j=m+1:=⟨j-1,by omega⟩
     rw[qT,x.o,q.o.1];rfl
    go_wp2;refine⟨⟨j+1,V*64+t[j].toNat % 64,by omega,by omega,by go_num,by go_num,?_,I.o.symm,?_⟩,by simp[intOf];omega⟩
    .have p:=aj t v j;rw[I.o]at p;have u:(v+1)*64 ^ j<=(v+1)*64 ^ (n-1):=Hf (Ia _) (Sc (by omega) (by omega));have:=o.o;omega
    intro k K D;by_cases e:k=j
    .subst e;rw[<-x.o];exact J
    exact q.o.2 k (by omega) D
   have A:((t[j].toNat:Int) / 64 != 2)=iA:=by simp;omega
   have b:fB (JT t=(0,0)):=by show _=_;rw[E.o,rP,Ja (λh=>J (by rw[x.o];exact h.2.1 j F B))]
   go_wp2;go_ret2;exact⟨tK (by simp[b.o]) (by simp[b.o]),rfl⟩
  have y:fB (j=n):=by show _=_;omega
  have M:fB (qT t v (n-1)=V):=by show _=_;rw[<-y.o];exact q.o.1.symm
  have c:(V<d\/¬V<d/\1114111<V\/¬V<d/\¬1114111<V/\dC (V:Int) 55296 57343=iA)/\JT t=(0,0)\/¬V<d/\¬1114111<V/\dC (V:Int) 55296 57343=gA/\JT t=(V,n):=by
   rw[E.o,rP,M.o];by_cases f:V<d
   .exact Ca ⟨Ca f,Ja (λh=>by have:=h.2.2.1;omega)⟩
   by_cases l:1114111<V
   .exact Ca ⟨La (Ca ⟨f,l⟩),Ja (λh=>by have:=(YF h.2.2.2).1;omega)⟩
   by_cases r:55296<=V/\V<=57343
   .exact Ca ⟨La (La ⟨f,l,by simp[dC];omega⟩),Ja (λh=>(YF h.2.2.2).2 r)⟩
   exact La ⟨f,l,by simp[dC];omega,Ma ⟨by omega,λk K=>q.o.2 k (by have:=y.o;omega),by omega,aJs ⟨by omega,r⟩⟩⟩
  clear y;obtain⟨f|⟨f,l⟩|⟨f,l,r⟩,b⟩|⟨f,l,r,b⟩:=c
  all_goals
   have b:=gB b;go_wp2_with(go_at_call 103;refine dR (gE (by assumption) _) ?_);go_ret2;exact⟨tK (by simp[b.o]) (by simp[b.o]),rfl⟩
def MG(w:jA)(a:nC)(l:List Int):Prop:=l=[]\/∃b o,a=fA (iB b o)/\b<w.1.size/\∀i(h:i<cB l),w.cell? (iB b (o+i))=fA (dB l[i])
def MG.at{w:jA}{a:nC}{l:List Int}(h:MG w a l){i:Nat}(c:i<cB l):∃b o,a=fA (iB b o)/\b<w.1.size/\w.cell? (iB b (o+i))=fA (dB l[i]):=by grind [MG]
def eu{w:jA}{B:Nat}{e:oA}{a:nC}{c:Nat}{l:List Int}(h:w.ownsRow B e 1 (uA a (cB l) c) (cB l) (l.map (mA.int .i64))):MG w a l:=by
 obtain⟨_,o⟩|⟨g,f,b,k,q,m,_,_,p,d⟩:=h.2;exact Ca (Nb.1 o);simp only[mA.slice.injEq]at k;refine La ⟨g,0,k.1,eB m,λi n=>?_⟩;rw[Ya,cell_of_row w g i b _ _ m];have j:(b.toList.take (cB l*1))[i]?=(l.map (mA.int .i64))[i]?:=by rw[d]
 rw[Jb (by omega)]at j;rw[<-Yd,j];simp[Va n]
def aAy:∃i,prog.info? 3=fA i/\i.zero=fA (dB 0)/\i.size=1/\i.bytes=8:=by
 have h:(prog.info? 3).map (λi=>(i.zero,i.size,i.bytes))=fA (fA (dB 0),1,8):=by kernel_rfl
 obtain⟨i,b,a⟩:=Wb.1 h;simp only[Dc]at a;exact⟨i,b,a.1,a.2.1,a.2.2⟩
def tS:(prog.info? 190).map (λi=>(i.zero,i.size,i.bytes))=fA (fA (.agg #[tA pA,tA pA]),2,32):=by kernel_rfl
abbrev aFk:Inhabited hC:=⟨⟨pA,pA⟩⟩
def aJn:NeqAt prog 190 (λx:hC=>.agg #[tA x.N,tA x.V]) kU:=by
 refine⟨λx y w=>?_,GuardAt.agg _ (by kernel_rfl)⟩;have f:=underlying9;have e:=isAgg9;have g:=sizeOf9;have c:prog.underlying 190=fA (.struct (prog.fieldsOf 190)):=by kernel_rfl
 have d:prog.stoodInHeld 190=gA:=by kernel_rfl
 rw[run_neq_struct,show(10000:Nat)=9999+1 from rfl,run_equalIn_agg w 9999 190 _ _ c d];simp only[Program.fieldsOf,underlying190];go_simp;by_cases a:x.N.toList=y.N.toList<;>by_cases b:x.V.toList=y.V.toList<;>simp[kU,a,b]
structure wF where
 B:List hC
 bits:Int
structure fH where
 K:Int
 T:vB
 R:vB
 U:Int
 P:List wF
def ac(w:jA)(b o:Nat)(x:wF):Prop:=
 ∃a c,w.cell? (iB b o)=fA (uA a (cB x.B) c)/\w.cell? (iB b (o+1))=fA (dB x.bits)/\vD w a x.B/\cB x.B<=c
def aHz(w:jA)(b o:Nat)(a:List wF):Prop:=∀i(h:i<cB a),ac w b (o+i*2) a[i]
def gJ(w:jA)(a:nC)(c:List wF):Prop:=c=[]\/∃b o,a=fA (iB b o)/\b<w.1.size/\aHz w b o c
def ac.z{w f:jA}{b o:Nat}{x:wF}(h:ac w b o x)(d:b<w.1.size)(e:zB w f):ac f b o x:=by
 obtain⟨a,c,g,i,j,k⟩:=h;exact⟨a,c,(e.cell d).trans g,(e.cell d).trans i,j.z e,k⟩
def gJ.z{w e:jA}{a:nC}{f:List wF}(h:gJ w a f)(d:zB w e):gJ e a f:=by
 obtain h|⟨b,o,rfl,c,h⟩:=h;exact Ca h;exact La ⟨b,o,rfl,Bb c d.size,λi g=>(h i g).z c d⟩
def gJ.atc{w:jA}{a:nC}{c:List wF}(h:gJ w a c){i:Nat}(g:i<cB c):
 ∃b o d e,a=fA (iB b o)/\b<w.1.size/\w.cell? (iB b (o+i*2))=fA (.slice d (cB c[i].B) e)/\w.cell? (iB b (o+i*2+1))=fA (dB c[i].bits)/\vD w d c[i].B/\cB c[i].B<=e:=by
 obtain rfl|⟨b,o,rfl,f,h⟩:=h;exact absurd g (by simp);obtain ⟨d,e,h⟩:=h i g;exact⟨b,o,d,e,rfl,f,h⟩
def gJ.at{w:jA}{a:nC}{c:List wF}(h:gJ w a c){i:Nat}(m:i<cB c):
 ∃b o d e,a=fA (iB b o)/\b<w.1.size/\w.cell? (iB b (o+i*2))=fA (.slice d (cB c[i].B) e)/\w.cell? (iB b (o+i*2+1))=fA (dB c[i].bits)/\vD w d c[i].B:=by
 obtain⟨b,o,d,e,f,g,j,k,l,_⟩:=h.atc m;exact⟨b,o,d,e,f,g,j,k,l⟩
def qE.butS{g b o B:Nat}{w d:jA}{f:List hC}(h:qE w B (fA (iB b o)) f)(m:uD g w d)(p:b≠g):qE d B (fA (iB b o)) f:=by
 obtain h|⟨r,s,c,t,e,l,a,h⟩:=h;exact Ca h;simp only[Qa,Addr.mk.injEq,Cc]at e;obtain⟨rfl,rfl⟩:=e;have k:=m.block b (eB a) p;have n:∀j,d.cell? (iB b j)=w.cell? (iB b j):=λj=>jA.cell?_of_block k;exact La ⟨b,o,c,t,rfl,l,k.trans a,λi q=>by simp only[n];exact h i q⟩
def gN(w:jA)(B:Nat)(T:Nat->Nat)(n:Nat)(a:nC)(c:List hC):Prop:=
 c=[]\/∃g o b t,a=fA (iB g o)/\B<=g/\T g=n/\w.heap[g]?=fA (.cells b t (0,0))/\dP w g o c
def gN.B{w:jA}{B n:Nat}{T:Nat->Nat}{a:nC}{b:List hC}(h:gN w B T n a b):vD w a b:=by grind [gN,vD]
def gN.base{w:jA}{B b n:Nat}{T:Nat->Nat}{a:nC}{c:List hC}(h:gN w B T n a c)(d:b<=B):gN w b T n a c:=by grind [gN]
def gN.keep{w w':jA}{B n:Nat}{T c:Nat->Nat}{a:nC}{l:List hC}(h:gN w B T n a l)
(s:∀g,g<w.1.size->B<=g->T g=n->w'.heap[g]?=w.heap[g]?/\c g=n):gN w' B c n a l:=by
 obtain h|⟨g,o,b,t,e,f,p,k,h⟩:=h;exact Ca h;obtain ⟨d,m⟩:=s g (eB k) f p;have q:∀j,w'.cell? (iB g j)=w.cell? (iB g j):=λj=>jA.cell?_of_block d;exact La ⟨g,o,b,t,e,f,m,d.trans k,λi r=>by simp only[q];exact h i r⟩
def GD(w:jA)(B:Nat)(T:Nat->Nat)(i b o:Nat)(x:wF):Prop:=
 ∃a c,w.cell? (iB b o)=fA (uA a (cB x.B) c)/\w.cell? (iB b (o+1))=fA (dB x.bits)/\gN w B T (i+1) a x.B/\cB x.B<=c
def vG(w:jA)(B:Nat)(a:nC)(c:List wF):Prop:=
 c=[]\/∃g o b t T,a=fA (iB g o)/\B<=g/\w.heap[g]?=fA (.cells b t (0,0))/\T g=0/\∀i(h:i<cB c),GD w B T i g (o+i*2) c[i]
def GD.at{w:jA}{B i b o:Nat}{T:Nat->Nat}{x:wF}(h:GD w B T i b o x):ac w b o x:=by
 obtain⟨a,c,d,e,f,g⟩:=h;exact⟨a,c,d,e,f.B,g⟩
def vG.P{w:jA}{B:Nat}{a:nC}{b:List wF}(h:vG w B a b):gJ w a b:=by
 obtain h|⟨g,o,c,t,T,rfl,_,d,_,h⟩:=h;exact Ca h;exact La ⟨g,o,rfl,eB d,λi e=>(h i e).at⟩
def GD.keep{w w':jA}{B i b o:Nat}{T d:Nat->Nat}{x:wF}(h:GD w B T i b o x)(f:∀j,j<2->w'.cell? (iB b (o+j))=w.cell? (iB b (o+j)))
(r:∀g,g<w.1.size->B<=g->T g=i+1->w'.heap[g]?=w.heap[g]?/\d g=T g):GD w' B d i b o x:=by
 obtain⟨a,c,k,l,m,n⟩:=h;refine⟨a,c,(f 0 (by omega)).trans k,(f 1 (by omega)).trans l,m.keep λg q p e=>?_,n⟩;obtain⟨s,t⟩:=r g q p e;exact⟨s,t.trans e⟩
def vG.z{w k:jA}{B:Nat}{a:nC}{l:List wF}(h:vG w B a l)(d:zB w k):vG k B a l:=by
 obtain h|⟨g,o,c,t,T,rfl,n,f,p,h⟩:=h;exact Ca h;have b:=eB f;exact La ⟨g,o,c,t,T,rfl,n,(d.block g b).trans f,p,λi q=>(h i q).keep (λj _=>jA.cell?_of_block (d.block g b)) λm e _ _=>⟨d.block m e,rfl⟩⟩
def vG.but{g B:Nat}{w k:jA}{a:nC}{l:List wF}(h:vG w B a l)(e:uD g w k)(s:g<B):vG k B a l:=by
 obtain h|⟨d,o,c,t,T,rfl,m,b,p,h⟩:=h;exact Ca h;have f:=e.block d (eB b) (by omega);exact La ⟨d,o,c,t,T,rfl,m,f.trans b,p,λi q=>(h i q).keep (λj _=>jA.cell?_of_block f) λx r n _=>⟨e.block x r (by omega),rfl⟩⟩
def vG.mono{B B':Nat}{w:jA}{a:nC}{f:List wF}(h:vG w B a f)(d:B'<=B):vG w B' a f:=by
 obtain h|⟨g,o,b,t,T,rfl,q,e,j,h⟩:=h;exact Ca h;refine La ⟨g,o,b,t,T,rfl,by omega,e,j,λi k=>?_⟩;obtain⟨a,c,l,m,n,p⟩:=h i k;exact⟨a,c,l,m,n.base d,p⟩
def mJ(x:wF):Nat:=cB x.B+bE x.B
def yF:List wF->Nat
 |[]=>0
 |f::r=>mJ f+yF r
def pX(a b:List wF):yF (a++b)=yF a+yF b:=by induction a<;>grind [yF]
def CY(a:List wF)(k:Nat)(h:k<cB a):yF (a.take (k+1))=yF (a.take k)+mJ a[k]:=by
 rw[Pa h,pX];simp[yF]
def IK(a:List wF)(k:Nat):yF (a.take k)<=yF a:=by
 have:=pX (a.take k) (a.drop k);rw[Za]at this;omega
def PT(a:List wF)(k:Nat)(h:k<cB a):mJ a[k]<=yF a:=by
 have b:=CY a k h;have c:=IK a (k+1);omega
def FF(r:fH):Nat:=r.T.size+r.R.size+cB r.P+yF r.P
def CP(c:UInt8):Bool:=(97<=c&&c<=122) ||(48<=c&&c<=57) ||c==45||c==46
def sK(l:List UInt8):Bool:=l.all CP
def gG(s:vB):Bool:=decide (1<=s.size) &&decide (s.size<=40) &&sK s.data.toList
def YE(l:List UInt8)(c:UInt8):sK (l++[c])=(sK l&&CP c):=by simp[sK]
def ew{l:List UInt8}{k:Nat}(h:sK (l.take k)=gA):sK l=gA:=by grind [sK]
def vy(c:UInt8):CP c=decide ((97<=(c.toNat:Int)/\(c.toNat:Int)<=122)\/(48<=(c.toNat:Int)/\(c.toNat:Int)<=57)\/(c.toNat:Int)=45\/(c.toNat:Int)=46):=by
 have a:(c==45)=decide (c.toNat=45):=by rw[Qb];simp[<-UInt8.toNat_inj]
 have b:(c==46)=decide (c.toNat=46):=by rw[Qb];simp[<-UInt8.toNat_inj]
 rw[Qb];simp[CP,a,b,Df];omega
def OM(s:vB)(w:jA)(m:s.size<=maxLen):
 bM 129 #[tA s] w (.bool (gG s)):=by
 unfold maxLen at m;by_cases c:1<=s.size/\s.size<=40
 .have l:dC (s.size:Int) 1 40=iA:=by unfold dC;simp;omega
  have f:fB (gG s=sK s.data.toList):=by show gG s=_;simp[gG,c.1,c.2]
  have o:=c.1;have p:=c.2;clear c;go_enter func129,ntmps129;go_wp2_with(go_at_call 103;apply oC (zD _ _ _ _);rintro h rfl);go_loop [3,4] (λi _=>∃k:Nat,k<=s.size/\i=dB k/\sK (s.data.toList.take k)=iA) (λi _=>s.size-(intOf i).toNat)
  case atStart=>exact⟨0,Oa _,rfl,by simp[sK]⟩
  case round=>
   obtain⟨k,n,rfl,d⟩:=hrel;have b:fB _:=d;clear d l;by_cases g:k<s.size
   .have a:=YE (s.data.toList.take k) s[k];rw[<-rV s k g,b.o,Oc,vy]at a;have j:fB _:=a;clear a;go_wp2;all_goals first
     |(go_ret
       refine⟨tB ?_,rfl⟩;rw[f.o];refine(ew (k:=k+1) ?_).symm;rw[j.o,Xe];simp at *;omega)
     |(refine⟨⟨k+1,by omega,by go_num,?_⟩,by simp[intOf];omega⟩
       rw[j.o,Af];simp at *;omega)
   go_wp2;go_ret;exact⟨tB (by rw[f.o,<-b.o,Ra (by simp;omega)]),rfl⟩
 have l:dC (s.size:Int) 1 40=gA:=by unfold dC;simp;omega
 have f:fB (gG s=gA):=by show gG s=_;simp[gG];omega
 go_enter func129,ntmps129;go_wp2_with(go_at_call 103;apply oC (zD _ _ _ _);rintro h rfl);go_ret;exact⟨tB f.o.symm,rfl⟩
theorem YD(c:UInt8):okM [45,46] c=CP c:=by
 have e:decide (0<=Lib.indexByte [45,46] c)=(c==45||c==46):=by
  by_cases h:c=45
  .subst h;rfl
  by_cases a:c=46
  .subst a;rfl
  have b:((45:UInt8)==c)=gA:=by simpa using λe=>h e.symm
  have d:(c==45)=gA:=by simpa using h
  have f:((46:UInt8)==c)=gA:=by simpa using λe=>a e.symm
  have g:(c==46)=gA:=by simpa using a
  simp[Lib.indexByte,b,d,f,g]
 rw[okM,CP,e,Bool.or_assoc (_||_)]
def mi(s:vB):cT s 40 ⟨#[45,46]⟩=gG s:=by grind [cT,gG,sK,YD]
def OK(s:vB)(w:jA)(b:s.size<=maxLen):
 bM 210 #[tA s] w (.bool (gG s)):=by
 have H:fB _:=λW=>mi s ▸ JS s 40 ⟨#[45,46]⟩ W b;generalize gG s=R at *;go_enter func210,ntmps210;go_wp2_with fail;apply dR (H.o _);go_wp2;go_ret;exact⟨rfl,rfl⟩
def mO(f:nB):Bool:=gG f.N&&dC f.Y 0 f.data.size
def xu(b o:Nat)(f:nB)(w:jA)(i:w.cell? (iB b o)=fA (tA f.N))(j:w.cell? (iB b (o+1))=fA (tA f.data))(k:w.cell? (iB b (o+2))=fA (dB f.Y))
(l:f.N.size<=maxLen):
 gF 146 #[.pointer (fA (iB b o))] w (.bool (mO f)):=by
 have p:=mC.cells i;have q:=mC.cells j;have r:=mC.cells k;have n:=mC.there w;have g:=λd=>OK f.N d l;clear i j k l;by_cases c:gG f.N=iA
 .simp only[c]at g;have m:=λd=>zF f.Y f.data.size d;have E:fB (mO f=dC f.Y 0 f.data.size):=by show mO f=_;simp[mO,c]
  clear c;go_enter func146,ntmps146;go_wp2_with fail;refine bC (by kernel_rfl) (by kernel_rfl) ?_;repeat (go_big_quiet_step (first|(go_at_call 210;exact dD (g _))|(go_at_call 41;exact dD (m _))))
  refine wpQuiet_nil ?_;rintro _ ⟨x,rfl⟩;go_wp2;go_ret;exact⟨tB E.o.symm,x.h⟩
 have a:gG f.N=gA:=by simpa using c
 simp only[a]at g;have E:fB (mO f=gA):=by show mO f=_;simp[mO,a]
 clear c a;go_enter func146,ntmps146;go_wp2_with fail;refine bC (by kernel_rfl) (by kernel_rfl) ?_;repeat (go_big_quiet_step (first|(go_at_call 210;exact dD (g _))))
 refine wpQuiet_nil ?_;rintro _ ⟨x,rfl⟩;go_wp2;go_ret;exact⟨tB E.o.symm,x.h⟩
def nT(a:List nB)(i:Nat):Bool:=
 match a[i]? with
 |none=>iA
 |some f=>mO f&&(match i with
  |0=>iA
  |j+1=>match a[j]? with
   |none=>iA
   |some g=>Op.bytesLess g.N.toList f.N.toList)
def aT(a:List nB)(k:Nat):Bool:=(List.range k).all (nT a)
def fI(a:List nB):Bool:=aT a (cB a)
def AI(a:List nB)(k:Nat):aT a (k+1)=(aT a k&&nT a k):=by simp[aT,List.range_succ]
def eZ{a:List nB}{k n:Nat}(h:nT a k=gA)(b:k<n):aT a n=gA:=by grind [nT,aT]
def NT(a:nC)(y:Nat)(c:List nB)(w:jA)(z:wB w a c)(D:gO c)(s:cB c<=maxLen):
 gF 77 #[uA a (cB c) y] w (.bool (decide (cB c<=1000) &&fI c)):=by
 unfold maxLen at s;by_cases V:(1000:Int)<cB c
 .have E:fB ((decide (cB c<=1000) &&fI c)=gA):=by
   show _=_;rw[Ub (by omega)];rfl
  clear z D;go_enter func77,ntmps77;go_wp2;go_ret;exact⟨tB E.o.symm,jD⟩
 have E:fB ((decide (cB c<=1000) &&fI c)=aT c (cB c)):=by
  show _=_;rw[Ac (by omega)];rfl
 have F:fB (wB w a c):=z;have L:fB (gO c):=D;clear z D;go_enter func77,ntmps77;go_wp2;go_loopw [3,9] (λ_ i wr=>∃k:Nat,k<=cB c/\i=dB k/\aT c k=iA/\zB w wr) (λ_ i _=>cB c-(intOf i).toNat)
 case atStart=>exact⟨0,Oa _,rfl,rfl,jD⟩
 case round=>
  obtain⟨k,X,rfl,t,d⟩:=hrel;have n:fB (aT c k=iA):=t;clear t;by_cases l:k<cB c
  .obtain ⟨b,o,rfl,W,v,G,H⟩:=(F.o.z d).at l;have u:=L.o k l;have r:=λx:mC wr=>xu b (o+k*3) c[k] x.w' (x.cell v) (x.cell G) (x.cell H) u.1;have M:=mC.cells v;have P:=mC.there wr;clear v G H u;by_cases g:mO c[k]=iA
   .simp only[g]at r;by_cases O:(0:Int)<k
    .obtain ⟨U,Y,I,Q,q,R,S⟩:=(F.o.z d).at (i:=k-1) (by omega)
     simp only[Qa,Addr.mk.injEq,Cc]at I;obtain⟨rfl,rfl⟩:=I;have f:nT c k=Op.bytesLess c[k-1].N.toList c[k].N.toList:=by
      obtain⟨j,rfl⟩:∃j,k=j+1:=⟨k-1,by omega⟩
      simp[nT,Va l,Va (show j<cB c by omega),g]
     generalize c[k-1].N=K at q f;generalize c[k].N=J at M f;have N:=mC.cells q;have A:0<k:=by omega
     clear Q R S q g;by_cases B:Op.bytesLess K.toList J.toList=iA
     .have p:fB (aT c (k+1)=iA):=by show aT c (k+1)=iA;rw[AI,n.o,f,B];rfl
      clear f;go_wp2_with fail;refine bC (by kernel_rfl) (by kernel_rfl) ?_;repeat (go_big_quiet_step (first|(go_at_call 146;exact rC (r _))))
      refine wpQuiet_nil ?_;rintro _ ⟨x,rfl⟩;go_wp2;exact⟨⟨k+1,by omega,by go_num,p.o,d.trans (x.h.mono d.size)⟩,by simp[intOf];omega⟩
     have C:Op.bytesLess K.toList J.toList=gA:=by simpa using B
     have p:fB (aT c (cB c)=gA):=eZ (by rw[f];exact C) l;clear f B;go_wp2_with fail;refine bC (by kernel_rfl) (by kernel_rfl) ?_;repeat (go_big_quiet_step (first|(go_at_call 146;exact rC (r _))))
     refine wpQuiet_nil ?_;rintro _ ⟨x,rfl⟩;go_wp2;go_ret;exact⟨tB (by rw[E.o,p.o]),d.trans (x.h.mono d.size)⟩
    have f:nT c k=iA:=by
     obtain rfl:k=0:=by omega
     simp[nT,Va l,g]
    have p:fB (aT c (k+1)=iA):=by show aT c (k+1)=iA;rw[AI,n.o,f];rfl
    have A:decide (0<k)=gA:=by simp;omega
    clear f g;go_wp2_with fail;refine bC (by kernel_rfl) (by kernel_rfl) ?_;repeat (go_big_quiet_step (first|(go_at_call 146;exact rC (r _))))
    refine wpQuiet_nil ?_;rintro _ ⟨x,rfl⟩;go_wp2;exact⟨⟨k+1,by omega,by go_num,p.o,d.trans (x.h.mono d.size)⟩,by simp[intOf];omega⟩
   have m:mO c[k]=gA:=by simpa using g
   simp only[m]at r;have f:nT c k=gA:=by simp[nT,Va l,m]
   have p:fB (aT c (cB c)=gA):=eZ f l;clear f g m;go_wp2_with fail;refine bC (by kernel_rfl) (by kernel_rfl) ?_;repeat (go_big_quiet_step (first|(go_at_call 146;exact rC (r _))))
   refine wpQuiet_nil ?_;rintro _ ⟨x,rfl⟩;go_wp2;go_ret;exact⟨tB (by rw[E.o,p.o]),d.trans (x.h.mono d.size)⟩
  go_wp2;go_ret;have e:k=cB c:=by omega
  exact⟨tB (by rw[E.o,<-e];exact n.o.symm),d⟩
def pF(p:vB):vB:=if 1<=p.size/\p.size<=60000 then uB 4 p.size++uB 4 (qK p:Nat)++p else pA
def JL{p:vB}(h:1<=p.size/\p.size<=60000):(pF p).size=8+p.size:=by grind [pF,oB]
structure tE where
 K:Int
 T:vB
 X:vB
 U:Int
def yq(w:jA)(b o:Nat)(a:List tE):Prop:=
 ∀i(h:i<cB a),w.cell? (iB b (o+i*4))=fA (dB a[i].K)/\w.cell? (iB b (o+i*4+1))=fA (tA a[i].T)/\w.cell? (iB b (o+i*4+2))=fA (tA a[i].X)/\w.cell? (iB b (o+i*4+3))=fA (dB a[i].U)
def lI(w:jA)(a:nC)(c:List tE):Prop:=c=[]\/∃b o,a=fA (iB b o)/\b<w.1.size/\yq w b o c
def lI.z{w f:jA}{a:nC}{e:List tE}(h:lI w a e)(d:zB w f):lI f a e:=by
 obtain h|⟨b,o,rfl,c,h⟩:=h;exact Ca h;refine La ⟨b,o,rfl,Bb c d.size,λi m=>?_⟩;obtain⟨g,j,k,l⟩:=h i m;exact⟨by rw[<-g];exact d.cell c,by rw[<-j];exact d.cell c,by rw[<-k];exact d.cell c,by rw[<-l];exact d.cell c⟩
def lI.at{w:jA}{a:nC}{c:List tE}(h:lI w a c){i:Nat}(e:i<cB c):
 ∃b o,a=fA (iB b o)/\b<w.1.size/\w.cell? (iB b (o+i*4))=fA (dB c[i].K)/\w.cell? (iB b (o+i*4+1))=fA (tA c[i].T)/\w.cell? (iB b (o+i*4+2))=fA (tA c[i].X)/\w.cell? (iB b (o+i*4+3))=fA (dB c[i].U):=by
 obtain rfl|⟨b,o,rfl,d,h⟩:=h;exact absurd e (by simp);exact ⟨b,o,rfl,d,h i e⟩
def LJ(w:jA)(B:Nat)(a:nC)(c:List tE):Prop:=
 c=[]\/∃g o b t,a=fA (iB g o)/\B<=g/\w.heap[g]?=fA (.cells b t (0,0))/\yq w g o c
def LJ.recs{w:jA}{B:Nat}{a:nC}{b:List tE}(h:LJ w B a b):lI w a b:=by grind [LJ,lI]
def KF{w:jA}{B:Nat}{e:oA}{a:nC}{k:Nat}{l:List tE}
(h:w.ownsRow B e 4 (uA a (cB l) k) (cB l) (l.flatMap λx=>[dB x.K,tA x.T,tA x.X,dB x.U])):LJ w B a l:=by
 obtain⟨_,t⟩|⟨g,n,b,o,p,d,_,_,u,m⟩:=h.2;exact Ca (Nb.1 t);simp only[mA.slice.injEq]at o;have q:∀(l:List tE) i(c:i<cB l),(l.flatMap λx=>[mA.int .i64 x.K,tA x.T,tA x.X,dB x.U])[i*4]?=fA (dB l[i].K)/\(l.flatMap λx=>[mA.int .i64 x.K,tA x.T,tA x.X,dB x.U])[i*4+1]?=fA (tA l[i].T)/\(l.flatMap λx=>[mA.int .i64 x.K,tA x.T,tA x.X,dB x.U])[i*4+2]?=fA (tA l[i].X)/\(l.flatMap λx=>[mA.int .i64 x.K,tA x.T,tA x.X,dB x.U])[i*4+3]?=fA (dB l[i].U):=by
  intro l;induction l with
  |nil=>intro i c;exact absurd c (by simp)
  |cons x r v=>
   intro i c;cases i with
   |zero=>simp
   |succ i=>
    have:=v i (by simpa using c);simp only[Xc,Sd,Mb,Ec];refine⟨?_,?_,?_,?_⟩;rw[show(i+1)*4=i*4+1+1+1+1 by omega,Ga,Ga,Ga,Ga];exact this.1;rw[show(i+1)*4+1=i*4+1+1+1+1+1 by omega,Ga,Ga,Ga,Ga];exact this.2.1;rw[show(i+1)*4+2=i*4+2+1+1+1+1 by omega,Ga,Ga,Ga,Ga];exact this.2.2.1;rw[show(i+1)*4+3=i*4+3+1+1+1+1 by omega,Ga,Ga,Ga,Ga];exact this.2.2.2
 refine La ⟨g,0,b,e,o.1,p,d,λi c=>?_⟩;have f:∀j,j<cB l*4->b[j]?=(l.flatMap λx=>[mA.int .i64 x.K,tA x.T,tA x.X,dB x.U])[j]?:=λj s=>by
  rw[<-m,Jb s,Yd]
 rw[cell_of_row w g _ b _ _ d,cell_of_row w g _ b _ _ d,cell_of_row w g _ b _ _ d,cell_of_row w g _ b _ _ d,Ya,f _ (by omega),f _ (by omega),f _ (by omega),f _ (by omega)];exact q l i c
def iD:List tE->Nat
 |[]=>0
 |f::r=>f.T.size+f.X.size+iD r
def eT(a b:List tE):iD (a++b)=iD a+iD b:=by induction a<;>grind [iD]
def yT(a:List tE)(k:Nat)(h:k<cB a):iD (a.take (k+1))=iD (a.take k)+(a[k].T.size+a[k].X.size):=by
 rw[Pa h,eT];simp[iD]
def oX(a:List tE)(k:Nat):iD (a.take k)<=iD a:=by
 have:=eT (a.take k) (a.drop k);rw[Za]at this;omega
