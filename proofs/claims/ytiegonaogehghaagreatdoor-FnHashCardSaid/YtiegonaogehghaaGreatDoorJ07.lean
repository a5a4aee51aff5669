import Derived.Maps.Ext
import Derived.Sort.KeysCollected
import Derived.Test.YtiegonaogehghaaGreatDoorJ06
import Derived.Deep.DeepCutAuto
import Derived.Deep.CutBlock
set_option maxRecDepth 100000
set_option maxHeartbeats 4000000
set_option linter.defProp false
open Option renaming some->bA
open Bool renaming false->cA,true->dA
open ByteArray renaming empty->kA
open List renaming length->yA
namespace Go.Proofs.YtiegonaogehghaaGreatDoor
open Go renaming World->eA,Value->iA,TypeId->jA
open Value renaming string->oA,slice->pA
open Go.RowKit Tryz
structure eB(S:Nat→Prop)(w w':World):Prop where
 os:w'.os=w.os
 tape:w'.tape=w.tape
 output:w'.output=w.output
 size:w.1.size≤w'.1.size
 block:∀k,k<w.1.size→¬S k→w'.heap[k]?=w.heap[k]?
def eB.refl(S:Nat->Prop)(w:eA):eB S w w:=⟨rfl,rfl,rfl,Ia _,λ_ _ _=>rfl⟩
def eB.trans{S:Nat->Prop}{a b c:eA}(h:eB S a b)(k:eB (λi=>S i\/a.1.size<=i) b c):eB S a c:=
 ⟨k.os.trans h.os,k.tape.trans h.tape,k.output.trans h.output,Ua h.size k.size,λi e f=>(k.block i (Bb e h.size) (λd=>by obtain d|d:=d;exact f d;omega)).trans (h.block i e f)⟩
def eB.trans'{S:Nat->Prop}{a b c:eA}(h:eB S a b)(k:eB S b c):eB S a c:=
 ⟨k.os.trans h.os,k.tape.trans h.tape,k.output.trans h.output,Ua h.size k.size,λi d e=>(k.block i (Bb d h.size) e).trans (h.block i d e)⟩
def eB.mono{S S':Nat->Prop}{a b:eA}(h:eB S a b)(f:∀i,i<a.1.size->S i->S' i):eB S' a b:=
 ⟨h.os,h.tape,h.output,h.size,λi c e=>h.block i c (λd=>e (f i c d))⟩
def eB.of{S:Nat->Prop}{a b:eA}(h:tB a b):eB S a b:=⟨h.os,h.tape,h.output,h.size,λk c _=>h.block k c⟩
def eB.but{g:Nat}{a b:eA}(h:pD g a b):eB (·=g) a b:=⟨h.os,h.tape,h.output,h.size,λk c d=>h.block k c d⟩
def eB.grown{r:Option Nat}{a b:eA}(h:a.grownBy b r):eB (λk=>r=bA k) a b:=⟨h.os,h.tape,h.output,h.size,λk c d=>h.block k c (λe=>d e.symm)⟩
def eB.below{S:Nat->Prop}{B:Nat}{a b:eA}(h:eB S a b)(e:B<=a.1.size)(d:∀k,k<B->¬S k):Below B a b:=
 ⟨h.os,h.tape,h.output,h.size,λk c=>h.block k (by omega) (d k c)⟩
def eB.drew{S:Nat->Prop}{a b:eA}(h:eB S a b):eB S a b.drew:=⟨h.os,h.tape,h.output,h.size,h.block⟩
def eB.setCell{S:Nat->Prop}{a b:eA}(h:eB S a b){g:Nat}(c:S g\/a.1.size<=g)(o:Nat)(v:iA):eB S a (b.setCell (dB g o) v):=
 h.trans ((eB.but ((pD.refl g b).setCell o v)).mono λi _ e=>by subst e;exact c)
def eB.blk{S:Nat->Prop}{a b:eA}(h:eB S a b){g:Nat}{c:Array iA}{t:jA}(d:gB a g c t)(e:¬S g):gB b g c t:=(h.block g (aB d) e).trans d
def eB.row{S:Nat->Prop}{a b:eA}(h:eB S a b){B:Nat}{e:jA}{c:Nat}{v:iA}{n:Nat}{k:List iA}(j:a.ownsRow B e c v n k)(o:∀g,v.ownBlock=bA g->¬S g):b.ownsRow B e c v n k:=by
 refine⟨j.1,?_⟩;obtain l|⟨g,d,f,rfl,m,i,r⟩:=j.2;exact Ca l;exact La ⟨g,d,f,rfl,m,(h.block g (aB i) (o g rfl)).trans i,r⟩
def eB.map{H:Type}{S:Nat->Prop}{a b:eA}(h:eB S a b){P:Program}{k:jA}{R:iA->Option (DataW H×List MemPlace)}{m n:Nat}{D:DataW H}(e:a.ownsMap P k R m n D)(i:¬S m):b.ownsMap P k R m n D:=by
 have d:=e.lt;obtain⟨f,c,g,r⟩:=e;exact⟨f,c,(h.block m d i).trans g,r⟩
section
open Go.Maps
def kL(s:nB):Lit:=.string s.data.toList
theorem xZ(s:nB):kL s=.string s.toList:=by rw[kL,ByteArray.toList_eq]
theorem aDg{x y:nB}(h:kL x=kL y):x=y:=by
 rw[xZ,xZ]at h;exact toList_inj (by simpa using h)
def JG:∀x y:List UInt8,bytesBefore x y=Op.bytesLess x y
 |[],[]=>rfl
 |[],_::_=>rfl
 |_::_,[]=>rfl
 |a::x,b::y=>by rw[bytesBefore,Op.bytesLess,JG x y]
def uJ(x y:nB):Bool:=Op.bytesLess x.toList y.toList
def mN(x:nB):uJ x x=cA:=kH _
def GQ{x y z:nB}(a:uJ x y=dA)(b:uJ y z=dA):uJ x z=dA:=gJ _ _ _ a b
def oZ{x y:nB}(h:uJ x y=dA):uJ y x=cA:=tP h
def bV{x y:nB}(h:uJ x y=cA)(a:x≠y):uJ y x=dA:=rL _ _ h (λe=>a (toList_inj e))
theorem eJ{x y:nB}(h:uJ x y=dA):x≠y:=λe=>by rw[e,mN]at h;cases h
theorem TH(x y:nB):(kL x).before (kL y)=uJ x y:=by
 rw[xZ,xZ,uJ];exact JG _ _
theorem CQ(x y:nB):(kL x).sameKey (kL y)=(x.toList==y.toList):=by rw[xZ,xZ];rfl
theorem dE(x y:nB):(x.toList==y.toList)=dA ↔ x=y:=by
 rw[Lg];exact⟨toList_inj,λe=>by rw[e]⟩
theorem zD{x y:nB}(h:x≠y):(x.toList==y.toList)=cA:=by
 rw[Yc];exact λe=>h ((dE x y).1 e)
section
variable {V:Type}
def bS(L:List (nB×V)):Prop:=L.Pairwise (λp q=>uJ p.1 q.1=dA)
def lk(L:List (nB×V))(k:nB):Option V:=(L.find? (λp=>p.1.toList==k.toList)).map (·.2)
def oS(k:nB)(d:V):List (nB×V)->List (nB×V)
 |[]=>[(k,d)]
 |p::r=>if uJ p.1 k=dA then p::oS k d r else if p.1.toList==k.toList then(k,d):: r else(k,d):: p::r
def DW(k:nB)(L:List (nB×V)):List (nB×V):=L.filter (λp=>!(p.1.toList==k.toList))
theorem aLj(k:nB):lk ([]:List (nB×V)) k=none:=rfl
theorem EZ(p:nB×V)(r:List (nB×V))(k:nB):lk (p::r) k=if p.1=k then bA p.2 else lk r k:=by grind [lk,dE,zD]
theorem om{L:List (nB×V)}{k:nB}{d:V}(h:lk L k=bA d):(k,d) ∈L:=by induction L<;>grind [lk,EZ]
theorem aHr{L:List (nB×V)}{k:nB}(h:lk L k=none):∀p∈L,p.1≠k:=by induction L<;>grind [lk,EZ]
theorem oq{L:List (nB×V)}{k:nB}(h:∀p∈L,p.1≠k):lk L k=none:=by
 cases hl:lk L k with
 |none=>rfl
 |some d=>exact absurd rfl (h _ (om hl))
theorem bS.head{p:nB×V}{r:List (nB×V)}(h:bS (p::r)):∀q∈r,uJ p.1 q.1=dA:=(Bc.1 h).1
theorem bS.tail{p:nB×V}{r:List (nB×V)}(h:bS (p::r)):bS r:=(Bc.1 h).2
theorem VB{L:List (nB×V)}(a:bS L){k:nB}{d:V}(h:(k,d) ∈L):lk L k=bA d:=by
 induction L with
 |nil=>cases h
 |cons p r b=>
  rw[EZ];rcases Lb.1 h with e|h;rw[<-e,Ma rfl];have:=a.head _ h;rw[Ja (eJ this)];exact b a.tail h
theorem xp{k:nB}{d:V}{L:List (nB×V)}{q:nB×V}(h:q∈oS k d L):q=(k,d)\/q∈L:=by induction L<;>grind [oS]
theorem nt{k:nB}{d:V}{L:List (nB×V)}(h:bS L):bS (oS k d L):=by
 induction L with
 |nil=>exact We ..
 |cons p r g=>
  unfold oS;split
  .rename_i b;refine Bc.2 ⟨λq a=>?_,g h.tail⟩;rcases xp a with rfl|a
   .exact b
   exact h.head q a
  rename_i b;split
  .rename_i f;rw[dE]at f;refine Bc.2 ⟨λq a=>?_,h.tail⟩;show uJ k q.1=dA;rw[<-f];exact h.head q a
  rename_i f;have c:=bV (by simpa using b) (λe=>f ((dE _ _).2 e));refine Bc.2 ⟨λq a=>?_,h⟩;rcases Lb.1 a with rfl|a
  .exact c
  exact GQ c (h.head q a)
theorem aDs{k:nB}{d:V}{L:List (nB×V)}(b:bS L)(a:nB):lk (oS k d L) a=if k=a then bA d else lk L a:=by induction L<;>grind [bS,lk,oS,EZ,eJ,dE]
theorem NJ{k:nB}{L:List (nB×V)}(h:bS L):bS (DW k L):=Mf _ h
theorem fu{k:nB}{L:List (nB×V)}(a:nB):lk (DW k L) a=if k=a then none else lk L a:=by grind [lk,DW,aLj,dE,EZ,zD]
theorem bS.eq_of_lk{g i:List (nB×V)}(j:bS g)(l:bS i)(h:∀k,lk g k=lk i k):g=i:=by
 refine Qf (le:=fun(p q:nB×V)=>uJ p.1 q.1=dA) (λp q f r n m=>by rw[oZ n]at m;cases m) j l ?_;have m:∀{L:List (nB×V)},bS L->L.Nodup:=λo=>o.imp (fun{a b} c e=>by rw[e,mN]at c;cases c);refine(List.perm_ext_iff_of_nodup (m j) (m l)).2 λp=>?_;constructor
 .intro f;exact om (k:=p.1) (d:=p.2) (by rw[<-h];exact VB j f)
 intro f;exact om (k:=p.1) (d:=p.2) (by rw[h];exact VB l f)
end
def aE(L:List (nB×DataW Unit)):DataW Unit:=.map (L.map λp=>(kL p.1,p.2))
def OG(L:List (nB×DataW Unit))(k:nB):(L.map λp=>(kL p.1,p.2)).find? (λp=>p.1.sameKey (kL k))=(L.find? (λp=>p.1.toList==k.toList)).map (λp=>(kL p.1,p.2)):=by
 rw[List.find?_map];congr 1;apply congrFun;congr 1;funext p;exact CQ p.1 k
def bt(L:List (nB×DataW Unit))(k:nB)(z:DataW Unit):(aE L).atKey (kL k) z=(lk L k).getD z:=by
 simp only[aE,DataW.atKey];rw[OG,lk];cases L.find? (λp=>p.1.toList==k.toList)<;>rfl
def xi(L:List (nB×DataW Unit))(k:nB):has (aE L) (kL k)=(lk L k).isSome:=by
 have h:∀(l:List (Lit×DataW Unit)) f,l.any f=(l.find? f).isSome:=λl f=>by rw[Qb,List.find?_isSome,Zd]
 rw[aE,has_eq,h,OG,lk];cases L.find? (λp=>p.1.toList==k.toList)<;>rfl
def qc(L:List (nB×DataW Unit)):Maps.size (aE L)=yA L:=by rw[aE,size_eq,Xa]
def zb(k:nB)(q:nB×DataW Unit):ChangeMaps.notKey (kL k) (kL q.1,q.2)=!(q.1.toList==k.toList):=by
 show(!(kL q.1).sameKey (kL k))=_;rw[CQ]
def EC(k:nB)(L:List (nB×DataW Unit)):(L.map λp=>(kL p.1,p.2)).filter (ChangeMaps.notKey (kL k))=(DW k L).map λp=>(kL p.1,p.2):=by
 rw[List.filter_map,DW];congr 1;apply List.filter_congr;intro q _;exact zb k q
def vw(k:nB)(L:List (nB×DataW Unit)):(aE L).del (kL k)=aE (DW k L):=by
 rw[aE,DataW.del_eq,ChangeMaps.delKey,EC,aE]
def YM(k:nB)(d:DataW Unit){L:List (nB×DataW Unit)}(g:bS L)(e:lk L k=none):DataW.insert (kL k,d) (L.map λp=>(kL p.1,p.2))=(oS k d L).map λp=>(kL p.1,p.2):=by
 induction L with
 |nil=>rfl
 |cons p r i=>
  have b:=aHr e;rw[Fc,DataW.insert,oS];by_cases h:uJ p.1 k=dA
  .rw[Ja (by rw[TH,oZ h];simp),Ma h,Fc,i g.tail (oq λq f=>b q (Sb _ f))]
  have a:=b p (Kc ..);have c:=bV (by simpa using h) a;rw[Ma (by rw[TH];exact c),Ja h,Ja (by rw[zD a];simp)];rfl
def ey(k:nB)(d:DataW Unit){L:List (nB×DataW Unit)}(a:bS L):oS k d (DW k L)=oS k d L:=by grind [bS,oS,DW,bS.eq_of_lk,nt,NJ,aDs,fu]
def zn(k:nB)(d:DataW Unit){L:List (nB×DataW Unit)}(a:bS L):(aE L).put (kL k) d=aE (oS k d L):=by
 rw[aE,DataW.put_eq,ChangeMaps.putKey,EC,YM k d (NJ a) (by rw[fu,Ma rfl]),ey k d a,aE]
theorem uU(L:List (nB×DataW Unit)):strKeys (aE L)=L.map (λp=>p.1.data.toList):=by
 show((L.map λp=>(kL p.1,p.2)).map λp=>strOf p.1)=_;rw[Vd];rfl
end
def mU(x y:bC):Bool:=x.N.toList==y.N.toList&&x.V.toList==y.V.toList
def nH:List bC->List bC->Bool
 |[],[]=>dA
 |x::r,y::q=>mU x y&&nH r q
 |_,_=>cA
def mv(x y:bC):mU x y=dA ↔ x=y:=by
 unfold mU;rw[Sa,Lg,Lg];constructor
 .rintro ⟨a,b⟩;cases x;cases y
  simp only[bC.mk.injEq];exact⟨toList_inj a,toList_inj b⟩
 rintro rfl;exact⟨rfl,rfl⟩
theorem bX:∀(a b:List bC),nH a b=dA ↔ a=b
 |[],[]=>by simp[nH]
 |[],_::_=>by simp[nH]
 |_::_,[]=>by simp[nH]
 |x::r,y::q=>by
  rw[nH,Sa,mv,bX r q];simp
def px{a b:List bC}(h:yA a≠yA b):nH a b=cA:=by
 rw[Yc];intro c;exact h (by rw[(bX a b).1 c])
def jb(a b:List bC)(k:Nat)(c:k<yA a)(d:k<yA b):nH (a.drop k) (b.drop k)=(mU a[k] b[k] &&nH (a.drop (k+1)) (b.drop (k+1))):=by
 rw[Cb c,Cb d,nH]
def dO(a:List bC):Bool:=decide ((uB a).2.1=0) &&nH (uB a).1 a
def gD:List bC->nB
 |[]=>kA
 |l::r=>xM l.N++vF l.V++gD r
def tH(a:List bC):nB:=qB 1 (yA a:Nat)++gD a
def rI(a:List bC):nB:=if dO a=dA then tH a else kA
def mM:∀(a b:List bC),gD (a++b)=gD a++gD b
 |[],b=>by simp[gD]
 |l::r,b=>by
  show xM l.N++vF l.V++gD (r++b)=xM l.N++vF l.V++gD r++gD b;rw[mM r b,Wa (b:=gD r)]
theorem eT(a:List bC)(k:Nat)(h:k<yA a):gD (a.take (k+1))=gD (a.take k)++(xM a[k].N++vF a[k].V):=by
 rw[Pa h,mM];simp[gD]
def MW(a:List bC):yA (uB a).1<=16:=by grind [uB,CA,yZ]
theorem XH{a:List bC}(h:(uB a).2.1=0):yA a<=16:=by
 unfold uB at h;split at h;exact absurd h (by simp);omega
theorem MU{a:List bC}(h:dO a=dA):yA a<=16:=by grind [dO,XH]
def aBp{a:List bC}(h:dO a=dA):uB a=(a,0,(uB a).2.2):=by grind [dO,uB,bX]
theorem LD{x y:nB}(h:x.data.toList=y.data.toList):x=y:=by
 cases x;cases y
 simp only[ByteArray.mk.injEq];exact Array.toList_inj.1 h
theorem DR(x y:nB):(x++y).data.toList=x.data.toList++y.data.toList:=by simp
theorem fQ(s:nB)(i j:Nat):(s.extract i j).data.toList=(s.data.toList.take j).drop i:=by
 rw[ByteArray.data_extract,Array.toList_extract,List.extract_eq_drop_take']
theorem jR(s:nB):s.size=yA s.data.toList:=by simp
structure Rd where
 rest:nB
 H:Bool
def uF(n:Nat)(r:Rd):nB×Rd:=if r.rest.size<n then(kA,⟨r.rest,dA⟩) else(r.rest.extract 0 n,⟨r.rest.extract n r.rest.size,r.H⟩)
def eK(k:Nat)(r:Rd):Nat×Rd:=(uX (uF k r).1.data.toList,(uF k r).2)
def kG(k:Nat)(r:Rd):nB×Rd:=uF (eK k r).1 (eK k r).2
theorem AJ(n:Nat)(r:Rd):(uF n r).1.size<=n/\(uF n r).1.size<=r.rest.size/\(uF n r).2.rest.size<=r.rest.size:=by
 unfold uF;split;exact ⟨by simp,by simp,Ia _⟩;refine ⟨?_,?_,?_⟩<;>simp<;>omega
def DA{n:Nat}{r:Rd}(h:(uF n r).2.H=cA):r.H=cA/\(uF n r).1.size=n/\r.rest=(uF n r).1++(uF n r).2.rest:=by
 unfold uF at *;split at h;exact absurd h (by simp)
 rename_i a;rw[Ja a];refine⟨h,by simp;omega,?_⟩;apply LD;rw[DR,fQ,fQ,Kf,jR,Rb,Za]
def AI{n:Nat}{r:Rd}{t q:nB}(h:r.rest=t++q)(a:t.size=n):uF n r=(t,⟨q,r.H⟩):=by grind [uF,LD,fQ,DR,jR]
def RE{k:Nat}{r:Rd}(h:(kG k r).2.H=cA):r.H=cA/\r.rest=qB k ((kG k r).1.size:Nat)++((kG k r).1++(kG k r).2.rest):=by
 obtain⟨f,g,i⟩:=DA (r:=(eK k r).2) h;obtain⟨b,c,d⟩:=DA (n:=k) (r:=r) f;refine⟨b,?_⟩;have e:qB k ((kG k r).1.size:Nat)=(uF k r).1:=by
  show qB k ((uF (eK k r).1 (eK k r).2).1.size:Nat)=_;rw[g];have:=sj (uF k r).1.data.toList k (by rw[<-jR];exact c);show qB k (uX (uF k r).1.data.toList:Nat)=_;rw[this]
 rw[e];have a:(uF k r).2.rest=(kG k r).1++(kG k r).2.rest:=i;rw[<-a];exact d
def JB{k:Nat}{r:Rd}{t q:nB}(h:r.rest=qB k (t.size:Nat)++(t++q))(d:t.size<256 ^ k):kG k r=(t,⟨q,r.H⟩):=by
 have a:=AI (n:=k) h (kB k _);have b:(eK k r).1=t.size:=by
  show uX (uF k r).1.data.toList=_;rw[a];exact pT k t.size d
 have c:(eK k r).2=⟨t++q,r.H⟩:=by
  show(uF k r).2=_;rw[a]
 rw[kG,b,c];exact AI rfl rfl
theorem tv(k:Nat)(r:Rd):(kG k r).1.size<=r.rest.size/\(kG k r).2.rest.size<=r.rest.size:=by grind [kG,eK,uF,AJ]
def oz(k:Nat)(r:Rd):(eK k r).1<256 ^ k:=by
 have h:=GO (uF k r).1.data.toList;have a:=(AJ k r).1;have b:256 ^ yA (uF k r).1.data.toList<=256 ^ k:=Sc (by omega) (by rw[<-jR];exact a);show uX (uF k r).1.data.toList<_;omega
def tF(x a:Int)(w:eA):hI 64 #[zA x,zA a] w (.bool (zB x 0 a)):=by
 by_cases b:0<=x
 .by_cases c:x<=a
  .have e:zB x 0 a=dA:=by simp[zB,b,c]
   rw[e];go_enter func64,ntmps64;go_wp2;go_ret;exact⟨rfl,rfl⟩
  have e:zB x 0 a=cA:=by simp[zB,c]
  rw[e];go_enter func64,ntmps64;go_wp2;go_ret;exact⟨rfl,rfl⟩
 have e:zB x 0 a=cA:=by simp[zB,b]
 rw[e];go_enter func64,ntmps64;go_wp2;go_ret;exact⟨rfl,rfl⟩
def nj{C D:Prop}[Decidable C][Decidable D]{α:Type}{x y:α}(h:C ↔ D):(if C then x else y)=if D then x else y:=by grind
def aL{a b c d:Int}(e:a=c)(f:b=d):Ending.returned (.tuple #[zA a,zA b])=.returned (.tuple #[zA c,zA d]):=by rw[e,f]
def qT(t:nB)(v:Nat):Nat->Nat
 |0=>v
 |j+1=>qT t v j*64+vC t (j+1) % 64
def xP(t:nB)(n v a:Nat):Nat×Nat:=
 if n<=t.size/\(∀k,k<n->1<=k->vC t k / 64=2)/\a<=qT t v (n-1)/\okR (qT t v (n-1)) then(qT t v (n-1),n) else(0,0)
def aNj(t:nB)(h:vC t 0 / 32=6):KC t=xP t 2 (vC t 0 % 32) 128:=by
 rw[aHn t h,xP];have e:qT t (vC t 0 % 32) (2-1)=vC t 0 % 32*64+vC t 1 % 64:=rfl;rw[e];refine nj ?_;constructor
 .rintro ⟨a,b,c⟩;refine⟨a,λk _ _=>?_,c,by unfold okR aLu;simp;omega⟩;have:k=1:=by omega
  subst this;exact b
 rintro ⟨a,b,c,_⟩;exact⟨a,b 1 (by omega) (by omega),c⟩
def aNk(t:nB)(h:vC t 0 / 16=14):KC t=xP t 3 (vC t 0 % 16) 2048:=by
 rw[yc t h,xP];have e:qT t (vC t 0 % 16) (3-1)=(vC t 0 % 16*64+vC t 1 % 64)*64+vC t 2 % 64:=rfl;rw[e];refine nj ?_;constructor
 .rintro ⟨b,a,c,d,f⟩;refine⟨b,λk _ _=>?_,d,f⟩;have:k=1\/k=2:=by omega
  obtain rfl|rfl:=this;exact a;exact c
 rintro ⟨b,a,c,d⟩;exact⟨b,a 1 (by omega) (by omega),a 2 (by omega) (by omega),c,d⟩
def aNl(t:nB)(h:vC t 0 / 8=30):KC t=xP t 4 (vC t 0 % 8) 65536:=by
 rw[aDk t h,xP];have e:qT t (vC t 0 % 8) (4-1)=((vC t 0 % 8*64+vC t 1 % 64)*64+vC t 2 % 64)*64+vC t 3 % 64:=rfl;rw[e];refine nj ?_;constructor
 .rintro ⟨b,a,c,d,f,g⟩;refine⟨b,λk _ _=>?_,f,g⟩;have:k=1\/k=2\/k=3:=by omega
  obtain rfl|rfl|rfl:=this;exact a;exact c;exact d
 rintro ⟨b,a,c,d⟩;exact⟨b,a 1 (by omega) (by omega),a 2 (by omega) (by omega),a 3 (by omega) (by omega),c,d⟩
def cc(t:nB)(v:Nat):∀j,qT t v j<(v+1)*64 ^ j
 |0=>by simp[qT]
 |j+1=>by
  have:=cc t v j;rw[qT,Od,<-Nat.mul_assoc];omega
def ZW(t:nB)(w:eA)(Q:0<t.size)(W:t.size<=maxLen):
 hI 232 #[oA t] w (.tuple #[zA ((KC t).1:Nat),zA ((KC t).2:Nat)]):=by
 unfold maxLen at W;have h:t[0].toNat<256:=t[0].toNat_lt;have a:bB _:=cV t 0 Q;by_cases p:t[0].toNat<128
 .have E:bB (KC t=(t[0].toNat,1)):=by show _=_;rw[a.o];exact aHm t (by rw[<-a.o];exact p)
  rw[E.o];go_enter func232,ntmps232;go_wp2;go_ret2;exact⟨rfl,rfl⟩
 have c:(((t[0].toNat:Int) / 32==6)=dA/\KC t=xP t 2 (t[0].toNat % 32) 128)\/((t[0].toNat:Int) / 32==6)=cA/\((((t[0].toNat:Int) / 16==14)=dA/\KC t=xP t 3 (t[0].toNat % 16) 2048)\/((t[0].toNat:Int) / 16==14)=cA/\((((t[0].toNat:Int) / 8==30)=dA/\KC t=xP t 4 (t[0].toNat % 8) 65536)\/((t[0].toNat:Int) / 8==30)=cA/\KC t=(0,0))):=by
  by_cases z:t[0].toNat / 32=6
  .exact Ca ⟨by simp;omega,by rw[a.o];exact aNj t (by rw[<-a.o];exact z)⟩
  refine La ⟨by simp;omega,?_⟩;by_cases s:t[0].toNat / 16=14
  .exact Ca ⟨by simp;omega,by rw[a.o];exact aNk t (by rw[<-a.o];exact s)⟩
  refine La ⟨by simp;omega,?_⟩;by_cases u:t[0].toNat / 8=30
  .exact Ca ⟨by simp;omega,by rw[a.o];exact aNl t (by rw[<-a.o];exact u)⟩
  exact La ⟨by simp;omega,by rw[a.o]at p z s u;exact aDl t (by omega) z s u⟩
 have g:=cB c;clear c;go_enter func232,ntmps232;go_upto_block 0 with fail;go_cut [5,6,7] (λX G h Z=>∃n v d:Nat,X=zA n/\G=zA v/\h=zA d/\2<=n/\n<=4/\(v+1)*64 ^ (n-1)<=8388608/\KC t=xP t n v d/\d<=65536/\Z=w)
 case first=>
  obtain⟨N,E⟩|⟨N,⟨O,E⟩|⟨O,⟨P,E⟩|⟨P,E⟩⟩⟩:=g.o
  all_goals
   have E:=cB E;clear g
  .go_wp2;go_meet;exact⟨2,t[0].toNat % 32,128,rfl,by go_num,rfl,by omega,by omega,by omega,E.o,by omega,rfl⟩
  .go_wp2;go_meet;exact⟨3,t[0].toNat % 16,2048,rfl,by go_num,rfl,by omega,by omega,by omega,E.o,by omega,rfl⟩
  .go_wp2;go_meet;exact⟨4,t[0].toNat % 8,65536,rfl,by go_num,rfl,by omega,by omega,by omega,E.o,by omega,rfl⟩
  go_wp2;go_ret2;exact⟨aL (by simp[E.o]) (by simp[E.o]),rfl⟩
 clear g;obtain⟨n,v,d,rfl,rfl,rfl,T,U,L,H,S,rfl⟩:=hcut;have E:=cB H;have o:=cB L;clear H L;by_cases h:t.size<n
 .have b:bB (KC t=(0,0)):=by show _=_;rw[E.o,xP,Ja (λh=>by have:=h.1;omega)]
  go_wp2;go_ret2;exact⟨aL (by simp[b.o]) (by simp[b.o]),rfl⟩
 go_wp2;go_loop [6,8] (λG i=>∃j V:Nat,1<=j/\j<=n/\i=zA j/\G=zA V/\V<8388608/\bB (V=qT t v (j-1)/\∀k,k<j->1<=k->vC t k / 64=2)) (λ_ i=>n-(intOf i).toNat)
 case atStart=>exact⟨1,v,by omega,by omega,rfl,rfl,by have p:=o.o;have s:=Nat.le_mul_of_pos_right (v+1) (show 0<64 ^ (n-1) from Zf (by omega));omega,rfl,λk K h=>absurd h (by omega)⟩
 case round=>
  obtain⟨j,V,B,m,rfl,rfl,m,q⟩:=hrel;by_cases F:j<n
  .have C:j<t.size:=by omega
   have R:t[j].toNat<256:=t[j].toNat_lt;have x:bB _:=cV t j C;by_cases J:t[j].toNat / 64=2
   .have A:((t[j].toNat:Int) / 64 != 2)=cA:=by simp;omega
    have I:bB (qT t v j=V*64+t[j].toNat % 64):=by
     show _=_;obtain⟨m,rfl⟩:∃m,j=m+1:=⟨j-1,by omega⟩
     rw[qT,x.o,q.o.1];rfl
    go_wp2;refine⟨⟨j+1,V*64+t[j].toNat % 64,by omega,by omega,by go_num,by go_num,?_,I.o.symm,?_⟩,by simp[intOf];omega⟩
    .have p:=cc t v j;rw[I.o]at p;have u:(v+1)*64 ^ j<=(v+1)*64 ^ (n-1):=Hf (Ia _) (Sc (by omega) (by omega));have:=o.o;omega
    intro k K D;by_cases e:k=j
    .subst e;rw[<-x.o];exact J
    exact q.o.2 k (by omega) D
   have A:((t[j].toNat:Int) / 64 != 2)=dA:=by simp;omega
   have b:bB (KC t=(0,0)):=by show _=_;rw[E.o,xP,Ja (λh=>J (by rw[x.o];exact h.2.1 j F B))]
   go_wp2;go_ret2;exact⟨aL (by simp[b.o]) (by simp[b.o]),rfl⟩
  have y:bB (j=n):=by show _=_;omega
  have M:bB (qT t v (n-1)=V):=by show _=_;rw[<-y.o];exact q.o.1.symm
  have c:(V<d\/¬V<d/\1114111<V\/¬V<d/\¬1114111<V/\zB (V:Int) 55296 57343=dA)/\KC t=(0,0)\/¬V<d/\¬1114111<V/\zB (V:Int) 55296 57343=cA/\KC t=(V,n):=by
   rw[E.o,xP,M.o];by_cases f:V<d
   .exact Ca ⟨Ca f,Ja (λh=>by have:=h.2.2.1;omega)⟩
   by_cases l:1114111<V
   .exact Ca ⟨La (Ca ⟨f,l⟩),Ja (λh=>by have:=(ZF h.2.2.2).1;omega)⟩
   by_cases r:55296<=V/\V<=57343
   .exact Ca ⟨La (La ⟨f,l,by simp[zB];omega⟩),Ja (λh=>(ZF h.2.2.2).2 r)⟩
   exact La ⟨f,l,by simp[zB];omega,Ma ⟨by omega,λk K=>q.o.2 k (by have:=y.o;omega),by omega,aLt ⟨by omega,r⟩⟩⟩
  clear y;obtain⟨f|⟨f,l⟩|⟨f,l,r⟩,b⟩|⟨f,l,r,b⟩:=c
  all_goals
   have b:=cB b;go_wp2_with(go_at_call 90;refine cO (xD (by assumption) _) ?_);go_ret2;exact⟨aL (by simp[b.o]) (by simp[b.o]),rfl⟩
def MM(w:eA)(a:jC)(l:List Int):Prop:=l=[]\/∃b o,a=bA (dB b o)/\b<w.1.size/\∀i(h:i<yA l),w.cell? (dB b (o+i))=bA (zA l[i])
def MM.at{w:eA}{a:jC}{l:List Int}(h:MM w a l){i:Nat}(c:i<yA l):∃b o,a=bA (dB b o)/\b<w.1.size/\w.cell? (dB b (o+i))=bA (zA l[i]):=by grind [MM]
def gx{w:eA}{B:Nat}{e:jA}{a:jC}{c:Nat}{l:List Int}(h:w.ownsRow B e 1 (pA a (yA l) c) (yA l) (l.map (iA.int .i64))):MM w a l:=by
 obtain⟨_,o⟩|⟨g,f,b,k,q,m,_,_,p,d⟩:=h.2;exact Ca (Nb.1 o);simp only[iA.slice.injEq]at k;refine La ⟨g,0,k.1,aB m,λi n=>?_⟩;rw[Ya,cell_of_row w g i b _ _ m];have j:(b.toList.take (yA l*1))[i]?=(l.map (iA.int .i64))[i]?:=by rw[d]
 rw[Jb (by omega)]at j;rw[<-Yd,j];simp[Va n]
def aDa:∃i,prog.info? 3=bA i/\i.zero=bA (zA 0)/\i.size=1/\i.bytes=8:=by
 have h:(prog.info? 3).map (λi=>(i.zero,i.size,i.bytes))=bA (bA (zA 0),1,8):=by kernel_rfl
 obtain⟨i,b,a⟩:=Wb.1 h;simp only[Dc]at a;exact⟨i,b,a.1,a.2.1,a.2.2⟩
def nS:(prog.info? 181).map (λi=>(i.zero,i.size,i.bytes))=bA (bA (.agg #[oA kA,oA kA]),2,32):=by kernel_rfl
abbrev aHo:Inhabited bC:=⟨⟨kA,kA⟩⟩
def aLo:NeqAt prog 181 (λx:bC=>.agg #[oA x.N,oA x.V]) mU:=by
 refine⟨λx y w=>?_,GuardAt.agg _ (by kernel_rfl)⟩;have f:=underlying9;have e:=isAgg9;have g:=sizeOf9;have c:prog.underlying 181=bA (.struct (prog.fieldsOf 181)):=by kernel_rfl
 have d:prog.stoodInHeld 181=cA:=by kernel_rfl
 rw[run_neq_struct,show(10000:Nat)=9999+1 from rfl,run_equalIn_agg w 9999 181 _ _ c d];simp only[Program.fieldsOf,underlying181];go_simp;by_cases a:x.N.toList=y.N.toList<;>by_cases b:x.V.toList=y.V.toList<;>simp[mU,a,b]
structure oF where
 B:List bC
 bits:Int
structure dG where
 K:Int
 T:nB
 R:nB
 U:Int
 P:List oF
def bo(w:eA)(b o:Nat)(x:oF):Prop:=
 ∃a c,w.cell? (dB b o)=bA (pA a (yA x.B) c)/\w.cell? (dB b (o+1))=bA (zA x.bits)/\nD w a x.B/\yA x.B<=c
def aKd(w:eA)(b o:Nat)(a:List oF):Prop:=∀i(h:i<yA a),bo w b (o+i*2) a[i]
def dJ(w:eA)(a:jC)(c:List oF):Prop:=c=[]\/∃b o,a=bA (dB b o)/\b<w.1.size/\aKd w b o c
def bo.z{w f:eA}{b o:Nat}{x:oF}(h:bo w b o x)(d:b<w.1.size)(e:tB w f):bo f b o x:=by
 obtain⟨a,c,g,i,j,k⟩:=h;exact⟨a,c,(e.cell d).trans g,(e.cell d).trans i,j.z e,k⟩
def dJ.z{w e:eA}{a:jC}{f:List oF}(h:dJ w a f)(d:tB w e):dJ e a f:=by
 obtain h|⟨b,o,rfl,c,h⟩:=h;exact Ca h;exact La ⟨b,o,rfl,Bb c d.size,λi g=>(h i g).z c d⟩
def dJ.atc{w:eA}{a:jC}{c:List oF}(h:dJ w a c){i:Nat}(g:i<yA c):
 ∃b o d e,a=bA (dB b o)/\b<w.1.size/\w.cell? (dB b (o+i*2))=bA (.slice d (yA c[i].B) e)/\w.cell? (dB b (o+i*2+1))=bA (zA c[i].bits)/\nD w d c[i].B/\yA c[i].B<=e:=by
 obtain rfl|⟨b,o,rfl,f,h⟩:=h;exact absurd g (by simp);obtain ⟨d,e,h⟩:=h i g;exact⟨b,o,d,e,rfl,f,h⟩
def dJ.at{w:eA}{a:jC}{c:List oF}(h:dJ w a c){i:Nat}(m:i<yA c):
 ∃b o d e,a=bA (dB b o)/\b<w.1.size/\w.cell? (dB b (o+i*2))=bA (.slice d (yA c[i].B) e)/\w.cell? (dB b (o+i*2+1))=bA (zA c[i].bits)/\nD w d c[i].B:=by
 obtain⟨b,o,d,e,f,g,j,k,l,_⟩:=h.atc m;exact⟨b,o,d,e,f,g,j,k,l⟩
def tD.butS{g b o B:Nat}{w d:eA}{f:List bC}(h:tD w B (bA (dB b o)) f)(m:pD g w d)(p:b≠g):tD d B (bA (dB b o)) f:=by
 obtain h|⟨r,s,c,t,e,l,a,h⟩:=h;exact Ca h;simp only[Qa,Addr.mk.injEq,Cc]at e;obtain⟨rfl,rfl⟩:=e;have k:=m.block b (aB a) p;have n:∀j,d.cell? (dB b j)=w.cell? (dB b j):=λj=>eA.cell?_of_block k;exact La ⟨b,o,c,t,rfl,l,k.trans a,λi q=>by simp only[n];exact h i q⟩
def eN(w:eA)(B:Nat)(T:Nat->Nat)(n:Nat)(a:jC)(c:List bC):Prop:=
 c=[]\/∃g o b t,a=bA (dB g o)/\B<=g/\T g=n/\w.heap[g]?=bA (.cells b t (0,0))/\kP w g o c
def eN.B{w:eA}{B n:Nat}{T:Nat->Nat}{a:jC}{b:List bC}(h:eN w B T n a b):nD w a b:=by grind [eN,nD]
def eN.base{w:eA}{B b n:Nat}{T:Nat->Nat}{a:jC}{c:List bC}(h:eN w B T n a c)(d:b<=B):eN w b T n a c:=by grind [eN]
def eN.keep{w w':eA}{B n:Nat}{T c:Nat->Nat}{a:jC}{l:List bC}(h:eN w B T n a l)
(s:∀g,g<w.1.size->B<=g->T g=n->w'.heap[g]?=w.heap[g]?/\c g=n):eN w' B c n a l:=by
 obtain h|⟨g,o,b,t,e,f,p,k,h⟩:=h;exact Ca h;obtain ⟨d,m⟩:=s g (aB k) f p;have q:∀j,w'.cell? (dB g j)=w.cell? (dB g j):=λj=>eA.cell?_of_block d;exact La ⟨g,o,b,t,e,f,m,d.trans k,λi r=>by simp only[q];exact h i r⟩
def GJ(w:eA)(B:Nat)(T:Nat->Nat)(i b o:Nat)(x:oF):Prop:=
 ∃a c,w.cell? (dB b o)=bA (pA a (yA x.B) c)/\w.cell? (dB b (o+1))=bA (zA x.bits)/\eN w B T (i+1) a x.B/\yA x.B<=c
def qG(w:eA)(B:Nat)(a:jC)(c:List oF):Prop:=
 c=[]\/∃g o b t T,a=bA (dB g o)/\B<=g/\w.heap[g]?=bA (.cells b t (0,0))/\T g=0/\∀i(h:i<yA c),GJ w B T i g (o+i*2) c[i]
def GJ.at{w:eA}{B i b o:Nat}{T:Nat->Nat}{x:oF}(h:GJ w B T i b o x):bo w b o x:=by
 obtain⟨a,c,d,e,f,g⟩:=h;exact⟨a,c,d,e,f.B,g⟩
def qG.P{w:eA}{B:Nat}{a:jC}{b:List oF}(h:qG w B a b):dJ w a b:=by
 obtain h|⟨g,o,c,t,T,rfl,_,d,_,h⟩:=h;exact Ca h;exact La ⟨g,o,rfl,aB d,λi e=>(h i e).at⟩
def GJ.keep{w w':eA}{B i b o:Nat}{T d:Nat->Nat}{x:oF}(h:GJ w B T i b o x)(f:∀j,j<2->w'.cell? (dB b (o+j))=w.cell? (dB b (o+j)))
(r:∀g,g<w.1.size->B<=g->T g=i+1->w'.heap[g]?=w.heap[g]?/\d g=T g):GJ w' B d i b o x:=by
 obtain⟨a,c,k,l,m,n⟩:=h;refine⟨a,c,(f 0 (by omega)).trans k,(f 1 (by omega)).trans l,m.keep λg q p e=>?_,n⟩;obtain⟨s,t⟩:=r g q p e;exact⟨s,t.trans e⟩
def qG.z{w k:eA}{B:Nat}{a:jC}{l:List oF}(h:qG w B a l)(d:tB w k):qG k B a l:=by
 obtain h|⟨g,o,c,t,T,rfl,n,f,p,h⟩:=h;exact Ca h;have b:=aB f;exact La ⟨g,o,c,t,T,rfl,n,(d.block g b).trans f,p,λi q=>(h i q).keep (λj _=>eA.cell?_of_block (d.block g b)) λm e _ _=>⟨d.block m e,rfl⟩⟩
def qG.but{g B:Nat}{w k:eA}{a:jC}{l:List oF}(h:qG w B a l)(e:pD g w k)(s:g<B):qG k B a l:=by
 obtain h|⟨d,o,c,t,T,rfl,m,b,p,h⟩:=h;exact Ca h;have f:=e.block d (aB b) (by omega);exact La ⟨d,o,c,t,T,rfl,m,f.trans b,p,λi q=>(h i q).keep (λj _=>eA.cell?_of_block f) λx r n _=>⟨e.block x r (by omega),rfl⟩⟩
def qG.mono{B B':Nat}{w:eA}{a:jC}{f:List oF}(h:qG w B a f)(d:B'<=B):qG w B' a f:=by
 obtain h|⟨g,o,b,t,T,rfl,q,e,j,h⟩:=h;exact Ca h;refine La ⟨g,o,b,t,T,rfl,by omega,e,j,λi k=>?_⟩;obtain⟨a,c,l,m,n,p⟩:=h i k;exact⟨a,c,l,m,n.base d,p⟩
def lJ(x:oF):Nat:=yA x.B+rD x.B
def sF:List oF->Nat
 |[]=>0
 |f::r=>lJ f+sF r
def oX(a b:List oF):sF (a++b)=sF a+sF b:=by induction a<;>grind [sF]
def CU(a:List oF)(k:Nat)(h:k<yA a):sF (a.take (k+1))=sF (a.take k)+lJ a[k]:=by
 rw[Pa h,oX];simp[sF]
def IX(a:List oF)(k:Nat):sF (a.take k)<=sF a:=by
 have:=oX (a.take k) (a.drop k);rw[Za]at this;omega
def QQ(a:List oF)(k:Nat)(h:k<yA a):lJ a[k]<=sF a:=by
 have b:=CU a k h;have c:=IX a (k+1);omega
def FO(r:dG):Nat:=r.T.size+r.R.size+yA r.P+sF r.P
def CL(c:UInt8):Bool:=(97<=c&&c<=122) ||(48<=c&&c<=57) ||c==45||c==46
def zK(l:List UInt8):Bool:=l.all CL
def cH(s:nB):Bool:=decide (1<=s.size) &&decide (s.size<=40) &&zK s.data.toList
def ZE(l:List UInt8)(c:UInt8):zK (l++[c])=(zK l&&CL c):=by simp[zK]
def gy{l:List UInt8}{k:Nat}(h:zK (l.take k)=cA):zK l=cA:=by grind [zK]
def zg(c:UInt8):CL c=decide ((97<=(c.toNat:Int)/\(c.toNat:Int)<=122)\/(48<=(c.toNat:Int)/\(c.toNat:Int)<=57)\/(c.toNat:Int)=45\/(c.toNat:Int)=46):=by
 have a:(c==45)=decide (c.toNat=45):=by rw[Qb];simp[<-UInt8.toNat_inj]
 have b:(c==46)=decide (c.toNat=46):=by rw[Qb];simp[<-UInt8.toNat_inj]
 rw[Qb];simp[CL,a,b,Df];omega
def OY(s:nB)(w:eA)(m:s.size<=maxLen):
 hI 100 #[oA s] w (.bool (cH s)):=by
 unfold maxLen at m;by_cases c:1<=s.size/\s.size<=40
 .have l:zB (s.size:Int) 1 40=dA:=by unfold zB;simp;omega
  have f:bB (cH s=zK s.data.toList):=by show cH s=_;simp[cH,c.1,c.2]
  have o:=c.1;have p:=c.2;clear c;go_enter func100,ntmps100;go_wp2_with(go_at_call 90;apply hC (qD _ _ _ _);rintro h rfl);go_loop [3,4] (λi _=>∃k:Nat,k<=s.size/\i=zA k/\zK (s.data.toList.take k)=dA) (λi _=>s.size-(intOf i).toNat)
  case atStart=>exact⟨0,Oa _,rfl,by simp[zK]⟩
  case round=>
   obtain⟨k,n,rfl,d⟩:=hrel;have b:bB _:=d;clear d l;by_cases g:k<s.size
   .have a:=ZE (s.data.toList.take k) s[k];rw[<-tV s k g,b.o,Oc,zg]at a;have j:bB _:=a;clear a;go_wp2;all_goals first
     |(go_ret
       refine⟨oB ?_,rfl⟩;rw[f.o];refine(gy (k:=k+1) ?_).symm;rw[j.o,Xe];simp at *;omega)
     |(refine⟨⟨k+1,by omega,by go_num,?_⟩,by simp[intOf];omega⟩
       rw[j.o,Af];simp at *;omega)
   go_wp2;go_ret;exact⟨oB (by rw[f.o,<-b.o,Ra (by simp;omega)]),rfl⟩
 have l:zB (s.size:Int) 1 40=cA:=by unfold zB;simp;omega
 have f:bB (cH s=cA):=by show cH s=_;simp[cH];omega
 go_enter func100,ntmps100;go_wp2_with(go_at_call 90;apply hC (qD _ _ _ _);rintro h rfl);go_ret;exact⟨oB f.o.symm,rfl⟩
theorem ZD(c:UInt8):okM [45,46] c=CL c:=by
 have e:decide (0<=Lib.indexByte [45,46] c)=(c==45||c==46):=by
  by_cases h:c=45
  .subst h;rfl
  by_cases a:c=46
  .subst a;rfl
  have b:((45:UInt8)==c)=cA:=by simpa using λe=>h e.symm
  have d:(c==45)=cA:=by simpa using h
  have f:((46:UInt8)==c)=cA:=by simpa using λe=>a e.symm
  have g:(c==46)=cA:=by simpa using a
  simp[Lib.indexByte,b,d,f,g]
 rw[okM,CL,e,Bool.or_assoc (_||_)]
def ox(s:nB):wS s 40 ⟨#[45,46]⟩=cH s:=by grind [wS,cH,zK,ZD]
def OW(s:nB)(w:eA)(b:s.size<=maxLen):
 hI 181 #[oA s] w (.bool (cH s)):=by
 have H:bB _:=λW=>ox s ▸ KB s 40 ⟨#[45,46]⟩ W b;generalize cH s=R at *;go_enter func181,ntmps181;go_wp2_with fail;apply cO (H.o _);go_wp2;go_ret;exact⟨rfl,rfl⟩
def nO(f:jB):Bool:=cH f.N&&zB f.Y 0 f.data.size
def aAl(b o:Nat)(f:jB)(w:eA)(i:w.cell? (dB b o)=bA (oA f.N))(j:w.cell? (dB b (o+1))=bA (oA f.data))(k:w.cell? (dB b (o+2))=bA (zA f.Y))
(l:f.N.size<=maxLen):
 vE 123 #[.pointer (bA (dB b o))] w (.bool (nO f)):=by
 have p:=iC.cells i;have q:=iC.cells j;have r:=iC.cells k;have n:=iC.there w;have g:=λd=>OW f.N d l;clear i j k l;by_cases c:cH f.N=dA
 .simp only[c]at g;have m:=λd=>tF f.Y f.data.size d;have E:bB (nO f=zB f.Y 0 f.data.size):=by show nO f=_;simp[nO,c]
  clear c;go_enter func123,ntmps123;go_wp2_with fail;refine wB (by kernel_rfl) (by kernel_rfl) ?_;repeat (go_big_quiet_step (first|(go_at_call 181;exact wC (g _))|(go_at_call 64;exact wC (m _))))
  refine wpQuiet_nil ?_;rintro _ ⟨x,rfl⟩;go_wp2;go_ret;exact⟨oB E.o.symm,x.h⟩
 have a:cH f.N=cA:=by simpa using c
 simp only[a]at g;have E:bB (nO f=cA):=by show nO f=_;simp[nO,a]
 clear c a;go_enter func123,ntmps123;go_wp2_with fail;refine wB (by kernel_rfl) (by kernel_rfl) ?_;repeat (go_big_quiet_step (first|(go_at_call 181;exact wC (g _))))
 refine wpQuiet_nil ?_;rintro _ ⟨x,rfl⟩;go_wp2;go_ret;exact⟨oB E.o.symm,x.h⟩
def lT(a:List jB)(i:Nat):Bool:=
 match a[i]? with
 |none=>dA
 |some f=>nO f&&(match i with
  |0=>dA
  |j+1=>match a[j]? with
   |none=>dA
   |some g=>Op.bytesLess g.N.toList f.N.toList)
def tS(a:List jB)(k:Nat):Bool:=(List.range k).all (lT a)
def bI(a:List jB):Bool:=tS a (yA a)
def AD(a:List jB)(k:Nat):tS a (k+1)=(tS a k&&lT a k):=by simp[tS,List.range_succ]
def aZ{a:List jB}{k n:Nat}(h:lT a k=cA)(b:k<n):tS a n=cA:=by grind [lT,tS]
def OC(a:jC)(y:Nat)(c:List jB)(w:eA)(z:rB w a c)(D:eP c)(s:yA c<=maxLen):
 vE 65 #[pA a (yA c) y] w (.bool (decide (yA c<=1000) &&bI c)):=by
 unfold maxLen at s;by_cases V:(1000:Int)<yA c
 .have E:bB ((decide (yA c<=1000) &&bI c)=cA):=by
   show _=_;rw[Ub (by omega)];rfl
  clear z D;go_enter func65,ntmps65;go_wp2;go_ret;exact⟨oB E.o.symm,bD⟩
 have E:bB ((decide (yA c<=1000) &&bI c)=tS c (yA c)):=by
  show _=_;rw[Ac (by omega)];rfl
 have F:bB (rB w a c):=z;have L:bB (eP c):=D;clear z D;go_enter func65,ntmps65;go_wp2;go_loopw [3,9] (λ_ i wr=>∃k:Nat,k<=yA c/\i=zA k/\tS c k=dA/\tB w wr) (λ_ i _=>yA c-(intOf i).toNat)
 case atStart=>exact⟨0,Oa _,rfl,rfl,bD⟩
 case round=>
  obtain⟨k,X,rfl,t,d⟩:=hrel;have n:bB (tS c k=dA):=t;clear t;by_cases l:k<yA c
  .obtain ⟨b,o,rfl,W,v,G,H⟩:=(F.o.z d).at l;have u:=L.o k l;have r:=λx:iC wr=>aAl b (o+k*3) c[k] x.w' (x.cell v) (x.cell G) (x.cell H) u.1;have M:=iC.cells v;have P:=iC.there wr;clear v G H u;by_cases g:nO c[k]=dA
   .simp only[g]at r;by_cases O:(0:Int)<k
    .obtain ⟨U,Y,I,Q,q,R,S⟩:=(F.o.z d).at (i:=k-1) (by omega)
     simp only[Qa,Addr.mk.injEq,Cc]at I;obtain⟨rfl,rfl⟩:=I;have f:lT c k=Op.bytesLess c[k-1].N.toList c[k].N.toList:=by
      obtain⟨j,rfl⟩:∃j,k=j+1:=⟨k-1,by omega⟩
      simp[lT,Va l,Va (show j<yA c by omega),g]
     generalize c[k-1].N=K at q f;generalize c[k].N=J at M f;have N:=iC.cells q;have A:0<k:=by omega
     clear Q R S q g;by_cases B:Op.bytesLess K.toList J.toList=dA
     .have p:bB (tS c (k+1)=dA):=by show tS c (k+1)=dA;rw[AD,n.o,f,B];rfl
      clear f;go_wp2_with fail;refine wB (by kernel_rfl) (by kernel_rfl) ?_;repeat (go_big_quiet_step (first|(go_at_call 123;exact mC (r _))))
      refine wpQuiet_nil ?_;rintro _ ⟨x,rfl⟩;go_wp2;exact⟨⟨k+1,by omega,by go_num,p.o,d.trans (x.h.mono d.size)⟩,by simp[intOf];omega⟩
     have C:Op.bytesLess K.toList J.toList=cA:=by simpa using B
     have p:bB (tS c (yA c)=cA):=aZ (by rw[f];exact C) l;clear f B;go_wp2_with fail;refine wB (by kernel_rfl) (by kernel_rfl) ?_;repeat (go_big_quiet_step (first|(go_at_call 123;exact mC (r _))))
     refine wpQuiet_nil ?_;rintro _ ⟨x,rfl⟩;go_wp2;go_ret;exact⟨oB (by rw[E.o,p.o]),d.trans (x.h.mono d.size)⟩
    have f:lT c k=dA:=by
     obtain rfl:k=0:=by omega
     simp[lT,Va l,g]
    have p:bB (tS c (k+1)=dA):=by show tS c (k+1)=dA;rw[AD,n.o,f];rfl
    have A:decide (0<k)=cA:=by simp;omega
    clear f g;go_wp2_with fail;refine wB (by kernel_rfl) (by kernel_rfl) ?_;repeat (go_big_quiet_step (first|(go_at_call 123;exact mC (r _))))
    refine wpQuiet_nil ?_;rintro _ ⟨x,rfl⟩;go_wp2;exact⟨⟨k+1,by omega,by go_num,p.o,d.trans (x.h.mono d.size)⟩,by simp[intOf];omega⟩
   have m:nO c[k]=cA:=by simpa using g
   simp only[m]at r;have f:lT c k=cA:=by simp[lT,Va l,m]
   have p:bB (tS c (yA c)=cA):=aZ f l;clear f g m;go_wp2_with fail;refine wB (by kernel_rfl) (by kernel_rfl) ?_;repeat (go_big_quiet_step (first|(go_at_call 123;exact mC (r _))))
   refine wpQuiet_nil ?_;rintro _ ⟨x,rfl⟩;go_wp2;go_ret;exact⟨oB (by rw[E.o,p.o]),d.trans (x.h.mono d.size)⟩
  go_wp2;go_ret;have e:k=yA c:=by omega
  exact⟨oB (by rw[E.o,<-e];exact n.o.symm),d⟩
def mF(p:nB):nB:=if 1<=p.size/\p.size<=60000 then qB 4 p.size++qB 4 (lL p:Nat)++p else kA
def qY{p:nB}(h:1<=p.size/\p.size<=60000):(mF p).size=8+p.size:=by grind [mF,kB]
structure qE where
 K:Int
 T:nB
 X:nB
 U:Int
def aBb(w:eA)(b o:Nat)(a:List qE):Prop:=
 ∀i(h:i<yA a),w.cell? (dB b (o+i*4))=bA (zA a[i].K)/\w.cell? (dB b (o+i*4+1))=bA (oA a[i].T)/\w.cell? (dB b (o+i*4+2))=bA (oA a[i].X)/\w.cell? (dB b (o+i*4+3))=bA (zA a[i].U)
def pI(w:eA)(a:jC)(c:List qE):Prop:=c=[]\/∃b o,a=bA (dB b o)/\b<w.1.size/\aBb w b o c
def pI.z{w f:eA}{a:jC}{e:List qE}(h:pI w a e)(d:tB w f):pI f a e:=by
 obtain h|⟨b,o,rfl,c,h⟩:=h;exact Ca h;refine La ⟨b,o,rfl,Bb c d.size,λi m=>?_⟩;obtain⟨g,j,k,l⟩:=h i m;exact⟨by rw[<-g];exact d.cell c,by rw[<-j];exact d.cell c,by rw[<-k];exact d.cell c,by rw[<-l];exact d.cell c⟩
def pI.at{w:eA}{a:jC}{c:List qE}(h:pI w a c){i:Nat}(e:i<yA c):
 ∃b o,a=bA (dB b o)/\b<w.1.size/\w.cell? (dB b (o+i*4))=bA (zA c[i].K)/\w.cell? (dB b (o+i*4+1))=bA (oA c[i].T)/\w.cell? (dB b (o+i*4+2))=bA (oA c[i].X)/\w.cell? (dB b (o+i*4+3))=bA (zA c[i].U):=by
 obtain rfl|⟨b,o,rfl,d,h⟩:=h;exact absurd e (by simp);exact ⟨b,o,rfl,d,h i e⟩
def LO(w:eA)(B:Nat)(a:jC)(c:List qE):Prop:=
 c=[]\/∃g o b t,a=bA (dB g o)/\B<=g/\w.heap[g]?=bA (.cells b t (0,0))/\aBb w g o c
def LO.recs{w:eA}{B:Nat}{a:jC}{b:List qE}(h:LO w B a b):pI w a b:=by grind [LO,pI]
def KN{w:eA}{B:Nat}{e:jA}{a:jC}{k:Nat}{l:List qE}
(h:w.ownsRow B e 4 (pA a (yA l) k) (yA l) (l.flatMap λx=>[zA x.K,oA x.T,oA x.X,zA x.U])):LO w B a l:=by
 obtain⟨_,t⟩|⟨g,n,b,o,p,d,_,_,u,m⟩:=h.2;exact Ca (Nb.1 t);simp only[iA.slice.injEq]at o;have q:∀(l:List qE) i(c:i<yA l),(l.flatMap λx=>[iA.int .i64 x.K,oA x.T,oA x.X,zA x.U])[i*4]?=bA (zA l[i].K)/\(l.flatMap λx=>[iA.int .i64 x.K,oA x.T,oA x.X,zA x.U])[i*4+1]?=bA (oA l[i].T)/\(l.flatMap λx=>[iA.int .i64 x.K,oA x.T,oA x.X,zA x.U])[i*4+2]?=bA (oA l[i].X)/\(l.flatMap λx=>[iA.int .i64 x.K,oA x.T,oA x.X,zA x.U])[i*4+3]?=bA (zA l[i].U):=by
  intro l;induction l with
  |nil=>intro i c;exact absurd c (by simp)
  |cons x r v=>
   intro i c;cases i with
   |zero=>simp
   |succ i=>
    have:=v i (by simpa using c);simp only[Xc,Sd,Mb,Ec];refine⟨?_,?_,?_,?_⟩;rw[show(i+1)*4=i*4+1+1+1+1 by omega,Ga,Ga,Ga,Ga];exact this.1;rw[show(i+1)*4+1=i*4+1+1+1+1+1 by omega,Ga,Ga,Ga,Ga];exact this.2.1;rw[show(i+1)*4+2=i*4+2+1+1+1+1 by omega,Ga,Ga,Ga,Ga];exact this.2.2.1;rw[show(i+1)*4+3=i*4+3+1+1+1+1 by omega,Ga,Ga,Ga,Ga];exact this.2.2.2
 refine La ⟨g,0,b,e,o.1,p,d,λi c=>?_⟩;have f:∀j,j<yA l*4->b[j]?=(l.flatMap λx=>[iA.int .i64 x.K,oA x.T,oA x.X,zA x.U])[j]?:=λj s=>by
  rw[<-m,Jb s,Yd]
 rw[cell_of_row w g _ b _ _ d,cell_of_row w g _ b _ _ d,cell_of_row w g _ b _ _ d,cell_of_row w g _ b _ _ d,Ya,f _ (by omega),f _ (by omega),f _ (by omega),f _ (by omega)];exact q l i c
def dD:List qE->Nat
 |[]=>0
 |f::r=>f.T.size+f.X.size+dD r
def yS(a b:List qE):dD (a++b)=dD a+dD b:=by induction a<;>grind [dD]
def yT(a:List qE)(k:Nat)(h:k<yA a):dD (a.take (k+1))=dD (a.take k)+(a[k].T.size+a[k].X.size):=by
 rw[Pa h,yS];simp[dD]
def nX(a:List qE)(k:Nat):dD (a.take k)<=dD a:=by
 have:=yS (a.take k) (a.drop k);rw[Za]at this;omega
def eS(w:eA)(a:jC)(l:List nB):Prop:=l=[]\/∃b o,a=bA (dB b o)/\b<w.1.size/\∀i(h:i<yA l),w.cell? (dB b (o+i))=bA (oA l[i])
def eS.z{w e:eA}{a:jC}{l:List nB}(h:eS w a l)(d:tB w e):eS e a l:=by
 obtain h|⟨b,o,rfl,c,h⟩:=h;exact Ca h;exact La ⟨b,o,rfl,Bb c d.size,λi f=>by rw[<-h i f];exact d.cell c⟩
def eS.at{w:eA}{a:jC}{l:List nB}(h:eS w a l){i:Nat}(c:i<yA l):∃b o,a=bA (dB b o)/\b<w.1.size/\w.cell? (dB b (o+i))=bA (oA l[i]):=by grind [eS]
def oT(w:eA)(B:Nat)(a:jC)(l:List nB):Prop:=
 l=[]\/∃g o b t,a=bA (dB g o)/\B<=g/\w.heap[g]?=bA (.cells b t (0,0))/\∀i(h:i<yA l),w.cell? (dB g (o+i))=bA (oA l[i])
def oT.strs{w:eA}{B:Nat}{a:jC}{l:List nB}(h:oT w B a l):eS w a l:=by grind [oT,eS]
def LB{w:eA}{B:Nat}{e:jA}{a:jC}{c:Nat}{l:List nB}(h:w.ownsRow B e 1 (pA a (yA l) c) (yA l) (l.map iA.string)):oT w B a l:=by
 obtain⟨_,p⟩|⟨g,f,b,k,n,m,_,_,q,d⟩:=h.2;exact Ca (Nb.1 p);simp only[iA.slice.injEq]at k;refine La ⟨g,0,b,e,k.1,n,m,λi o=>?_⟩;rw[Ya,cell_of_row w g i b _ _ m];have j:(b.toList.take (yA l*1))[i]?=(l.map iA.string)[i]?:=by rw[d]
 rw[Jb (by omega)]at j;rw[<-Yd,j];simp[Va o]
def aDc:∃i,prog.info? 9=bA i/\i.zero=bA (oA kA)/\i.size=1/\i.bytes=16:=by
 have h:(prog.info? 9).map (λi=>(i.zero,i.size,i.bytes))=bA (bA (oA kA),1,16):=by kernel_rfl
 obtain⟨i,b,a⟩:=Wb.1 h;simp only[Dc]at a;exact⟨i,b,a.1,a.2.1,a.2.2⟩
