import Derived.Maps.Ext
import Derived.Sort.KeysCollected
import Derived.Test.YtcmdjimlmnaojaaGreatDoorJ06
import Derived.Deep.DeepCutAuto
import Derived.Deep.CutBlock
set_option maxRecDepth 100000
set_option maxHeartbeats 4000000
set_option linter.defProp false
open Option renaming some->cA
open Bool renaming false->dA,true->eA
open ByteArray renaming empty->lA
open List renaming length->zA
namespace Go.Proofs.YtcmdjimlmnaojaaGreatDoor
open Go renaming World->fA,Value->jA,TypeId->kA
open Value renaming string->pA,slice->qA
open Go.RowKit Tryz
structure fB(S:Nat→Prop)(w w':World):Prop where
 os:w'.os=w.os
 tape:w'.tape=w.tape
 output:w'.output=w.output
 size:w.1.size≤w'.1.size
 block:∀k,k<w.1.size→¬S k→w'.heap[k]?=w.heap[k]?
def fB.refl(S:Nat->Prop)(w:fA):fB S w w:=⟨rfl,rfl,rfl,Ia _,λ_ _ _=>rfl⟩
def fB.trans{S:Nat->Prop}{a b c:fA}(h:fB S a b)(k:fB (λi=>S i\/a.1.size<=i) b c):fB S a c:=
 ⟨k.os.trans h.os,k.tape.trans h.tape,k.output.trans h.output,Ua h.size k.size,λi e f=>(k.block i (Bb e h.size) (λd=>by obtain d|d:=d;exact f d;omega)).trans (h.block i e f)⟩
def fB.trans'{S:Nat->Prop}{a b c:fA}(h:fB S a b)(k:fB S b c):fB S a c:=
 ⟨k.os.trans h.os,k.tape.trans h.tape,k.output.trans h.output,Ua h.size k.size,λi d e=>(k.block i (Bb d h.size) e).trans (h.block i d e)⟩
def fB.mono{S S':Nat->Prop}{a b:fA}(h:fB S a b)(f:∀i,i<a.1.size->S i->S' i):fB S' a b:=
 ⟨h.os,h.tape,h.output,h.size,λi c e=>h.block i c (λd=>e (f i c d))⟩
def fB.of{S:Nat->Prop}{a b:fA}(h:xB a b):fB S a b:=⟨h.os,h.tape,h.output,h.size,λk c _=>h.block k c⟩
def fB.but{g:Nat}{a b:fA}(h:sD g a b):fB (·=g) a b:=⟨h.os,h.tape,h.output,h.size,λk c d=>h.block k c d⟩
def fB.grown{r:Option Nat}{a b:fA}(h:a.grownBy b r):fB (λk=>r=cA k) a b:=⟨h.os,h.tape,h.output,h.size,λk c d=>h.block k c (λe=>d e.symm)⟩
def fB.below{S:Nat->Prop}{B:Nat}{a b:fA}(h:fB S a b)(e:B<=a.1.size)(d:∀k,k<B->¬S k):Below B a b:=
 ⟨h.os,h.tape,h.output,h.size,λk c=>h.block k (by omega) (d k c)⟩
def fB.drew{S:Nat->Prop}{a b:fA}(h:fB S a b):fB S a b.drew:=⟨h.os,h.tape,h.output,h.size,h.block⟩
def fB.setCell{S:Nat->Prop}{a b:fA}(h:fB S a b){g:Nat}(c:S g\/a.1.size<=g)(o:Nat)(v:jA):fB S a (b.setCell (eB g o) v):=
 h.trans ((fB.but ((sD.refl g b).setCell o v)).mono λi _ e=>by subst e;exact c)
def fB.blk{S:Nat->Prop}{a b:fA}(h:fB S a b){g:Nat}{c:Array jA}{t:kA}(d:jB a g c t)(e:¬S g):jB b g c t:=(h.block g (bB d) e).trans d
def fB.row{S:Nat->Prop}{a b:fA}(h:fB S a b){B:Nat}{e:kA}{c:Nat}{v:jA}{n:Nat}{k:List jA}(j:a.ownsRow B e c v n k)(o:∀g,v.ownBlock=cA g->¬S g):b.ownsRow B e c v n k:=by
 refine⟨j.1,?_⟩;obtain l|⟨g,d,f,rfl,m,i,r⟩:=j.2;exact Ca l;exact La ⟨g,d,f,rfl,m,(h.block g (bB i) (o g rfl)).trans i,r⟩
def fB.map{H:Type}{S:Nat->Prop}{a b:fA}(h:fB S a b){P:Program}{k:kA}{R:jA->Option (DataW H×List MemPlace)}{m n:Nat}{D:DataW H}(e:a.ownsMap P k R m n D)(i:¬S m):b.ownsMap P k R m n D:=by
 have d:=e.lt;obtain⟨f,c,g,r⟩:=e;exact⟨f,c,(h.block m d i).trans g,r⟩
section
open Go.Maps
def kL(s:pB):Lit:=.string s.data.toList
theorem yZ(s:pB):kL s=.string s.toList:=by rw[kL,ByteArray.toList_eq]
theorem aDc{x y:pB}(h:kL x=kL y):x=y:=by
 rw[yZ,yZ]at h;exact toList_inj (by simpa using h)
def JM:∀x y:List UInt8,bytesBefore x y=Op.bytesLess x y
 |[],[]=>rfl
 |[],_::_=>rfl
 |_::_,[]=>rfl
 |a::x,b::y=>by rw[bytesBefore,Op.bytesLess,JM x y]
def bK(x y:pB):Bool:=Op.bytesLess x.toList y.toList
def sN(x:pB):bK x x=dA:=gG _
def GY{x y z:pB}(a:bK x y=eA)(b:bK y z=eA):bK x z=eA:=sJ _ _ _ a b
def oZ{x y:pB}(h:bK x y=eA):bK y x=dA:=uP h
def aV{x y:pB}(h:bK x y=dA)(a:x≠y):bK y x=eA:=wL _ _ h (λe=>a (toList_inj e))
theorem mI{x y:pB}(h:bK x y=eA):x≠y:=λe=>by rw[e,sN]at h;cases h
theorem TN(x y:pB):(kL x).before (kL y)=bK x y:=by
 rw[yZ,yZ,bK];exact JM _ _
theorem CX(x y:pB):(kL x).sameKey (kL y)=(x.toList==y.toList):=by rw[yZ,yZ];rfl
theorem gE(x y:pB):(x.toList==y.toList)=eA ↔ x=y:=by
 rw[Lg];exact⟨toList_inj,λe=>by rw[e]⟩
theorem yD{x y:pB}(h:x≠y):(x.toList==y.toList)=dA:=by
 rw[Yc];exact λe=>h ((gE x y).1 e)
section
variable {V:Type}
def gS(L:List (pB×V)):Prop:=L.Pairwise (λp q=>bK p.1 q.1=eA)
def lk(L:List (pB×V))(k:pB):Option V:=(L.find? (λp=>p.1.toList==k.toList)).map (·.2)
def rS(k:pB)(d:V):List (pB×V)->List (pB×V)
 |[]=>[(k,d)]
 |p::r=>if bK p.1 k=eA then p::rS k d r else if p.1.toList==k.toList then(k,d):: r else(k,d):: p::r
def EC(k:pB)(L:List (pB×V)):List (pB×V):=L.filter (λp=>!(p.1.toList==k.toList))
theorem aLi(k:pB):lk ([]:List (pB×V)) k=none:=rfl
theorem FF(p:pB×V)(r:List (pB×V))(k:pB):lk (p::r) k=if p.1=k then cA p.2 else lk r k:=by grind [lk,gE,yD]
theorem oq{L:List (pB×V)}{k:pB}{d:V}(h:lk L k=cA d):(k,d) ∈L:=by induction L<;>grind [lk,FF]
theorem aHq{L:List (pB×V)}{k:pB}(h:lk L k=none):∀p∈L,p.1≠k:=by induction L<;>grind [lk,FF]
theorem ot{L:List (pB×V)}{k:pB}(h:∀p∈L,p.1≠k):lk L k=none:=by
 cases hl:lk L k with
 |none=>rfl
 |some d=>exact absurd rfl (h _ (oq hl))
theorem gS.head{p:pB×V}{r:List (pB×V)}(h:gS (p::r)):∀q∈r,bK p.1 q.1=eA:=(Bc.1 h).1
theorem gS.tail{p:pB×V}{r:List (pB×V)}(h:gS (p::r)):gS r:=(Bc.1 h).2
theorem VF{L:List (pB×V)}(a:gS L){k:pB}{d:V}(h:(k,d) ∈L):lk L k=cA d:=by
 induction L with
 |nil=>cases h
 |cons p r b=>
  rw[FF];rcases Lb.1 h with e|h;rw[<-e,Ma rfl];have:=a.head _ h;rw[Ja (mI this)];exact b a.tail h
theorem xm{k:pB}{d:V}{L:List (pB×V)}{q:pB×V}(h:q∈rS k d L):q=(k,d)\/q∈L:=by induction L<;>grind [rS]
theorem nw{k:pB}{d:V}{L:List (pB×V)}(h:gS L):gS (rS k d L):=by
 induction L with
 |nil=>exact We ..
 |cons p r g=>
  unfold rS;split
  .rename_i b;refine Bc.2 ⟨λq a=>?_,g h.tail⟩;rcases xm a with rfl|a
   .exact b
   exact h.head q a
  rename_i b;split
  .rename_i f;rw[gE]at f;refine Bc.2 ⟨λq a=>?_,h.tail⟩;show bK k q.1=eA;rw[<-f];exact h.head q a
  rename_i f;have c:=aV (by simpa using b) (λe=>f ((gE _ _).2 e));refine Bc.2 ⟨λq a=>?_,h⟩;rcases Lb.1 a with rfl|a
  .exact c
  exact GY c (h.head q a)
theorem aDp{k:pB}{d:V}{L:List (pB×V)}(b:gS L)(a:pB):lk (rS k d L) a=if k=a then cA d else lk L a:=by induction L<;>grind [gS,lk,rS,FF,mI,gE]
theorem NW{k:pB}{L:List (pB×V)}(h:gS L):gS (EC k L):=Mf _ h
theorem ga{k:pB}{L:List (pB×V)}(a:pB):lk (EC k L) a=if k=a then none else lk L a:=by grind [lk,EC,aLi,gE,FF,yD]
theorem gS.eq_of_lk{g i:List (pB×V)}(j:gS g)(l:gS i)(h:∀k,lk g k=lk i k):g=i:=by
 refine Qf (le:=fun(p q:pB×V)=>bK p.1 q.1=eA) (λp q f r n m=>by rw[oZ n]at m;cases m) j l ?_;have m:∀{L:List (pB×V)},gS L->L.Nodup:=λo=>o.imp (fun{a b} c e=>by rw[e,sN]at c;cases c);refine(List.perm_ext_iff_of_nodup (m j) (m l)).2 λp=>?_;constructor
 .intro f;exact oq (k:=p.1) (d:=p.2) (by rw[<-h];exact VF j f)
 intro f;exact oq (k:=p.1) (d:=p.2) (by rw[h];exact VF l f)
end
def jE(L:List (pB×DataW Unit)):DataW Unit:=.map (L.map λp=>(kL p.1,p.2))
def OO(L:List (pB×DataW Unit))(k:pB):(L.map λp=>(kL p.1,p.2)).find? (λp=>p.1.sameKey (kL k))=(L.find? (λp=>p.1.toList==k.toList)).map (λp=>(kL p.1,p.2)):=by
 rw[List.find?_map];congr 1;apply congrFun;congr 1;funext p;exact CX p.1 k
def bu(L:List (pB×DataW Unit))(k:pB)(z:DataW Unit):(jE L).atKey (kL k) z=(lk L k).getD z:=by
 simp only[jE,DataW.atKey];rw[OO,lk];cases L.find? (λp=>p.1.toList==k.toList)<;>rfl
def xg(L:List (pB×DataW Unit))(k:pB):has (jE L) (kL k)=(lk L k).isSome:=by
 have h:∀(l:List (Lit×DataW Unit)) f,l.any f=(l.find? f).isSome:=λl f=>by rw[Qb,List.find?_isSome,Zd]
 rw[jE,has_eq,h,OO,lk];cases L.find? (λp=>p.1.toList==k.toList)<;>rfl
def qb(L:List (pB×DataW Unit)):Maps.size (jE L)=zA L:=by rw[jE,size_eq,Xa]
def yw(k:pB)(q:pB×DataW Unit):ChangeMaps.notKey (kL k) (kL q.1,q.2)=!(q.1.toList==k.toList):=by
 show(!(kL q.1).sameKey (kL k))=_;rw[CX]
def EI(k:pB)(L:List (pB×DataW Unit)):(L.map λp=>(kL p.1,p.2)).filter (ChangeMaps.notKey (kL k))=(EC k L).map λp=>(kL p.1,p.2):=by
 rw[List.filter_map,EC];congr 1;apply List.filter_congr;intro q _;exact yw k q
def vw(k:pB)(L:List (pB×DataW Unit)):(jE L).del (kL k)=jE (EC k L):=by
 rw[jE,DataW.del_eq,ChangeMaps.delKey,EI,jE]
def YL(k:pB)(d:DataW Unit){L:List (pB×DataW Unit)}(g:gS L)(e:lk L k=none):DataW.insert (kL k,d) (L.map λp=>(kL p.1,p.2))=(rS k d L).map λp=>(kL p.1,p.2):=by
 induction L with
 |nil=>rfl
 |cons p r i=>
  have b:=aHq e;rw[Fc,DataW.insert,rS];by_cases h:bK p.1 k=eA
  .rw[Ja (by rw[TN,oZ h];simp),Ma h,Fc,i g.tail (ot λq f=>b q (Sb _ f))]
  have a:=b p (Kc ..);have c:=aV (by simpa using h) a;rw[Ma (by rw[TN];exact c),Ja h,Ja (by rw[yD a];simp)];rfl
def fe(k:pB)(d:DataW Unit){L:List (pB×DataW Unit)}(a:gS L):rS k d (EC k L)=rS k d L:=by grind [gS,rS,EC,gS.eq_of_lk,nw,NW,aDp,ga]
def zh(k:pB)(d:DataW Unit){L:List (pB×DataW Unit)}(a:gS L):(jE L).put (kL k) d=jE (rS k d L):=by
 rw[jE,DataW.put_eq,ChangeMaps.putKey,EI,YL k d (NW a) (by rw[ga,Ma rfl]),fe k d a,jE]
theorem vU(L:List (pB×DataW Unit)):strKeys (jE L)=L.map (λp=>p.1.data.toList):=by
 show((L.map λp=>(kL p.1,p.2)).map λp=>strOf p.1)=_;rw[Vd];rfl
end
def nU(x y:cC):Bool:=x.N.toList==y.N.toList&&x.V.toList==y.V.toList
def vH:List cC->List cC->Bool
 |[],[]=>eA
 |x::r,y::q=>nU x y&&vH r q
 |_,_=>dA
def mw(x y:cC):nU x y=eA ↔ x=y:=by
 unfold nU;rw[Sa,Lg,Lg];constructor
 .rintro ⟨a,b⟩;cases x;cases y
  simp only[cC.mk.injEq];exact⟨toList_inj a,toList_inj b⟩
 rintro rfl;exact⟨rfl,rfl⟩
theorem bX:∀(a b:List cC),vH a b=eA ↔ a=b
 |[],[]=>by simp[vH]
 |[],_::_=>by simp[vH]
 |_::_,[]=>by simp[vH]
 |x::r,y::q=>by
  rw[vH,Sa,mw,bX r q];simp
def px{a b:List cC}(h:zA a≠zA b):vH a b=dA:=by
 rw[Yc];intro c;exact h (by rw[(bX a b).1 c])
def jg(a b:List cC)(k:Nat)(c:k<zA a)(d:k<zA b):vH (a.drop k) (b.drop k)=(nU a[k] b[k] &&vH (a.drop (k+1)) (b.drop (k+1))):=by
 rw[Cb c,Cb d,vH]
def jO(a:List cC):Bool:=decide ((wB a).2.1=0) &&vH (wB a).1 a
def nD:List cC->pB
 |[]=>lA
 |l::r=>gN l.N++dG l.V++nD r
def aI(a:List cC):pB:=tB 1 (zA a:Nat)++nD a
def uI(a:List cC):pB:=if jO a=eA then aI a else lA
def xM:∀(a b:List cC),nD (a++b)=nD a++nD b
 |[],b=>by simp[nD]
 |l::r,b=>by
  show gN l.N++dG l.V++nD (r++b)=gN l.N++dG l.V++nD r++nD b;rw[xM r b,Wa (b:=nD r)]
theorem iT(a:List cC)(k:Nat)(h:k<zA a):nD (a.take (k+1))=nD (a.take k)++(gN a[k].N++dG a[k].V):=by
 rw[Pa h,xM];simp[nD]
def NJ(a:List cC):zA (wB a).1<=16:=by grind [wB,CH,zZ]
theorem XH{a:List cC}(h:(wB a).2.1=0):zA a<=16:=by
 unfold wB at h;split at h;exact absurd h (by simp);omega
theorem NH{a:List cC}(h:jO a=eA):zA a<=16:=by grind [jO,XH]
def aBk{a:List cC}(h:jO a=eA):wB a=(a,0,(wB a).2.2):=by grind [jO,wB,bX]
theorem LL{x y:pB}(h:x.data.toList=y.data.toList):x=y:=by
 cases x;cases y
 simp only[ByteArray.mk.injEq];exact Array.toList_inj.1 h
theorem DW(x y:pB):(x++y).data.toList=x.data.toList++y.data.toList:=by simp
theorem kQ(s:pB)(i j:Nat):(s.extract i j).data.toList=(s.data.toList.take j).drop i:=by
 rw[ByteArray.data_extract,Array.toList_extract,List.extract_eq_drop_take']
theorem pR(s:pB):s.size=zA s.data.toList:=by simp
structure Rd where
 rest:pB
 H:Bool
def aG(n:Nat)(r:Rd):pB×Rd:=if r.rest.size<n then(lA,⟨r.rest,eA⟩) else(r.rest.extract 0 n,⟨r.rest.extract n r.rest.size,r.H⟩)
def kK(k:Nat)(r:Rd):Nat×Rd:=(vX (aG k r).1.data.toList,(aG k r).2)
def tG(k:Nat)(r:Rd):pB×Rd:=aG (kK k r).1 (kK k r).2
theorem AJ(n:Nat)(r:Rd):(aG n r).1.size<=n/\(aG n r).1.size<=r.rest.size/\(aG n r).2.rest.size<=r.rest.size:=by
 unfold aG;split;exact ⟨by simp,by simp,Ia _⟩;refine ⟨?_,?_,?_⟩<;>simp<;>omega
def DF{n:Nat}{r:Rd}(h:(aG n r).2.H=dA):r.H=dA/\(aG n r).1.size=n/\r.rest=(aG n r).1++(aG n r).2.rest:=by
 unfold aG at *;split at h;exact absurd h (by simp)
 rename_i a;rw[Ja a];refine⟨h,by simp;omega,?_⟩;apply LL;rw[DW,kQ,kQ,Kf,pR,Rb,Za]
def AI{n:Nat}{r:Rd}{t q:pB}(h:r.rest=t++q)(a:t.size=n):aG n r=(t,⟨q,r.H⟩):=by grind [aG,LL,kQ,DW,pR]
def RO{k:Nat}{r:Rd}(h:(tG k r).2.H=dA):r.H=dA/\r.rest=tB k ((tG k r).1.size:Nat)++((tG k r).1++(tG k r).2.rest):=by
 obtain⟨f,g,i⟩:=DF (r:=(kK k r).2) h;obtain⟨b,c,d⟩:=DF (n:=k) (r:=r) f;refine⟨b,?_⟩;have e:tB k ((tG k r).1.size:Nat)=(aG k r).1:=by
  show tB k ((aG (kK k r).1 (kK k r).2).1.size:Nat)=_;rw[g];have:=so (aG k r).1.data.toList k (by rw[<-pR];exact c);show tB k (vX (aG k r).1.data.toList:Nat)=_;rw[this]
 rw[e];have a:(aG k r).2.rest=(tG k r).1++(tG k r).2.rest:=i;rw[<-a];exact d
def JH{k:Nat}{r:Rd}{t q:pB}(h:r.rest=tB k (t.size:Nat)++(t++q))(d:t.size<256 ^ k):tG k r=(t,⟨q,r.H⟩):=by
 have a:=AI (n:=k) h (nB k _);have b:(kK k r).1=t.size:=by
  show vX (aG k r).1.data.toList=_;rw[a];exact pT k t.size d
 have c:(kK k r).2=⟨t++q,r.H⟩:=by
  show(aG k r).2=_;rw[a]
 rw[tG,b,c];exact AI rfl rfl
theorem ua(k:Nat)(r:Rd):(tG k r).1.size<=r.rest.size/\(tG k r).2.rest.size<=r.rest.size:=by grind [tG,kK,aG,AJ]
def pa(k:Nat)(r:Rd):(kK k r).1<256 ^ k:=by
 have h:=GX (aG k r).1.data.toList;have a:=(AJ k r).1;have b:256 ^ zA (aG k r).1.data.toList<=256 ^ k:=Sc (by omega) (by rw[<-pR];exact a);show vX (aG k r).1.data.toList<_;omega
def yF(x a:Int)(w:fA):rI 59 #[aB x,aB a] w (.bool (yB x 0 a)):=by
 by_cases b:0<=x
 .by_cases c:x<=a
  .have e:yB x 0 a=eA:=by simp[yB,b,c]
   rw[e];go_enter func59,ntmps59;go_wp2;go_ret;exact⟨rfl,rfl⟩
  have e:yB x 0 a=dA:=by simp[yB,c]
  rw[e];go_enter func59,ntmps59;go_wp2;go_ret;exact⟨rfl,rfl⟩
 have e:yB x 0 a=dA:=by simp[yB,b]
 rw[e];go_enter func59,ntmps59;go_wp2;go_ret;exact⟨rfl,rfl⟩
def nk{C D:Prop}[Decidable C][Decidable D]{α:Type}{x y:α}(h:C ↔ D):(if C then x else y)=if D then x else y:=by grind
def eL{a b c d:Int}(e:a=c)(f:b=d):Ending.returned (.tuple #[aB a,aB b])=.returned (.tuple #[aB c,aB d]):=by rw[e,f]
def qT(t:pB)(v:Nat):Nat->Nat
 |0=>v
 |j+1=>qT t v j*64+zC t (j+1) % 64
def aQ(t:pB)(n v a:Nat):Nat×Nat:=
 if n<=t.size/\(∀k,k<n->1<=k->zC t k / 64=2)/\a<=qT t v (n-1)/\okR (qT t v (n-1)) then(qT t v (n-1),n) else(0,0)
def aNi(t:pB)(h:zC t 0 / 32=6):KI t=aQ t 2 (zC t 0 % 32) 128:=by
 rw[aHm t h,aQ];have e:qT t (zC t 0 % 32) (2-1)=zC t 0 % 32*64+zC t 1 % 64:=rfl;rw[e];refine nk ?_;constructor
 .rintro ⟨a,b,c⟩;refine⟨a,λk _ _=>?_,c,by unfold okR aLs;simp;omega⟩;have:k=1:=by omega
  subst this;exact b
 rintro ⟨a,b,c,_⟩;exact⟨a,b 1 (by omega) (by omega),c⟩
def aNj(t:pB)(h:zC t 0 / 16=14):KI t=aQ t 3 (zC t 0 % 16) 2048:=by
 rw[xz t h,aQ];have e:qT t (zC t 0 % 16) (3-1)=(zC t 0 % 16*64+zC t 1 % 64)*64+zC t 2 % 64:=rfl;rw[e];refine nk ?_;constructor
 .rintro ⟨b,a,c,d,f⟩;refine⟨b,λk _ _=>?_,d,f⟩;have:k=1\/k=2:=by omega
  obtain rfl|rfl:=this;exact a;exact c
 rintro ⟨b,a,c,d⟩;exact⟨b,a 1 (by omega) (by omega),a 2 (by omega) (by omega),c,d⟩
def aNk(t:pB)(h:zC t 0 / 8=30):KI t=aQ t 4 (zC t 0 % 8) 65536:=by
 rw[aDh t h,aQ];have e:qT t (zC t 0 % 8) (4-1)=((zC t 0 % 8*64+zC t 1 % 64)*64+zC t 2 % 64)*64+zC t 3 % 64:=rfl;rw[e];refine nk ?_;constructor
 .rintro ⟨b,a,c,d,f,g⟩;refine⟨b,λk _ _=>?_,f,g⟩;have:k=1\/k=2\/k=3:=by omega
  obtain rfl|rfl|rfl:=this;exact a;exact c;exact d
 rintro ⟨b,a,c,d⟩;exact⟨b,a 1 (by omega) (by omega),a 2 (by omega) (by omega),a 3 (by omega) (by omega),c,d⟩
def cd(t:pB)(v:Nat):∀j,qT t v j<(v+1)*64 ^ j
 |0=>by simp[qT]
 |j+1=>by
  have:=cd t v j;rw[qT,Od,<-Nat.mul_assoc];omega
def ZU(t:pB)(w:fA)(Q:0<t.size)(W:t.size<=maxLen):
 rI 227 #[pA t] w (.tuple #[aB ((KI t).1:Nat),aB ((KI t).2:Nat)]):=by
 unfold maxLen at W;have h:t[0].toNat<256:=t[0].toNat_lt;have a:cB _:=bV t 0 Q;by_cases p:t[0].toNat<128
 .have E:cB (KI t=(t[0].toNat,1)):=by show _=_;rw[a.o];exact aHl t (by rw[<-a.o];exact p)
  rw[E.o];go_enter func227,ntmps227;go_wp2;go_ret2;exact⟨rfl,rfl⟩
 have c:(((t[0].toNat:Int) / 32==6)=eA/\KI t=aQ t 2 (t[0].toNat % 32) 128)\/((t[0].toNat:Int) / 32==6)=dA/\((((t[0].toNat:Int) / 16==14)=eA/\KI t=aQ t 3 (t[0].toNat % 16) 2048)\/((t[0].toNat:Int) / 16==14)=dA/\((((t[0].toNat:Int) / 8==30)=eA/\KI t=aQ t 4 (t[0].toNat % 8) 65536)\/((t[0].toNat:Int) / 8==30)=dA/\KI t=(0,0))):=by
  by_cases z:t[0].toNat / 32=6
  .exact Ca ⟨by simp;omega,by rw[a.o];exact aNi t (by rw[<-a.o];exact z)⟩
  refine La ⟨by simp;omega,?_⟩;by_cases s:t[0].toNat / 16=14
  .exact Ca ⟨by simp;omega,by rw[a.o];exact aNj t (by rw[<-a.o];exact s)⟩
  refine La ⟨by simp;omega,?_⟩;by_cases u:t[0].toNat / 8=30
  .exact Ca ⟨by simp;omega,by rw[a.o];exact aNk t (by rw[<-a.o];exact u)⟩
  exact La ⟨by simp;omega,by rw[a.o]at p z s u;exact aDi t (by omega) z s u⟩
 have g:=dB c;clear c;go_enter func227,ntmps227;go_upto_block 0 with fail;go_cut [5,6,7] (λX G h Z=>∃n v d:Nat,X=aB n/\G=aB v/\h=aB d/\2<=n/\n<=4/\(v+1)*64 ^ (n-1)<=8388608/\KI t=aQ t n v d/\d<=65536/\Z=w)
 case first=>
  obtain⟨N,E⟩|⟨N,⟨O,E⟩|⟨O,⟨P,E⟩|⟨P,E⟩⟩⟩:=g.o
  all_goals
   have E:=dB E;clear g
  .go_wp2;go_meet;exact⟨2,t[0].toNat % 32,128,rfl,by go_num,rfl,by omega,by omega,by omega,E.o,by omega,rfl⟩
  .go_wp2;go_meet;exact⟨3,t[0].toNat % 16,2048,rfl,by go_num,rfl,by omega,by omega,by omega,E.o,by omega,rfl⟩
  .go_wp2;go_meet;exact⟨4,t[0].toNat % 8,65536,rfl,by go_num,rfl,by omega,by omega,by omega,E.o,by omega,rfl⟩
  go_wp2;go_ret2;exact⟨eL (by simp[E.o]) (by simp[E.o]),rfl⟩
 clear g;obtain⟨n,v,d,rfl,rfl,rfl,T,U,L,H,S,rfl⟩:=hcut;have E:=dB H;have o:=dB L;clear H L;by_cases h:t.size<n
 .have b:cB (KI t=(0,0)):=by show _=_;rw[E.o,aQ,Ja (λh=>by have:=h.1;omega)]
  go_wp2;go_ret2;exact⟨eL (by simp[b.o]) (by simp[b.o]),rfl⟩
 go_wp2;go_loop [6,8] (λG i=>∃j V:Nat,1<=j/\j<=n/\i=aB j/\G=aB V/\V<8388608/\cB (V=qT t v (j-1)/\∀k,k<j->1<=k->zC t k / 64=2)) (λ_ i=>n-(intOf i).toNat)
 case atStart=>exact⟨1,v,by omega,by omega,rfl,rfl,by have p:=o.o;have s:=Nat.le_mul_of_pos_right (v+1) (show 0<64 ^ (n-1) from Zf (by omega));omega,rfl,λk K h=>absurd h (by omega)⟩
 case round=>
  obtain⟨j,V,B,m,rfl,rfl,m,q⟩:=hrel;by_cases F:j<n
  .have C:j<t.size:=by omega
   have R:t[j].toNat<256:=t[j].toNat_lt;have x:cB _:=bV t j C;by_cases J:t[j].toNat / 64=2
   .have A:((t[j].toNat:Int) / 64 != 2)=dA:=by simp;omega
    have I:cB (qT t v j=V*64+t[j].toNat % 64):=by
     show _=_;obtain⟨m,rfl⟩:∃m,j=m+1:=⟨j-1,by omega⟩
     rw[qT,x.o,q.o.1];rfl
    go_wp2;refine⟨⟨j+1,V*64+t[j].toNat % 64,by omega,by omega,by go_num,by go_num,?_,I.o.symm,?_⟩,by simp[intOf];omega⟩
    .have p:=cd t v j;rw[I.o]at p;have u:(v+1)*64 ^ j<=(v+1)*64 ^ (n-1):=Hf (Ia _) (Sc (by omega) (by omega));have:=o.o;omega
    intro k K D;by_cases e:k=j
    .subst e;rw[<-x.o];exact J
    exact q.o.2 k (by omega) D
   have A:((t[j].toNat:Int) / 64 != 2)=eA:=by simp;omega
   have b:cB (KI t=(0,0)):=by show _=_;rw[E.o,aQ,Ja (λh=>J (by rw[x.o];exact h.2.1 j F B))]
   go_wp2;go_ret2;exact⟨eL (by simp[b.o]) (by simp[b.o]),rfl⟩
  have y:cB (j=n):=by show _=_;omega
  have M:cB (qT t v (n-1)=V):=by show _=_;rw[<-y.o];exact q.o.1.symm
  have c:(V<d\/¬V<d/\1114111<V\/¬V<d/\¬1114111<V/\yB (V:Int) 55296 57343=eA)/\KI t=(0,0)\/¬V<d/\¬1114111<V/\yB (V:Int) 55296 57343=dA/\KI t=(V,n):=by
   rw[E.o,aQ,M.o];by_cases f:V<d
   .exact Ca ⟨Ca f,Ja (λh=>by have:=h.2.2.1;omega)⟩
   by_cases l:1114111<V
   .exact Ca ⟨La (Ca ⟨f,l⟩),Ja (λh=>by have:=(ZC h.2.2.2).1;omega)⟩
   by_cases r:55296<=V/\V<=57343
   .exact Ca ⟨La (La ⟨f,l,by simp[yB];omega⟩),Ja (λh=>(ZC h.2.2.2).2 r)⟩
   exact La ⟨f,l,by simp[yB];omega,Ma ⟨by omega,λk K=>q.o.2 k (by have:=y.o;omega),by omega,aLr ⟨by omega,r⟩⟩⟩
  clear y;obtain⟨f|⟨f,l⟩|⟨f,l,r⟩,b⟩|⟨f,l,r,b⟩:=c
  all_goals
   have b:=dB b;go_wp2_with(go_at_call 86;refine kO (eE (by assumption) _) ?_);go_ret2;exact⟨eL (by simp[b.o]) (by simp[b.o]),rfl⟩
def MX(w:fA)(a:nC)(l:List Int):Prop:=l=[]\/∃b o,a=cA (eB b o)/\b<w.1.size/\∀i(h:i<zA l),w.cell? (eB b (o+i))=cA (aB l[i])
def MX.at{w:fA}{a:nC}{l:List Int}(h:MX w a l){i:Nat}(c:i<zA l):∃b o,a=cA (eB b o)/\b<w.1.size/\w.cell? (eB b (o+i))=cA (aB l[i]):=by grind [MX]
def ia{w:fA}{B:Nat}{e:kA}{a:nC}{c:Nat}{l:List Int}(h:w.ownsRow B e 1 (qA a (zA l) c) (zA l) (l.map (jA.int .i64))):MX w a l:=by
 obtain⟨_,o⟩|⟨g,f,b,k,q,m,_,_,p,d⟩:=h.2;exact Ca (Nb.1 o);simp only[jA.slice.injEq]at k;refine La ⟨g,0,k.1,bB m,λi n=>?_⟩;rw[Ya,cell_of_row w g i b _ _ m];have j:(b.toList.take (zA l*1))[i]?=(l.map (jA.int .i64))[i]?:=by rw[d]
 rw[Jb (by omega)]at j;rw[<-Yd,j];simp[Va n]
def aCw:∃i,prog.info? 3=cA i/\i.zero=cA (aB 0)/\i.size=1/\i.bytes=8:=by
 have h:(prog.info? 3).map (λi=>(i.zero,i.size,i.bytes))=cA (cA (aB 0),1,8):=by kernel_rfl
 obtain⟨i,b,a⟩:=Wb.1 h;simp only[Dc]at a;exact⟨i,b,a.1,a.2.1,a.2.2⟩
def qS:(prog.info? 175).map (λi=>(i.zero,i.size,i.bytes))=cA (cA (.agg #[pA lA,pA lA]),2,32):=by kernel_rfl
abbrev aHn:Inhabited cC:=⟨⟨lA,lA⟩⟩
def aLm:NeqAt prog 175 (λx:cC=>.agg #[pA x.N,pA x.V]) nU:=by
 refine⟨λx y w=>?_,GuardAt.agg _ (by kernel_rfl)⟩;have f:=underlying9;have e:=isAgg9;have g:=sizeOf9;have c:prog.underlying 175=cA (.struct (prog.fieldsOf 175)):=by kernel_rfl
 have d:prog.stoodInHeld 175=dA:=by kernel_rfl
 rw[run_neq_struct,show(10000:Nat)=9999+1 from rfl,run_equalIn_agg w 9999 175 _ _ c d];simp only[Program.fieldsOf,underlying175];go_simp;by_cases a:x.N.toList=y.N.toList<;>by_cases b:x.V.toList=y.V.toList<;>simp[nU,a,b]
structure oF where
 B:List cC
 bits:Int
structure eG where
 K:Int
 T:pB
 R:pB
 U:Int
 P:List oF
def bp(w:fA)(b o:Nat)(x:oF):Prop:=
 ∃a c,w.cell? (eB b o)=cA (qA a (zA x.B) c)/\w.cell? (eB b (o+1))=cA (aB x.bits)/\qD w a x.B/\zA x.B<=c
def aKa(w:fA)(b o:Nat)(a:List oF):Prop:=∀i(h:i<zA a),bp w b (o+i*2) a[i]
def oJ(w:fA)(a:nC)(c:List oF):Prop:=c=[]\/∃b o,a=cA (eB b o)/\b<w.1.size/\aKa w b o c
def bp.z{w f:fA}{b o:Nat}{x:oF}(h:bp w b o x)(d:b<w.1.size)(e:xB w f):bp f b o x:=by
 obtain⟨a,c,g,i,j,k⟩:=h;exact⟨a,c,(e.cell d).trans g,(e.cell d).trans i,j.z e,k⟩
def oJ.z{w e:fA}{a:nC}{f:List oF}(h:oJ w a f)(d:xB w e):oJ e a f:=by
 obtain h|⟨b,o,rfl,c,h⟩:=h;exact Ca h;exact La ⟨b,o,rfl,Bb c d.size,λi g=>(h i g).z c d⟩
def oJ.atc{w:fA}{a:nC}{c:List oF}(h:oJ w a c){i:Nat}(g:i<zA c):
 ∃b o d e,a=cA (eB b o)/\b<w.1.size/\w.cell? (eB b (o+i*2))=cA (.slice d (zA c[i].B) e)/\w.cell? (eB b (o+i*2+1))=cA (aB c[i].bits)/\qD w d c[i].B/\zA c[i].B<=e:=by
 obtain rfl|⟨b,o,rfl,f,h⟩:=h;exact absurd g (by simp);obtain ⟨d,e,h⟩:=h i g;exact⟨b,o,d,e,rfl,f,h⟩
def oJ.at{w:fA}{a:nC}{c:List oF}(h:oJ w a c){i:Nat}(m:i<zA c):
 ∃b o d e,a=cA (eB b o)/\b<w.1.size/\w.cell? (eB b (o+i*2))=cA (.slice d (zA c[i].B) e)/\w.cell? (eB b (o+i*2+1))=cA (aB c[i].bits)/\qD w d c[i].B:=by
 obtain⟨b,o,d,e,f,g,j,k,l,_⟩:=h.atc m;exact⟨b,o,d,e,f,g,j,k,l⟩
def zD.butS{g b o B:Nat}{w d:fA}{f:List cC}(h:zD w B (cA (eB b o)) f)(m:sD g w d)(p:b≠g):zD d B (cA (eB b o)) f:=by
 obtain h|⟨r,s,c,t,e,l,a,h⟩:=h;exact Ca h;simp only[Qa,Addr.mk.injEq,Cc]at e;obtain⟨rfl,rfl⟩:=e;have k:=m.block b (bB a) p;have n:∀j,d.cell? (eB b j)=w.cell? (eB b j):=λj=>fA.cell?_of_block k;exact La ⟨b,o,c,t,rfl,l,k.trans a,λi q=>by simp only[n];exact h i q⟩
def mN(w:fA)(B:Nat)(T:Nat->Nat)(n:Nat)(a:nC)(c:List cC):Prop:=
 c=[]\/∃g o b t,a=cA (eB g o)/\B<=g/\T g=n/\w.heap[g]?=cA (.cells b t (0,0))/\mP w g o c
def mN.B{w:fA}{B n:Nat}{T:Nat->Nat}{a:nC}{b:List cC}(h:mN w B T n a b):qD w a b:=by grind [mN,qD]
def mN.base{w:fA}{B b n:Nat}{T:Nat->Nat}{a:nC}{c:List cC}(h:mN w B T n a c)(d:b<=B):mN w b T n a c:=by grind [mN]
def mN.keep{w w':fA}{B n:Nat}{T c:Nat->Nat}{a:nC}{l:List cC}(h:mN w B T n a l)
(s:∀g,g<w.1.size->B<=g->T g=n->w'.heap[g]?=w.heap[g]?/\c g=n):mN w' B c n a l:=by
 obtain h|⟨g,o,b,t,e,f,p,k,h⟩:=h;exact Ca h;obtain ⟨d,m⟩:=s g (bB k) f p;have q:∀j,w'.cell? (eB g j)=w.cell? (eB g j):=λj=>fA.cell?_of_block d;exact La ⟨g,o,b,t,e,f,m,d.trans k,λi r=>by simp only[q];exact h i r⟩
def GR(w:fA)(B:Nat)(T:Nat->Nat)(i b o:Nat)(x:oF):Prop:=
 ∃a c,w.cell? (eB b o)=cA (qA a (zA x.B) c)/\w.cell? (eB b (o+1))=cA (aB x.bits)/\mN w B T (i+1) a x.B/\zA x.B<=c
def aH(w:fA)(B:Nat)(a:nC)(c:List oF):Prop:=
 c=[]\/∃g o b t T,a=cA (eB g o)/\B<=g/\w.heap[g]?=cA (.cells b t (0,0))/\T g=0/\∀i(h:i<zA c),GR w B T i g (o+i*2) c[i]
def GR.at{w:fA}{B i b o:Nat}{T:Nat->Nat}{x:oF}(h:GR w B T i b o x):bp w b o x:=by
 obtain⟨a,c,d,e,f,g⟩:=h;exact⟨a,c,d,e,f.B,g⟩
def aH.P{w:fA}{B:Nat}{a:nC}{b:List oF}(h:aH w B a b):oJ w a b:=by
 obtain h|⟨g,o,c,t,T,rfl,_,d,_,h⟩:=h;exact Ca h;exact La ⟨g,o,rfl,bB d,λi e=>(h i e).at⟩
def GR.keep{w w':fA}{B i b o:Nat}{T d:Nat->Nat}{x:oF}(h:GR w B T i b o x)(f:∀j,j<2->w'.cell? (eB b (o+j))=w.cell? (eB b (o+j)))
(r:∀g,g<w.1.size->B<=g->T g=i+1->w'.heap[g]?=w.heap[g]?/\d g=T g):GR w' B d i b o x:=by
 obtain⟨a,c,k,l,m,n⟩:=h;refine⟨a,c,(f 0 (by omega)).trans k,(f 1 (by omega)).trans l,m.keep λg q p e=>?_,n⟩;obtain⟨s,t⟩:=r g q p e;exact⟨s,t.trans e⟩
def aH.z{w k:fA}{B:Nat}{a:nC}{l:List oF}(h:aH w B a l)(d:xB w k):aH k B a l:=by
 obtain h|⟨g,o,c,t,T,rfl,n,f,p,h⟩:=h;exact Ca h;have b:=bB f;exact La ⟨g,o,c,t,T,rfl,n,(d.block g b).trans f,p,λi q=>(h i q).keep (λj _=>fA.cell?_of_block (d.block g b)) λm e _ _=>⟨d.block m e,rfl⟩⟩
def aH.but{g B:Nat}{w k:fA}{a:nC}{l:List oF}(h:aH w B a l)(e:sD g w k)(s:g<B):aH k B a l:=by
 obtain h|⟨d,o,c,t,T,rfl,m,b,p,h⟩:=h;exact Ca h;have f:=e.block d (bB b) (by omega);exact La ⟨d,o,c,t,T,rfl,m,f.trans b,p,λi q=>(h i q).keep (λj _=>fA.cell?_of_block f) λx r n _=>⟨e.block x r (by omega),rfl⟩⟩
def aH.mono{B B':Nat}{w:fA}{a:nC}{f:List oF}(h:aH w B a f)(d:B'<=B):aH w B' a f:=by
 obtain h|⟨g,o,b,t,T,rfl,q,e,j,h⟩:=h;exact Ca h;refine La ⟨g,o,b,t,T,rfl,by omega,e,j,λi k=>?_⟩;obtain⟨a,c,l,m,n,p⟩:=h i k;exact⟨a,c,l,m,n.base d,p⟩
def tJ(x:oF):Nat:=zA x.B+aE x.B
def xF:List oF->Nat
 |[]=>0
 |f::r=>tJ f+xF r
def qX(a b:List oF):xF (a++b)=xF a+xF b:=by induction a<;>grind [xF]
def DA(a:List oF)(k:Nat)(h:k<zA a):xF (a.take (k+1))=xF (a.take k)+tJ a[k]:=by
 rw[Pa h,qX];simp[xF]
def JD(a:List oF)(k:Nat):xF (a.take k)<=xF a:=by
 have:=qX (a.take k) (a.drop k);rw[Za]at this;omega
def QX(a:List oF)(k:Nat)(h:k<zA a):tJ a[k]<=xF a:=by
 have b:=DA a k h;have c:=JD a (k+1);omega
def FT(r:eG):Nat:=r.T.size+r.R.size+zA r.P+xF r.P
def CS(c:UInt8):Bool:=(97<=c&&c<=122) ||(48<=c&&c<=57) ||c==45||c==46
def dL(l:List UInt8):Bool:=l.all CS
def cG(s:pB):Bool:=decide (1<=s.size) &&decide (s.size<=40) &&dL s.data.toList
def ZB(l:List UInt8)(c:UInt8):dL (l++[c])=(dL l&&CS c):=by simp[dL]
def ib{l:List UInt8}{k:Nat}(h:dL (l.take k)=dA):dL l=dA:=by grind [dL]
def za(c:UInt8):CS c=decide ((97<=(c.toNat:Int)/\(c.toNat:Int)<=122)\/(48<=(c.toNat:Int)/\(c.toNat:Int)<=57)\/(c.toNat:Int)=45\/(c.toNat:Int)=46):=by
 have a:(c==45)=decide (c.toNat=45):=by rw[Qb];simp[<-UInt8.toNat_inj]
 have b:(c==46)=decide (c.toNat=46):=by rw[Qb];simp[<-UInt8.toNat_inj]
 rw[Qb];simp[CS,a,b,Df];omega
def PG(s:pB)(w:fA)(m:s.size<=maxLen):
 rI 92 #[pA s] w (.bool (cG s)):=by
 unfold maxLen at m;by_cases c:1<=s.size/\s.size<=40
 .have l:yB (s.size:Int) 1 40=eA:=by unfold yB;simp;omega
  have f:cB (cG s=dL s.data.toList):=by show cG s=_;simp[cG,c.1,c.2]
  have o:=c.1;have p:=c.2;clear c;go_enter func92,ntmps92;go_wp2_with(go_at_call 86;apply jC (uD _ _ _ _);rintro h rfl);go_loop [3,4] (λi _=>∃k:Nat,k<=s.size/\i=aB k/\dL (s.data.toList.take k)=eA) (λi _=>s.size-(intOf i).toNat)
  case atStart=>exact⟨0,Oa _,rfl,by simp[dL]⟩
  case round=>
   obtain⟨k,n,rfl,d⟩:=hrel;have b:cB _:=d;clear d l;by_cases g:k<s.size
   .have a:=ZB (s.data.toList.take k) s[k];rw[<-sV s k g,b.o,Oc,za]at a;have j:cB _:=a;clear a;go_wp2;all_goals first
     |(go_ret
       refine⟨oB ?_,rfl⟩;rw[f.o];refine(ib (k:=k+1) ?_).symm;rw[j.o,Xe];simp at *;omega)
     |(refine⟨⟨k+1,by omega,by go_num,?_⟩,by simp[intOf];omega⟩
       rw[j.o,Af];simp at *;omega)
   go_wp2;go_ret;exact⟨oB (by rw[f.o,<-b.o,Ra (by simp;omega)]),rfl⟩
 have l:yB (s.size:Int) 1 40=dA:=by unfold yB;simp;omega
 have f:cB (cG s=dA):=by show cG s=_;simp[cG];omega
 go_enter func92,ntmps92;go_wp2_with(go_at_call 86;apply jC (uD _ _ _ _);rintro h rfl);go_ret;exact⟨oB f.o.symm,rfl⟩
theorem ZA(c:UInt8):okM [45,46] c=CS c:=by
 have e:decide (0<=Lib.indexByte [45,46] c)=(c==45||c==46):=by
  by_cases h:c=45
  .subst h;rfl
  by_cases a:c=46
  .subst a;rfl
  have b:((45:UInt8)==c)=dA:=by simpa using λe=>h e.symm
  have d:(c==45)=dA:=by simpa using h
  have f:((46:UInt8)==c)=dA:=by simpa using λe=>a e.symm
  have g:(c==46)=dA:=by simpa using a
  simp[Lib.indexByte,b,d,f,g]
 rw[okM,CS,e,Bool.or_assoc (_||_)]
def oy(s:pB):yS s 40 ⟨#[45,46]⟩=cG s:=by grind [yS,cG,dL,ZA]
def PA(s:pB)(w:fA)(b:s.size<=maxLen):
 rI 175 #[pA s] w (.bool (cG s)):=by
 have H:cB _:=λW=>oy s ▸ KH s 40 ⟨#[45,46]⟩ W b;generalize cG s=R at *;go_enter func175,ntmps175;go_wp2_with fail;apply kO (H.o _);go_wp2;go_ret;exact⟨rfl,rfl⟩
def tO(f:iB):Bool:=cG f.N&&yB f.Y 0 f.data.size
def aAg(b o:Nat)(f:iB)(w:fA)(i:w.cell? (eB b o)=cA (pA f.N))(j:w.cell? (eB b (o+1))=cA (pA f.data))(k:w.cell? (eB b (o+2))=cA (aB f.Y))
(l:f.N.size<=maxLen):
 cF 115 #[.pointer (cA (eB b o))] w (.bool (tO f)):=by
 have p:=kC.cells i;have q:=kC.cells j;have r:=kC.cells k;have n:=kC.there w;have g:=λd=>PA f.N d l;clear i j k l;by_cases c:cG f.N=eA
 .simp only[c]at g;have m:=λd=>yF f.Y f.data.size d;have E:cB (tO f=yB f.Y 0 f.data.size):=by show tO f=_;simp[tO,c]
  clear c;go_enter func115,ntmps115;go_wp2_with fail;refine zB (by kernel_rfl) (by kernel_rfl) ?_;repeat (go_big_quiet_step (first|(go_at_call 175;exact bD (g _))|(go_at_call 59;exact bD (m _))))
  refine wpQuiet_nil ?_;rintro _ ⟨x,rfl⟩;go_wp2;go_ret;exact⟨oB E.o.symm,x.h⟩
 have a:cG f.N=dA:=by simpa using c
 simp only[a]at g;have E:cB (tO f=dA):=by show tO f=_;simp[tO,a]
 clear c a;go_enter func115,ntmps115;go_wp2_with fail;refine zB (by kernel_rfl) (by kernel_rfl) ?_;repeat (go_big_quiet_step (first|(go_at_call 175;exact bD (g _))))
 refine wpQuiet_nil ?_;rintro _ ⟨x,rfl⟩;go_wp2;go_ret;exact⟨oB E.o.symm,x.h⟩
def mT(a:List iB)(i:Nat):Bool:=
 match a[i]? with
 |none=>eA
 |some f=>tO f&&(match i with
  |0=>eA
  |j+1=>match a[j]? with
   |none=>eA
   |some g=>Op.bytesLess g.N.toList f.N.toList)
def wS(a:List iB)(k:Nat):Bool:=(List.range k).all (mT a)
def gI(a:List iB):Bool:=wS a (zA a)
def AE(a:List iB)(k:Nat):wS a (k+1)=(wS a k&&mT a k):=by simp[wS,List.range_succ]
def cZ{a:List iB}{k n:Nat}(h:mT a k=dA)(b:k<n):wS a n=dA:=by grind [mT,wS]
def OK(a:nC)(y:Nat)(c:List iB)(w:fA)(z:uB w a c)(D:iP c)(s:zA c<=maxLen):
 cF 60 #[qA a (zA c) y] w (.bool (decide (zA c<=1000) &&gI c)):=by
 unfold maxLen at s;by_cases V:(1000:Int)<zA c
 .have E:cB ((decide (zA c<=1000) &&gI c)=dA):=by
   show _=_;rw[Ub (by omega)];rfl
  clear z D;go_enter func60,ntmps60;go_wp2;go_ret;exact⟨oB E.o.symm,gD⟩
 have E:cB ((decide (zA c<=1000) &&gI c)=wS c (zA c)):=by
  show _=_;rw[Ac (by omega)];rfl
 have F:cB (uB w a c):=z;have L:cB (iP c):=D;clear z D;go_enter func60,ntmps60;go_wp2;go_loopw [3,9] (λ_ i wr=>∃k:Nat,k<=zA c/\i=aB k/\wS c k=eA/\xB w wr) (λ_ i _=>zA c-(intOf i).toNat)
 case atStart=>exact⟨0,Oa _,rfl,rfl,gD⟩
 case round=>
  obtain⟨k,X,rfl,t,d⟩:=hrel;have n:cB (wS c k=eA):=t;clear t;by_cases l:k<zA c
  .obtain ⟨b,o,rfl,W,v,G,H⟩:=(F.o.z d).at l;have u:=L.o k l;have r:=λx:kC wr=>aAg b (o+k*3) c[k] x.w' (x.cell v) (x.cell G) (x.cell H) u.1;have M:=kC.cells v;have P:=kC.there wr;clear v G H u;by_cases g:tO c[k]=eA
   .simp only[g]at r;by_cases O:(0:Int)<k
    .obtain ⟨U,Y,I,Q,q,R,S⟩:=(F.o.z d).at (i:=k-1) (by omega)
     simp only[Qa,Addr.mk.injEq,Cc]at I;obtain⟨rfl,rfl⟩:=I;have f:mT c k=Op.bytesLess c[k-1].N.toList c[k].N.toList:=by
      obtain⟨j,rfl⟩:∃j,k=j+1:=⟨k-1,by omega⟩
      simp[mT,Va l,Va (show j<zA c by omega),g]
     generalize c[k-1].N=K at q f;generalize c[k].N=J at M f;have N:=kC.cells q;have A:0<k:=by omega
     clear Q R S q g;by_cases B:Op.bytesLess K.toList J.toList=eA
     .have p:cB (wS c (k+1)=eA):=by show wS c (k+1)=eA;rw[AE,n.o,f,B];rfl
      clear f;go_wp2_with fail;refine zB (by kernel_rfl) (by kernel_rfl) ?_;repeat (go_big_quiet_step (first|(go_at_call 115;exact oC (r _))))
      refine wpQuiet_nil ?_;rintro _ ⟨x,rfl⟩;go_wp2;exact⟨⟨k+1,by omega,by go_num,p.o,d.trans (x.h.mono d.size)⟩,by simp[intOf];omega⟩
     have C:Op.bytesLess K.toList J.toList=dA:=by simpa using B
     have p:cB (wS c (zA c)=dA):=cZ (by rw[f];exact C) l;clear f B;go_wp2_with fail;refine zB (by kernel_rfl) (by kernel_rfl) ?_;repeat (go_big_quiet_step (first|(go_at_call 115;exact oC (r _))))
     refine wpQuiet_nil ?_;rintro _ ⟨x,rfl⟩;go_wp2;go_ret;exact⟨oB (by rw[E.o,p.o]),d.trans (x.h.mono d.size)⟩
    have f:mT c k=eA:=by
     obtain rfl:k=0:=by omega
     simp[mT,Va l,g]
    have p:cB (wS c (k+1)=eA):=by show wS c (k+1)=eA;rw[AE,n.o,f];rfl
    have A:decide (0<k)=dA:=by simp;omega
    clear f g;go_wp2_with fail;refine zB (by kernel_rfl) (by kernel_rfl) ?_;repeat (go_big_quiet_step (first|(go_at_call 115;exact oC (r _))))
    refine wpQuiet_nil ?_;rintro _ ⟨x,rfl⟩;go_wp2;exact⟨⟨k+1,by omega,by go_num,p.o,d.trans (x.h.mono d.size)⟩,by simp[intOf];omega⟩
   have m:tO c[k]=dA:=by simpa using g
   simp only[m]at r;have f:mT c k=dA:=by simp[mT,Va l,m]
   have p:cB (wS c (zA c)=dA):=cZ f l;clear f g m;go_wp2_with fail;refine zB (by kernel_rfl) (by kernel_rfl) ?_;repeat (go_big_quiet_step (first|(go_at_call 115;exact oC (r _))))
   refine wpQuiet_nil ?_;rintro _ ⟨x,rfl⟩;go_wp2;go_ret;exact⟨oB (by rw[E.o,p.o]),d.trans (x.h.mono d.size)⟩
  go_wp2;go_ret;have e:k=zA c:=by omega
  exact⟨oB (by rw[E.o,<-e];exact n.o.symm),d⟩
def dF(p:pB):pB:=if 1<=p.size/\p.size<=60000 then tB 4 p.size++tB 4 (pL p:Nat)++p else lA
def sT{p:pB}(h:1<=p.size/\p.size<=60000):(dF p).size=8+p.size:=by grind [dF,nB]
structure nE where
 K:Int
 T:pB
 X:pB
 U:Int
def aAv(w:fA)(b o:Nat)(a:List nE):Prop:=
 ∀i(h:i<zA a),w.cell? (eB b (o+i*4))=cA (aB a[i].K)/\w.cell? (eB b (o+i*4+1))=cA (pA a[i].T)/\w.cell? (eB b (o+i*4+2))=cA (pA a[i].X)/\w.cell? (eB b (o+i*4+3))=cA (aB a[i].U)
def yI(w:fA)(a:nC)(c:List nE):Prop:=c=[]\/∃b o,a=cA (eB b o)/\b<w.1.size/\aAv w b o c
def yI.z{w f:fA}{a:nC}{e:List nE}(h:yI w a e)(d:xB w f):yI f a e:=by
 obtain h|⟨b,o,rfl,c,h⟩:=h;exact Ca h;refine La ⟨b,o,rfl,Bb c d.size,λi m=>?_⟩;obtain⟨g,j,k,l⟩:=h i m;exact⟨by rw[<-g];exact d.cell c,by rw[<-j];exact d.cell c,by rw[<-k];exact d.cell c,by rw[<-l];exact d.cell c⟩
def yI.at{w:fA}{a:nC}{c:List nE}(h:yI w a c){i:Nat}(e:i<zA c):
 ∃b o,a=cA (eB b o)/\b<w.1.size/\w.cell? (eB b (o+i*4))=cA (aB c[i].K)/\w.cell? (eB b (o+i*4+1))=cA (pA c[i].T)/\w.cell? (eB b (o+i*4+2))=cA (pA c[i].X)/\w.cell? (eB b (o+i*4+3))=cA (aB c[i].U):=by
 obtain rfl|⟨b,o,rfl,d,h⟩:=h;exact absurd e (by simp);exact ⟨b,o,rfl,d,h i e⟩
def LZ(w:fA)(B:Nat)(a:nC)(c:List nE):Prop:=
 c=[]\/∃g o b t,a=cA (eB g o)/\B<=g/\w.heap[g]?=cA (.cells b t (0,0))/\aAv w g o c
def LZ.recs{w:fA}{B:Nat}{a:nC}{b:List nE}(h:LZ w B a b):yI w a b:=by grind [LZ,yI]
def KV{w:fA}{B:Nat}{e:kA}{a:nC}{k:Nat}{l:List nE}
(h:w.ownsRow B e 4 (qA a (zA l) k) (zA l) (l.flatMap λx=>[aB x.K,pA x.T,pA x.X,aB x.U])):LZ w B a l:=by
 obtain⟨_,t⟩|⟨g,n,b,o,p,d,_,_,u,m⟩:=h.2;exact Ca (Nb.1 t);simp only[jA.slice.injEq]at o;have q:∀(l:List nE) i(c:i<zA l),(l.flatMap λx=>[jA.int .i64 x.K,pA x.T,pA x.X,aB x.U])[i*4]?=cA (aB l[i].K)/\(l.flatMap λx=>[jA.int .i64 x.K,pA x.T,pA x.X,aB x.U])[i*4+1]?=cA (pA l[i].T)/\(l.flatMap λx=>[jA.int .i64 x.K,pA x.T,pA x.X,aB x.U])[i*4+2]?=cA (pA l[i].X)/\(l.flatMap λx=>[jA.int .i64 x.K,pA x.T,pA x.X,aB x.U])[i*4+3]?=cA (aB l[i].U):=by
  intro l;induction l with
  |nil=>intro i c;exact absurd c (by simp)
  |cons x r v=>
   intro i c;cases i with
   |zero=>simp
   |succ i=>
    have:=v i (by simpa using c);simp only[Xc,Sd,Mb,Ec];refine⟨?_,?_,?_,?_⟩;rw[show(i+1)*4=i*4+1+1+1+1 by omega,Ga,Ga,Ga,Ga];exact this.1;rw[show(i+1)*4+1=i*4+1+1+1+1+1 by omega,Ga,Ga,Ga,Ga];exact this.2.1;rw[show(i+1)*4+2=i*4+2+1+1+1+1 by omega,Ga,Ga,Ga,Ga];exact this.2.2.1;rw[show(i+1)*4+3=i*4+3+1+1+1+1 by omega,Ga,Ga,Ga,Ga];exact this.2.2.2
 refine La ⟨g,0,b,e,o.1,p,d,λi c=>?_⟩;have f:∀j,j<zA l*4->b[j]?=(l.flatMap λx=>[jA.int .i64 x.K,pA x.T,pA x.X,aB x.U])[j]?:=λj s=>by
  rw[<-m,Jb s,Yd]
 rw[cell_of_row w g _ b _ _ d,cell_of_row w g _ b _ _ d,cell_of_row w g _ b _ _ d,cell_of_row w g _ b _ _ d,Ya,f _ (by omega),f _ (by omega),f _ (by omega),f _ (by omega)];exact q l i c
def eD:List nE->Nat
 |[]=>0
 |f::r=>f.T.size+f.X.size+eD r
def aT(a b:List nE):eD (a++b)=eD a+eD b:=by induction a<;>grind [eD]
def zT(a:List nE)(k:Nat)(h:k<zA a):eD (a.take (k+1))=eD (a.take k)+(a[k].T.size+a[k].X.size):=by
 rw[Pa h,aT];simp[eD]
def pX(a:List nE)(k:Nat):eD (a.take k)<=eD a:=by
 have:=aT (a.take k) (a.drop k);rw[Za]at this;omega
