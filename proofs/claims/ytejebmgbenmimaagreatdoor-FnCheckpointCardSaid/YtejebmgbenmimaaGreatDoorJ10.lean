import Derived.Test.YtejebmgbenmimaaGreatDoorJ09
import Derived.Test.YtejebmgbenmimaaGreatDoorJ08
set_option maxRecDepth 100000
set_option maxHeartbeats 2000000
set_option linter.defProp false
open Bool renaming true->iA,false->gA
open Option renaming some->fA
open ByteArray renaming empty->pA
open List renaming length->cB
namespace Go.Proofs.YtejebmgbenmimaaGreatDoor
open Go renaming Value->mA,World->jA,Calls->lA
open Value renaming bool->vA,string->tA
open Ending renaming returned->zA
open Obj renaming cells->aB
open Go.RowKit Tryz
section
open Go.Maps
section
variable {α β:Type}
def iC(key:α->vB)(a:α):List α->List α
 |[]=>[a]
 |p::r=>if vJ (key p) (key a)=iA then p::iC key a r else if (key p).toList==(key a).toList then a::r else a::p::r
def yE(key:α->vB)(k:vB)(l:List α):List α:=l.filter (λp=>!((key p).toList==k.toList))
def eD(key:α->vB)(k:vB)(l:List α):Option α:=l.find? (λp=>(key p).toList==k.toList)
def zC(key:α->vB)(l:List α):Prop:=l.Pairwise (λp q=>vJ (key p) (key q)=iA)
theorem zR{key:α->vB}{key':β->vB}(g:α->β)(b:∀a,key' (g a)=key a)(a:α)(l:List α):(iC key a l).map g=iC key' (g a) (l.map g):=by induction l<;>grind [iC]
theorem xZ{key:α->vB}{key':β->vB}(g:α->β)(b:∀a,key' (g a)=key a)(k:vB)(l:List α):(yE key k l).map g=yE key' k (l.map g):=by
 unfold yE;rw[List.filter_map];congr 1;apply List.filter_congr;intro p _;simp only[Function.comp,b]
theorem bV{key:α->vB}{key':β->vB}(g:α->β)(b:∀a,key' (g a)=key a)(k:vB)(l:List α):eD key' k (l.map g)=(eD key k l).map g:=by
 unfold eD;rw[List.find?_map];congr 2;funext p;simp only[Function.comp,b]
theorem zW{key:α->vB}{key':β->vB}(g:α->β)(b:∀a,key' (g a)=key a){l:List α}:zC key' (l.map g) ↔ zC key l:=by
 unfold zC;rw[Te];simp only[b]
theorem aBb(k:vB)(d:β)(l:List (vB×β)):iC (·.1) (k,d) l=uS k d l:=by
 induction l with
 |nil=>rfl
 |cons p r a=>rw[iC,uS,a]
theorem aAa(k:vB)(l:List (vB×β)):yE (·.1) k l=DW k l:=rfl
theorem bz(k:vB)(l:List (vB×β)):(eD (·.1) k l).map (·.2)=lk l k:=rfl
theorem eM{key:α->vB}{k:vB}{l:List α}{a:α}(h:eD key k l=fA a):a∈l/\key a=k:=by grind [eD,mE]
theorem qW{key:α->vB}{k:vB}{l:List α}(h:eD key k l=none):∀a∈l,key a≠k:=by grind [eD]
theorem bN{key:α->vB}{k:vB}{l:List α}(h:∀a∈l,key a≠k):eD key k l=none:=
 List.find?_eq_none.2 λa b e=>h a b ((mE _ _).1 e)
theorem zC.head{key:α->vB}{p:α}{r:List α}(h:zC key (p::r)):∀q∈r,vJ (key p) (key q)=iA:=(Bc.1 h).1
theorem zC.tail{key:α->vB}{p:α}{r:List α}(h:zC key (p::r)):zC key r:=(Bc.1 h).2
theorem rS{key:α->vB}(p:α)(r:List α)(k:vB):eD key k (p::r)=if key p=k then fA p else eD key k r:=by grind [eD,mE,aE]
theorem gM{key:α->vB}{l:List α}(b:zC key l){a:α}(h:a∈l):eD key (key a) l=fA a:=by
 induction l with
 |nil=>cases h
 |cons p r c=>
  rw[rS];rcases Lb.1 h with rfl|h;rw[Ma rfl];rw[Ja (iJ (b.head _ h))];exact c b.tail h
theorem lK{key:α->vB}{a q:α}{l:List α}(h:q∈iC key a l):q=a\/q∈l:=by induction l<;>grind [iC]
theorem bK{key:α->vB}{a:α}{l:List α}(h:zC key l):zC key (iC key a l):=by
 induction l with
 |nil=>exact We ..
 |cons p r g=>
  unfold iC;split
  .rename_i c;refine Bc.2 ⟨λq b=>?_,g h.tail⟩;rcases lK b with rfl|b
   .exact c
   exact h.head q b
  rename_i c;split
  .rename_i f;rw[mE]at f;refine Bc.2 ⟨λq b=>?_,h.tail⟩;rw[<-f];exact h.head q b
  rename_i f;have d:vJ (key a) (key p)=iA:=yU (by simpa using c) (λe=>f ((mE _ _).2 e));refine Bc.2 ⟨λq b=>?_,h⟩;rcases Lb.1 b with rfl|b
  .exact d
  exact GI d (h.head q b)
theorem ur{key:α->vB}{a:α}{l:List α}(h:∀p∈l,vJ (key p) (key a)=iA):iC key a l=l++[a]:=by induction l<;>grind [vJ,iC]
theorem GT{key:α->vB}{a:α}{l:List α}(h:eD key (key a) l=none):(iC key a l).Perm (a::l):=by
 induction l with
 |nil=>exact Lf _
 |cons p r d=>
  have b:=qW h;unfold iC;split;have:=d (bN λq c=>b q (Sb _ c));exact(List.Perm.cons p this).trans (List.Perm.swap a p r);rw[Ja (by rw[aE (b p (Kc ..))];simp)]
theorem gP{key:α->vB}{k:vB}{l:List α}(h:zC key l):zC key (yE key k l):=Mf _ h
theorem aS{key:α->vB}{k:vB}{l:List α}{a:α}:a∈yE key k l ↔ a∈l/\key a≠k:=by grind [yE,mE,aE]
end
def XH{α:Type}(key:α->vB)(val:α->DataW Unit)(l:List α)(k:vB):has (fE (l.map λa=>(key a,val a))) (kL k)=(eD key k l).isSome:=by
 rw[ul,<-bz,bV (key:=key) (λa=>(key a,val a)) (λ_=>rfl)];cases eD key k l<;>rfl
def lS{α:Type}(key:α->vB)(val:α->DataW Unit)(l:List α)(k:vB)(z:DataW Unit):(fE (l.map λa=>(key a,val a))).atKey (kL k) z=((eD key k l).map val).getD z:=by
 rw[af,<-bz,bV (key:=key) (λa=>(key a,val a)) (λ_=>rfl)];cases eD key k l<;>rfl
def aGi{α:Type}{key:α->vB}(val:α->DataW Unit){l:List α}(h:zC key l):fS (l.map λa=>(key a,val a)):=by grind [zC,fS]
def IE{α:Type}{key:α->vB}(val:α->DataW Unit)(a:α){l:List α}(h:zC key l):(fE (l.map λa=>(key a,val a))).put (kL (key a)) (val a)=fE ((iC key a l).map λa=>(key a,val a)):=by
 rw[wh _ _ (aGi val h),zR (key':=(·.1)) (λa=>(key a,val a)) (λ_=>rfl),aBb]
def WS{α:Type}{key:α->vB}(val:α->DataW Unit)(k:vB)(l:List α):(fE (l.map λa=>(key a,val a))).del (kL k)=fE ((yE key k l).map λa=>(key a,val a)):=by
 rw[tb,xZ (key':=(·.1)) (λa=>(key a,val a)) (λ_=>rfl),aAa]
def pM{α:Type}(key:α->vB)(val:α->DataW Unit)(l:List α):Maps.size (fE (l.map λa=>(key a,val a)))=cB l:=by
 rw[ng,Xa]
def sI(met:vB->vB)(l:List pB)(m:vB):Nat:=cB (l.filter λp=>(met p.s).toList==m.toList)
def SJ{met:vB->vB}{l a:List pB}(h:l.Perm a)(m:vB):sI met l m=sI met a m:=(h.filter _).length_eq
def SI(met:vB->vB)(p:pB)(l:List pB)(m:vB):sI met (p::l) m=sI met l m+if met p.s=m then 1 else 0:=by grind [sI,mE,aE]
def WJ(met:vB->vB)(l:List pB)(m:vB):sI met l m<=cB l:=Pc _ _
end
structure kC where
 w:Int
 tl:Int
 ml:Int
 sh:Int
 ha:Int
 sg:Int
def oE(c:kC):mA:=.agg #[dB c.w,dB c.tl,dB c.ml,dB c.sh,dB c.ha,dB c.sg]
def mH(c:kC):Bool:=dC c.w 1 1000000000&&dC c.tl 0 1000000&&dC c.ml 0 1000000&&dC c.sh 1 64&&dC c.ha 0 2&&dC c.sg 100 1000000
def gL{x b a:Int}(h:dC x b a=iA):b<=x/\x<=a:=by simpa[dC]using h
def WE{x b a:Int}(h:¬dC x b a=iA):x<b\/a<x:=by grind [dC]
def pG(x:Int)(w:jA):bM 76 #[dB x] w (vA (dC x 0 1000000)):=by
 go_enter func76,ntmps76;go_wp2_with(go_at_call 41;apply oC (zF _ _ _);rintro a rfl);go_ret;exact⟨rfl,rfl⟩
def rv(a b c d e f:Bool):(a=gA\/a=iA/\(b=gA\/b=iA/\(c=gA\/c=iA/\(d=gA\/d=iA/\(e=gA\/e=iA/\(f=gA\/f=iA)))))):=by cases a<;>cases b<;>cases c<;>cases d<;>cases e<;>cases f<;>simp
def xL(c:kC)(w:jA):gF 53 #[oE c] w (vA (mH c)):=by
 unfold oE;rcases rv (dC c.w 1 1000000000) (dC c.tl 0 1000000) (dC c.ml 0 1000000) (dC c.sh 1 64) (dC c.ha 0 2) (dC c.sg 100 1000000) with b|⟨b,d|⟨d,f|⟨f,g|⟨g,h|⟨h,i|i⟩⟩⟩⟩⟩
 all_goals
  go_enter func53,ntmps53;go_wp2_with(go_at_call 103;refine oC (gE (by assumption) _) ?_;rintro a rfl);go_ret;exact⟨tB (by simp[mH, *]),aC⟩
def sT(c:kC)(w:jA):gF 19 #[oE c] w (vA (mH c)):=by
 obtain⟨h,e,f,b,d,a⟩:=c;unfold oE;simp only;by_cases n:dC h 1 1000000000=gA
 .have i:¬dC h 1 1000000000=iA:=by simpa using n
  have E:fB (mH ⟨h,e,f,b,d,a⟩=gA):=by show _=_;simp[mH,n]
  have j:=WE i;clear i n;by_cases v:1<=h
  .have x:¬h<=1000000000:=by omega
   clear j;go_enter func19,ntmps19;go_wp2_with(first|(go_at_call 76;apply oC (pG _ _);rintro g rfl)|(go_at_call 41;apply oC (zF _ _ _);rintro g rfl));go_ret;exact⟨tB (by first|exact E.o.symm|(rw[E.o];simp;omega)),aC⟩
  clear j;go_enter func19,ntmps19;go_wp2_with(first|(go_at_call 76;apply oC (pG _ _);rintro g rfl)|(go_at_call 41;apply oC (zF _ _ _);rintro g rfl));go_ret;exact⟨tB (by first|exact E.o.symm|(rw[E.o];simp;omega)),aC⟩
 have i:dC h 1 1000000000=iA:=by simpa using n
 clear n;obtain⟨y,B⟩:=gL i;by_cases r:dC e 0 1000000=gA
 .have k:¬dC e 0 1000000=iA:=by simpa using r
  have E:fB (mH ⟨h,e,f,b,d,a⟩=gA):=by show _=_;simp[mH,i,r]
  clear k;go_enter func19,ntmps19;go_wp2_with(first|(go_at_call 76;apply oC (pG _ _);rintro g rfl)|(go_at_call 41;apply oC (zF _ _ _);rintro g rfl));go_ret;exact⟨tB (by first|exact E.o.symm|(rw[E.o];simp;omega)),aC⟩
 have k:dC e 0 1000000=iA:=by simpa using r
 clear r;by_cases s:dC f 0 1000000=gA
 .have m:¬dC f 0 1000000=iA:=by simpa using s
  have E:fB (mH ⟨h,e,f,b,d,a⟩=gA):=by show _=_;simp[mH,i,k,s]
  clear m;go_enter func19,ntmps19;go_wp2_with(first|(go_at_call 76;apply oC (pG _ _);rintro g rfl)|(go_at_call 41;apply oC (zF _ _ _);rintro g rfl));go_ret;exact⟨tB (by first|exact E.o.symm|(rw[E.o];simp;omega)),aC⟩
 have m:dC f 0 1000000=iA:=by simpa using s
 clear s;by_cases o:dC b 1 64=gA
 .have l:¬dC b 1 64=iA:=by simpa using o
  have E:fB (mH ⟨h,e,f,b,d,a⟩=gA):=by show _=_;simp[mH,i,k,m,o]
  have j:=WE l;clear l o;by_cases v:1<=b
  .have x:¬b<=64:=by omega
   clear j;go_enter func19,ntmps19;go_wp2_with(first|(go_at_call 76;apply oC (pG _ _);rintro g rfl)|(go_at_call 41;apply oC (zF _ _ _);rintro g rfl));go_ret;exact⟨tB (by first|exact E.o.symm|(rw[E.o];simp;omega)),aC⟩
  clear j;go_enter func19,ntmps19;go_wp2_with(first|(go_at_call 76;apply oC (pG _ _);rintro g rfl)|(go_at_call 41;apply oC (zF _ _ _);rintro g rfl));go_ret;exact⟨tB (by first|exact E.o.symm|(rw[E.o];simp;omega)),aC⟩
 have l:dC b 1 64=iA:=by simpa using o
 clear o;obtain⟨z,C⟩:=gL l;by_cases t:dC d 0 2=gA
 .have u:¬dC d 0 2=iA:=by simpa using t
  have E:fB (mH ⟨h,e,f,b,d,a⟩=gA):=by show _=_;simp[mH,i,k,m,l,t]
  clear u;go_enter func19,ntmps19;go_wp2_with(first|(go_at_call 76;apply oC (pG _ _);rintro g rfl)|(go_at_call 41;apply oC (zF _ _ _);rintro g rfl));go_ret;exact⟨tB (by first|exact E.o.symm|(rw[E.o];simp;omega)),aC⟩
 have u:dC d 0 2=iA:=by simpa using t
 clear t;by_cases p:dC a 100 1000000=gA
 .have q:¬dC a 100 1000000=iA:=by simpa using p
  have E:fB (mH ⟨h,e,f,b,d,a⟩=gA):=by show _=_;simp[mH,i,k,m,l,u,p]
  have j:=WE q;clear q p;by_cases v:100<=a
  .have x:¬a<=1000000:=by omega
   clear j;go_enter func19,ntmps19;go_wp2_with(first|(go_at_call 76;apply oC (pG _ _);rintro g rfl)|(go_at_call 41;apply oC (zF _ _ _);rintro g rfl));go_ret;exact⟨tB (by first|exact E.o.symm|(rw[E.o];simp;omega)),aC⟩
  clear j;go_enter func19,ntmps19;go_wp2_with(first|(go_at_call 76;apply oC (pG _ _);rintro g rfl)|(go_at_call 41;apply oC (zF _ _ _);rintro g rfl));go_ret;exact⟨tB (by first|exact E.o.symm|(rw[E.o];simp;omega)),aC⟩
 have q:dC a 100 1000000=iA:=by simpa using p
 clear p;obtain⟨A,D⟩:=gL q;have E:fB (mH ⟨h,e,f,b,d,a⟩=iA):=by show _=_;simp[mH,i,k,m,l,u,q]
 go_enter func19,ntmps19;go_wp2_with(first|(go_at_call 76;apply oC (pG _ _);rintro g rfl)|(go_at_call 41;apply oC (zF _ _ _);rintro g rfl));go_ret;exact⟨tB (by first|exact E.o.symm|(rw[E.o];simp;omega)),aC⟩
def hI(f:Nat->Bool):Nat->Bool
 |0=>iA
 |k+1=>hI f k&&f k
theorem fL(f:Nat->Bool)(k:Nat):hI f (k+1)=(hI f k&&f k):=rfl
theorem fP{f:Nat->Bool}{k n:Nat}(h:f k=gA)(a:k<n):hI f n=gA:=by induction n<;>grind [hI,fL]
theorem iO{f:Nat->Bool}{k n:Nat}(h:hI f n=iA)(a:k<n):f k=iA:=by grind [hI,fP]
def okT(c:UInt8):Bool:=(97<=c&&c<=122) ||(48<=c&&c<=57) ||c==45
def xC(s:vB):Bool:=decide (1<=s.size) &&decide (s.size<=32) &&s.data.toList.all okT
def dF(s:vB):Bool:=!s.toList.isEmpty&&decide (zO s=0)
def cE(s:vB):vB:=aL (sG s).1
def gK(s:vB):Bool:=!(cE s).toList.isEmpty
def eF(t:kB):Bool:=t.L==-1&&cB t.M==0&&cB t.Z==0
def wL(a:List pB)(i:Nat):Bool:=match i with
 |0=>iA
 |j+1=>match a[j]?,a[j+1]? with
  |some p,fA q=>vJ p.s q.s
  |_,_=>gA
def sL(a:List pB)(i:Nat):Bool:=match a[i]? with
 |some m=>wL a i&&dF m.s&&dC m.n 0 1000000
 |none=>gA
def tL(a:List pB):Bool:=hI (sL a) (cB a)
def cJ(b a:Int)(c:List pB)(i:Nat):Bool:=match c[i]? with
 |some x=>wL c i&&gK x.s&&dC x.n 0 a&&decide (a-x.n<b)
 |none=>gA
def vK(b a:Int)(c:List pB):Bool:=hI (cJ b a c) (cB c)
def aO(a:List kB)(i:Nat):Bool:=match i with
 |0=>iA
 |j+1=>match a[j]?,a[j+1]? with
  |some p,fA q=>vJ p.N q.N
  |_,_=>gA
def wO(b a:Int)(t:kB):Bool:=xC t.N&&dC t.L (-1) 1000000&&tL t.M&&vK b a t.Z&&!eF t
def eN(b a:Int)(c:List kB)(i:Nat):Bool:=match c[i]? with
 |some t=>aO c i&&wO b a t
 |none=>gA
def wM(b a:Int)(c:List kB):Bool:=hI (eN b a c) (cB c)
def pC(c:kC)(a:Int)(b:List kB):Bool:=mH c&&dC a 0 1000000000000&&decide (cB b<=10000) &&wM c.w a b
theorem dT{a:List pB}{k:Nat}(b:0<k)(c:k<cB a):wL a k=vJ (a[k-1]'(by omega)).s a[k].s:=by unfold wL;grind
theorem kV{a:List kB}{k:Nat}(b:0<k)(c:k<cB a):aO a k=vJ (a[k-1]'(by omega)).N a[k].N:=by unfold aO;grind
theorem bZ{a:List pB}{k:Nat}(b:k<cB a):sL a k=(wL a k&&dF a[k].s&&dC a[k].n 0 1000000):=by simp[sL,Va b]
theorem nV{c a:Int}{b:List pB}{k:Nat}(d:k<cB b):cJ c a b k=(wL b k&&gK b[k].s&&dC b[k].n 0 a&&decide (a-b[k].n<c)):=by simp[cJ,Va d]
theorem sV{b a:Int}{c:List kB}{k:Nat}(d:k<cB c):eN b a c k=(aO c k&&wO b a c[k]):=by simp[eN,Va d]
theorem fT{α:Type}{key:α->vB}:∀(l:List α),(∀k(h:k+1<cB l),vJ (key (l[k]'(by omega))) (key l[k+1])=iA)->zC key l
 |[],_=>Gd
 |[a],_=>We ..
 |a::b::r,h=>by
  have e:zC key (b::r):=fT (b::r) λk f=>h (k+1) (by simp at f |-;omega);have d:vJ (key a) (key b)=iA:=h 0 (by simp);refine Bc.2 ⟨λq c=>?_,e⟩;rcases Lb.1 c with rfl|c
  .exact d
  exact GI d (e.head q c)
def wm{α:Type}{key:α->vB}{l:List α}(k:Nat)(h:zC key l):zC key (l.take k):=List.Pairwise.sublist (List.take_sublist ..) h
def GY{a:List pB}{n:Nat}(h:hI (sL a) n=iA)(b:n<=cB a):zC (·.s) (a.take n):=by grind [hI,sL,zC,fT,iO,bZ,dT]
def II{c b:Int}{a:List pB}{n:Nat}(h:hI (cJ c b a) n=iA)(d:n<=cB a):zC (·.s) (a.take n):=by grind [hI,cJ,zC,fT,iO,nV,dT]
def xq{c a:Int}{b:List kB}{n:Nat}(h:hI (eN c a b) n=iA)(d:n<=cB b):zC (·.N) (b.take n):=by grind [hI,eN,zC,fT,iO,sV,kV]
def OG{α:Type}{key:α->vB}{l:List α}{k:Nat}(c:k<cB l)(h:zC key (l.take (k+1))):iC key l[k] (l.take k)=l.take (k+1)/\eD key (key l[k]) (l.take k)=none:=by
 rw[Pa c]at h |-
 have b:∀p∈l.take k,vJ (key p) (key l[k])=iA:=λp a=>(Ae.1 h).2.2 p a _ (Uf.2 rfl);exact⟨ur b,bN λp a=>iJ (b p a)⟩
def VP(v:Int):Prop:=-9223372036854775808<=v/\v<=9223372036854775807
def vQ(n:Nat):Int:=IntKind.i64.wrap (n:Int)
def QL(n:Nat):vQ n=if n % 18446744073709551616<9223372036854775808 then((n % 18446744073709551616:Nat):Int) else((n % 18446744073709551616:Nat):Int)-18446744073709551616:=by
 unfold vQ IntKind.wrap;simp[IntKind.bits,IntKind.signed];split<;>split<;>omega
def eJ{n:Nat}(h:n<9223372036854775808):vQ n=(n:Int):=by rw[QL,Ma (by omega)];omega
def aCc(n:Nat)(v:Int):uB n v=uB n ((v % (256 ^ n:Nat)).toNat:Nat):=by
 have key:∀m,m<=n->vX v m=vX ((v % (256 ^ n:Nat)).toNat:Nat) m:=by
  intro m;induction m with
  |zero=>intro _;rfl
  |succ m a=>
   intro h;rw[vX,vX,a (by omega)];congr 1;have b:∀(u:Int) k,CW u k=u / ((256 ^ k:Nat):Int):=by
    intro u k;induction k with
    |zero=>simp[CW]
    |succ k a=>rw[CW,a,Int.ediv_ediv_of_nonneg (Int.natCast_nonneg _),Od,Int.natCast_mul];rfl
   have c:0<=v % ((256 ^ n:Nat):Int):=Int.emod_nonneg _ (by have:=Zf (n:=n) (show 0<256 by omega);omega);rw[b,b,Int.toNat_of_nonneg c];obtain⟨d,g⟩:∃d,n=m+1+d:=⟨n-m-1,by omega⟩
   have e:((256 ^ n:Nat):Int)=((256 ^ m:Nat):Int)*(256*((256 ^ d:Nat):Int)):=by
    subst g;rw[Nat.pow_add,Nat.pow_add,Nat.pow_one,Nat.mul_assoc,Int.natCast_mul,Int.natCast_mul];rfl
   have i:(0:Int)<((256 ^ m:Nat):Int):=by have:=Zf (n:=m) (show 0<256 by omega);omega
   generalize ((256 ^ m:Nat):Int)=A at *;generalize ((256 ^ d:Nat):Int)=D at *;rw[e];have f:v % (A*(256*D))=v-A*(256*D*(v / (A*(256*D)))):=by
    rw[Int.emod_def];congr 1;rw[Int.mul_assoc]
   rw[f,show v-A*(256*D*(v / (A*(256*D))))=v+A*(-(256*D*(v / (A*(256*D))))) by rw[Int.mul_neg];rfl,Int.add_mul_ediv_left _ _ (by omega)];rw[show -(256*D*(v / (A*(256*D))))=256*(-(D*(v / (A*(256*D))))) by rw[Int.mul_neg,Int.mul_assoc],Int.add_mul_emod_self_left]
 show strOfNums _=strOfNums _;rw[key n (Ia _)]
def fY(v:Int)(h:VP v):vQ (uX (uB 8 v).data.toList)=v:=by
 obtain⟨b,c⟩:=h;have a:((256 ^ 8:Nat):Int)=18446744073709551616:=by decide
 have d:((v % ((256 ^ 8:Nat):Int)).toNat:Int)=v % 18446744073709551616:=by rw[a];omega
 rw[aCc,pT 8 _ (by
  have:(256:Nat) ^ 8=18446744073709551616:=by decide
  rw[this];omega),QL]
 split<;>omega
def er{k:Nat}{r:Rd}{v:Int}{q:vB}(h:r.rest=uB k v++q):dK k r=(uX (uB k v).data.toList,⟨q,r.H⟩):=by
 have a:=qV (n:=k) h (oB k _);unfold dK;rw[a]
def aGc(a b:Nat)(g:b<256)(f:a<72057594037927936):bits .or .i64 (IntKind.i64.wrap ((a:Int)*256)) (b:Int)=vQ (a*256+b):=by
 have d:a*256||| b=a*256+b:=by
  have:=Ef (i:=8) (b:=b) (by omega) a;rw[show 2 ^ 8*a=a*256 by omega]at this;exact this.symm
 have c:BitVec.ofInt 64 (IntKind.i64.wrap ((a:Int)*256))=BitVec.ofNat 64 (a*256):=by
  have e:((a:Int)*256)=((a*256:Nat):Int):=by omega
  rw[e];apply BitVec.eq_of_toNat_eq;rw[BitVec.toNat_ofInt,Hc];unfold IntKind.wrap;simp only[IntKind.bits,IntKind.signed];simp;omega
 show IntKind.i64.wrap ((BitVec.ofInt 64 (IntKind.i64.wrap ((a:Int)*256)) ||| BitVec.ofInt 64 (b:Int)).toNat:Int)=_;rw[c,BitVec.toNat_or,Nc,Hc,Hc,Ic (by omega),Ic (by omega),d];rfl
def XN(s:vB)(w:jA)(m:s.size<=8):
 bM 275 #[tA s] w (dB (vQ (uX s.data.toList))):=by
 go_enter func275,ntmps275;go_wp2;go_loopw [3,4,7] (λx _ c wr=>∃(k X:Nat)(Z:Int),k<=s.size/\c=dB k/\x=dB Z/\X<256 ^ k/\fB (X=uX (s.data.toList.take k))/\fB (Z=vQ X)/\wr=w) (λ_ _ c _=>s.size-(intOf c).toNat)
 case atStart=>exact⟨0,0,0,by omega,rfl,rfl,by simp,by show _=_;simp[uX],by show _=_;rw[eJ (by omega)];rfl,rfl⟩
 case round=>
  obtain⟨k,X,Z,l,rfl,rfl,g,f,d,rfl⟩:=hrel;by_cases b:k<s.size
  .have j:=(s[k]).toNat_lt;have h:X<72057594037927936:=Bb g (Sc (n:=256) (by omega) (show k<=7 by omega));have a:Z=(X:Int):=by rw[d.o,eJ (by omega)]
   subst a;have i:=aGc X (s[k]).toNat (by omega) (by omega);go_wp2;refine⟨⟨k+1,X*256+(s[k]).toNat,vQ (X*256+(s[k]).toNat),by omega,by go_num,?_,?_,?_,rfl,trivial⟩,by simp[intOf];omega⟩
   .exact Kd (mA.int .i64) (by rw[<-i,IntKind.wrap_i64,wrap64])
   .rw[Od];omega
   show _=_;rw[rV s k b,DP,<-f.o]
  have e:k=s.size:=by omega
  subst e;go_wp2;go_ret;refine⟨?_,rfl⟩;show Ending.returned (dB Z)=_;rw[d.o,f.o,Ra (by simp)]
def ZW(w:jA)(B:Nat)(t:TypeId)(r:Rd):Prop:=rB w B #[tA r.rest,vA r.H] t
def RB(w:jA)(B:Nat)(r:Rd):Prop:=ZW w B 179 r
section
variable {w w':jA} {B base k:Nat} {t:TypeId} {r:Rd}
theorem sO{e:TypeId}{a:Nat}{v:mA}{n:Nat}{i:List mA}(h:w.ownsRow base e a v n i)(l:uD B w w')(p:B<base):w'.ownsRow base e a v n i:=by
 obtain⟨j,d⟩:=h;refine⟨j,?_⟩;obtain d|⟨g,b,c,o,m,f,r⟩:=d;exact Ca d;exact La ⟨g,b,c,o,m,(l.block g (eB f) (by omega)).trans f,r⟩
theorem uD.alloc(h:uD B w w')(o:Obj):uD B w (w'.alloc o):=h.trans (uD.of aC)
theorem QD{n:Nat}(f:ZW w B t r)(l:n<=70000)(i:r.rest.size<=1000000000):
 lA prog 254 #[.pointer (cC B),dB (n:Nat)] w λe w'=>e=zA (tA (bG n r).1)/\ZW w' B t (bG n r).2/\uD B w w':=by
 obtain⟨c,d⟩:=r;have g:=gB f;have m:gD w B 0 (tA c):=rB.cell f 0;have o:gD w B 1 (vA d):=rB.cell f 1;have a:=rB.free f 0;have b:=rB.free f 1;dsimp only at i;clear f;by_cases h:c.size<n
 .have E:fB (bG n ⟨c,d⟩=(pA,⟨c,iA⟩)):=by show _=_;unfold bG;rw[Ma h]
  rw[E.o];go_enter func254,ntmps254;go_wp2;go_ret;exact⟨rfl,rB.set g.o 1 (vA iA),(uD.refl _ _).setCell _ _⟩
 have E:fB (bG n ⟨c,d⟩=(c.extract 0 n,⟨c.extract n c.size,d⟩)):=by show _=_;unfold bG;rw[Ja h]
 have j:¬((c.size:Int)<(n:Int)):=by omega
 rw[E.o];go_enter func254,ntmps254;go_wp2;go_ret;exact⟨rfl,rB.set g.o 0 (tA (c.extract n c.size)),(uD.refl _ _).setCell _ _⟩
theorem CO(c:ZW w B t r)(g:k<=8)(f:r.rest.size<=1000000000):
 lA prog 231 #[.pointer (cC B),dB (k:Nat)] w λe w'=>e=zA (dB (vQ (dK k r).1))/\ZW w' B t (dK k r).2/\uD B w w':=by
 have b:=gB (QD (n:=k) c (by omega) f);have d:=gB (λW=>XN (bG k r).1 W (by have:=(AL k r).1;omega));show lA _ _ _ _ λe w'=>e=zA (dB (vQ (uX (bG k r).1.data.toList)))/\ZW w' B t (bG k r).2/\uD B w w';clear c;generalize uX (bG k r).1.data.toList=N at *;generalize (bG k r).1=T at *;generalize (bG k r).2=h at *;go_enter func231,ntmps231;go_wp2_with fail;apply oC b.o;intro i a;replace a:=gB a;clear b;go_wp2_with fail;refine tD (d.o _) ?_;go_wp2;go_ret;exact⟨rfl,a.o⟩
theorem QF(f:ZW w B t r)(l:k<=2)(g:r.rest.size<=1000000000):
 lA prog 232 #[.pointer (cC B),dB (k:Nat)] w λe w'=>e=zA (tA (rG k r).1)/\ZW w' B t (rG k r).2/\uD B w w':=by
 have d:=gB (CO (k:=k) f (by omega) g);have m:(dK k r).1<65536:=by
  have a:=mm k r;have n:256 ^ k<=256 ^ 2:=Sc (by omega) l;omega
 have j:fB (∀W,ZW W B t (dK k r).2->lA prog 254 #[.pointer (cC B),dB ((dK k r).1:Nat)] W λe w'=>e=zA (tA (rG k r).1)/\ZW w' B t (rG k r).2/\uD B W w'):=λW h=>QD h (by omega) (Ua (AL k r).2.2 g);rw[eJ (by omega)]at d;clear f;generalize (rG k r).1=T at *;generalize (rG k r).2=o at *;generalize (dK k r).1=N at *;generalize (dK k r).2=p at *;go_enter func232,ntmps232;go_wp2_with fail;apply oC d.o;intro q a;replace a:=gB a;clear d;go_wp2_with fail;apply oC (j.o _ a.o.1);rintro s ⟨c,b⟩;have i:=gB (Vc c (a.o.2.trans b));clear c b;go_wp2;go_ret;exact⟨rfl,i.o⟩
theorem OO(Z:ZW w B t r)(hs:r.rest.size<=1000000000):
 lA prog 233 #[.pointer (cC B)] w λe w'=>∃g I,e=zA (.slice (cC g) (cB (lV (dK 1 r).2 (dK 1 r).1).1) I)/\w'.ownsRow w.1.size 190 2 (.slice (cC g) (cB (lV (dK 1 r).2 (dK 1 r).1).1) I) (cB (lV (dK 1 r).2 (dK 1 r).1).1) (wC (lV (dK 1 r).2 (dK 1 r).1).1)/\ZW w' B t (lV (dK 1 r).2 (dK 1 r).1).2/\uD B w w':=by
 have X:=gB (CO (k:=1) Z (by omega) hs);have h:(dK 1 r).1<=255:=by have:=mm 1 r;omega
 rw[eJ (by omega)]at X;have p:=eB Z;have h:(dK 1 r).2.rest.size<=1000000000:=Ua (AL 1 r).2.2 hs;clear Z;generalize (dK 1 r).2=j at *;generalize (dK 1 r).1=n at *;obtain⟨ti,A,R,S,T⟩:=EJ;have m:=gB A;have o:∀W:jA,(Instr.makeSlice 129 (dB 0) (dB (n:Nat))).run prog W=.ok (.slice (cC W.1.size) 0 n) (W.alloc (aB (madeCells #[tA pA,tA pA] (n*2)) 190)):=λW=>by
  have h:=run_make (P:=prog) W 129 190 ti _ underlying129 A R .i64 .i64 0 (n:Nat) (by omega) (by omega) (by rw[T];omega) (by omega);simp only[Hd,S]at h;exact h
 clear A;go_enter func233,ntmps233;go_wp2_with fail;apply oC X.o;rintro w1 ⟨N,v⟩;have h:=gB (Vc N v);have G:=v.size;clear N v X;go_wp2;clear o;go_loopw [4,5,11] (λo _ i wr=>∃(k:Nat)(d:List hC)(g K:Nat),k<=n/\i=dB k/\cB d<=k/\k<=cB d/\o=.slice (cC g) (cB d) K/\fB (d=(lV j k).1)/\fB (ZW wr B t (lV j k).2)/\fB (wr.ownsRow w.1.size 190 2 (.slice (cC g) (cB d) K) (cB d) (wC d))/\fB (uD B w wr)) (λ_ _ i _=>n-(intOf i).toNat)
 case atStart=>
  refine⟨0,[],_,_,Oa _,rfl,Oa _,Oa _,rfl,rfl,rB.z h.o.1 aC,⟨rfl,La ⟨w1.1.size,n,_,rfl,G,heap_alloc_new _ _,Oa _,by simp[maxLen];omega,size_madeCells _ _,rfl⟩⟩,h.o.2.alloc _⟩
 case round=>
  obtain⟨k,d,g,K,h,rfl,h,h,rfl,Y,u,l,s⟩:=hrel;by_cases h:k<n
  .have f:(lV j k).2.rest.size<=1000000000:=by have:=(aCo j k).1;omega
   have G:=gB (λW(h:ZW W B t (lV j k).2)=>QF (k:=1) h (by omega) f);have H:=gB (λW(h:ZW W B t (rG 1 (lV j k).2).2)=>QF (k:=2) h (by omega) (Ua (qq 1 (lV j k).2).2 f));have F:fB (lV j (k+1)=(d++[⟨(rG 1 (lV j k).2).1,(rG 2 (rG 1 (lV j k).2).2).1⟩],(rG 2 (rG 1 (lV j k).2).2).2)):=by show _=_;rw[FB,pj,Y.o]
   clear f;generalize rG 2 (rG 1 (lV j k).2).2=b at *;generalize rG 1 (lV j k).2=a at *;generalize a.1=D at *;generalize b.1=E at *;go_wp2_with fail;apply oC (G.o _ u.o);rintro w2 ⟨O,x⟩;have U:=gB (Vc O (Vc (s.o.trans x) (sO l.o x p)));clear O x G u l s;go_wp2_with fail;apply oC (H.o _ U.o.1);rintro V ⟨Q,y⟩;have C:=gB (Vc Q (Vc (U.o.2.1.trans y) (sO U.o.2.2 y p)));have h:=C.o.2.1.size;clear Q y H U;go_wp2_with(at_builtin;refine wpList_append_lies _ rfl _ _ _ rfl w.1.size 190 ti _ 2 32 underlying129 m.o R S T rfl (by omega) (.slice (cC g) (cB d) K) (cB d) (wC d) rfl (by exact lC C.o.2.2 aC) (iB V.1.size 0) 1 1 [tA D,tA E] rfl rfl (by exact jA.news_of_block (cs:=#[tA D,tA E]) (heap_alloc_new _ _)) (by simp[mA.oneCell']) (by omega) (by simp[maxLen];omega) (by omega) (by simp;omega) (V.1.size+1) (by simp) ?_;intro G J h m c o o);have z:=(c.block B (by simp;omega) (λe=>by have:=qI C.o.2.2 B e.symm;omega)).trans ((uF V _).block B (by omega));have L:uD B w h:=by
    have o:=C.o.2.1;refine⟨c.os.trans o.os,c.tape.trans o.tape,c.output.trans o.output,?_,λq I O=>?_⟩;have:=c.size;simp at this;omega;exact (c.block q (by simp;omega) (λe=>by have:=qI C.o.2.2 q e.symm;omega)).trans (((uF V _).block q (by omega)).trans (o.block q I O))
   have M:cB (d++[(⟨D,E⟩:hC)])=cB d+1:=by simp
   have o:wC d++[tA D,tA E]=wC (d++[⟨D,E⟩]):=by rw[cG];rfl
   rw[o,<-M]at m;refine⟨⟨k+1,d++[(⟨D,E⟩:hC)],G,J,by omega,by go_num,by omega,by omega,by rw[M],by show _=_;rw[F.o],?_,m,L⟩,by simp[intOf];omega⟩;show ZW h B t (lV j (k+1)).2;rw[F.o];exact z.trans C.o.1
  have e:k=n:=by omega
  subst e;have h:=Y.o;clear Y;subst h;go_wp2;go_ret;exact⟨g,K,rfl,l.o,u.o,s.o⟩
end
def wU(k:Int):Bool:=k==1||k==3||k==5||k==6
def vU(k:Int):Bool:=k==3||k==5
def iV(k:Int):Bool:=k==2||k==3
def aHr(l:hC):Prop:=l.N.size<=255/\l.V.size<=65535
def aLv(x:wF):Prop:=cB x.B<=255/\∀i(h:i<cB x.B),aHr x.B[i]
def aIe(a:List wF):Prop:=∀i(h:i<cB a),aLv a[i]
def na(r:fH):Prop:=(1<=r.K/\r.K<=6)/\(wU r.K=gA->r.T.size=0)/\(vU r.K=gA->r.R.size=0)/\(iV r.K=gA->r.U=0)/\(r.K≠1->r.P=[])/\r.T.size<=255/\r.R.size<=65535/\cB r.P<=500/\aIe r.P
def jW(x:wF):vB:=bI x.B++uB 8 x.bits
def kE:List wF->vB
 |[]=>pA
 |x::r=>jW x++kE r
def dI:∀(a b:List wF),kE (a++b)=kE a++kE b
 |[],b=>by simp[kE]
 |r::q,b=>by
  show jW r++kE (q++b)=jW r++kE q++kE b;rw[dI q b,Wa]
def jP(a:List wF)(k:Nat)(h:k<cB a):kE (a.take (k+1))=kE (a.take k)++jW a[k]:=by
 rw[Pa h,dI];simp[kE]
def oK(r:fH):vB:=
 uB 1 r.K++((if wU r.K=iA then vM r.T else pA)++((if r.K=1 then uB 2 (cB r.P:Nat)++kE r.P else pA)++((if vU r.K=iA then eG r.R else pA)++(if iV r.K=iA then uB 8 r.U else pA))))
theorem zb(b:vB):b++pA=b:=by simp
theorem tr(b:vB):pA++b=b:=by simp
def aLr(b c:vB)(d:Int)(a:List wF):oK ⟨1,b,c,d,a⟩=uB 1 1++vM b++uB 2 (cB a:Nat)++kE a:=by
 rw[oK];simp only[show wU 1=iA from rfl,show vU 1=gA from rfl,show iV 1=gA from rfl,Td,Bd,Cf,zb,Wa]
def aMl(c b:vB)(a:Int)(d:List wF):oK ⟨2,c,b,a,d⟩=uB 1 2++uB 8 a:=by grind [oK,uB,wU,vU,iV,tr]
def aMm(c a:vB)(b:Int)(d:List wF):oK ⟨3,c,a,b,d⟩=uB 1 3++vM c++eG a++uB 8 b:=by
 rw[oK];simp only[show wU 3=iA from rfl,show vU 3=iA from rfl,show iV 3=iA from rfl,show ¬(3:Int)=1 from by omega,Td,Cf,tr,Wa]
def aMn(c a:vB)(b:Int)(d:List wF):oK ⟨4,c,a,b,d⟩=uB 1 4:=by grind [oK,uB,wU,vU,iV,zb]
def aMo(b a:vB)(c:Int)(d:List wF):oK ⟨5,b,a,c,d⟩=uB 1 5++vM b++eG a:=by
 rw[oK];simp only[show wU 5=iA from rfl,show vU 5=iA from rfl,show iV 5=gA from rfl,show ¬(5:Int)=1 from by omega,Td,Bd,Cf,tr,zb,Wa]
def aMp(a b:vB)(c:Int)(d:List wF):oK ⟨6,a,b,c,d⟩=uB 1 6++vM a:=by grind [oK,uB,vM,wU,vU,iV,zb]
def aLj{k:Int}(h:1<=k/\k<=6):k=1\/k=2\/k=3\/k=4\/k=5\/k=6:=by omega
theorem uP:∀(a:List hC),(pD a).size=3*cB a+bE a
 |[]=>rfl
 |l::r=>by
  rw[pD,Ka,Ka,sF,kF,uP r];simp only[Zb,bE];omega
def iP(x:wF):(jW x).size=9+3*cB x.B+bE x.B:=by grind [jW,bE,bI,oB,uP]
def wP:List wF->Nat
 |[]=>0
 |x::r=>bE x.B+wP r
def KR(a b:List wF):wP (a++b)=wP a+wP b:=by
 induction a with
 |nil=>simp[wP]
 |cons f r c=>simp[wP,c];omega
def xt(a:List wF)(k:Nat)(h:k<cB a):wP (a.take (k+1))=wP (a.take k)+bE a[k].B:=by
 rw[Pa h,KR];simp[wP]
def aHa(a:List wF):wP a<=yF a:=by induction a<;>grind [wP,yF,mJ]
def NO:∀(a:List wF),wP a<=(kE a).size
 |[]=>by simp[wP]
 |x::r=>by
  have h:=NO r;have e:(kE (x::r)).size=(jW x).size+(kE r).size:=by show(jW x++kE r).size=_;rw[Ka]
  have b:=iP x;rw[e];simp only[wP];omega
def lx(a:List hC)(i:Nat)(h:i<cB a):a[i].N.size+a[i].V.size<=bE a:=by
 have b:=uT a i h;have c:=xQ a (i+1);omega
def aHb{r:fH}(h:na r)(d:60000<r.T.size+r.R.size+wP r.P):60000<(oK r).size:=by
 obtain⟨_,a,b,_,c,_⟩:=h;have e:=NO r.P;have f:r.T.size<=(if wU r.K=iA then vM r.T else pA).size:=by
  split;rw[sF];omega;rw[a (by simp_all)];exact Oa _
 have g:wP r.P<=(if r.K=1 then uB 2 (cB r.P:Nat)++kE r.P else pA).size:=by
  split;rw[Ka];omega;rw[c (by assumption)];exact Oa _
 have i:r.R.size<=(if vU r.K=iA then eG r.R else pA).size:=by
  split;rw[kF];omega;rw[b (by simp_all)];exact Oa _
 simp only[oK,Ka];omega
def aDv:∃Z:Array mA,Z=Array.replicate 256 (.int .u32 0)/\∀w,(zeroValue 310).run prog w=.ok (.agg Z) w:=⟨_,rfl,λ_=>by kernel_rfl⟩
def nx(P:Program)(w:jA)(Z:Array mA)(t:TypeId)(b:∀v∈Z.toList,v.oneCell'=iA):
 (storeCells (iB w.1.size 0) Z.toList).run P (w.alloc (aB Z t))=.ok () (w.alloc (aB Z t)):=by
 have a:(w.alloc (aB Z t)).heap[w.1.size]?=fA (aB Z t (0,0)):=heap_alloc_new _ _;have h:=run_storeCells_from (P:=P) w.1.size t Z.toList 0 Z _ a (by simp) b;rw[h];simp only[List.take_zero,Mb,Array.toArray_toList];rw[setRow_self _ _ Z t (0,0) a]
def ad(a:Nat)(b:a<4294967296):bits .and .u32 (a:Int) 1=((a % 2:Nat):Int):=by
 show IntKind.u32.wrap ((BitVec.ofInt 32 (a:Int) &&& BitVec.ofInt 32 ((1:Nat):Int)).toNat:Int)=_;rw[BitVec.toNat_and,Nc,Nc,Hc,Hc,Ic (by omega),Ic (by omega),Nat.and_one_is_mod];simp only[IntKind.wrap,IntKind.bits,IntKind.signed];simp;omega
def ZV(a b:Nat)(c:a<4294967296)(d:b<4294967296):bits .xor .u32 (a:Int) (b:Int)=((a ^^^ b:Nat):Int):=by
 have e:a ^^^ b<2 ^ 32:=Qd (by omega) (by omega);show IntKind.u32.wrap ((BitVec.ofInt 32 (a:Int) ^^^ BitVec.ofInt 32 (b:Int)).toNat:Int)=_;rw[Jg,Nc,Nc,Hc,Hc,Ic (by omega),Ic (by omega)];simp only[IntKind.wrap,IntKind.bits,IntKind.signed];simp;omega
def JX(w:jA):
 lA prog 185 #[] w λe v=>∃b a,e=zA (.pointer (cC b))/\w.1.size<=b/\rB v b a 310/\(∀i,i<256->a[i]?=fA (.int .u32 (jn i:Nat)))/\zB w v:=by
 obtain⟨Z,l,I⟩:=aDv;have r:Z.size=256:=by rw[l];simp
 have C:=nx prog w Z 310 (by rw[l];simp[mA.oneCell']);have s:rB (w.alloc (aB Z 310)) w.1.size Z 310:=heap_alloc_new _ _;have y:fB (rB (w.alloc (aB Z 310)) w.1.size Z 310):=s;clear l s;go_enter func185,ntmps185;go_wp2;go_loopw [2,3,5] (λ_ _ c wr=>∃(k:Nat)(a:Array mA),k<=256/\c=dB k/\fB (rB wr w.1.size a 310)/\a.size=256/\fB (∀i,i<k->a[i]?=fA (.int .u32 (jn i:Nat)))/\fB (zB w wr)) (λ_ _ c _=>256-(intOf c).toNat)
 case atStart=>exact⟨0,Z,by omega,rfl,y,r,λi u=>absurd u (by omega),aC⟩
 case round=>
  obtain⟨k,a,H,rfl,d,m,h,g⟩:=hrel;by_cases B:k<256
  .go_wp2;go_loop [3,10] (λx c=>∃(j X:Nat),j<=8/\c=dB j/\x=.int .u32 X/\X<4294967296/\fB (X=kO k j)) (λ_ c=>8-(intOf c).toNat)
   case atStart=>exact⟨0,k,by omega,rfl,by go_num,by omega,rfl⟩
   case round=>
    obtain⟨j,X,G,rfl,rfl,A,o⟩:=hrel;have t:=ad X A;have q:=ZV (X / 2) 2197175160 (by omega) (by omega);by_cases D:j<8
    .by_cases f:X % 2=1
     .rw[f]at t;go_wp2;refine⟨⟨j+1,(X / 2) ^^^ 2197175160,by omega,by go_num,?_,Qd (n:=32) (by omega) (by omega),?_⟩,by simp[intOf];omega⟩
      .rw[<-q];congr 2
      show _=_;rw[kO,<-o.o,aV,Ma f]
     have z:X % 2=0:=by omega
     rw[z]at t;go_wp2;refine⟨⟨j+1,X / 2,by omega,by go_num,?_,by omega,?_⟩,by simp[intOf];omega⟩
     .go_num
     show _=_;rw[kO,<-o.o,aV,Ja f]
    have e:j=8:=by omega
    subst e;have E:wr.cell? (iB w.1.size k)=fA (a[k]'(by omega)):=by rw[d.o.cell];exact Qc _
    have F:=d.o.free k;go_wp2;refine⟨⟨k+1,a.setIfInBounds k (.int .u32 X),by omega,by go_num,d.o.set k _,by simp[m],?_,?_⟩,by simp[intOf];omega⟩
    .intro i u;rw[Eb];split
     .rename_i e;subst e;rw[Ma (by omega),o.o];rfl
     exact h.o i (by omega)
    exact g.o.setCell (p:=(iB w.1.size k)) (Ia _) _
  have e:k=256:=by omega
  subst e;go_wp2;go_ret;exact⟨w.1.size,a,rfl,Ia _,d.o,h.o,g.o⟩
def aKn(a b:Nat)(c:a<256)(d:b<256):bits .xor .u8 (a:Int) (b:Int)=((a ^^^ b:Nat):Int):=by
 have e:a ^^^ b<2 ^ 8:=Qd (by omega) (by omega);show IntKind.u8.wrap ((BitVec.ofInt 8 (a:Int) ^^^ BitVec.ofInt 8 (b:Int)).toNat:Int)=_;rw[Jg,Nc,Nc,Hc,Hc,Ic (by omega),Ic (by omega)];simp only[IntKind.wrap,IntKind.bits,IntKind.signed];simp;omega
def aFy(a:Nat)(d:a<4294967296):bits .xor .u32 IntKind.u32.max (a:Int)=((4294967295-a:Nat):Int):=by
 have b:bits .xor .u32 IntKind.u32.max (a:Int)=((4294967295 ^^^ a:Nat):Int):=ZV 4294967295 a (by omega) d;have c:(4294967295 ^^^ a:Nat)=4294967295-a:=by
  have e:(BitVec.allOnes 32 ^^^ BitVec.ofNat 32 a).toNat=(~~~ BitVec.ofNat 32 a).toNat:=by rw[BitVec.allOnes_xor]
  rw[Jg,BitVec.toNat_allOnes,BitVec.toNat_not,Hc,Ic (by omega)]at e;exact e
 rw[b,c]
def oa(b:Nat)(d:Array mA)(s:vB)(w:jA)(A:s.size<=maxLen)(r:rB w b d 310)(f:∀i,i<256->d[i]?=fA (.int .u32 (jn i:Nat))):
 gF 186 #[.pointer (cC b),tA s] w (dB (qK s:Nat)):=by
 have q:fB (rB w b d 310/\∀i,i<256->d[i]?=fA (.int .u32 (jn i:Nat))):=⟨r,f⟩
 clear r f;unfold maxLen at A;go_enter func186,ntmps186;go_wp2;go_loopw [5,6,9] (λx _ c wr=>∃(k X:Nat),k<=s.size/\c=dB k/\x=.int .u32 X/\X<4294967296/\fB (X=aw (s.data.toList.take k))/\fB (zB w wr)) (λ_ _ c _=>s.size-(intOf c).toNat)
 case atStart=>exact⟨0,4294967295,by omega,rfl,rfl,by omega,by show _=_;simp[aw],jD⟩
 case round=>
  obtain⟨k,X,F,rfl,rfl,y,t,a⟩:=hrel;by_cases p:k<s.size
  .have E:=(s[k]).toNat_lt;obtain⟨N,T,Y,D,h,z,g,B,l,m⟩:∃N T Y:Nat,N<256/\T<4294967296/\Y<4294967296/\bits .xor .u8 ((X:Int) % 256) ((s[k]).toNat:Int)=(N:Int)/\bits .xor .u32 ((X:Int) / 256) (T:Int)=(Y:Int)/\wr.cell? (iB b N)=fA (.int .u32 (T:Nat))/\fB (DV X s[k]=Y):=by
    have g:=aKn (X % 256) (s[k]).toNat (by omega) (by omega);have o:(X % 256) ^^^ (s[k]).toNat<256:=Qd (n:=8) (by omega) (by omega);have j:=q.o.1.z a.o;have h:=aEs o;refine⟨_,_,_,o,h,Qd (n:=32) (by omega) h,g,ZV (X / 256) _ (by omega) h,by rw[j.cell];exact q.o.2 _ o,sr X _ (by omega)⟩
   go_wp2;go_region
   go_wp2;refine⟨⟨k+1,Y,by omega,by go_num,rfl,z,?_,a.o.drew⟩,by simp[intOf];omega⟩;show _=_;rw[rV s k p,SN,<-t.o,m.o]
  .have e:k=s.size:=by omega
   subst e;have G:=aFy X y;go_wp2;refine bodyPost_ret (v:=dB (qK s:Nat)) ?_ rfl ⟨rfl,a.o⟩;have u:wrap64 ((4294967295-X:Nat):Int)=((4294967295-X:Nat):Int):=by simp only[wrap64];omega
   rw[u,show qK s=4294967295-X by rw[qK,t.o,Ra (by simp)]];simp[results,results186,go_sem]
