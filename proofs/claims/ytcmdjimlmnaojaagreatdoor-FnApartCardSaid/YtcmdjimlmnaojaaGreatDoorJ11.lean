import Derived.Test.YtcmdjimlmnaojaaGreatDoorJ10
import Derived.Test.YtcmdjimlmnaojaaGreatDoorJ09
set_option maxRecDepth 100000
set_option maxHeartbeats 2000000
set_option linter.defProp false
open Bool renaming true->eA,false->dA
open Option renaming some->cA
open ByteArray renaming empty->lA
open List renaming length->zA
namespace Go.Proofs.YtcmdjimlmnaojaaGreatDoor
open Go renaming Value->jA,World->fA,Calls->iA
open Value renaming bool->sA,string->pA
open Ending renaming returned->vA
open Obj renaming cells->xA
open Go.RowKit Tryz
section
open Go.Maps
section
variable {α β:Type}
def fC(key:α->pB)(a:α):List α->List α
 |[]=>[a]
 |p::r=>if bK (key p) (key a)=eA then p::fC key a r else if (key p).toList==(key a).toList then a::r else a::p::r
def sE(key:α->pB)(k:pB)(l:List α):List α:=l.filter (λp=>!((key p).toList==k.toList))
def xC(key:α->pB)(k:pB)(l:List α):Option α:=l.find? (λp=>(key p).toList==k.toList)
def tC(key:α->pB)(l:List α):Prop:=l.Pairwise (λp q=>bK (key p) (key q)=eA)
theorem cS{key:α->pB}{key':β->pB}(g:α->β)(b:∀a,key' (g a)=key a)(a:α)(l:List α):(fC key a l).map g=fC key' (g a) (l.map g):=by induction l<;>grind [fC]
theorem sZ{key:α->pB}{key':β->pB}(g:α->β)(b:∀a,key' (g a)=key a)(k:pB)(l:List α):(sE key k l).map g=sE key' k (l.map g):=by
 unfold sE;rw[List.filter_map];congr 1;apply List.filter_congr;intro p _;simp only[Function.comp,b]
theorem eV{key:α->pB}{key':β->pB}(g:α->β)(b:∀a,key' (g a)=key a)(k:pB)(l:List α):xC key' k (l.map g)=(xC key k l).map g:=by
 unfold xC;rw[List.find?_map];congr 2;funext p;simp only[Function.comp,b]
theorem xW{key:α->pB}{key':β->pB}(g:α->β)(b:∀a,key' (g a)=key a){l:List α}:tC key' (l.map g) ↔ tC key l:=by
 unfold tC;rw[Te];simp only[b]
theorem aCz(k:pB)(d:β)(l:List (pB×β)):fC (·.1) (k,d) l=rS k d l:=by
 induction l with
 |nil=>rfl
 |cons p r a=>rw[fC,rS,a]
theorem aCa(k:pB)(l:List (pB×β)):sE (·.1) k l=EC k l:=rfl
theorem dy(k:pB)(l:List (pB×β)):(xC (·.1) k l).map (·.2)=lk l k:=rfl
theorem jM{key:α->pB}{k:pB}{l:List α}{a:α}(h:xC key k l=cA a):a∈l/\key a=k:=by grind [xC,gE]
theorem pW{key:α->pB}{k:pB}{l:List α}(h:xC key k l=none):∀a∈l,key a≠k:=by grind [xC]
theorem qJ{key:α->pB}{k:pB}{l:List α}(h:∀a∈l,key a≠k):xC key k l=none:=
 List.find?_eq_none.2 λa b e=>h a b ((gE _ _).1 e)
theorem tC.head{key:α->pB}{p:α}{r:List α}(h:tC key (p::r)):∀q∈r,bK (key p) (key q)=eA:=(Bc.1 h).1
theorem tC.tail{key:α->pB}{p:α}{r:List α}(h:tC key (p::r)):tC key r:=(Bc.1 h).2
theorem lF{key:α->pB}(p:α)(r:List α)(k:pB):xC key k (p::r)=if key p=k then cA p else xC key k r:=by grind [xC,gE,yD]
theorem kM{key:α->pB}{l:List α}(b:tC key l){a:α}(h:a∈l):xC key (key a) l=cA a:=by
 induction l with
 |nil=>cases h
 |cons p r c=>
  rw[lF];rcases Lb.1 h with rfl|h;rw[Ma rfl];rw[Ja (mI (b.head _ h))];exact c b.tail h
theorem uK{key:α->pB}{a q:α}{l:List α}(h:q∈fC key a l):q=a\/q∈l:=by induction l<;>grind [fC]
theorem jK{key:α->pB}{a:α}{l:List α}(h:tC key l):tC key (fC key a l):=by
 induction l with
 |nil=>exact We ..
 |cons p r g=>
  unfold fC;split
  .rename_i c;refine Bc.2 ⟨λq b=>?_,g h.tail⟩;rcases uK b with rfl|b
   .exact c
   exact h.head q b
  rename_i c;split
  .rename_i f;rw[gE]at f;refine Bc.2 ⟨λq b=>?_,h.tail⟩;rw[<-f];exact h.head q b
  rename_i f;have d:bK (key a) (key p)=eA:=aV (by simpa using c) (λe=>f ((gE _ _).2 e));refine Bc.2 ⟨λq b=>?_,h⟩;rcases Lb.1 b with rfl|b
  .exact d
  exact GY d (h.head q b)
theorem xl{key:α->pB}{a:α}{l:List α}(h:∀p∈l,bK (key p) (key a)=eA):fC key a l=l++[a]:=by induction l<;>grind [bK,fC]
theorem IJ{key:α->pB}{a:α}{l:List α}(h:xC key (key a) l=none):(fC key a l).Perm (a::l):=by
 induction l with
 |nil=>exact Lf _
 |cons p r d=>
  have b:=pW h;unfold fC;split;have:=d (qJ λq c=>b q (Sb _ c));exact(List.Perm.cons p this).trans (List.Perm.swap a p r);rw[Ja (by rw[yD (b p (Kc ..))];simp)]
theorem pP{key:α->pB}{k:pB}{l:List α}(h:tC key l):tC key (sE key k l):=Mf _ h
theorem vP{key:α->pB}{k:pB}{l:List α}{a:α}:a∈sE key k l ↔ a∈l/\key a≠k:=by grind [sE,gE,yD]
end
def YE{α:Type}(key:α->pB)(val:α->DataW Unit)(l:List α)(k:pB):has (jE (l.map λa=>(key a,val a))) (kL k)=(xC key k l).isSome:=by
 rw[xg,<-dy,eV (key:=key) (λa=>(key a,val a)) (λ_=>rfl)];cases xC key k l<;>rfl
def lS{α:Type}(key:α->pB)(val:α->DataW Unit)(l:List α)(k:pB)(z:DataW Unit):(jE (l.map λa=>(key a,val a))).atKey (kL k) z=((xC key k l).map val).getD z:=by
 rw[bu,<-dy,eV (key:=key) (λa=>(key a,val a)) (λ_=>rfl)];cases xC key k l<;>rfl
def aIk{α:Type}{key:α->pB}(val:α->DataW Unit){l:List α}(h:tC key l):gS (l.map λa=>(key a,val a)):=by grind [tC,gS]
def IT{α:Type}{key:α->pB}(val:α->DataW Unit)(a:α){l:List α}(h:tC key l):(jE (l.map λa=>(key a,val a))).put (kL (key a)) (val a)=jE ((fC key a l).map λa=>(key a,val a)):=by
 rw[zh _ _ (aIk val h),cS (key':=(·.1)) (λa=>(key a,val a)) (λ_=>rfl),aCz]
def XS{α:Type}{key:α->pB}(val:α->DataW Unit)(k:pB)(l:List α):(jE (l.map λa=>(key a,val a))).del (kL k)=jE ((sE key k l).map λa=>(key a,val a)):=by
 rw[vw,sZ (key':=(·.1)) (λa=>(key a,val a)) (λ_=>rfl),aCa]
def vM{α:Type}(key:α->pB)(val:α->DataW Unit)(l:List α):Maps.size (jE (l.map λa=>(key a,val a)))=zA l:=by
 rw[qb,Xa]
def tI(met:pB->pB)(l:List kB)(m:pB):Nat:=zA (l.filter λp=>(met p.s).toList==m.toList)
def UD{met:pB->pB}{l a:List kB}(h:l.Perm a)(m:pB):tI met l m=tI met a m:=(h.filter _).length_eq
def UC(met:pB->pB)(p:kB)(l:List kB)(m:pB):tI met (p::l) m=tI met l m+if met p.s=m then 1 else 0:=by grind [tI,gE,yD]
def XJ(met:pB->pB)(l:List kB)(m:pB):tI met l m<=zA l:=Pc _ _
end
structure lC where
 w:Int
 tl:Int
 ml:Int
 sh:Int
 ha:Int
 sg:Int
def uE(c:lC):jA:=.agg #[aB c.w,aB c.tl,aB c.ml,aB c.sh,aB c.ha,aB c.sg]
def lG(c:lC):Bool:=yB c.w 1 1000000000&&yB c.tl 0 1000000&&yB c.ml 0 1000000&&yB c.sh 1 64&&yB c.ha 0 2&&yB c.sg 100 1000000
def nL{x b a:Int}(h:yB x b a=eA):b<=x/\x<=a:=by simpa[yB]using h
def XG{x b a:Int}(h:¬yB x b a=eA):x<b\/a<x:=by grind [yB]
def qG(x:Int)(w:fA):rI 58 #[aB x] w (sA (yB x 0 1000000)):=by
 go_enter func58,ntmps58;go_wp2_with(go_at_call 59;apply jC (yF _ _ _);rintro a rfl);go_ret;exact⟨rfl,rfl⟩
def vf(a b c d e f:Bool):(a=dA\/a=eA/\(b=dA\/b=eA/\(c=dA\/c=eA/\(d=dA\/d=eA/\(e=dA\/e=eA/\(f=dA\/f=eA)))))):=by cases a<;>cases b<;>cases c<;>cases d<;>cases e<;>cases f<;>simp
def fK(c:lC)(w:fA):cF 33 #[uE c] w (sA (lG c)):=by
 unfold uE;rcases vf (yB c.w 1 1000000000) (yB c.tl 0 1000000) (yB c.ml 0 1000000) (yB c.sh 1 64) (yB c.ha 0 2) (yB c.sg 100 1000000) with b|⟨b,d|⟨d,f|⟨f,g|⟨g,h|⟨h,i|i⟩⟩⟩⟩⟩
 all_goals
  go_enter func33,ntmps33;go_wp2_with(go_at_call 86;refine jC (eE (by assumption) _) ?_;rintro a rfl);go_ret;exact⟨oB (by simp[lG, *]),bC⟩
def tT(c:lC)(w:fA):cF 14 #[uE c] w (sA (lG c)):=by
 obtain⟨h,e,f,b,d,a⟩:=c;unfold uE;simp only;by_cases n:yB h 1 1000000000=dA
 .have i:¬yB h 1 1000000000=eA:=by simpa using n
  have E:cB (lG ⟨h,e,f,b,d,a⟩=dA):=by show _=_;simp[lG,n]
  have j:=XG i;clear i n;by_cases v:1<=h
  .have x:¬h<=1000000000:=by omega
   clear j;go_enter func14,ntmps14;go_wp2_with(first|(go_at_call 58;apply jC (qG _ _);rintro g rfl)|(go_at_call 59;apply jC (yF _ _ _);rintro g rfl));go_ret;exact⟨oB (by first|exact E.o.symm|(rw[E.o];simp;omega)),bC⟩
  clear j;go_enter func14,ntmps14;go_wp2_with(first|(go_at_call 58;apply jC (qG _ _);rintro g rfl)|(go_at_call 59;apply jC (yF _ _ _);rintro g rfl));go_ret;exact⟨oB (by first|exact E.o.symm|(rw[E.o];simp;omega)),bC⟩
 have i:yB h 1 1000000000=eA:=by simpa using n
 clear n;obtain⟨y,B⟩:=nL i;by_cases r:yB e 0 1000000=dA
 .have k:¬yB e 0 1000000=eA:=by simpa using r
  have E:cB (lG ⟨h,e,f,b,d,a⟩=dA):=by show _=_;simp[lG,i,r]
  clear k;go_enter func14,ntmps14;go_wp2_with(first|(go_at_call 58;apply jC (qG _ _);rintro g rfl)|(go_at_call 59;apply jC (yF _ _ _);rintro g rfl));go_ret;exact⟨oB (by first|exact E.o.symm|(rw[E.o];simp;omega)),bC⟩
 have k:yB e 0 1000000=eA:=by simpa using r
 clear r;by_cases s:yB f 0 1000000=dA
 .have m:¬yB f 0 1000000=eA:=by simpa using s
  have E:cB (lG ⟨h,e,f,b,d,a⟩=dA):=by show _=_;simp[lG,i,k,s]
  clear m;go_enter func14,ntmps14;go_wp2_with(first|(go_at_call 58;apply jC (qG _ _);rintro g rfl)|(go_at_call 59;apply jC (yF _ _ _);rintro g rfl));go_ret;exact⟨oB (by first|exact E.o.symm|(rw[E.o];simp;omega)),bC⟩
 have m:yB f 0 1000000=eA:=by simpa using s
 clear s;by_cases o:yB b 1 64=dA
 .have l:¬yB b 1 64=eA:=by simpa using o
  have E:cB (lG ⟨h,e,f,b,d,a⟩=dA):=by show _=_;simp[lG,i,k,m,o]
  have j:=XG l;clear l o;by_cases v:1<=b
  .have x:¬b<=64:=by omega
   clear j;go_enter func14,ntmps14;go_wp2_with(first|(go_at_call 58;apply jC (qG _ _);rintro g rfl)|(go_at_call 59;apply jC (yF _ _ _);rintro g rfl));go_ret;exact⟨oB (by first|exact E.o.symm|(rw[E.o];simp;omega)),bC⟩
  clear j;go_enter func14,ntmps14;go_wp2_with(first|(go_at_call 58;apply jC (qG _ _);rintro g rfl)|(go_at_call 59;apply jC (yF _ _ _);rintro g rfl));go_ret;exact⟨oB (by first|exact E.o.symm|(rw[E.o];simp;omega)),bC⟩
 have l:yB b 1 64=eA:=by simpa using o
 clear o;obtain⟨z,C⟩:=nL l;by_cases t:yB d 0 2=dA
 .have u:¬yB d 0 2=eA:=by simpa using t
  have E:cB (lG ⟨h,e,f,b,d,a⟩=dA):=by show _=_;simp[lG,i,k,m,l,t]
  clear u;go_enter func14,ntmps14;go_wp2_with(first|(go_at_call 58;apply jC (qG _ _);rintro g rfl)|(go_at_call 59;apply jC (yF _ _ _);rintro g rfl));go_ret;exact⟨oB (by first|exact E.o.symm|(rw[E.o];simp;omega)),bC⟩
 have u:yB d 0 2=eA:=by simpa using t
 clear t;by_cases p:yB a 100 1000000=dA
 .have q:¬yB a 100 1000000=eA:=by simpa using p
  have E:cB (lG ⟨h,e,f,b,d,a⟩=dA):=by show _=_;simp[lG,i,k,m,l,u,p]
  have j:=XG q;clear q p;by_cases v:100<=a
  .have x:¬a<=1000000:=by omega
   clear j;go_enter func14,ntmps14;go_wp2_with(first|(go_at_call 58;apply jC (qG _ _);rintro g rfl)|(go_at_call 59;apply jC (yF _ _ _);rintro g rfl));go_ret;exact⟨oB (by first|exact E.o.symm|(rw[E.o];simp;omega)),bC⟩
  clear j;go_enter func14,ntmps14;go_wp2_with(first|(go_at_call 58;apply jC (qG _ _);rintro g rfl)|(go_at_call 59;apply jC (yF _ _ _);rintro g rfl));go_ret;exact⟨oB (by first|exact E.o.symm|(rw[E.o];simp;omega)),bC⟩
 have q:yB a 100 1000000=eA:=by simpa using p
 clear p;obtain⟨A,D⟩:=nL q;have E:cB (lG ⟨h,e,f,b,d,a⟩=eA):=by show _=_;simp[lG,i,k,m,l,u,q]
 go_enter func14,ntmps14;go_wp2_with(first|(go_at_call 58;apply jC (qG _ _);rintro g rfl)|(go_at_call 59;apply jC (yF _ _ _);rintro g rfl));go_ret;exact⟨oB (by first|exact E.o.symm|(rw[E.o];simp;omega)),bC⟩
def iI(f:Nat->Bool):Nat->Bool
 |0=>eA
 |k+1=>iI f k&&f k
theorem lL(f:Nat->Bool)(k:Nat):iI f (k+1)=(iI f k&&f k):=rfl
theorem oP{f:Nat->Bool}{k n:Nat}(h:f k=dA)(a:k<n):iI f n=dA:=by induction n<;>grind [iI,lL]
theorem nO{f:Nat->Bool}{k n:Nat}(h:iI f n=eA)(a:k<n):f k=eA:=by grind [iI,oP]
def okT(c:UInt8):Bool:=(97<=c&&c<=122) ||(48<=c&&c<=57) ||c==45
def uC(s:pB):Bool:=decide (1<=s.size) &&decide (s.size<=32) &&s.data.toList.all okT
def aF(s:pB):Bool:=!s.toList.isEmpty&&decide (fP s=0)
def dE(s:pB):pB:=jL (wG s).1
def qK(s:pB):Bool:=!(dE s).toList.isEmpty
def xE(t:gB):Bool:=t.L==-1&&zA t.M==0&&zA t.Z==0
def bM(a:List kB)(i:Nat):Bool:=match i with
 |0=>eA
 |j+1=>match a[j]?,a[j+1]? with
  |some p,cA q=>bK p.s q.s
  |_,_=>dA
def xL(a:List kB)(i:Nat):Bool:=match a[i]? with
 |some m=>bM a i&&aF m.s&&yB m.n 0 1000000
 |none=>dA
def yL(a:List kB):Bool:=iI (xL a) (zA a)
def jJ(b a:Int)(c:List kB)(i:Nat):Bool:=match c[i]? with
 |some x=>bM c i&&qK x.s&&yB x.n 0 a&&decide (a-x.n<b)
 |none=>dA
def fL(b a:Int)(c:List kB):Bool:=iI (jJ b a c) (zA c)
def eO(a:List gB)(i:Nat):Bool:=match i with
 |0=>eA
 |j+1=>match a[j]?,a[j+1]? with
  |some p,cA q=>bK p.N q.N
  |_,_=>dA
def cP(b a:Int)(t:gB):Bool:=uC t.N&&yB t.L (-1) 1000000&&yL t.M&&fL b a t.Z&&!xE t
def lN(b a:Int)(c:List gB)(i:Nat):Bool:=match c[i]? with
 |some t=>eO c i&&cP b a t
 |none=>dA
def bN(b a:Int)(c:List gB):Bool:=iI (lN b a c) (zA c)
def iC(c:lC)(a:Int)(b:List gB):Bool:=lG c&&yB a 0 1000000000000&&decide (zA b<=10000) &&bN c.w a b
theorem zS{a:List kB}{k:Nat}(b:0<k)(c:k<zA a):bM a k=bK (a[k-1]'(by omega)).s a[k].s:=by unfold bM;grind
theorem lV{a:List gB}{k:Nat}(b:0<k)(c:k<zA a):eO a k=bK (a[k-1]'(by omega)).N a[k].N:=by unfold eO;grind
theorem zY{a:List kB}{k:Nat}(b:k<zA a):xL a k=(bM a k&&aF a[k].s&&yB a[k].n 0 1000000):=by simp[xL,Va b]
theorem oV{c a:Int}{b:List kB}{k:Nat}(d:k<zA b):jJ c a b k=(bM b k&&qK b[k].s&&yB b[k].n 0 a&&decide (a-b[k].n<c)):=by simp[jJ,Va d]
theorem tV{b a:Int}{c:List gB}{k:Nat}(d:k<zA c):lN b a c k=(eO c k&&cP b a c[k]):=by simp[lN,Va d]
theorem bT{α:Type}{key:α->pB}:∀(l:List α),(∀k(h:k+1<zA l),bK (key (l[k]'(by omega))) (key l[k+1])=eA)->tC key l
 |[],_=>Gd
 |[a],_=>We ..
 |a::b::r,h=>by
  have e:tC key (b::r):=bT (b::r) λk f=>h (k+1) (by simp at f |-;omega);have d:bK (key a) (key b)=eA:=h 0 (by simp);refine Bc.2 ⟨λq c=>?_,e⟩;rcases Lb.1 c with rfl|c
  .exact d
  exact GY d (e.head q c)
def zk{α:Type}{key:α->pB}{l:List α}(k:Nat)(h:tC key l):tC key (l.take k):=List.Pairwise.sublist (List.take_sublist ..) h
def IN{a:List kB}{n:Nat}(h:iI (xL a) n=eA)(b:n<=zA a):tC (·.s) (a.take n):=by grind [iI,xL,tC,bT,nO,zY,zS]
def JA{c b:Int}{a:List kB}{n:Nat}(h:iI (jJ c b a) n=eA)(d:n<=zA a):tC (·.s) (a.take n):=by grind [iI,jJ,tC,bT,nO,oV,zS]
def aAe{c a:Int}{b:List gB}{n:Nat}(h:iI (lN c a b) n=eA)(d:n<=zA b):tC (·.N) (b.take n):=by grind [iI,lN,tC,bT,nO,tV,lV]
def OW{α:Type}{key:α->pB}{l:List α}{k:Nat}(c:k<zA l)(h:tC key (l.take (k+1))):fC key l[k] (l.take k)=l.take (k+1)/\xC key (key l[k]) (l.take k)=none:=by
 rw[Pa c]at h |-
 have b:∀p∈l.take k,bK (key p) (key l[k])=eA:=λp a=>(Ae.1 h).2.2 p a _ (Uf.2 rfl);exact⟨xl b,qJ λp a=>mI (b p a)⟩
def WU(v:Int):Prop:=-9223372036854775808<=v/\v<=9223372036854775807
def fR(n:Nat):Int:=IntKind.i64.wrap (n:Int)
def RS(n:Nat):fR n=if n % 18446744073709551616<9223372036854775808 then((n % 18446744073709551616:Nat):Int) else((n % 18446744073709551616:Nat):Int)-18446744073709551616:=by
 unfold fR IntKind.wrap;simp[IntKind.bits,IntKind.signed];split<;>split<;>omega
def lJ{n:Nat}(h:n<9223372036854775808):fR n=(n:Int):=by rw[RS,Ma (by omega)];omega
def aEc(n:Nat)(v:Int):tB n v=tB n ((v % (256 ^ n:Nat)).toNat:Nat):=by
 have key:∀m,m<=n->wX v m=wX ((v % (256 ^ n:Nat)).toNat:Nat) m:=by
  intro m;induction m with
  |zero=>intro _;rfl
  |succ m a=>
   intro h;rw[wX,wX,a (by omega)];congr 1;have b:∀(u:Int) k,CY u k=u / ((256 ^ k:Nat):Int):=by
    intro u k;induction k with
    |zero=>simp[CY]
    |succ k a=>rw[CY,a,Int.ediv_ediv_of_nonneg (Int.natCast_nonneg _),Od,Int.natCast_mul];rfl
   have c:0<=v % ((256 ^ n:Nat):Int):=Int.emod_nonneg _ (by have:=Zf (n:=n) (show 0<256 by omega);omega);rw[b,b,Int.toNat_of_nonneg c];obtain⟨d,g⟩:∃d,n=m+1+d:=⟨n-m-1,by omega⟩
   have e:((256 ^ n:Nat):Int)=((256 ^ m:Nat):Int)*(256*((256 ^ d:Nat):Int)):=by
    subst g;rw[Nat.pow_add,Nat.pow_add,Nat.pow_one,Nat.mul_assoc,Int.natCast_mul,Int.natCast_mul];rfl
   have i:(0:Int)<((256 ^ m:Nat):Int):=by have:=Zf (n:=m) (show 0<256 by omega);omega
   generalize ((256 ^ m:Nat):Int)=A at *;generalize ((256 ^ d:Nat):Int)=D at *;rw[e];have f:v % (A*(256*D))=v-A*(256*D*(v / (A*(256*D)))):=by
    rw[Int.emod_def];congr 1;rw[Int.mul_assoc]
   rw[f,show v-A*(256*D*(v / (A*(256*D))))=v+A*(-(256*D*(v / (A*(256*D))))) by rw[Int.mul_neg];rfl,Int.add_mul_ediv_left _ _ (by omega)];rw[show -(256*D*(v / (A*(256*D))))=256*(-(D*(v / (A*(256*D))))) by rw[Int.mul_neg,Int.mul_assoc],Int.add_mul_emod_self_left]
 show strOfNums _=strOfNums _;rw[key n (Ia _)]
def DV(v:Int)(h:WU v):fR (vX (tB 8 v).data.toList)=v:=by
 obtain⟨b,c⟩:=h;have a:((256 ^ 8:Nat):Int)=18446744073709551616:=by decide
 have d:((v % ((256 ^ 8:Nat):Int)).toNat:Int)=v % 18446744073709551616:=by rw[a];omega
 rw[aEc,pT 8 _ (by
  have:(256:Nat) ^ 8=18446744073709551616:=by decide
  rw[this];omega),RS]
 split<;>omega
def gz{k:Nat}{r:Rd}{v:Int}{q:pB}(h:r.rest=tB k v++q):kK k r=(vX (tB k v).data.toList,⟨q,r.H⟩):=by
 have a:=AI (n:=k) h (nB k _);unfold kK;rw[a]
def aIf(a b:Nat)(g:b<256)(f:a<72057594037927936):bits .or .i64 (IntKind.i64.wrap ((a:Int)*256)) (b:Int)=fR (a*256+b):=by
 have d:a*256||| b=a*256+b:=by
  have:=Ef (i:=8) (b:=b) (by omega) a;rw[show 2 ^ 8*a=a*256 by omega]at this;exact this.symm
 have c:BitVec.ofInt 64 (IntKind.i64.wrap ((a:Int)*256))=BitVec.ofNat 64 (a*256):=by
  have e:((a:Int)*256)=((a*256:Nat):Int):=by omega
  rw[e];apply BitVec.eq_of_toNat_eq;rw[BitVec.toNat_ofInt,Hc];unfold IntKind.wrap;simp only[IntKind.bits,IntKind.signed];simp;omega
 show IntKind.i64.wrap ((BitVec.ofInt 64 (IntKind.i64.wrap ((a:Int)*256)) ||| BitVec.ofInt 64 (b:Int)).toNat:Int)=_;rw[c,BitVec.toNat_or,Nc,Hc,Hc,Ic (by omega),Ic (by omega),d];rfl
def YI(s:pB)(w:fA)(m:s.size<=8):
 rI 259 #[pA s] w (aB (fR (vX s.data.toList))):=by
 go_enter func259,ntmps259;go_wp2;go_loopw [3,4,7] (λx _ c wr=>∃(k X:Nat)(Z:Int),k<=s.size/\c=aB k/\x=aB Z/\X<256 ^ k/\cB (X=vX (s.data.toList.take k))/\cB (Z=fR X)/\wr=w) (λ_ _ c _=>s.size-(intOf c).toNat)
 case atStart=>exact⟨0,0,0,by omega,rfl,rfl,by simp,by show _=_;simp[vX],by show _=_;rw[lJ (by omega)];rfl,rfl⟩
 case round=>
  obtain⟨k,X,Z,l,rfl,rfl,g,f,d,rfl⟩:=hrel;by_cases b:k<s.size
  .have j:=(s[k]).toNat_lt;have h:X<72057594037927936:=Bb g (Sc (n:=256) (by omega) (show k<=7 by omega));have a:Z=(X:Int):=by rw[d.o,lJ (by omega)]
   subst a;have i:=aIf X (s[k]).toNat (by omega) (by omega);go_wp2;refine⟨⟨k+1,X*256+(s[k]).toNat,fR (X*256+(s[k]).toNat),by omega,by go_num,?_,?_,?_,rfl,trivial⟩,by simp[intOf];omega⟩
   .exact Kd (jA.int .i64) (by rw[<-i,IntKind.wrap_i64,wrap64])
   .rw[Od];omega
   show _=_;rw[sV s k b,DU,<-f.o]
  have e:k=s.size:=by omega
  subst e;go_wp2;go_ret;refine⟨?_,rfl⟩;show Ending.returned (aB Z)=_;rw[d.o,f.o,Ra (by simp)]
def bn(w:fA)(B:Nat)(t:TypeId)(r:Rd):Prop:=jB w B #[pA r.rest,sA r.H] t
def RB(w:fA)(B:Nat)(r:Rd):Prop:=bn w B 164 r
section
variable {w w':fA} {B base k:Nat} {t:TypeId} {r:Rd}
theorem pI{e:TypeId}{a:Nat}{v:jA}{n:Nat}{i:List jA}(h:w.ownsRow base e a v n i)(l:sD B w w')(p:B<base):w'.ownsRow base e a v n i:=by
 obtain⟨j,d⟩:=h;refine⟨j,?_⟩;obtain d|⟨g,b,c,o,m,f,r⟩:=d;exact Ca d;exact La ⟨g,b,c,o,m,(l.block g (bB f) (by omega)).trans f,r⟩
theorem sD.alloc(h:sD B w w')(o:Obj):sD B w (w'.alloc o):=h.trans (sD.of bC)
theorem kl{n:Nat}(f:bn w B t r)(l:n<=70000)(i:r.rest.size<=1000000000):
 iA prog 232 #[.pointer (vB B),aB (n:Nat)] w λe w'=>e=vA (pA (aG n r).1)/\bn w' B t (aG n r).2/\sD B w w':=by
 obtain⟨c,d⟩:=r;have g:=dB f;have m:yC w B 0 (pA c):=jB.cell f 0;have o:yC w B 1 (sA d):=jB.cell f 1;have a:=jB.free f 0;have b:=jB.free f 1;dsimp only at i;clear f;by_cases h:c.size<n
 .have E:cB (aG n ⟨c,d⟩=(lA,⟨c,eA⟩)):=by show _=_;unfold aG;rw[Ma h]
  rw[E.o];go_enter func232,ntmps232;go_wp2;go_ret;exact⟨rfl,jB.set g.o 1 (sA eA),(sD.refl _ _).setCell _ _⟩
 have E:cB (aG n ⟨c,d⟩=(c.extract 0 n,⟨c.extract n c.size,d⟩)):=by show _=_;unfold aG;rw[Ja h]
 have j:¬((c.size:Int)<(n:Int)):=by omega
 rw[E.o];go_enter func232,ntmps232;go_wp2;go_ret;exact⟨rfl,jB.set g.o 0 (pA (c.extract n c.size)),(sD.refl _ _).setCell _ _⟩
theorem CQ(c:bn w B t r)(g:k<=8)(f:r.rest.size<=1000000000):
 iA prog 208 #[.pointer (vB B),aB (k:Nat)] w λe w'=>e=vA (aB (fR (kK k r).1))/\bn w' B t (kK k r).2/\sD B w w':=by
 have b:=dB (kl (n:=k) c (by omega) f);have d:=dB (λW=>YI (aG k r).1 W (by have:=(AJ k r).1;omega));show iA _ _ _ _ λe w'=>e=vA (aB (fR (vX (aG k r).1.data.toList)))/\bn w' B t (aG k r).2/\sD B w w';clear c;generalize vX (aG k r).1.data.toList=N at *;generalize (aG k r).1=T at *;generalize (aG k r).2=h at *;go_enter func208,ntmps208;go_wp2_with fail;apply jC b.o;intro i a;replace a:=dB a;clear b;go_wp2_with fail;refine rD (d.o _) ?_;go_wp2;go_ret;exact⟨rfl,a.o⟩
theorem RN(f:bn w B t r)(l:k<=2)(g:r.rest.size<=1000000000):
 iA prog 209 #[.pointer (vB B),aB (k:Nat)] w λe w'=>e=vA (pA (tG k r).1)/\bn w' B t (tG k r).2/\sD B w w':=by
 have d:=dB (CQ (k:=k) f (by omega) g);have m:(kK k r).1<65536:=by
  have a:=pa k r;have n:256 ^ k<=256 ^ 2:=Sc (by omega) l;omega
 have j:cB (∀W,bn W B t (kK k r).2->iA prog 232 #[.pointer (vB B),aB ((kK k r).1:Nat)] W λe w'=>e=vA (pA (tG k r).1)/\bn w' B t (tG k r).2/\sD B W w'):=λW h=>kl h (by omega) (Ua (AJ k r).2.2 g);rw[lJ (by omega)]at d;clear f;generalize (tG k r).1=T at *;generalize (tG k r).2=o at *;generalize (kK k r).1=N at *;generalize (kK k r).2=p at *;go_enter func209,ntmps209;go_wp2_with fail;apply jC d.o;intro q a;replace a:=dB a;clear d;go_wp2_with fail;apply jC (j.o _ a.o.1);rintro s ⟨c,b⟩;have i:=dB (Vc c (a.o.2.trans b));clear c b;go_wp2;go_ret;exact⟨rfl,i.o⟩
theorem PJ(Z:bn w B t r)(hs:r.rest.size<=1000000000):
 iA prog 210 #[.pointer (vB B)] w λe w'=>∃g I,e=vA (.slice (vB g) (zA (mV (kK 1 r).2 (kK 1 r).1).1) I)/\w'.ownsRow w.1.size 175 2 (.slice (vB g) (zA (mV (kK 1 r).2 (kK 1 r).1).1) I) (zA (mV (kK 1 r).2 (kK 1 r).1).1) (rC (mV (kK 1 r).2 (kK 1 r).1).1)/\bn w' B t (mV (kK 1 r).2 (kK 1 r).1).2/\sD B w w':=by
 have X:=dB (CQ (k:=1) Z (by omega) hs);have h:(kK 1 r).1<=255:=by have:=pa 1 r;omega
 rw[lJ (by omega)]at X;have p:=bB Z;have h:(kK 1 r).2.rest.size<=1000000000:=Ua (AJ 1 r).2.2 hs;clear Z;generalize (kK 1 r).2=j at *;generalize (kK 1 r).1=n at *;obtain⟨m,A,R,S,T⟩:=EX;have o:=dB A;have G:∀W:fA,(Instr.makeSlice 90 (aB 0) (aB (n:Nat))).run prog W=.ok (.slice (vB W.1.size) 0 n) (W.alloc (xA (madeCells #[pA lA,pA lA] (n*2)) 175)):=λW=>by
  have h:=run_make (P:=prog) W 90 175 m _ underlying90 A R .i64 .i64 0 (n:Nat) (by omega) (by omega) (by rw[T];omega) (by omega);simp only[Hd,S]at h;exact h
 clear A;go_enter func210,ntmps210;go_wp2_with fail;apply jC X.o;rintro w1 ⟨N,v⟩;have h:=dB (Vc N v);have I:=v.size;clear N v X;go_wp2;clear G;go_loopw [4,5,11] (λG _ i wr=>∃(k:Nat)(d:List cC)(g K:Nat),k<=n/\i=aB k/\zA d<=k/\k<=zA d/\G=.slice (vB g) (zA d) K/\cB (d=(mV j k).1)/\cB (bn wr B t (mV j k).2)/\cB (wr.ownsRow w.1.size 175 2 (.slice (vB g) (zA d) K) (zA d) (rC d))/\cB (sD B w wr)) (λ_ _ i _=>n-(intOf i).toNat)
 case atStart=>
  refine⟨0,[],_,_,Oa _,rfl,Oa _,Oa _,rfl,rfl,jB.z h.o.1 bC,⟨rfl,La ⟨w1.1.size,n,_,rfl,I,heap_alloc_new _ _,Oa _,by simp[maxLen];omega,size_madeCells _ _,rfl⟩⟩,h.o.2.alloc _⟩
 case round=>
  obtain⟨k,d,g,K,h,rfl,h,h,rfl,Y,u,l,s⟩:=hrel;by_cases h:k<n
  .have f:(mV j k).2.rest.size<=1000000000:=by have:=(aEo j k).1;omega
   have G:=dB (λW(h:bn W B t (mV j k).2)=>RN (k:=1) h (by omega) f);have H:=dB (λW(h:bn W B t (tG 1 (mV j k).2).2)=>RN (k:=2) h (by omega) (Ua (ua 1 (mV j k).2).2 f));have F:cB (mV j (k+1)=(d++[⟨(tG 1 (mV j k).2).1,(tG 2 (tG 1 (mV j k).2).2).1⟩],(tG 2 (tG 1 (mV j k).2).2).2)):=by show _=_;rw[FQ,rv,Y.o]
   clear f;generalize tG 2 (tG 1 (mV j k).2).2=b at *;generalize tG 1 (mV j k).2=a at *;generalize a.1=D at *;generalize b.1=E at *;go_wp2_with fail;apply jC (G.o _ u.o);rintro w2 ⟨O,x⟩;have U:=dB (Vc O (Vc (s.o.trans x) (pI l.o x p)));clear O x G u l s;go_wp2_with fail;apply jC (H.o _ U.o.1);rintro V ⟨Q,y⟩;have C:=dB (Vc Q (Vc (U.o.2.1.trans y) (pI U.o.2.2 y p)));have h:=C.o.2.1.size;clear Q y H U;go_wp2_with(at_builtin;refine wpList_append_lies _ rfl _ _ _ rfl w.1.size 175 m _ 2 32 underlying90 o.o R S T rfl (by omega) (.slice (vB g) (zA d) K) (zA d) (rC d) rfl (by exact hC C.o.2.2 bC) (eB V.1.size 0) 1 1 [pA D,pA E] rfl rfl (by exact fA.news_of_block (cs:=#[pA D,pA E]) (heap_alloc_new _ _)) (by simp[jA.oneCell']) (by omega) (by simp[maxLen];omega) (by omega) (by simp;omega) (V.1.size+1) (by simp) ?_;intro G J h m c o o);have z:=(c.block B (by simp;omega) (λe=>by have:=uH C.o.2.2 B e.symm;omega)).trans ((zF V _).block B (by omega));have L:sD B w h:=by
    have o:=C.o.2.1;refine⟨c.os.trans o.os,c.tape.trans o.tape,c.output.trans o.output,?_,λq I O=>?_⟩;have:=c.size;simp at this;omega;exact (c.block q (by simp;omega) (λe=>by have:=uH C.o.2.2 q e.symm;omega)).trans (((zF V _).block q (by omega)).trans (o.block q I O))
   have M:zA (d++[(⟨D,E⟩:cC)])=zA d+1:=by simp
   have o:rC d++[pA D,pA E]=rC (d++[⟨D,E⟩]):=by rw[qF];rfl
   rw[o,<-M]at m;refine⟨⟨k+1,d++[(⟨D,E⟩:cC)],G,J,by omega,by go_num,by omega,by omega,by rw[M],by show _=_;rw[F.o],?_,m,L⟩,by simp[intOf];omega⟩;show bn h B t (mV j (k+1)).2;rw[F.o];exact z.trans C.o.1
  have e:k=n:=by omega
  subst e;have h:=Y.o;clear Y;subst h;go_wp2;go_ret;exact⟨g,K,rfl,l.o,u.o,s.o⟩
end
def yU(k:Int):Bool:=k==1||k==3||k==5||k==6
def xU(k:Int):Bool:=k==3||k==5
def kV(k:Int):Bool:=k==2||k==3
def aJo(l:cC):Prop:=l.N.size<=255/\l.V.size<=65535
def aNs(x:oF):Prop:=zA x.B<=255/\∀i(h:i<zA x.B),aJo x.B[i]
def aKe(a:List oF):Prop:=∀i(h:i<zA a),aNs a[i]
def pv(r:eG):Prop:=(1<=r.K/\r.K<=6)/\(yU r.K=dA->r.T.size=0)/\(xU r.K=dA->r.R.size=0)/\(kV r.K=dA->r.U=0)/\(r.K≠1->r.P=[])/\r.T.size<=255/\r.R.size<=65535/\zA r.P<=500/\aKe r.P
def gW(x:oF):pB:=aI x.B++tB 8 x.bits
def iE:List oF->pB
 |[]=>lA
 |x::r=>gW x++iE r
def eI:∀(a b:List oF),iE (a++b)=iE a++iE b
 |[],b=>by simp[iE]
 |r::q,b=>by
  show gW r++iE (q++b)=gW r++iE q++iE b;rw[eI q b,Wa]
def rP(a:List oF)(k:Nat)(h:k<zA a):iE (a.take (k+1))=iE (a.take k)++gW a[k]:=by
 rw[Pa h,eI];simp[iE]
def wK(r:eG):pB:=
 tB 1 r.K++((if yU r.K=eA then gN r.T else lA)++((if r.K=1 then tB 2 (zA r.P:Nat)++iE r.P else lA)++((if xU r.K=eA then dG r.R else lA)++(if kV r.K=eA then tB 8 r.U else lA))))
theorem aBg(b:pB):b++lA=b:=by simp
theorem we(b:pB):lA++b=b:=by simp
def aNm(b c:pB)(d:Int)(a:List oF):wK ⟨1,b,c,d,a⟩=tB 1 1++gN b++tB 2 (zA a:Nat)++iE a:=by
 rw[wK];simp only[show yU 1=eA from rfl,show xU 1=dA from rfl,show kV 1=dA from rfl,Td,Bd,Cf,aBg,Wa]
def aOl(c b:pB)(a:Int)(d:List oF):wK ⟨2,c,b,a,d⟩=tB 1 2++tB 8 a:=by grind [wK,tB,yU,xU,kV,we]
def aOm(c a:pB)(b:Int)(d:List oF):wK ⟨3,c,a,b,d⟩=tB 1 3++gN c++dG a++tB 8 b:=by
 rw[wK];simp only[show yU 3=eA from rfl,show xU 3=eA from rfl,show kV 3=eA from rfl,show ¬(3:Int)=1 from by omega,Td,Cf,we,Wa]
def aOn(c a:pB)(b:Int)(d:List oF):wK ⟨4,c,a,b,d⟩=tB 1 4:=by grind [wK,tB,yU,xU,kV,aBg]
def aOo(b a:pB)(c:Int)(d:List oF):wK ⟨5,b,a,c,d⟩=tB 1 5++gN b++dG a:=by
 rw[wK];simp only[show yU 5=eA from rfl,show xU 5=eA from rfl,show kV 5=dA from rfl,show ¬(5:Int)=1 from by omega,Td,Bd,Cf,we,aBg,Wa]
def aOp(a b:pB)(c:Int)(d:List oF):wK ⟨6,a,b,c,d⟩=tB 1 6++gN a:=by grind [wK,tB,gN,yU,xU,kV,aBg]
def aNh{k:Int}(h:1<=k/\k<=6):k=1\/k=2\/k=3\/k=4\/k=5\/k=6:=by omega
theorem eQ:∀(a:List cC),(nD a).size=3*zA a+aE a
 |[]=>rfl
 |l::r=>by
  rw[nD,Ka,Ka,sF,eF,eQ r];simp only[Zb,aE];omega
def qP(x:oF):(gW x).size=9+3*zA x.B+aE x.B:=by grind [gW,aE,aI,nB,eQ]
def fQ:List oF->Nat
 |[]=>0
 |x::r=>aE x.B+fQ r
def LK(a b:List oF):fQ (a++b)=fQ a+fQ b:=by
 induction a with
 |nil=>simp[fQ]
 |cons f r c=>simp[fQ,c];omega
def aAf(a:List oF)(k:Nat)(h:k<zA a):fQ (a.take (k+1))=fQ (a.take k)+aE a[k].B:=by
 rw[Pa h,LK];simp[fQ]
def aIx(a:List oF):fQ a<=xF a:=by induction a<;>grind [fQ,xF,tJ]
def OF:∀(a:List oF),fQ a<=(iE a).size
 |[]=>by simp[fQ]
 |x::r=>by
  have h:=OF r;have e:(iE (x::r)).size=(gW x).size+(iE r).size:=by show(gW x++iE r).size=_;rw[Ka]
  have b:=qP x;rw[e];simp only[fQ];omega
def oi(a:List cC)(i:Nat)(h:i<zA a):a[i].N.size+a[i].V.size<=aE a:=by
 have b:=vT a i h;have c:=iR a (i+1);omega
def aIy{r:eG}(h:pv r)(d:60000<r.T.size+r.R.size+fQ r.P):60000<(wK r).size:=by
 obtain⟨_,a,b,_,c,_⟩:=h;have e:=OF r.P;have f:r.T.size<=(if yU r.K=eA then gN r.T else lA).size:=by
  split;rw[sF];omega;rw[a (by simp_all)];exact Oa _
 have g:fQ r.P<=(if r.K=1 then tB 2 (zA r.P:Nat)++iE r.P else lA).size:=by
  split;rw[Ka];omega;rw[c (by assumption)];exact Oa _
 have i:r.R.size<=(if xU r.K=eA then dG r.R else lA).size:=by
  split;rw[eF];omega;rw[b (by simp_all)];exact Oa _
 simp only[wK,Ka];omega
def aFt:∃Z:Array jA,Z=Array.replicate 256 (.int .u32 0)/\∀w,(zeroValue 371).run prog w=.ok (.agg Z) w:=⟨_,rfl,λ_=>by kernel_rfl⟩
def qk(P:Program)(w:fA)(Z:Array jA)(t:TypeId)(b:∀v∈Z.toList,v.oneCell'=eA):
 (storeCells (eB w.1.size 0) Z.toList).run P (w.alloc (xA Z t))=.ok () (w.alloc (xA Z t)):=by
 have a:(w.alloc (xA Z t)).heap[w.1.size]?=cA (xA Z t (0,0)):=heap_alloc_new _ _;have h:=run_storeCells_from (P:=P) w.1.size t Z.toList 0 Z _ a (by simp) b;rw[h];simp only[List.take_zero,Mb,Array.toArray_toList];rw[setRow_self _ _ Z t (0,0) a]
def bq(a:Nat)(b:a<4294967296):bits .and .u32 (a:Int) 1=((a % 2:Nat):Int):=by
 show IntKind.u32.wrap ((BitVec.ofInt 32 (a:Int) &&& BitVec.ofInt 32 ((1:Nat):Int)).toNat:Int)=_;rw[BitVec.toNat_and,Nc,Nc,Hc,Hc,Ic (by omega),Ic (by omega),Nat.and_one_is_mod];simp only[IntKind.wrap,IntKind.bits,IntKind.signed];simp;omega
def bc(a b:Nat)(c:a<4294967296)(d:b<4294967296):bits .xor .u32 (a:Int) (b:Int)=((a ^^^ b:Nat):Int):=by
 have e:a ^^^ b<2 ^ 32:=Qd (by omega) (by omega);show IntKind.u32.wrap ((BitVec.ofInt 32 (a:Int) ^^^ BitVec.ofInt 32 (b:Int)).toNat:Int)=_;rw[Jg,Nc,Nc,Hc,Hc,Ic (by omega),Ic (by omega)];simp only[IntKind.wrap,IntKind.bits,IntKind.signed];simp;omega
def gj(w:fA):
 iA prog 274 #[] w λe v=>∃b a,e=vA (.pointer (vB b))/\w.1.size<=b/\jB v b a 371/\(∀i,i<256->a[i]?=cA (.int .u32 (mi i:Nat)))/\xB w v:=by
 obtain⟨Z,l,I⟩:=aFt;have r:Z.size=256:=by rw[l];simp
 have C:=qk prog w Z 371 (by rw[l];simp[jA.oneCell']);have s:jB (w.alloc (xA Z 371)) w.1.size Z 371:=heap_alloc_new _ _;have y:cB (jB (w.alloc (xA Z 371)) w.1.size Z 371):=s;clear l s;go_enter func274,ntmps274;go_wp2;go_loopw [2,3,5] (λ_ _ c wr=>∃(k:Nat)(a:Array jA),k<=256/\c=aB k/\cB (jB wr w.1.size a 371)/\a.size=256/\cB (∀i,i<k->a[i]?=cA (.int .u32 (mi i:Nat)))/\cB (xB w wr)) (λ_ _ c _=>256-(intOf c).toNat)
 case atStart=>exact⟨0,Z,by omega,rfl,y,r,λi u=>absurd u (by omega),bC⟩
 case round=>
  obtain⟨k,a,H,rfl,d,m,h,g⟩:=hrel;by_cases B:k<256
  .go_wp2;go_loop [3,10] (λx c=>∃(j X:Nat),j<=8/\c=aB j/\x=.int .u32 X/\X<4294967296/\cB (X=rO k j)) (λ_ c=>8-(intOf c).toNat)
   case atStart=>exact⟨0,k,by omega,rfl,by go_num,by omega,rfl⟩
   case round=>
    obtain⟨j,X,G,rfl,rfl,A,o⟩:=hrel;have t:=bq X A;have q:=bc (X / 2) 2197175160 (by omega) (by omega);by_cases D:j<8
    .by_cases f:X % 2=1
     .rw[f]at t;go_wp2;refine⟨⟨j+1,(X / 2) ^^^ 2197175160,by omega,by go_num,?_,Qd (n:=32) (by omega) (by omega),?_⟩,by simp[intOf];omega⟩
      .rw[<-q];congr 2
      show _=_;rw[rO,<-o.o,cV,Ma f]
     have z:X % 2=0:=by omega
     rw[z]at t;go_wp2;refine⟨⟨j+1,X / 2,by omega,by go_num,?_,by omega,?_⟩,by simp[intOf];omega⟩
     .go_num
     show _=_;rw[rO,<-o.o,cV,Ja f]
    have e:j=8:=by omega
    subst e;have E:wr.cell? (eB w.1.size k)=cA (a[k]'(by omega)):=by rw[d.o.cell];exact Qc _
    have F:=d.o.free k;go_wp2;refine⟨⟨k+1,a.setIfInBounds k (.int .u32 X),by omega,by go_num,d.o.set k _,by simp[m],?_,?_⟩,by simp[intOf];omega⟩
    .intro i u;rw[Eb];split
     .rename_i e;subst e;rw[Ma (by omega),o.o];rfl
     exact h.o i (by omega)
    exact g.o.setCell (p:=(eB w.1.size k)) (Ia _) _
  have e:k=256:=by omega
  subst e;go_wp2;go_ret;exact⟨w.1.size,a,rfl,Ia _,d.o,h.o,g.o⟩
def aMl(a b:Nat)(c:a<256)(d:b<256):bits .xor .u8 (a:Int) (b:Int)=((a ^^^ b:Nat):Int):=by
 have e:a ^^^ b<2 ^ 8:=Qd (by omega) (by omega);show IntKind.u8.wrap ((BitVec.ofInt 8 (a:Int) ^^^ BitVec.ofInt 8 (b:Int)).toNat:Int)=_;rw[Jg,Nc,Nc,Hc,Hc,Ic (by omega),Ic (by omega)];simp only[IntKind.wrap,IntKind.bits,IntKind.signed];simp;omega
def aIa(a:Nat)(d:a<4294967296):bits .xor .u32 IntKind.u32.max (a:Int)=((4294967295-a:Nat):Int):=by
 have b:bits .xor .u32 IntKind.u32.max (a:Int)=((4294967295 ^^^ a:Nat):Int):=bc 4294967295 a (by omega) d;have c:(4294967295 ^^^ a:Nat)=4294967295-a:=by
  have e:(BitVec.allOnes 32 ^^^ BitVec.ofNat 32 a).toNat=(~~~ BitVec.ofNat 32 a).toNat:=by rw[BitVec.allOnes_xor]
  rw[Jg,BitVec.toNat_allOnes,BitVec.toNat_not,Hc,Ic (by omega)]at e;exact e
 rw[b,c]
def qn(b:Nat)(d:Array jA)(s:pB)(w:fA)(A:s.size<=maxLen)(r:jB w b d 371)(f:∀i,i<256->d[i]?=cA (.int .u32 (mi i:Nat))):
 cF 275 #[.pointer (vB b),pA s] w (aB (pL s:Nat)):=by
 have q:cB (jB w b d 371/\∀i,i<256->d[i]?=cA (.int .u32 (mi i:Nat))):=⟨r,f⟩
 clear r f;unfold maxLen at A;go_enter func275,ntmps275;go_wp2;go_loopw [5,6,9] (λx _ c wr=>∃(k X:Nat),k<=s.size/\c=aB k/\x=.int .u32 X/\X<4294967296/\cB (X=cu (s.data.toList.take k))/\cB (xB w wr)) (λ_ _ c _=>s.size-(intOf c).toNat)
 case atStart=>exact⟨0,4294967295,by omega,rfl,rfl,by omega,by show _=_;simp[cu],gD⟩
 case round=>
  obtain⟨k,X,F,rfl,rfl,y,t,a⟩:=hrel;by_cases p:k<s.size
  .have E:=(s[k]).toNat_lt;obtain⟨N,T,Y,D,h,z,g,B,l,m⟩:∃N T Y:Nat,N<256/\T<4294967296/\Y<4294967296/\bits .xor .u8 ((X:Int) % 256) ((s[k]).toNat:Int)=(N:Int)/\bits .xor .u32 ((X:Int) / 256) (T:Int)=(Y:Int)/\wr.cell? (eB b N)=cA (.int .u32 (T:Nat))/\cB (EB X s[k]=Y):=by
    have g:=aMl (X % 256) (s[k]).toNat (by omega) (by omega);have o:(X % 256) ^^^ (s[k]).toNat<256:=Qd (n:=8) (by omega) (by omega);have j:=q.o.1.z a.o;have h:=aGq o;refine⟨_,_,_,o,h,Qd (n:=32) (by omega) h,g,bc (X / 256) _ (by omega) h,by rw[j.cell];exact q.o.2 _ o,vs X _ (by omega)⟩
   go_wp2;go_region
   go_wp2;refine⟨⟨k+1,Y,by omega,by go_num,rfl,z,?_,a.o.drew⟩,by simp[intOf];omega⟩;show _=_;rw[sV s k p,UE,<-t.o,m.o]
  .have e:k=s.size:=by omega
   subst e;have G:=aIa X y;go_wp2;refine bodyPost_ret (v:=aB (pL s:Nat)) ?_ rfl ⟨rfl,a.o⟩;have u:wrap64 ((4294967295-X:Nat):Int)=((4294967295-X:Nat):Int):=by simp only[wrap64];omega
   rw[u,show pL s=4294967295-X by rw[pL,t.o,Ra (by simp)]];simp[results,results275,go_sem]
