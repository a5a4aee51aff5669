import Derived.Test.YtiegonaogehghaaGreatDoorJ10
import Derived.Test.YtiegonaogehghaaGreatDoorJ09
set_option maxRecDepth 100000
set_option maxHeartbeats 2000000
set_option linter.defProp false
open Bool renaming true->dA,false->cA
open Option renaming some->bA
open ByteArray renaming empty->kA
open List renaming length->yA
namespace Go.Proofs.YtiegonaogehghaaGreatDoor
open Go renaming Value->iA,World->eA,Calls->gA
open Value renaming bool->qA,string->oA
open Ending renaming returned->uA
open Obj renaming cells->vA
open Go.RowKit Tryz
section
open Go.Maps
section
variable {α β:Type}
def cC(key:α->nB)(a:α):List α->List α
 |[]=>[a]
 |p::r=>if uJ (key p) (key a)=dA then p::cC key a r else if (key p).toList==(key a).toList then a::r else a::p::r
def rE(key:α->nB)(k:nB)(l:List α):List α:=l.filter (λp=>!((key p).toList==k.toList))
def xC(key:α->nB)(k:nB)(l:List α):Option α:=l.find? (λp=>(key p).toList==k.toList)
def sC(key:α->nB)(l:List α):Prop:=l.Pairwise (λp q=>uJ (key p) (key q)=dA)
theorem wR{key:α->nB}{key':β->nB}(g:α->β)(b:∀a,key' (g a)=key a)(a:α)(l:List α):(cC key a l).map g=cC key' (g a) (l.map g):=by induction l<;>grind [cC]
theorem sZ{key:α->nB}{key':β->nB}(g:α->β)(b:∀a,key' (g a)=key a)(k:nB)(l:List α):(rE key k l).map g=rE key' k (l.map g):=by
 unfold rE;rw[List.filter_map];congr 1;apply List.filter_congr;intro p _;simp only[Function.comp,b]
theorem fV{key:α->nB}{key':β->nB}(g:α->β)(b:∀a,key' (g a)=key a)(k:nB)(l:List α):xC key' k (l.map g)=(xC key k l).map g:=by
 unfold xC;rw[List.find?_map];congr 2;funext p;simp only[Function.comp,b]
theorem xW{key:α->nB}{key':β->nB}(g:α->β)(b:∀a,key' (g a)=key a){l:List α}:sC key' (l.map g) ↔ sC key l:=by
 unfold sC;rw[Te];simp only[b]
theorem aDe(k:nB)(d:β)(l:List (nB×β)):cC (·.1) (k,d) l=oS k d l:=by
 induction l with
 |nil=>rfl
 |cons p r a=>rw[cC,oS,a]
theorem aCh(k:nB)(l:List (nB×β)):rE (·.1) k l=DW k l:=rfl
theorem ds(k:nB)(l:List (nB×β)):(xC (·.1) k l).map (·.2)=lk l k:=rfl
theorem bM{key:α->nB}{k:nB}{l:List α}{a:α}(h:xC key k l=bA a):a∈l/\key a=k:=by grind [xC,dE]
theorem pW{key:α->nB}{k:nB}{l:List α}(h:xC key k l=none):∀a∈l,key a≠k:=by grind [xC]
theorem aN{key:α->nB}{k:nB}{l:List α}(h:∀a∈l,key a≠k):xC key k l=none:=
 List.find?_eq_none.2 λa b e=>h a b ((dE _ _).1 e)
theorem sC.head{key:α->nB}{p:α}{r:List α}(h:sC key (p::r)):∀q∈r,uJ (key p) (key q)=dA:=(Bc.1 h).1
theorem sC.tail{key:α->nB}{p:α}{r:List α}(h:sC key (p::r)):sC key r:=(Bc.1 h).2
theorem lS{key:α->nB}(p:α)(r:List α)(k:nB):xC key k (p::r)=if key p=k then bA p else xC key k r:=by grind [xC,dE,zD]
theorem cK{key:α->nB}{l:List α}(b:sC key l){a:α}(h:a∈l):xC key (key a) l=bA a:=by
 induction l with
 |nil=>cases h
 |cons p r c=>
  rw[lS];rcases Lb.1 h with rfl|h;rw[Ma rfl];rw[Ja (eJ (b.head _ h))];exact c b.tail h
theorem sK{key:α->nB}{a q:α}{l:List α}(h:q∈cC key a l):q=a\/q∈l:=by induction l<;>grind [cC]
theorem dK{key:α->nB}{a:α}{l:List α}(h:sC key l):sC key (cC key a l):=by
 induction l with
 |nil=>exact We ..
 |cons p r g=>
  unfold cC;split
  .rename_i c;refine Bc.2 ⟨λq b=>?_,g h.tail⟩;rcases sK b with rfl|b
   .exact c
   exact h.head q b
  rename_i c;split
  .rename_i f;rw[dE]at f;refine Bc.2 ⟨λq b=>?_,h.tail⟩;rw[<-f];exact h.head q b
  rename_i f;have d:uJ (key a) (key p)=dA:=bV (by simpa using c) (λe=>f ((dE _ _).2 e));refine Bc.2 ⟨λq b=>?_,h⟩;rcases Lb.1 b with rfl|b
  .exact d
  exact GQ d (h.head q b)
theorem xo{key:α->nB}{a:α}{l:List α}(h:∀p∈l,uJ (key p) (key a)=dA):cC key a l=l++[a]:=by induction l<;>grind [uJ,cC]
theorem IA{key:α->nB}{a:α}{l:List α}(h:xC key (key a) l=none):(cC key a l).Perm (a::l):=by
 induction l with
 |nil=>exact Lf _
 |cons p r d=>
  have b:=pW h;unfold cC;split;have:=d (aN λq c=>b q (Sb _ c));exact(List.Perm.cons p this).trans (List.Perm.swap a p r);rw[Ja (by rw[zD (b p (Kc ..))];simp)]
theorem nP{key:α->nB}{k:nB}{l:List α}(h:sC key l):sC key (rE key k l):=Mf _ h
theorem xR{key:α->nB}{k:nB}{l:List α}{a:α}:a∈rE key k l ↔ a∈l/\key a≠k:=by grind [rE,dE,zD]
end
def YE{α:Type}(key:α->nB)(val:α->DataW Unit)(l:List α)(k:nB):has (aE (l.map λa=>(key a,val a))) (kL k)=(xC key k l).isSome:=by
 rw[xi,<-ds,fV (key:=key) (λa=>(key a,val a)) (λ_=>rfl)];cases xC key k l<;>rfl
def gS{α:Type}(key:α->nB)(val:α->DataW Unit)(l:List α)(k:nB)(z:DataW Unit):(aE (l.map λa=>(key a,val a))).atKey (kL k) z=((xC key k l).map val).getD z:=by
 rw[bt,<-ds,fV (key:=key) (λa=>(key a,val a)) (λ_=>rfl)];cases xC key k l<;>rfl
def aIm{α:Type}{key:α->nB}(val:α->DataW Unit){l:List α}(h:sC key l):bS (l.map λa=>(key a,val a)):=by grind [sC,bS]
def IM{α:Type}{key:α->nB}(val:α->DataW Unit)(a:α){l:List α}(h:sC key l):(aE (l.map λa=>(key a,val a))).put (kL (key a)) (val a)=aE ((cC key a l).map λa=>(key a,val a)):=by
 rw[zn _ _ (aIm val h),wR (key':=(·.1)) (λa=>(key a,val a)) (λ_=>rfl),aDe]
def XT{α:Type}{key:α->nB}(val:α->DataW Unit)(k:nB)(l:List α):(aE (l.map λa=>(key a,val a))).del (kL k)=aE ((rE key k l).map λa=>(key a,val a)):=by
 rw[vw,sZ (key':=(·.1)) (λa=>(key a,val a)) (λ_=>rfl),aCh]
def kM{α:Type}(key:α->nB)(val:α->DataW Unit)(l:List α):Maps.size (aE (l.map λa=>(key a,val a)))=yA l:=by
 rw[qc,Xa]
def oI(met:nB->nB)(l:List iB)(m:nB):Nat:=yA (l.filter λp=>(met p.s).toList==m.toList)
def TW{met:nB->nB}{l a:List iB}(h:l.Perm a)(m:nB):oI met l m=oI met a m:=(h.filter _).length_eq
def TU(met:nB->nB)(p:iB)(l:List iB)(m:nB):oI met (p::l) m=oI met l m+if met p.s=m then 1 else 0:=by grind [oI,dE,zD]
def XK(met:nB->nB)(l:List iB)(m:nB):oI met l m<=yA l:=Pc _ _
end
structure gC where
 w:Int
 tl:Int
 ml:Int
 sh:Int
 ha:Int
 sg:Int
def jE(c:gC):iA:=.agg #[zA c.w,zA c.tl,zA c.ml,zA c.sh,zA c.ha,zA c.sg]
def cF(c:gC):Bool:=zB c.w 1 1000000000&&zB c.tl 0 1000000&&zB c.ml 0 1000000&&zB c.sh 1 64&&zB c.ha 0 2&&zB c.sg 100 1000000
def zJ{x b a:Int}(h:zB x b a=dA):b<=x/\x<=a:=by simpa[zB]using h
def XG{x b a:Int}(h:¬zB x b a=dA):x<b\/a<x:=by grind [zB]
def gG(x:Int)(w:eA):hI 63 #[zA x] w (qA (zB x 0 1000000)):=by
 go_enter func63,ntmps63;go_wp2_with(go_at_call 64;apply hC (tF _ _ _);rintro a rfl);go_ret;exact⟨rfl,rfl⟩
def ve(a b c d e f:Bool):(a=cA\/a=dA/\(b=cA\/b=dA/\(c=cA\/c=dA/\(d=cA\/d=dA/\(e=cA\/e=dA/\(f=cA\/f=dA)))))):=by cases a<;>cases b<;>cases c<;>cases d<;>cases e<;>cases f<;>simp
def yJ(c:gC)(w:eA):vE 38 #[jE c] w (qA (cF c)):=by
 unfold jE;rcases ve (zB c.w 1 1000000000) (zB c.tl 0 1000000) (zB c.ml 0 1000000) (zB c.sh 1 64) (zB c.ha 0 2) (zB c.sg 100 1000000) with b|⟨b,d|⟨d,f|⟨f,g|⟨g,h|⟨h,i|i⟩⟩⟩⟩⟩
 all_goals
  go_enter func38,ntmps38;go_wp2_with(go_at_call 90;refine hC (xD (by assumption) _) ?_;rintro a rfl);go_ret;exact⟨oB (by simp[cF, *]),yB⟩
def sT(c:gC)(w:eA):vE 15 #[jE c] w (qA (cF c)):=by
 obtain⟨h,e,f,b,d,a⟩:=c;unfold jE;simp only;by_cases n:zB h 1 1000000000=cA
 .have i:¬zB h 1 1000000000=dA:=by simpa using n
  have E:bB (cF ⟨h,e,f,b,d,a⟩=cA):=by show _=_;simp[cF,n]
  have j:=XG i;clear i n;by_cases v:1<=h
  .have x:¬h<=1000000000:=by omega
   clear j;go_enter func15,ntmps15;go_wp2_with(first|(go_at_call 63;apply hC (gG _ _);rintro g rfl)|(go_at_call 64;apply hC (tF _ _ _);rintro g rfl));go_ret;exact⟨oB (by first|exact E.o.symm|(rw[E.o];simp;omega)),yB⟩
  clear j;go_enter func15,ntmps15;go_wp2_with(first|(go_at_call 63;apply hC (gG _ _);rintro g rfl)|(go_at_call 64;apply hC (tF _ _ _);rintro g rfl));go_ret;exact⟨oB (by first|exact E.o.symm|(rw[E.o];simp;omega)),yB⟩
 have i:zB h 1 1000000000=dA:=by simpa using n
 clear n;obtain⟨y,B⟩:=zJ i;by_cases r:zB e 0 1000000=cA
 .have k:¬zB e 0 1000000=dA:=by simpa using r
  have E:bB (cF ⟨h,e,f,b,d,a⟩=cA):=by show _=_;simp[cF,i,r]
  clear k;go_enter func15,ntmps15;go_wp2_with(first|(go_at_call 63;apply hC (gG _ _);rintro g rfl)|(go_at_call 64;apply hC (tF _ _ _);rintro g rfl));go_ret;exact⟨oB (by first|exact E.o.symm|(rw[E.o];simp;omega)),yB⟩
 have k:zB e 0 1000000=dA:=by simpa using r
 clear r;by_cases s:zB f 0 1000000=cA
 .have m:¬zB f 0 1000000=dA:=by simpa using s
  have E:bB (cF ⟨h,e,f,b,d,a⟩=cA):=by show _=_;simp[cF,i,k,s]
  clear m;go_enter func15,ntmps15;go_wp2_with(first|(go_at_call 63;apply hC (gG _ _);rintro g rfl)|(go_at_call 64;apply hC (tF _ _ _);rintro g rfl));go_ret;exact⟨oB (by first|exact E.o.symm|(rw[E.o];simp;omega)),yB⟩
 have m:zB f 0 1000000=dA:=by simpa using s
 clear s;by_cases o:zB b 1 64=cA
 .have l:¬zB b 1 64=dA:=by simpa using o
  have E:bB (cF ⟨h,e,f,b,d,a⟩=cA):=by show _=_;simp[cF,i,k,m,o]
  have j:=XG l;clear l o;by_cases v:1<=b
  .have x:¬b<=64:=by omega
   clear j;go_enter func15,ntmps15;go_wp2_with(first|(go_at_call 63;apply hC (gG _ _);rintro g rfl)|(go_at_call 64;apply hC (tF _ _ _);rintro g rfl));go_ret;exact⟨oB (by first|exact E.o.symm|(rw[E.o];simp;omega)),yB⟩
  clear j;go_enter func15,ntmps15;go_wp2_with(first|(go_at_call 63;apply hC (gG _ _);rintro g rfl)|(go_at_call 64;apply hC (tF _ _ _);rintro g rfl));go_ret;exact⟨oB (by first|exact E.o.symm|(rw[E.o];simp;omega)),yB⟩
 have l:zB b 1 64=dA:=by simpa using o
 clear o;obtain⟨z,C⟩:=zJ l;by_cases t:zB d 0 2=cA
 .have u:¬zB d 0 2=dA:=by simpa using t
  have E:bB (cF ⟨h,e,f,b,d,a⟩=cA):=by show _=_;simp[cF,i,k,m,l,t]
  clear u;go_enter func15,ntmps15;go_wp2_with(first|(go_at_call 63;apply hC (gG _ _);rintro g rfl)|(go_at_call 64;apply hC (tF _ _ _);rintro g rfl));go_ret;exact⟨oB (by first|exact E.o.symm|(rw[E.o];simp;omega)),yB⟩
 have u:zB d 0 2=dA:=by simpa using t
 clear t;by_cases p:zB a 100 1000000=cA
 .have q:¬zB a 100 1000000=dA:=by simpa using p
  have E:bB (cF ⟨h,e,f,b,d,a⟩=cA):=by show _=_;simp[cF,i,k,m,l,u,p]
  have j:=XG q;clear q p;by_cases v:100<=a
  .have x:¬a<=1000000:=by omega
   clear j;go_enter func15,ntmps15;go_wp2_with(first|(go_at_call 63;apply hC (gG _ _);rintro g rfl)|(go_at_call 64;apply hC (tF _ _ _);rintro g rfl));go_ret;exact⟨oB (by first|exact E.o.symm|(rw[E.o];simp;omega)),yB⟩
  clear j;go_enter func15,ntmps15;go_wp2_with(first|(go_at_call 63;apply hC (gG _ _);rintro g rfl)|(go_at_call 64;apply hC (tF _ _ _);rintro g rfl));go_ret;exact⟨oB (by first|exact E.o.symm|(rw[E.o];simp;omega)),yB⟩
 have q:zB a 100 1000000=dA:=by simpa using p
 clear p;obtain⟨A,D⟩:=zJ q;have E:bB (cF ⟨h,e,f,b,d,a⟩=dA):=by show _=_;simp[cF,i,k,m,l,u,q]
 go_enter func15,ntmps15;go_wp2_with(first|(go_at_call 63;apply hC (gG _ _);rintro g rfl)|(go_at_call 64;apply hC (tF _ _ _);rintro g rfl));go_ret;exact⟨oB (by first|exact E.o.symm|(rw[E.o];simp;omega)),yB⟩
def dI(f:Nat->Bool):Nat->Bool
 |0=>dA
 |k+1=>dI f k&&f k
theorem gL(f:Nat->Bool)(k:Nat):dI f (k+1)=(dI f k&&f k):=rfl
theorem mP{f:Nat->Bool}{k n:Nat}(h:f k=cA)(a:k<n):dI f n=cA:=by induction n<;>grind [dI,gL]
theorem zM{f:Nat->Bool}{k n:Nat}(h:dI f n=dA)(a:k<n):f k=dA:=by grind [dI,mP]
def okT(c:UInt8):Bool:=(97<=c&&c<=122) ||(48<=c&&c<=57) ||c==45
def oC(s:nB):Bool:=decide (1<=s.size) &&decide (s.size<=32) &&s.data.toList.all okT
def xE(s:nB):Bool:=!s.toList.isEmpty&&decide (cP s=0)
def wD(s:nB):nB:=eL (nG s).1
def kK(s:nB):Bool:=!(wD s).toList.isEmpty
def yE(t:fB):Bool:=t.L==-1&&yA t.M==0&&yA t.Z==0
def wL(a:List iB)(i:Nat):Bool:=match i with
 |0=>dA
 |j+1=>match a[j]?,a[j+1]? with
  |some p,bA q=>uJ p.s q.s
  |_,_=>cA
def sL(a:List iB)(i:Nat):Bool:=match a[i]? with
 |some m=>wL a i&&xE m.s&&zB m.n 0 1000000
 |none=>cA
def tL(a:List iB):Bool:=dI (sL a) (yA a)
def yI(b a:Int)(c:List iB)(i:Nat):Bool:=match c[i]? with
 |some x=>wL c i&&kK x.s&&zB x.n 0 a&&decide (a-x.n<b)
 |none=>cA
def bL(b a:Int)(c:List iB):Bool:=dI (yI b a c) (yA c)
def yN(a:List fB)(i:Nat):Bool:=match i with
 |0=>dA
 |j+1=>match a[j]?,a[j+1]? with
  |some p,bA q=>uJ p.N q.N
  |_,_=>cA
def fO(b a:Int)(t:fB):Bool:=oC t.N&&zB t.L (-1) 1000000&&tL t.M&&bL b a t.Z&&!yE t
def dN(b a:Int)(c:List fB)(i:Nat):Bool:=match c[i]? with
 |some t=>yN c i&&fO b a t
 |none=>cA
def tM(b a:Int)(c:List fB):Bool:=dI (dN b a c) (yA c)
def kC(c:gC)(a:Int)(b:List fB):Bool:=cF c&&zB a 0 1000000000000&&decide (yA b<=10000) &&tM c.w a b
theorem xS{a:List iB}{k:Nat}(b:0<k)(c:k<yA a):wL a k=uJ (a[k-1]'(by omega)).s a[k].s:=by unfold wL;grind
theorem nV{a:List fB}{k:Nat}(b:0<k)(c:k<yA a):yN a k=uJ (a[k-1]'(by omega)).N a[k].N:=by unfold yN;grind
theorem xY{a:List iB}{k:Nat}(b:k<yA a):sL a k=(wL a k&&xE a[k].s&&zB a[k].n 0 1000000):=by simp[sL,Va b]
theorem pV{c a:Int}{b:List iB}{k:Nat}(d:k<yA b):yI c a b k=(wL b k&&kK b[k].s&&zB b[k].n 0 a&&decide (a-b[k].n<c)):=by simp[yI,Va d]
theorem fT{b a:Int}{c:List fB}{k:Nat}(d:k<yA c):dN b a c k=(yN c k&&fO b a c[k]):=by simp[dN,Va d]
theorem zS{α:Type}{key:α->nB}:∀(l:List α),(∀k(h:k+1<yA l),uJ (key (l[k]'(by omega))) (key l[k+1])=dA)->sC key l
 |[],_=>Gd
 |[a],_=>We ..
 |a::b::r,h=>by
  have e:sC key (b::r):=zS (b::r) λk f=>h (k+1) (by simp at f |-;omega);have d:uJ (key a) (key b)=dA:=h 0 (by simp);refine Bc.2 ⟨λq c=>?_,e⟩;rcases Lb.1 c with rfl|c
  .exact d
  exact GQ d (e.head q c)
def zr{α:Type}{key:α->nB}{l:List α}(k:Nat)(h:sC key l):sC key (l.take k):=List.Pairwise.sublist (List.take_sublist ..) h
def IG{a:List iB}{n:Nat}(h:dI (sL a) n=dA)(b:n<=yA a):sC (·.s) (a.take n):=by grind [dI,sL,sC,zS,zM,xY,xS]
def IU{c b:Int}{a:List iB}{n:Nat}(h:dI (yI c b a) n=dA)(d:n<=yA a):sC (·.s) (a.take n):=by grind [dI,yI,sC,zS,zM,pV,xS]
def aAk{c a:Int}{b:List fB}{n:Nat}(h:dI (dN c a b) n=dA)(d:n<=yA b):sC (·.N) (b.take n):=by grind [dI,dN,sC,zS,zM,fT,nV]
def OS{α:Type}{key:α->nB}{l:List α}{k:Nat}(c:k<yA l)(h:sC key (l.take (k+1))):cC key l[k] (l.take k)=l.take (k+1)/\xC key (key l[k]) (l.take k)=none:=by
 rw[Pa c]at h |-
 have b:∀p∈l.take k,uJ (key p) (key l[k])=dA:=λp a=>(Ae.1 h).2.2 p a _ (Uf.2 rfl);exact⟨xo b,aN λp a=>eJ (b p a)⟩
def WR(v:Int):Prop:=-9223372036854775808<=v/\v<=9223372036854775807
def bR(n:Nat):Int:=IntKind.i64.wrap (n:Int)
def RK(n:Nat):bR n=if n % 18446744073709551616<9223372036854775808 then((n % 18446744073709551616:Nat):Int) else((n % 18446744073709551616:Nat):Int)-18446744073709551616:=by
 unfold bR IntKind.wrap;simp[IntKind.bits,IntKind.signed];split<;>split<;>omega
def aJ{n:Nat}(h:n<9223372036854775808):bR n=(n:Int):=by rw[RK,Ma (by omega)];omega
def aEf(n:Nat)(v:Int):qB n v=qB n ((v % (256 ^ n:Nat)).toNat:Nat):=by
 have key:∀m,m<=n->vX v m=vX ((v % (256 ^ n:Nat)).toNat:Nat) m:=by
  intro m;induction m with
  |zero=>intro _;rfl
  |succ m a=>
   intro h;rw[vX,vX,a (by omega)];congr 1;have b:∀(u:Int) k,CS u k=u / ((256 ^ k:Nat):Int):=by
    intro u k;induction k with
    |zero=>simp[CS]
    |succ k a=>rw[CS,a,Int.ediv_ediv_of_nonneg (Int.natCast_nonneg _),Od,Int.natCast_mul];rfl
   have c:0<=v % ((256 ^ n:Nat):Int):=Int.emod_nonneg _ (by have:=Zf (n:=n) (show 0<256 by omega);omega);rw[b,b,Int.toNat_of_nonneg c];obtain⟨d,g⟩:∃d,n=m+1+d:=⟨n-m-1,by omega⟩
   have e:((256 ^ n:Nat):Int)=((256 ^ m:Nat):Int)*(256*((256 ^ d:Nat):Int)):=by
    subst g;rw[Nat.pow_add,Nat.pow_add,Nat.pow_one,Nat.mul_assoc,Int.natCast_mul,Int.natCast_mul];rfl
   have i:(0:Int)<((256 ^ m:Nat):Int):=by have:=Zf (n:=m) (show 0<256 by omega);omega
   generalize ((256 ^ m:Nat):Int)=A at *;generalize ((256 ^ d:Nat):Int)=D at *;rw[e];have f:v % (A*(256*D))=v-A*(256*D*(v / (A*(256*D)))):=by
    rw[Int.emod_def];congr 1;rw[Int.mul_assoc]
   rw[f,show v-A*(256*D*(v / (A*(256*D))))=v+A*(-(256*D*(v / (A*(256*D))))) by rw[Int.mul_neg];rfl,Int.add_mul_ediv_left _ _ (by omega)];rw[show -(256*D*(v / (A*(256*D))))=256*(-(D*(v / (A*(256*D))))) by rw[Int.mul_neg,Int.mul_assoc],Int.add_mul_emod_self_left]
 show strOfNums _=strOfNums _;rw[key n (Ia _)]
def DQ(v:Int)(h:WR v):bR (uX (qB 8 v).data.toList)=v:=by
 obtain⟨b,c⟩:=h;have a:((256 ^ 8:Nat):Int)=18446744073709551616:=by decide
 have d:((v % ((256 ^ 8:Nat):Int)).toNat:Int)=v % 18446744073709551616:=by rw[a];omega
 rw[aEf,pT 8 _ (by
  have:(256:Nat) ^ 8=18446744073709551616:=by decide
  rw[this];omega),RK]
 split<;>omega
def gw{k:Nat}{r:Rd}{v:Int}{q:nB}(h:r.rest=qB k v++q):eK k r=(uX (qB k v).data.toList,⟨q,r.H⟩):=by
 have a:=AI (n:=k) h (kB k _);unfold eK;rw[a]
def aIh(a b:Nat)(g:b<256)(f:a<72057594037927936):bits .or .i64 (IntKind.i64.wrap ((a:Int)*256)) (b:Int)=bR (a*256+b):=by
 have d:a*256||| b=a*256+b:=by
  have:=Ef (i:=8) (b:=b) (by omega) a;rw[show 2 ^ 8*a=a*256 by omega]at this;exact this.symm
 have c:BitVec.ofInt 64 (IntKind.i64.wrap ((a:Int)*256))=BitVec.ofNat 64 (a*256):=by
  have e:((a:Int)*256)=((a*256:Nat):Int):=by omega
  rw[e];apply BitVec.eq_of_toNat_eq;rw[BitVec.toNat_ofInt,Hc];unfold IntKind.wrap;simp only[IntKind.bits,IntKind.signed];simp;omega
 show IntKind.i64.wrap ((BitVec.ofInt 64 (IntKind.i64.wrap ((a:Int)*256)) ||| BitVec.ofInt 64 (b:Int)).toNat:Int)=_;rw[c,BitVec.toNat_or,Nc,Hc,Hc,Ic (by omega),Ic (by omega),d];rfl
def YJ(s:nB)(w:eA)(m:s.size<=8):
 hI 263 #[oA s] w (zA (bR (uX s.data.toList))):=by
 go_enter func263,ntmps263;go_wp2;go_loopw [3,4,7] (λx _ c wr=>∃(k X:Nat)(Z:Int),k<=s.size/\c=zA k/\x=zA Z/\X<256 ^ k/\bB (X=uX (s.data.toList.take k))/\bB (Z=bR X)/\wr=w) (λ_ _ c _=>s.size-(intOf c).toNat)
 case atStart=>exact⟨0,0,0,by omega,rfl,rfl,by simp,by show _=_;simp[uX],by show _=_;rw[aJ (by omega)];rfl,rfl⟩
 case round=>
  obtain⟨k,X,Z,l,rfl,rfl,g,f,d,rfl⟩:=hrel;by_cases b:k<s.size
  .have j:=(s[k]).toNat_lt;have h:X<72057594037927936:=Bb g (Sc (n:=256) (by omega) (show k<=7 by omega));have a:Z=(X:Int):=by rw[d.o,aJ (by omega)]
   subst a;have i:=aIh X (s[k]).toNat (by omega) (by omega);go_wp2;refine⟨⟨k+1,X*256+(s[k]).toNat,bR (X*256+(s[k]).toNat),by omega,by go_num,?_,?_,?_,rfl,trivial⟩,by simp[intOf];omega⟩
   .exact Kd (iA.int .i64) (by rw[<-i,IntKind.wrap_i64,wrap64])
   .rw[Od];omega
   show _=_;rw[tV s k b,DP,<-f.o]
  have e:k=s.size:=by omega
  subst e;go_wp2;go_ret;refine⟨?_,rfl⟩;show Ending.returned (zA Z)=_;rw[d.o,f.o,Ra (by simp)]
def bm(w:eA)(B:Nat)(t:TypeId)(r:Rd):Prop:=gB w B #[oA r.rest,qA r.H] t
def RB(w:eA)(B:Nat)(r:Rd):Prop:=bm w B 170 r
section
variable {w w':eA} {B base k:Nat} {t:TypeId} {r:Rd}
theorem lI{e:TypeId}{a:Nat}{v:iA}{n:Nat}{i:List iA}(h:w.ownsRow base e a v n i)(l:pD B w w')(p:B<base):w'.ownsRow base e a v n i:=by
 obtain⟨j,d⟩:=h;refine⟨j,?_⟩;obtain d|⟨g,b,c,o,m,f,r⟩:=d;exact Ca d;exact La ⟨g,b,c,o,m,(l.block g (aB f) (by omega)).trans f,r⟩
theorem pD.alloc(h:pD B w w')(o:Obj):pD B w (w'.alloc o):=h.trans (pD.of yB)
theorem kj{n:Nat}(f:bm w B t r)(l:n<=70000)(i:r.rest.size<=1000000000):
 gA prog 237 #[.pointer (pB B),zA (n:Nat)] w λe w'=>e=uA (oA (uF n r).1)/\bm w' B t (uF n r).2/\pD B w w':=by
 obtain⟨c,d⟩:=r;have g:=cB f;have m:tC w B 0 (oA c):=gB.cell f 0;have o:tC w B 1 (qA d):=gB.cell f 1;have a:=gB.free f 0;have b:=gB.free f 1;dsimp only at i;clear f;by_cases h:c.size<n
 .have E:bB (uF n ⟨c,d⟩=(kA,⟨c,dA⟩)):=by show _=_;unfold uF;rw[Ma h]
  rw[E.o];go_enter func237,ntmps237;go_wp2;go_ret;exact⟨rfl,gB.set g.o 1 (qA dA),(pD.refl _ _).setCell _ _⟩
 have E:bB (uF n ⟨c,d⟩=(c.extract 0 n,⟨c.extract n c.size,d⟩)):=by show _=_;unfold uF;rw[Ja h]
 have j:¬((c.size:Int)<(n:Int)):=by omega
 rw[E.o];go_enter func237,ntmps237;go_wp2;go_ret;exact⟨rfl,gB.set g.o 0 (oA (c.extract n c.size)),(pD.refl _ _).setCell _ _⟩
theorem CK(c:bm w B t r)(g:k<=8)(f:r.rest.size<=1000000000):
 gA prog 213 #[.pointer (pB B),zA (k:Nat)] w λe w'=>e=uA (zA (bR (eK k r).1))/\bm w' B t (eK k r).2/\pD B w w':=by
 have b:=cB (kj (n:=k) c (by omega) f);have d:=cB (λW=>YJ (uF k r).1 W (by have:=(AJ k r).1;omega));show gA _ _ _ _ λe w'=>e=uA (zA (bR (uX (uF k r).1.data.toList)))/\bm w' B t (uF k r).2/\pD B w w';clear c;generalize uX (uF k r).1.data.toList=N at *;generalize (uF k r).1=T at *;generalize (uF k r).2=h at *;go_enter func213,ntmps213;go_wp2_with fail;apply hC b.o;intro i a;replace a:=cB a;clear b;go_wp2_with fail;refine oD (d.o _) ?_;go_wp2;go_ret;exact⟨rfl,a.o⟩
theorem RC(f:bm w B t r)(l:k<=2)(g:r.rest.size<=1000000000):
 gA prog 214 #[.pointer (pB B),zA (k:Nat)] w λe w'=>e=uA (oA (kG k r).1)/\bm w' B t (kG k r).2/\pD B w w':=by
 have d:=cB (CK (k:=k) f (by omega) g);have m:(eK k r).1<65536:=by
  have a:=oz k r;have n:256 ^ k<=256 ^ 2:=Sc (by omega) l;omega
 have j:bB (∀W,bm W B t (eK k r).2->gA prog 237 #[.pointer (pB B),zA ((eK k r).1:Nat)] W λe w'=>e=uA (oA (kG k r).1)/\bm w' B t (kG k r).2/\pD B W w'):=λW h=>kj h (by omega) (Ua (AJ k r).2.2 g);rw[aJ (by omega)]at d;clear f;generalize (kG k r).1=T at *;generalize (kG k r).2=o at *;generalize (eK k r).1=N at *;generalize (eK k r).2=p at *;go_enter func214,ntmps214;go_wp2_with fail;apply hC d.o;intro q a;replace a:=cB a;clear d;go_wp2_with fail;apply hC (j.o _ a.o.1);rintro s ⟨c,b⟩;have i:=cB (Vc c (a.o.2.trans b));clear c b;go_wp2;go_ret;exact⟨rfl,i.o⟩
theorem PA(Z:bm w B t r)(hs:r.rest.size<=1000000000):
 gA prog 215 #[.pointer (pB B)] w λe w'=>∃g I,e=uA (.slice (pB g) (yA (oV (eK 1 r).2 (eK 1 r).1).1) I)/\w'.ownsRow w.1.size 181 2 (.slice (pB g) (yA (oV (eK 1 r).2 (eK 1 r).1).1) I) (yA (oV (eK 1 r).2 (eK 1 r).1).1) (nC (oV (eK 1 r).2 (eK 1 r).1).1)/\bm w' B t (oV (eK 1 r).2 (eK 1 r).1).2/\pD B w w':=by
 have X:=cB (CK (k:=1) Z (by omega) hs);have h:(eK 1 r).1<=255:=by have:=oz 1 r;omega
 rw[aJ (by omega)]at X;have p:=aB Z;have h:(eK 1 r).2.rest.size<=1000000000:=Ua (AJ 1 r).2.2 hs;clear Z;generalize (eK 1 r).2=j at *;generalize (eK 1 r).1=n at *;obtain⟨m,A,R,S,T⟩:=EP;have o:=cB A;have G:∀W:eA,(Instr.makeSlice 104 (zA 0) (zA (n:Nat))).run prog W=.ok (.slice (pB W.1.size) 0 n) (W.alloc (vA (madeCells #[oA kA,oA kA] (n*2)) 181)):=λW=>by
  have h:=run_make (P:=prog) W 104 181 m _ underlying104 A R .i64 .i64 0 (n:Nat) (by omega) (by omega) (by rw[T];omega) (by omega);simp only[Hd,S]at h;exact h
 clear A;go_enter func215,ntmps215;go_wp2_with fail;apply hC X.o;rintro w1 ⟨N,v⟩;have h:=cB (Vc N v);have I:=v.size;clear N v X;go_wp2;clear G;go_loopw [4,5,11] (λG _ i wr=>∃(k:Nat)(d:List bC)(g K:Nat),k<=n/\i=zA k/\yA d<=k/\k<=yA d/\G=.slice (pB g) (yA d) K/\bB (d=(oV j k).1)/\bB (bm wr B t (oV j k).2)/\bB (wr.ownsRow w.1.size 181 2 (.slice (pB g) (yA d) K) (yA d) (nC d))/\bB (pD B w wr)) (λ_ _ i _=>n-(intOf i).toNat)
 case atStart=>
  refine⟨0,[],_,_,Oa _,rfl,Oa _,Oa _,rfl,rfl,gB.z h.o.1 yB,⟨rfl,La ⟨w1.1.size,n,_,rfl,I,heap_alloc_new _ _,Oa _,by simp[maxLen];omega,size_madeCells _ _,rfl⟩⟩,h.o.2.alloc _⟩
 case round=>
  obtain⟨k,d,g,K,h,rfl,h,h,rfl,Y,u,l,s⟩:=hrel;by_cases h:k<n
  .have f:(oV j k).2.rest.size<=1000000000:=by have:=(aEr j k).1;omega
   have G:=cB (λW(h:bm W B t (oV j k).2)=>RC (k:=1) h (by omega) f);have H:=cB (λW(h:bm W B t (kG 1 (oV j k).2).2)=>RC (k:=2) h (by omega) (Ua (tv 1 (oV j k).2).2 f));have F:bB (oV j (k+1)=(d++[⟨(kG 1 (oV j k).2).1,(kG 2 (kG 1 (oV j k).2).2).1⟩],(kG 2 (kG 1 (oV j k).2).2).2)):=by show _=_;rw[FM,ru,Y.o]
   clear f;generalize kG 2 (kG 1 (oV j k).2).2=b at *;generalize kG 1 (oV j k).2=a at *;generalize a.1=D at *;generalize b.1=E at *;go_wp2_with fail;apply hC (G.o _ u.o);rintro w2 ⟨O,x⟩;have U:=cB (Vc O (Vc (s.o.trans x) (lI l.o x p)));clear O x G u l s;go_wp2_with fail;apply hC (H.o _ U.o.1);rintro V ⟨Q,y⟩;have C:=cB (Vc Q (Vc (U.o.2.1.trans y) (lI U.o.2.2 y p)));have h:=C.o.2.1.size;clear Q y H U;go_wp2_with(at_builtin;refine wpList_append_lies _ rfl _ _ _ rfl w.1.size 181 m _ 2 32 underlying104 o.o R S T rfl (by omega) (.slice (pB g) (yA d) K) (yA d) (nC d) rfl (by exact eC C.o.2.2 yB) (dB V.1.size 0) 1 1 [oA D,oA E] rfl rfl (by exact eA.news_of_block (cs:=#[oA D,oA E]) (heap_alloc_new _ _)) (by simp[iA.oneCell']) (by omega) (by simp[maxLen];omega) (by omega) (by simp;omega) (V.1.size+1) (by simp) ?_;intro G J h m c o o);have z:=(c.block B (by simp;omega) (λe=>by have:=mH C.o.2.2 B e.symm;omega)).trans ((pF V _).block B (by omega));have L:pD B w h:=by
    have o:=C.o.2.1;refine⟨c.os.trans o.os,c.tape.trans o.tape,c.output.trans o.output,?_,λq I O=>?_⟩;have:=c.size;simp at this;omega;exact (c.block q (by simp;omega) (λe=>by have:=mH C.o.2.2 q e.symm;omega)).trans (((pF V _).block q (by omega)).trans (o.block q I O))
   have M:yA (d++[(⟨D,E⟩:bC)])=yA d+1:=by simp
   have o:nC d++[oA D,oA E]=nC (d++[⟨D,E⟩]):=by rw[jF];rfl
   rw[o,<-M]at m;refine⟨⟨k+1,d++[(⟨D,E⟩:bC)],G,J,by omega,by go_num,by omega,by omega,by rw[M],by show _=_;rw[F.o],?_,m,L⟩,by simp[intOf];omega⟩;show bm h B t (oV j (k+1)).2;rw[F.o];exact z.trans C.o.1
  have e:k=n:=by omega
  subst e;have h:=Y.o;clear Y;subst h;go_wp2;go_ret;exact⟨g,K,rfl,l.o,u.o,s.o⟩
end
def zU(k:Int):Bool:=k==1||k==3||k==5||k==6
def yU(k:Int):Bool:=k==3||k==5
def mV(k:Int):Bool:=k==2||k==3
def aJs(l:bC):Prop:=l.N.size<=255/\l.V.size<=65535
def aNr(x:oF):Prop:=yA x.B<=255/\∀i(h:i<yA x.B),aJs x.B[i]
def aKh(a:List oF):Prop:=∀i(h:i<yA a),aNr a[i]
def pw(r:dG):Prop:=(1<=r.K/\r.K<=6)/\(zU r.K=cA->r.T.size=0)/\(yU r.K=cA->r.R.size=0)/\(mV r.K=cA->r.U=0)/\(r.K≠1->r.P=[])/\r.T.size<=255/\r.R.size<=65535/\yA r.P<=500/\aKh r.P
def gW(x:oF):nB:=tH x.B++qB 8 x.bits
def cE:List oF->nB
 |[]=>kA
 |x::r=>gW x++cE r
def zH:∀(a b:List oF),cE (a++b)=cE a++cE b
 |[],b=>by simp[cE]
 |r::q,b=>by
  show gW r++cE (q++b)=gW r++cE q++cE b;rw[zH q b,Wa]
def pP(a:List oF)(k:Nat)(h:k<yA a):cE (a.take (k+1))=cE (a.take k)++gW a[k]:=by
 rw[Pa h,zH];simp[cE]
def uK(r:dG):nB:=
 qB 1 r.K++((if zU r.K=dA then xM r.T else kA)++((if r.K=1 then qB 2 (yA r.P:Nat)++cE r.P else kA)++((if yU r.K=dA then vF r.R else kA)++(if mV r.K=dA then qB 8 r.U else kA))))
theorem aBl(b:nB):b++kA=b:=by simp
theorem we(b:nB):kA++b=b:=by simp
def aNn(b c:nB)(d:Int)(a:List oF):uK ⟨1,b,c,d,a⟩=qB 1 1++xM b++qB 2 (yA a:Nat)++cE a:=by
 rw[uK];simp only[show zU 1=dA from rfl,show yU 1=cA from rfl,show mV 1=cA from rfl,Td,Bd,Cf,aBl,Wa]
def aOn(c b:nB)(a:Int)(d:List oF):uK ⟨2,c,b,a,d⟩=qB 1 2++qB 8 a:=by grind [uK,qB,zU,yU,mV,we]
def aOo(c a:nB)(b:Int)(d:List oF):uK ⟨3,c,a,b,d⟩=qB 1 3++xM c++vF a++qB 8 b:=by
 rw[uK];simp only[show zU 3=dA from rfl,show yU 3=dA from rfl,show mV 3=dA from rfl,show ¬(3:Int)=1 from by omega,Td,Cf,we,Wa]
def aOp(c a:nB)(b:Int)(d:List oF):uK ⟨4,c,a,b,d⟩=qB 1 4:=by grind [uK,qB,zU,yU,mV,aBl]
def aOq(b a:nB)(c:Int)(d:List oF):uK ⟨5,b,a,c,d⟩=qB 1 5++xM b++vF a:=by
 rw[uK];simp only[show zU 5=dA from rfl,show yU 5=dA from rfl,show mV 5=cA from rfl,show ¬(5:Int)=1 from by omega,Td,Bd,Cf,we,aBl,Wa]
def aOr(a b:nB)(c:Int)(d:List oF):uK ⟨6,a,b,c,d⟩=qB 1 6++xM a:=by grind [uK,qB,xM,zU,yU,mV,aBl]
def aNi{k:Int}(h:1<=k/\k<=6):k=1\/k=2\/k=3\/k=4\/k=5\/k=6:=by omega
theorem bQ:∀(a:List bC),(gD a).size=3*yA a+rD a
 |[]=>rfl
 |l::r=>by
  rw[gD,Ka,Ka,lF,bF,bQ r];simp only[Zb,rD];omega
def oP(x:oF):(gW x).size=9+3*yA x.B+rD x.B:=by grind [gW,rD,tH,kB,bQ]
def bP:List oF->Nat
 |[]=>0
 |x::r=>rD x.B+bP r
def kZ(a b:List oF):bP (a++b)=bP a+bP b:=by
 induction a with
 |nil=>simp[bP]
 |cons f r c=>simp[bP,c];omega
def WK(a:List oF)(k:Nat)(h:k<yA a):bP (a.take (k+1))=bP (a.take k)+rD a[k].B:=by
 rw[Pa h,kZ];simp[bP]
def aJa(a:List oF):bP a<=sF a:=by induction a<;>grind [bP,sF,lJ]
def NX:∀(a:List oF),bP a<=(cE a).size
 |[]=>by simp[bP]
 |x::r=>by
  have h:=NX r;have e:(cE (x::r)).size=(gW x).size+(cE r).size:=by show(gW x++cE r).size=_;rw[Ka]
  have b:=oP x;rw[e];simp only[bP];omega
def oi(a:List bC)(i:Nat)(h:i<yA a):a[i].N.size+a[i].V.size<=rD a:=by
 have b:=uT a i h;have c:=dR a (i+1);omega
def aPa(a:List oF)(i:Nat)(h:i<yA a):rD a[i].B<=bP a:=by
 have b:=WK a i h;have e:=kZ (a.take (i+1)) (a.drop (i+1));rw[Za]at e;omega
def aJb{r:dG}(h:pw r)(d:60000<r.T.size+r.R.size+bP r.P):60000<(uK r).size:=by
 obtain⟨_,a,b,_,c,_⟩:=h;have e:=NX r.P;have f:r.T.size<=(if zU r.K=dA then xM r.T else kA).size:=by
  split;rw[lF];omega;rw[a (by simp_all)];exact Oa _
 have g:bP r.P<=(if r.K=1 then qB 2 (yA r.P:Nat)++cE r.P else kA).size:=by
  split;rw[Ka];omega;rw[c (by assumption)];exact Oa _
 have i:r.R.size<=(if yU r.K=dA then vF r.R else kA).size:=by
  split;rw[bF];omega;rw[b (by simp_all)];exact Oa _
 simp only[uK,Ka];omega
def aFx:∃Z:Array iA,Z=Array.replicate 256 (.int .u32 0)/\∀w,(zeroValue 374).run prog w=.ok (.agg Z) w:=⟨_,rfl,λ_=>by kernel_rfl⟩
def ql(P:Program)(w:eA)(Z:Array iA)(t:TypeId)(b:∀v∈Z.toList,v.oneCell'=dA):
 (storeCells (dB w.1.size 0) Z.toList).run P (w.alloc (vA Z t))=.ok () (w.alloc (vA Z t)):=by
 have a:(w.alloc (vA Z t)).heap[w.1.size]?=bA (vA Z t (0,0)):=heap_alloc_new _ _;have h:=run_storeCells_from (P:=P) w.1.size t Z.toList 0 Z _ a (by simp) b;rw[h];simp only[List.take_zero,Mb,Array.toArray_toList];rw[setRow_self _ _ Z t (0,0) a]
def bp(a:Nat)(b:a<4294967296):bits .and .u32 (a:Int) 1=((a % 2:Nat):Int):=by
 show IntKind.u32.wrap ((BitVec.ofInt 32 (a:Int) &&& BitVec.ofInt 32 ((1:Nat):Int)).toNat:Int)=_;rw[BitVec.toNat_and,Nc,Nc,Hc,Hc,Ic (by omega),Ic (by omega),Nat.and_one_is_mod];simp only[IntKind.wrap,IntKind.bits,IntKind.signed];simp;omega
def bf(a b:Nat)(c:a<4294967296)(d:b<4294967296):bits .xor .u32 (a:Int) (b:Int)=((a ^^^ b:Nat):Int):=by
 have e:a ^^^ b<2 ^ 32:=Qd (by omega) (by omega);show IntKind.u32.wrap ((BitVec.ofInt 32 (a:Int) ^^^ BitVec.ofInt 32 (b:Int)).toNat:Int)=_;rw[Jg,Nc,Nc,Hc,Hc,Ic (by omega),Ic (by omega)];simp only[IntKind.wrap,IntKind.bits,IntKind.signed];simp;omega
def gf(w:eA):
 gA prog 278 #[] w λe v=>∃b a,e=uA (.pointer (pB b))/\w.1.size<=b/\gB v b a 374/\(∀i,i<256->a[i]?=bA (.int .u32 (mf i:Nat)))/\tB w v:=by
 obtain⟨Z,l,I⟩:=aFx;have r:Z.size=256:=by rw[l];simp
 have C:=ql prog w Z 374 (by rw[l];simp[iA.oneCell']);have s:gB (w.alloc (vA Z 374)) w.1.size Z 374:=heap_alloc_new _ _;have y:bB (gB (w.alloc (vA Z 374)) w.1.size Z 374):=s;clear l s;go_enter func278,ntmps278;go_wp2;go_loopw [2,3,5] (λ_ _ c wr=>∃(k:Nat)(a:Array iA),k<=256/\c=zA k/\bB (gB wr w.1.size a 374)/\a.size=256/\bB (∀i,i<k->a[i]?=bA (.int .u32 (mf i:Nat)))/\bB (tB w wr)) (λ_ _ c _=>256-(intOf c).toNat)
 case atStart=>exact⟨0,Z,by omega,rfl,y,r,λi u=>absurd u (by omega),yB⟩
 case round=>
  obtain⟨k,a,H,rfl,d,m,h,g⟩:=hrel;by_cases B:k<256
  .go_wp2;go_loop [3,10] (λx c=>∃(j X:Nat),j<=8/\c=zA j/\x=.int .u32 X/\X<4294967296/\bB (X=lO k j)) (λ_ c=>8-(intOf c).toNat)
   case atStart=>exact⟨0,k,by omega,rfl,by go_num,by omega,rfl⟩
   case round=>
    obtain⟨j,X,G,rfl,rfl,A,o⟩:=hrel;have t:=bp X A;have q:=bf (X / 2) 2197175160 (by omega) (by omega);by_cases D:j<8
    .by_cases f:X % 2=1
     .rw[f]at t;go_wp2;refine⟨⟨j+1,(X / 2) ^^^ 2197175160,by omega,by go_num,?_,Qd (n:=32) (by omega) (by omega),?_⟩,by simp[intOf];omega⟩
      .rw[<-q];congr 2
      show _=_;rw[lO,<-o.o,dV,Ma f]
     have z:X % 2=0:=by omega
     rw[z]at t;go_wp2;refine⟨⟨j+1,X / 2,by omega,by go_num,?_,by omega,?_⟩,by simp[intOf];omega⟩
     .go_num
     show _=_;rw[lO,<-o.o,dV,Ja f]
    have e:j=8:=by omega
    subst e;have E:wr.cell? (dB w.1.size k)=bA (a[k]'(by omega)):=by rw[d.o.cell];exact Qc _
    have F:=d.o.free k;go_wp2;refine⟨⟨k+1,a.setIfInBounds k (.int .u32 X),by omega,by go_num,d.o.set k _,by simp[m],?_,?_⟩,by simp[intOf];omega⟩
    .intro i u;rw[Eb];split
     .rename_i e;subst e;rw[Ma (by omega),o.o];rfl
     exact h.o i (by omega)
    exact g.o.setCell (p:=(dB w.1.size k)) (Ia _) _
  have e:k=256:=by omega
  subst e;go_wp2;go_ret;exact⟨w.1.size,a,rfl,Ia _,d.o,h.o,g.o⟩
def aMm(a b:Nat)(c:a<256)(d:b<256):bits .xor .u8 (a:Int) (b:Int)=((a ^^^ b:Nat):Int):=by
 have e:a ^^^ b<2 ^ 8:=Qd (by omega) (by omega);show IntKind.u8.wrap ((BitVec.ofInt 8 (a:Int) ^^^ BitVec.ofInt 8 (b:Int)).toNat:Int)=_;rw[Jg,Nc,Nc,Hc,Hc,Ic (by omega),Ic (by omega)];simp only[IntKind.wrap,IntKind.bits,IntKind.signed];simp;omega
def aIc(a:Nat)(d:a<4294967296):bits .xor .u32 IntKind.u32.max (a:Int)=((4294967295-a:Nat):Int):=by
 have b:bits .xor .u32 IntKind.u32.max (a:Int)=((4294967295 ^^^ a:Nat):Int):=bf 4294967295 a (by omega) d;have c:(4294967295 ^^^ a:Nat)=4294967295-a:=by
  have e:(BitVec.allOnes 32 ^^^ BitVec.ofNat 32 a).toNat=(~~~ BitVec.ofNat 32 a).toNat:=by rw[BitVec.allOnes_xor]
  rw[Jg,BitVec.toNat_allOnes,BitVec.toNat_not,Hc,Ic (by omega)]at e;exact e
 rw[b,c]
def qo(b:Nat)(d:Array iA)(s:nB)(w:eA)(A:s.size<=maxLen)(r:gB w b d 374)(f:∀i,i<256->d[i]?=bA (.int .u32 (mf i:Nat))):
 vE 279 #[.pointer (pB b),oA s] w (zA (lL s:Nat)):=by
 have q:bB (gB w b d 374/\∀i,i<256->d[i]?=bA (.int .u32 (mf i:Nat))):=⟨r,f⟩
 clear r f;unfold maxLen at A;go_enter func279,ntmps279;go_wp2;go_loopw [5,6,9] (λx _ c wr=>∃(k X:Nat),k<=s.size/\c=zA k/\x=.int .u32 X/\X<4294967296/\bB (X=ct (s.data.toList.take k))/\bB (tB w wr)) (λ_ _ c _=>s.size-(intOf c).toNat)
 case atStart=>exact⟨0,4294967295,by omega,rfl,rfl,by omega,by show _=_;simp[ct],bD⟩
 case round=>
  obtain⟨k,X,F,rfl,rfl,y,t,a⟩:=hrel;by_cases p:k<s.size
  .have E:=(s[k]).toNat_lt;obtain⟨N,T,Y,D,h,z,g,B,l,m⟩:∃N T Y:Nat,N<256/\T<4294967296/\Y<4294967296/\bits .xor .u8 ((X:Int) % 256) ((s[k]).toNat:Int)=(N:Int)/\bits .xor .u32 ((X:Int) / 256) (T:Int)=(Y:Int)/\wr.cell? (dB b N)=bA (.int .u32 (T:Nat))/\bB (DV X s[k]=Y):=by
    have g:=aMm (X % 256) (s[k]).toNat (by omega) (by omega);have o:(X % 256) ^^^ (s[k]).toNat<256:=Qd (n:=8) (by omega) (by omega);have j:=q.o.1.z a.o;have h:=aGu o;refine⟨_,_,_,o,h,Qd (n:=32) (by omega) h,g,bf (X / 256) _ (by omega) h,by rw[j.cell];exact q.o.2 _ o,vq X _ (by omega)⟩
   go_wp2;go_region
   go_wp2;refine⟨⟨k+1,Y,by omega,by go_num,rfl,z,?_,a.o.drew⟩,by simp[intOf];omega⟩;show _=_;rw[tV s k p,TY,<-t.o,m.o]
  .have e:k=s.size:=by omega
   subst e;have G:=aIc X y;go_wp2;refine bodyPost_ret (v:=zA (lL s:Nat)) ?_ rfl ⟨rfl,a.o⟩;have u:wrap64 ((4294967295-X:Nat):Int)=((4294967295-X:Nat):Int):=by simp only[wrap64];omega
   rw[u,show lL s=4294967295-X by rw[lL,t.o,Ra (by simp)]];simp[results,results279,go_sem]
