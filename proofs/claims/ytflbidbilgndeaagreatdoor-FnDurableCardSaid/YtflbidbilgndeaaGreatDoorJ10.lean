import Derived.Test.YtflbidbilgndeaaGreatDoorJ11
set_option maxRecDepth 100000
set_option maxHeartbeats 2000000
set_option linter.defProp false
open Bool renaming true->dA,false->cA
open Option renaming some->bA
open ByteArray renaming empty->kA
open List renaming length->yA
namespace Go.Proofs.YtflbidbilgndeaaGreatDoor
open Go renaming Value->iA,World->eA,Calls->gA
open Value renaming bool->qA,string->oA,tuple->xA
open Ending renaming returned->uA
open Obj renaming cells->vA
open Go.RowKit Tryz
section
open Go.Maps
section
variable {α β:Type}
def fC(key:α->jB)(a:α):List α->List α
 |[]=>[a]
 |p::r=>if eK (key p) (key a)=dA then p::fC key a r else if (key p).toList==(key a).toList then a::r else a::p::r
def vE(key:α->jB)(k:jB)(l:List α):List α:=l.filter (λp=>!((key p).toList==k.toList))
def dD(key:α->jB)(k:jB)(l:List α):Option α:=l.find? (λp=>(key p).toList==k.toList)
def zC(key:α->jB)(l:List α):Prop:=l.Pairwise (λp q=>eK (key p) (key q)=dA)
theorem xS{key:α->jB}{key':β->jB}(g:α->β)(b:∀a,key' (g a)=key a)(a:α)(l:List α):(fC key a l).map g=fC key' (g a) (l.map g):=by induction l<;>grind [fC]
theorem BO{key:α->jB}{key':β->jB}(g:α->β)(b:∀a,key' (g a)=key a)(k:jB)(l:List α):(vE key k l).map g=vE key' k (l.map g):=by
 unfold vE;rw[List.filter_map];congr 1;apply List.filter_congr;intro p _;simp only[Function.comp,b]
theorem jW{key:α->jB}{key':β->jB}(g:α->β)(b:∀a,key' (g a)=key a)(k:jB)(l:List α):dD key' k (l.map g)=(dD key k l).map g:=by
 unfold dD;rw[List.find?_map];congr 2;funext p;simp only[Function.comp,b]
theorem fY{key:α->jB}{key':β->jB}(g:α->β)(b:∀a,key' (g a)=key a){l:List α}:zC key' (l.map g) ↔ zC key l:=by
 unfold zC;rw[Te];simp only[b]
theorem aFh(k:jB)(d:β)(l:List (jB×β)):fC (·.1) (k,d) l=vT k d l:=by
 induction l with
 |nil=>rfl
 |cons p r a=>rw[fC,vT,a]
theorem aEg(k:jB)(l:List (jB×β)):vE (·.1) k l=GC k l:=rfl
theorem ic(k:jB)(l:List (jB×β)):(dD (·.1) k l).map (·.2)=lk l k:=rfl
theorem uM{key:α->jB}{k:jB}{l:List α}{a:α}(h:dD key k l=bA a):a∈l/\key a=k:=by grind [dD,kE]
theorem vX{key:α->jB}{k:jB}{l:List α}(h:dD key k l=none):∀a∈l,key a≠k:=by grind [dD]
theorem mN{key:α->jB}{k:jB}{l:List α}(h:∀a∈l,key a≠k):dD key k l=none:=
 List.find?_eq_none.2 λa b e=>h a b ((kE _ _).1 e)
theorem zC.head{key:α->jB}{p:α}{r:List α}(h:zC key (p::r)):∀q∈r,eK (key p) (key q)=dA:=(Bc.1 h).1
theorem zC.tail{key:α->jB}{p:α}{r:List α}(h:zC key (p::r)):zC key r:=(Bc.1 h).2
theorem rT{key:α->jB}(p:α)(r:List α)(k:jB):dD key k (p::r)=if key p=k then bA p else dD key k r:=by grind [dD,kE,zD]
theorem vM{key:α->jB}{l:List α}(b:zC key l){a:α}(h:a∈l):dD key (key a) l=bA a:=by
 induction l with
 |nil=>cases h
 |cons p r c=>
  rw[rT];rcases Lb.1 h with rfl|h;rw[Ma rfl];rw[Ja (qJ (b.head _ h))];exact c b.tail h
theorem yK{key:α->jB}{a q:α}{l:List α}(h:q∈fC key a l):q=a\/q∈l:=by induction l<;>grind [fC]
theorem kK{key:α->jB}{a:α}{l:List α}(h:zC key l):zC key (fC key a l):=by
 induction l with
 |nil=>exact We ..
 |cons p r g=>
  unfold fC;split
  .rename_i c;refine Bc.2 ⟨λq b=>?_,g h.tail⟩;rcases yK b with rfl|b
   .exact c
   exact h.head q b
  rename_i c;split
  .rename_i f;rw[kE]at f;refine Bc.2 ⟨λq b=>?_,h.tail⟩;rw[<-f];exact h.head q b
  rename_i f;have d:eK (key a) (key p)=dA:=eW (by simpa using c) (λe=>f ((kE _ _).2 e));refine Bc.2 ⟨λq b=>?_,h⟩;rcases Lb.1 b with rfl|b
  .exact d
  exact JQ d (h.head q b)
theorem aAm{key:α->jB}{a:α}{l:List α}(h:∀p∈l,eK (key p) (key a)=dA):fC key a l=l++[a]:=by induction l<;>grind [eK,fC]
theorem JX{key:α->jB}{a:α}{l:List α}(h:dD key (key a) l=none):(fC key a l).Perm (a::l):=by
 induction l with
 |nil=>exact Lf _
 |cons p r d=>
  have b:=vX h;unfold fC;split;have:=d (mN λq c=>b q (Sb _ c));exact(List.Perm.cons p this).trans (List.Perm.swap a p r);rw[Ja (by rw[zD (b p (Kc ..))];simp)]
theorem yP{key:α->jB}{k:jB}{l:List α}(h:zC key l):zC key (vE key k l):=Mf _ h
theorem yS{key:α->jB}{k:jB}{l:List α}{a:α}:a∈vE key k l ↔ a∈l/\key a≠k:=by grind [vE,kE,zD]
end
def af{α:Type}(key:α->jB)(val:α->DataW Unit)(l:List α)(k:jB):has (fE (l.map λa=>(key a,val a))) (kL k)=(dD key k l).isSome:=by
 rw[aAh,<-ic,jW (key:=key) (λa=>(key a,val a)) (λ_=>rfl)];cases dD key k l<;>rfl
def iT{α:Type}(key:α->jB)(val:α->DataW Unit)(l:List α)(k:jB)(z:DataW Unit):(fE (l.map λa=>(key a,val a))).atKey (kL k) z=((dD key k l).map val).getD z:=by
 rw[ff,<-ic,jW (key:=key) (λa=>(key a,val a)) (λ_=>rfl)];cases dD key k l<;>rfl
def aKp{α:Type}{key:α->jB}(val:α->DataW Unit){l:List α}(h:zC key l):dT (l.map λa=>(key a,val a)):=by grind [zC,dT]
def KE{α:Type}{key:α->jB}(val:α->DataW Unit)(a:α){l:List α}(h:zC key l):(fE (l.map λa=>(key a,val a))).put (kL (key a)) (val a)=fE ((fC key a l).map λa=>(key a,val a)):=by
 rw[aBw _ _ (aKp val h),xS (key':=(·.1)) (λa=>(key a,val a)) (λ_=>rfl),aFh]
def ZU{α:Type}{key:α->jB}(val:α->DataW Unit)(k:jB)(l:List α):(fE (l.map λa=>(key a,val a))).del (kL k)=fE ((vE key k l).map λa=>(key a,val a)):=by
 rw[zh,BO (key':=(·.1)) (λa=>(key a,val a)) (λ_=>rfl),aEg]
def bN{α:Type}(key:α->jB)(val:α->DataW Unit)(l:List α):Maps.size (fE (l.map λa=>(key a,val a)))=yA l:=by
 rw[ta,Xa]
def bJ(met:jB->jB)(l:List kB)(m:jB):Nat:=yA (l.filter λp=>(met p.s).toList==m.toList)
def VS{met:jB->jB}{l a:List kB}(h:l.Perm a)(m:jB):bJ met l m=bJ met a m:=(h.filter _).length_eq
def VQ(met:jB->jB)(p:kB)(l:List kB)(m:jB):bJ met (p::l) m=bJ met l m+if met p.s=m then 1 else 0:=by grind [bJ,kE,zD]
def ZL(met:jB->jB)(l:List kB)(m:jB):bJ met l m<=yA l:=Pc _ _
end
structure iC where
 w:Int
 tl:Int
 ml:Int
 sh:Int
 ha:Int
 sg:Int
def rE(c:iC):iA:=.agg #[zA c.w,zA c.tl,zA c.ml,zA c.sh,zA c.ha,zA c.sg]
def lH(c:iC):Bool:=bC c.w 1 1000000000&&bC c.tl 0 1000000&&bC c.ml 0 1000000&&bC c.sh 1 64&&bC c.ha 0 2&&bC c.sg 100 1000000
def xJ{x b a:Int}(h:bC x b a=dA):b<=x/\x<=a:=by simpa[bC]using h
def ZI{x b a:Int}(h:¬bC x b a=dA):x<b\/a<x:=by grind [bC]
def nG(x:Int)(w:eA):rL 63 #[zA x] w (qA (bC x 0 1000000)):=by
 go_enter func63,ntmps63;go_wp2_with(go_at_call 64;apply lC (zF _ _ _);rintro a rfl);go_ret;exact⟨rfl,rfl⟩
def yi(a b c d e f:Bool):(a=cA\/a=dA/\(b=cA\/b=dA/\(c=cA\/c=dA/\(d=cA\/d=dA/\(e=cA\/e=dA/\(f=cA\/f=dA)))))):=by cases a<;>cases b<;>cases c<;>cases d<;>cases e<;>cases f<;>simp
def qR(c:iC)(w:eA):dF 38 #[rE c] w (qA (lH c)):=by
 unfold rE;rcases yi (bC c.w 1 1000000000) (bC c.tl 0 1000000) (bC c.ml 0 1000000) (bC c.sh 1 64) (bC c.ha 0 2) (bC c.sg 100 1000000) with b|⟨b,d|⟨d,f|⟨f,g|⟨g,h|⟨h,i|i⟩⟩⟩⟩⟩
 all_goals
  go_enter func38,ntmps38;go_wp2_with(go_at_call 91;refine lC (rD (by assumption) _) ?_;rintro a rfl);go_ret;exact⟨oB (by simp[lH, *]),zB⟩
def aV(c:iC)(w:eA):dF 17 #[rE c] w (qA (lH c)):=by
 obtain⟨h,e,f,b,d,a⟩:=c;unfold rE;simp only;by_cases n:bC h 1 1000000000=cA
 .have i:¬bC h 1 1000000000=dA:=by simpa using n
  have E:cB (lH ⟨h,e,f,b,d,a⟩=cA):=by show _=_;simp[lH,n]
  have j:=ZI i;clear i n;by_cases v:1<=h
  .have x:¬h<=1000000000:=by omega
   clear j;go_enter func17,ntmps17;go_wp2_with(first|(go_at_call 63;apply lC (nG _ _);rintro g rfl)|(go_at_call 64;apply lC (zF _ _ _);rintro g rfl));go_ret;exact⟨oB (by first|exact E.o.symm|(rw[E.o];simp;omega)),zB⟩
  clear j;go_enter func17,ntmps17;go_wp2_with(first|(go_at_call 63;apply lC (nG _ _);rintro g rfl)|(go_at_call 64;apply lC (zF _ _ _);rintro g rfl));go_ret;exact⟨oB (by first|exact E.o.symm|(rw[E.o];simp;omega)),zB⟩
 have i:bC h 1 1000000000=dA:=by simpa using n
 clear n;obtain⟨y,B⟩:=xJ i;by_cases r:bC e 0 1000000=cA
 .have k:¬bC e 0 1000000=dA:=by simpa using r
  have E:cB (lH ⟨h,e,f,b,d,a⟩=cA):=by show _=_;simp[lH,i,r]
  clear k;go_enter func17,ntmps17;go_wp2_with(first|(go_at_call 63;apply lC (nG _ _);rintro g rfl)|(go_at_call 64;apply lC (zF _ _ _);rintro g rfl));go_ret;exact⟨oB (by first|exact E.o.symm|(rw[E.o];simp;omega)),zB⟩
 have k:bC e 0 1000000=dA:=by simpa using r
 clear r;by_cases s:bC f 0 1000000=cA
 .have m:¬bC f 0 1000000=dA:=by simpa using s
  have E:cB (lH ⟨h,e,f,b,d,a⟩=cA):=by show _=_;simp[lH,i,k,s]
  clear m;go_enter func17,ntmps17;go_wp2_with(first|(go_at_call 63;apply lC (nG _ _);rintro g rfl)|(go_at_call 64;apply lC (zF _ _ _);rintro g rfl));go_ret;exact⟨oB (by first|exact E.o.symm|(rw[E.o];simp;omega)),zB⟩
 have m:bC f 0 1000000=dA:=by simpa using s
 clear s;by_cases o:bC b 1 64=cA
 .have l:¬bC b 1 64=dA:=by simpa using o
  have E:cB (lH ⟨h,e,f,b,d,a⟩=cA):=by show _=_;simp[lH,i,k,m,o]
  have j:=ZI l;clear l o;by_cases v:1<=b
  .have x:¬b<=64:=by omega
   clear j;go_enter func17,ntmps17;go_wp2_with(first|(go_at_call 63;apply lC (nG _ _);rintro g rfl)|(go_at_call 64;apply lC (zF _ _ _);rintro g rfl));go_ret;exact⟨oB (by first|exact E.o.symm|(rw[E.o];simp;omega)),zB⟩
  clear j;go_enter func17,ntmps17;go_wp2_with(first|(go_at_call 63;apply lC (nG _ _);rintro g rfl)|(go_at_call 64;apply lC (zF _ _ _);rintro g rfl));go_ret;exact⟨oB (by first|exact E.o.symm|(rw[E.o];simp;omega)),zB⟩
 have l:bC b 1 64=dA:=by simpa using o
 clear o;obtain⟨z,C⟩:=xJ l;by_cases t:bC d 0 2=cA
 .have u:¬bC d 0 2=dA:=by simpa using t
  have E:cB (lH ⟨h,e,f,b,d,a⟩=cA):=by show _=_;simp[lH,i,k,m,l,t]
  clear u;go_enter func17,ntmps17;go_wp2_with(first|(go_at_call 63;apply lC (nG _ _);rintro g rfl)|(go_at_call 64;apply lC (zF _ _ _);rintro g rfl));go_ret;exact⟨oB (by first|exact E.o.symm|(rw[E.o];simp;omega)),zB⟩
 have u:bC d 0 2=dA:=by simpa using t
 clear t;by_cases p:bC a 100 1000000=cA
 .have q:¬bC a 100 1000000=dA:=by simpa using p
  have E:cB (lH ⟨h,e,f,b,d,a⟩=cA):=by show _=_;simp[lH,i,k,m,l,u,p]
  have j:=ZI q;clear q p;by_cases v:100<=a
  .have x:¬a<=1000000:=by omega
   clear j;go_enter func17,ntmps17;go_wp2_with(first|(go_at_call 63;apply lC (nG _ _);rintro g rfl)|(go_at_call 64;apply lC (zF _ _ _);rintro g rfl));go_ret;exact⟨oB (by first|exact E.o.symm|(rw[E.o];simp;omega)),zB⟩
  clear j;go_enter func17,ntmps17;go_wp2_with(first|(go_at_call 63;apply lC (nG _ _);rintro g rfl)|(go_at_call 64;apply lC (zF _ _ _);rintro g rfl));go_ret;exact⟨oB (by first|exact E.o.symm|(rw[E.o];simp;omega)),zB⟩
 have q:bC a 100 1000000=dA:=by simpa using p
 clear p;obtain⟨A,D⟩:=xJ q;have E:cB (lH ⟨h,e,f,b,d,a⟩=dA):=by show _=_;simp[lH,i,k,m,l,u,q]
 go_enter func17,ntmps17;go_wp2_with(first|(go_at_call 63;apply lC (nG _ _);rintro g rfl)|(go_at_call 64;apply lC (zF _ _ _);rintro g rfl));go_ret;exact⟨oB (by first|exact E.o.symm|(rw[E.o];simp;omega)),zB⟩
def lI(f:Nat->Bool):Nat->Bool
 |0=>dA
 |k+1=>lI f k&&f k
theorem sL(f:Nat->Bool)(k:Nat):lI f (k+1)=(lI f k&&f k):=rfl
theorem wP{f:Nat->Bool}{k n:Nat}(h:f k=cA)(a:k<n):lI f n=cA:=by induction n<;>grind [lI,sL]
theorem yO{f:Nat->Bool}{k n:Nat}(h:lI f n=dA)(a:k<n):f k=dA:=by grind [lI,wP]
def okT(c:UInt8):Bool:=(97<=c&&c<=122) ||(48<=c&&c<=57) ||c==45
def bD(s:jB):Bool:=decide (1<=s.size) &&decide (s.size<=32) &&s.data.toList.all okT
def bF(s:jB):Bool:=!s.toList.isEmpty&&decide (qP s=0)
def cE(s:jB):jB:=oL (pG s).1
def rK(s:jB):Bool:=!(cE s).toList.isEmpty
def cF(t:fB):Bool:=t.L==-1&&yA t.M==0&&yA t.Z==0
def iM(a:List kB)(i:Nat):Bool:=match i with
 |0=>dA
 |j+1=>match a[j]?,a[j+1]? with
  |some p,bA q=>eK p.s q.s
  |_,_=>cA
def cM(a:List kB)(i:Nat):Bool:=match a[i]? with
 |some m=>iM a i&&bF m.s&&bC m.n 0 1000000
 |none=>cA
def dM(a:List kB):Bool:=lI (cM a) (yA a)
def mJ(b a:Int)(c:List kB)(i:Nat):Bool:=match c[i]? with
 |some x=>iM c i&&rK x.s&&bC x.n 0 a&&decide (a-x.n<b)
 |none=>cA
def gL(b a:Int)(c:List kB):Bool:=lI (mJ b a c) (yA c)
def qO(a:List fB)(i:Nat):Bool:=match i with
 |0=>dA
 |j+1=>match a[j]?,a[j+1]? with
  |some p,bA q=>eK p.N q.N
  |_,_=>cA
def oP(b a:Int)(t:fB):Bool:=bD t.N&&bC t.L (-1) 1000000&&dM t.M&&gL b a t.Z&&!cF t
def pN(b a:Int)(c:List fB)(i:Nat):Bool:=match c[i]? with
 |some t=>qO c i&&oP b a t
 |none=>cA
def eN(b a:Int)(c:List fB):Bool:=lI (pN b a c) (yA c)
def nC(c:iC)(a:Int)(b:List fB):Bool:=lH c&&bC a 0 1000000000000&&decide (yA b<=10000) &&eN c.w a b
theorem jU{a:List kB}{k:Nat}(b:0<k)(c:k<yA a):iM a k=eK (a[k-1]'(by omega)).s a[k].s:=by unfold iM;grind
theorem rW{a:List fB}{k:Nat}(b:0<k)(c:k<yA a):qO a k=eK (a[k-1]'(by omega)).N a[k].N:=by unfold qO;grind
theorem AJ{a:List kB}{k:Nat}(b:k<yA a):cM a k=(iM a k&&bF a[k].s&&bC a[k].n 0 1000000):=by simp[cM,Va b]
theorem uW{c a:Int}{b:List kB}{k:Nat}(d:k<yA b):mJ c a b k=(iM b k&&rK b[k].s&&bC b[k].n 0 a&&decide (a-b[k].n<c)):=by simp[mJ,Va d]
theorem aX{b a:Int}{c:List fB}{k:Nat}(d:k<yA c):pN b a c k=(qO c k&&oP b a c[k]):=by simp[pN,Va d]
theorem lU{α:Type}{key:α->jB}:∀(l:List α),(∀k(h:k+1<yA l),eK (key (l[k]'(by omega))) (key l[k+1])=dA)->zC key l
 |[],_=>Gd
 |[a],_=>We ..
 |a::b::r,h=>by
  have e:zC key (b::r):=lU (b::r) λk f=>h (k+1) (by simp at f |-;omega);have d:eK (key a) (key b)=dA:=h 0 (by simp);refine Bc.2 ⟨λq c=>?_,e⟩;rcases Lb.1 c with rfl|c
  .exact d
  exact JQ d (e.head q c)
def aCb{α:Type}{key:α->jB}{l:List α}(k:Nat)(h:zC key l):zC key (l.take k):=List.Pairwise.sublist (List.take_sublist ..) h
def KC{a:List kB}{n:Nat}(h:lI (cM a) n=dA)(b:n<=yA a):zC (·.s) (a.take n):=by grind [lI,cM,zC,lU,yO,AJ,jU]
def KI{c b:Int}{a:List kB}{n:Nat}(h:lI (mJ c b a) n=dA)(d:n<=yA a):zC (·.s) (a.take n):=by grind [lI,mJ,zC,lU,yO,uW,jU]
def aCq{c a:Int}{b:List fB}{n:Nat}(h:lI (pN c a b) n=dA)(d:n<=yA b):zC (·.N) (b.take n):=by grind [lI,pN,zC,lU,yO,aX,rW]
def QY{α:Type}{key:α->jB}{l:List α}{k:Nat}(c:k<yA l)(h:zC key (l.take (k+1))):fC key l[k] (l.take k)=l.take (k+1)/\dD key (key l[k]) (l.take k)=none:=by
 rw[Pa c]at h |-
 have b:∀p∈l.take k,eK (key p) (key l[k])=dA:=λp a=>(Ae.1 h).2.2 p a _ (Uf.2 rfl);exact⟨aAm b,mN λp a=>qJ (b p a)⟩
def tR(n:Nat):Int:=IntKind.i64.wrap (n:Int)
def TO(n:Nat):tR n=if n % 18446744073709551616<9223372036854775808 then((n % 18446744073709551616:Nat):Int) else((n % 18446744073709551616:Nat):Int)-18446744073709551616:=by
 unfold tR IntKind.wrap;simp[IntKind.bits,IntKind.signed];split<;>split<;>omega
def nI{n:Nat}(h:n<9223372036854775808):tR n=(n:Int):=by rw[TO,Ma (by omega)];omega
def aGg(n:Nat)(v:Int):pB n v=pB n ((v % (256 ^ n:Nat)).toNat:Nat):=by
 have key:∀m,m<=n->bZ v m=bZ ((v % (256 ^ n:Nat)).toNat:Nat) m:=by
  intro m;induction m with
  |zero=>intro _;rfl
  |succ m a=>
   intro h;rw[bZ,bZ,a (by omega)];congr 1;have b:∀(u:Int) k,EY u k=u / ((256 ^ k:Nat):Int):=by
    intro u k;induction k with
    |zero=>simp[EY]
    |succ k a=>rw[EY,a,Int.ediv_ediv_of_nonneg (Int.natCast_nonneg _),Od,Int.natCast_mul];rfl
   have c:0<=v % ((256 ^ n:Nat):Int):=Int.emod_nonneg _ (by have:=Zf (n:=n) (show 0<256 by omega);omega);rw[b,b,Int.toNat_of_nonneg c];obtain⟨d,g⟩:∃d,n=m+1+d:=⟨n-m-1,by omega⟩
   have e:((256 ^ n:Nat):Int)=((256 ^ m:Nat):Int)*(256*((256 ^ d:Nat):Int)):=by
    subst g;rw[Nat.pow_add,Nat.pow_add,Nat.pow_one,Nat.mul_assoc,Int.natCast_mul,Int.natCast_mul];rfl
   have i:(0:Int)<((256 ^ m:Nat):Int):=by have:=Zf (n:=m) (show 0<256 by omega);omega
   generalize ((256 ^ m:Nat):Int)=A at *;generalize ((256 ^ d:Nat):Int)=D at *;rw[e];have f:v % (A*(256*D))=v-A*(256*D*(v / (A*(256*D)))):=by
    rw[Int.emod_def];congr 1;rw[Int.mul_assoc]
   rw[f,show v-A*(256*D*(v / (A*(256*D))))=v+A*(-(256*D*(v / (A*(256*D))))) by rw[Int.mul_neg];rfl,Int.add_mul_ediv_left _ _ (by omega)];rw[show -(256*D*(v / (A*(256*D))))=256*(-(D*(v / (A*(256*D))))) by rw[Int.mul_neg,Int.mul_assoc],Int.add_mul_emod_self_left]
 show strOfNums _=strOfNums _;rw[key n (Ia _)]
def kZ(v:Int)(h:wU v):tR (jT (pB 8 v).data.toList)=v:=by
 obtain⟨b,c⟩:=h;have a:((256 ^ 8:Nat):Int)=18446744073709551616:=by decide
 have d:((v % ((256 ^ 8:Nat):Int)).toNat:Int)=v % 18446744073709551616:=by rw[a];omega
 rw[aGg,qQ 8 _ (by
  have:(256:Nat) ^ 8=18446744073709551616:=by decide
  rw[this];omega),TO]
 split<;>omega
def kl{k:Nat}{r:Rd}{v:Int}{q:jB}(h:r.rest=pB k v++q):mK k r=(jT (pB k v).data.toList,⟨q,r.H⟩):=by
 have a:=yW (n:=k) h (gB k _);unfold mK;rw[a]
def aKi(a b:Nat)(g:b<256)(f:a<72057594037927936):bits .or .i64 (IntKind.i64.wrap ((a:Int)*256)) (b:Int)=tR (a*256+b):=by
 have d:a*256||| b=a*256+b:=by
  have:=Ef (i:=8) (b:=b) (by omega) a;rw[show 2 ^ 8*a=a*256 by omega]at this;exact this.symm
 have c:BitVec.ofInt 64 (IntKind.i64.wrap ((a:Int)*256))=BitVec.ofNat 64 (a*256):=by
  have e:((a:Int)*256)=((a*256:Nat):Int):=by omega
  rw[e];apply BitVec.eq_of_toNat_eq;rw[BitVec.toNat_ofInt,Hc];unfold IntKind.wrap;simp only[IntKind.bits,IntKind.signed];simp;omega
 show IntKind.i64.wrap ((BitVec.ofInt 64 (IntKind.i64.wrap ((a:Int)*256)) ||| BitVec.ofInt 64 (b:Int)).toNat:Int)=_;rw[c,BitVec.toNat_or,Nc,Hc,Hc,Ic (by omega),Ic (by omega),d];rfl
def GO(s:jB)(w:eA)(m:s.size<=8):
 rL 264 #[oA s] w (zA (tR (jT s.data.toList))):=by
 go_enter func264,ntmps264;go_wp2;go_loopw [3,4,7] (λx _ c wr=>∃(k X:Nat)(Z:Int),k<=s.size/\c=zA k/\x=zA Z/\X<256 ^ k/\cB (X=jT (s.data.toList.take k))/\cB (Z=tR X)/\wr=w) (λ_ _ c _=>s.size-(intOf c).toNat)
 case atStart=>exact⟨0,0,0,by omega,rfl,rfl,by simp,by show _=_;simp[jT],by show _=_;rw[nI (by omega)];rfl,rfl⟩
 case round=>
  obtain⟨k,X,Z,l,rfl,rfl,g,f,d,rfl⟩:=hrel;by_cases b:k<s.size
  .have j:=(s[k]).toNat_lt;have h:X<72057594037927936:=Bb g (Sc (n:=256) (by omega) (show k<=7 by omega));have a:Z=(X:Int):=by rw[d.o,nI (by omega)]
   subst a;have i:=aKi X (s[k]).toNat (by omega) (by omega);go_wp2;refine⟨⟨k+1,X*256+(s[k]).toNat,tR (X*256+(s[k]).toNat),by omega,by go_num,?_,?_,?_,rfl,trivial⟩,by simp[intOf];omega⟩
   .exact Kd (iA.int .i64) (by rw[<-i,IntKind.wrap_i64,wrap64])
   .rw[Od];omega
   show _=_;rw[zW s k b,FY,<-f.o]
  have e:k=s.size:=by omega
  subst e;go_wp2;go_ret;refine⟨?_,rfl⟩;show Ending.returned (zA Z)=_;rw[d.o,f.o,Ra (by simp)]
def ZB(w:eA)(B:Nat)(t:TypeId)(r:Rd):Prop:=nB w B #[oA r.rest,qA r.H] t
def RB(w:eA)(B:Nat)(r:Rd):Prop:=ZB w B 170 r
section
variable {w w':eA} {B base k:Nat} {t:TypeId} {r:Rd}
theorem iP{e:TypeId}{a:Nat}{v:iA}{n:Nat}{i:List iA}(h:w.ownsRow base e a v n i)(l:qD B w w')(p:B<base):w'.ownsRow base e a v n i:=by
 obtain⟨j,d⟩:=h;refine⟨j,?_⟩;obtain d|⟨g,b,c,o,m,f,r⟩:=d;exact Ca d;exact La ⟨g,b,c,o,m,(l.block g (aB f) (by omega)).trans f,r⟩
theorem qD.alloc(h:qD B w w')(o:Obj):qD B w (w'.alloc o):=h.trans (qD.of zB)
theorem TH{n:Nat}(f:ZB w B t r)(l:n<=70000)(i:r.rest.size<=1000000000):
 gA prog 237 #[.pointer (yB B),zA (n:Nat)] w λe w'=>e=uA (oA (bG n r).1)/\ZB w' B t (bG n r).2/\qD B w w':=by
 obtain⟨c,d⟩:=r;have g:=bB f;have m:tC w B 0 (oA c):=nB.cell f 0;have o:tC w B 1 (qA d):=nB.cell f 1;have a:=nB.free f 0;have b:=nB.free f 1;dsimp only at i;clear f;by_cases h:c.size<n
 .have E:cB (bG n ⟨c,d⟩=(kA,⟨c,dA⟩)):=by show _=_;unfold bG;rw[Ma h]
  rw[E.o];go_enter func237,ntmps237;go_wp2;go_ret;exact⟨rfl,nB.set g.o 1 (qA dA),(qD.refl _ _).setCell _ _⟩
 have E:cB (bG n ⟨c,d⟩=(c.extract 0 n,⟨c.extract n c.size,d⟩)):=by show _=_;unfold bG;rw[Ja h]
 have j:¬((c.size:Int)<(n:Int)):=by omega
 rw[E.o];go_enter func237,ntmps237;go_wp2;go_ret;exact⟨rfl,nB.set g.o 0 (oA (c.extract n c.size)),(qD.refl _ _).setCell _ _⟩
theorem EO(c:ZB w B t r)(g:k<=8)(f:r.rest.size<=1000000000):
 gA prog 213 #[.pointer (yB B),zA (k:Nat)] w λe w'=>e=uA (zA (tR (mK k r).1))/\ZB w' B t (mK k r).2/\qD B w w':=by
 have b:=bB (TH (n:=k) c (by omega) f);have d:=bB (λW=>GO (bG k r).1 W (by have:=(CG k r).1;omega));show gA _ _ _ _ λe w'=>e=uA (zA (tR (jT (bG k r).1.data.toList)))/\ZB w' B t (bG k r).2/\qD B w w';clear c;generalize jT (bG k r).1.data.toList=N at *;generalize (bG k r).1=T at *;generalize (bG k r).2=h at *;go_enter func213,ntmps213;go_wp2_with fail;apply lC b.o;intro i a;replace a:=bB a;clear b;go_wp2_with fail;refine tD (d.o _) ?_;go_wp2;go_ret;exact⟨rfl,a.o⟩
theorem TJ(f:ZB w B t r)(l:k<=2)(g:r.rest.size<=1000000000):
 gA prog 214 #[.pointer (yB B),zA (k:Nat)] w λe w'=>e=uA (oA (oG k r).1)/\ZB w' B t (oG k r).2/\qD B w w':=by
 have d:=bB (EO (k:=k) f (by omega) g);have m:(mK k r).1<65536:=by
  have a:=rr k r;have n:256 ^ k<=256 ^ 2:=Sc (by omega) l;omega
 have j:cB (∀W,ZB W B t (mK k r).2->gA prog 237 #[.pointer (yB B),zA ((mK k r).1:Nat)] W λe w'=>e=uA (oA (oG k r).1)/\ZB w' B t (oG k r).2/\qD B W w'):=λW h=>TH h (by omega) (Ua (CG k r).2.2 g);rw[nI (by omega)]at d;clear f;generalize (oG k r).1=T at *;generalize (oG k r).2=o at *;generalize (mK k r).1=N at *;generalize (mK k r).2=p at *;go_enter func214,ntmps214;go_wp2_with fail;apply lC d.o;intro q a;replace a:=bB a;clear d;go_wp2_with fail;apply lC (j.o _ a.o.1);rintro s ⟨c,b⟩;have i:=bB (Vc c (a.o.2.trans b));clear c b;go_wp2;go_ret;exact⟨rfl,i.o⟩
theorem RJ(Z:ZB w B t r)(hs:r.rest.size<=1000000000):
 gA prog 215 #[.pointer (yB B)] w λe w'=>∃g I,e=uA (.slice (yB g) (yA (sW (mK 1 r).2 (mK 1 r).1).1) I)/\w'.ownsRow w.1.size 181 2 (.slice (yB g) (yA (sW (mK 1 r).2 (mK 1 r).1).1) I) (yA (sW (mK 1 r).2 (mK 1 r).1).1) (vC (sW (mK 1 r).2 (mK 1 r).1).1)/\ZB w' B t (sW (mK 1 r).2 (mK 1 r).1).2/\qD B w w':=by
 have X:=bB (EO (k:=1) Z (by omega) hs);have h:(mK 1 r).1<=255:=by have:=rr 1 r;omega
 rw[nI (by omega)]at X;have p:=aB Z;have h:(mK 1 r).2.rest.size<=1000000000:=Ua (CG 1 r).2.2 hs;clear Z;generalize (mK 1 r).2=j at *;generalize (mK 1 r).1=n at *;obtain⟨ti,A,R,S,T⟩:=GQ;have I:=bB A;have G:∀W:eA,(Instr.makeSlice 108 (zA 0) (zA (n:Nat))).run prog W=.ok (.slice (yB W.1.size) 0 n) (W.alloc (vA (madeCells #[oA kA,oA kA] (n*2)) 181)):=λW=>by
  have h:=run_make (P:=prog) W 108 181 ti _ underlying108 A R .i64 .i64 0 (n:Nat) (by omega) (by omega) (by rw[T];omega) (by omega);simp only[Hd,S]at h;exact h
 clear A;go_enter func215,ntmps215;go_wp2_with fail;apply lC X.o;rintro w1 ⟨N,v⟩;have h:=bB (Vc N v);have J:=v.size;clear N v X;go_wp2;clear G;go_loopw [4,5,11] (λG _ i wr=>∃(k:Nat)(d:List dC)(g K:Nat),k<=n/\i=zA k/\yA d<=k/\k<=yA d/\G=.slice (yB g) (yA d) K/\cB (d=(sW j k).1)/\cB (ZB wr B t (sW j k).2)/\cB (wr.ownsRow w.1.size 181 2 (.slice (yB g) (yA d) K) (yA d) (vC d))/\cB (qD B w wr)) (λ_ _ i _=>n-(intOf i).toNat)
 case atStart=>
  refine⟨0,[],_,_,Oa _,rfl,Oa _,Oa _,rfl,rfl,nB.z h.o.1 zB,⟨rfl,La ⟨w1.1.size,n,_,rfl,J,heap_alloc_new _ _,Oa _,by simp[maxLen];omega,size_madeCells _ _,rfl⟩⟩,h.o.2.alloc _⟩
 case round=>
  obtain⟨k,d,g,K,h,rfl,h,h,rfl,Y,u,l,s⟩:=hrel;by_cases h:k<n
  .have f:(sW j k).2.rest.size<=1000000000:=by have:=(aGr j k).1;omega
   have G:=bB (λW(h:ZB W B t (sW j k).2)=>TJ (k:=1) h (by omega) f);have H:=bB (λW(h:ZB W B t (oG 1 (sW j k).2).2)=>TJ (k:=2) h (by omega) (Ua (xc 1 (sW j k).2).2 f));have F:cB (sW j (k+1)=(d++[⟨(oG 1 (sW j k).2).1,(oG 2 (oG 1 (sW j k).2).2).1⟩],(oG 2 (oG 1 (sW j k).2).2).2)):=by show _=_;rw[II,vj,Y.o]
   clear f;generalize oG 2 (oG 1 (sW j k).2).2=b at *;generalize oG 1 (sW j k).2=a at *;generalize a.1=D at *;generalize b.1=E at *;go_wp2_with fail;apply lC (G.o _ u.o);rintro w2 ⟨O,x⟩;have U:=bB (Vc O (Vc (s.o.trans x) (iP l.o x p)));clear O x G u l s;go_wp2_with fail;apply lC (H.o _ U.o.1);rintro V ⟨Q,y⟩;have C:=bB (Vc Q (Vc (U.o.2.1.trans y) (iP U.o.2.2 y p)));have h:=C.o.2.1.size;clear Q y H U;go_wp2_with(at_builtin;refine wpList_append_lies _ rfl _ _ _ rfl w.1.size 181 ti _ 2 32 underlying108 I.o R S T rfl (by omega) (.slice (yB g) (yA d) K) (yA d) (vC d) rfl (by exact hC C.o.2.2 zB) (dB V.1.size 0) 1 1 [oA D,oA E] rfl rfl (by exact eA.news_of_block (cs:=#[oA D,oA E]) (heap_alloc_new _ _)) (by simp[iA.oneCell']) (by omega) (by simp[maxLen];omega) (by omega) (by simp;omega) (V.1.size+1) (by simp) ?_;intro I J h m c G G);have z:=(c.block B (by simp;omega) (λe=>by have:=zH C.o.2.2 B e.symm;omega)).trans ((wF V _).block B (by omega));have L:qD B w h:=by
    have o:=C.o.2.1;refine⟨c.os.trans o.os,c.tape.trans o.tape,c.output.trans o.output,?_,λq G O=>?_⟩;have:=c.size;simp at this;omega;exact (c.block q (by simp;omega) (λe=>by have:=zH C.o.2.2 q e.symm;omega)).trans (((wF V _).block q (by omega)).trans (o.block q G O))
   have M:yA (d++[(⟨D,E⟩:dC)])=yA d+1:=by simp
   have G:vC d++[oA D,oA E]=vC (d++[⟨D,E⟩]):=by rw[cG];rfl
   rw[G,<-M]at m;refine⟨⟨k+1,d++[(⟨D,E⟩:dC)],I,J,by omega,by go_num,by omega,by omega,by rw[M],by show _=_;rw[F.o],?_,m,L⟩,by simp[intOf];omega⟩;show ZB h B t (sW j (k+1)).2;rw[F.o];exact z.trans C.o.1
  have e:k=n:=by omega
  subst e;have h:=Y.o;clear Y;subst h;go_wp2;go_ret;exact⟨g,K,rfl,l.o,u.o,s.o⟩
end
def bW(k:Int):Bool:=k==1||k==3||k==5||k==6
def aW(k:Int):Bool:=k==3||k==5
def qW(k:Int):Bool:=k==2||k==3
def aLw(l:dC):Prop:=l.N.size<=255/\l.V.size<=65535
def aPz(x:sF):Prop:=yA x.B<=255/\∀i(h:i<yA x.B),aLw x.B[i]
def aMh(a:List sF):Prop:=∀i(h:i<yA a),aPz a[i]
def sn(r:gG):Prop:=(1<=r.K/\r.K<=6)/\(bW r.K=cA->r.T.size=0)/\(aW r.K=cA->r.R.size=0)/\(qW r.K=cA->r.U=0)/\(r.K≠1->r.P=[])/\r.T.size<=255/\r.R.size<=65535/\yA r.P<=500/\aMh r.P
def qX(x:sF):jB:=uH x.B++pB 8 x.bits
def iE:List sF->jB
 |[]=>kA
 |x::r=>qX x++iE r
def gI:∀(a b:List sF),iE (a++b)=iE a++iE b
 |[],b=>by simp[iE]
 |r::q,b=>by
  show qX r++iE (q++b)=qX r++iE q++iE b;rw[gI q b,Wa]
def aQ(a:List sF)(k:Nat)(h:k<yA a):iE (a.take (k+1))=iE (a.take k)++qX a[k]:=by
 rw[Pa h,gI];simp[iE]
def sK(r:gG):jB:=
 pB 1 r.K++((if bW r.K=dA then aN r.T else kA)++((if r.K=1 then pB 2 (yA r.P:Nat)++iE r.P else kA)++((if aW r.K=dA then aG r.R else kA)++(if qW r.K=dA then pB 8 r.U else kA))))
theorem aDp(b:jB):b++kA=b:=by simp
theorem zn(b:jB):kA++b=b:=by simp
def aPw(b c:jB)(d:Int)(a:List sF):sK ⟨1,b,c,d,a⟩=pB 1 1++aN b++pB 2 (yA a:Nat)++iE a:=by
 rw[sK];simp only[show bW 1=dA from rfl,show aW 1=cA from rfl,show qW 1=cA from rfl,Td,Bd,Cf,aDp,Wa]
def aQn(c b:jB)(a:Int)(d:List sF):sK ⟨2,c,b,a,d⟩=pB 1 2++pB 8 a:=by grind [sK,pB,bW,aW,qW,zn]
def aQo(c a:jB)(b:Int)(d:List sF):sK ⟨3,c,a,b,d⟩=pB 1 3++aN c++aG a++pB 8 b:=by
 rw[sK];simp only[show bW 3=dA from rfl,show aW 3=dA from rfl,show qW 3=dA from rfl,show ¬(3:Int)=1 from by omega,Td,Cf,zn,Wa]
def aQp(c a:jB)(b:Int)(d:List sF):sK ⟨4,c,a,b,d⟩=pB 1 4:=by grind [sK,pB,bW,aW,qW,aDp]
def aQq(b a:jB)(c:Int)(d:List sF):sK ⟨5,b,a,c,d⟩=pB 1 5++aN b++aG a:=by
 rw[sK];simp only[show bW 5=dA from rfl,show aW 5=dA from rfl,show qW 5=cA from rfl,show ¬(5:Int)=1 from by omega,Td,Bd,Cf,zn,aDp,Wa]
def aQr(a b:jB)(c:Int)(d:List sF):sK ⟨6,a,b,c,d⟩=pB 1 6++aN a:=by grind [sK,pB,aN,bW,aW,qW,aDp]
def kinds{k:Int}(h:1<=k/\k<=6):k=1\/k=2\/k=3\/k=4\/k=5\/k=6:=by omega
theorem lQ:∀(a:List dC),(mD a).size=3*yA a+bE a
 |[]=>rfl
 |l::r=>by
  rw[mD,Ka,Ka,rF,iF,lQ r];simp only[Zb,bE];omega
def zP(x:sF):(qX x).size=9+3*yA x.B+bE x.B:=by grind [qX,bE,uH,gB,lQ]
def mQ:List sF->Nat
 |[]=>0
 |x::r=>bE x.B+mQ r
def MX(a b:List sF):mQ (a++b)=mQ a+mQ b:=by
 induction a with
 |nil=>simp[mQ]
 |cons f r c=>simp[mQ,c];omega
def aCr(a:List sF)(k:Nat)(h:k<yA a):mQ (a.take (k+1))=mQ (a.take k)+bE a[k].B:=by
 rw[Pa h,MX];simp[mQ]
def aLg(a:List sF):mQ a<=yF a:=by induction a<;>grind [mQ,yF,tJ]
def QA:∀(a:List sF),mQ a<=(iE a).size
 |[]=>by simp[mQ]
 |x::r=>by
  have h:=QA r;have e:(iE (x::r)).size=(qX x).size+(iE r).size:=by show(qX x++iE r).size=_;rw[Ka]
  have b:=zP x;rw[e];simp only[mQ];omega
def qx(a:List dC)(i:Nat)(h:i<yA a):a[i].N.size+a[i].V.size<=bE a:=by
 have b:=cV a i h;have c:=xR a (i+1);omega
def aLh{r:gG}(h:sn r)(d:60000<r.T.size+r.R.size+mQ r.P):60000<(sK r).size:=by
 obtain⟨_,a,b,_,c,_⟩:=h;have e:=QA r.P;have f:r.T.size<=(if bW r.K=dA then aN r.T else kA).size:=by
  split;rw[rF];omega;rw[a (by simp_all)];exact Oa _
 have g:mQ r.P<=(if r.K=1 then pB 2 (yA r.P:Nat)++iE r.P else kA).size:=by
  split;rw[Ka];omega;rw[c (by assumption)];exact Oa _
 have i:r.R.size<=(if aW r.K=dA then aG r.R else kA).size:=by
  split;rw[iF];omega;rw[b (by simp_all)];exact Oa _
 simp only[sK,Ka];omega
def aHu:∃Z:Array iA,Z=Array.replicate 256 (.int .u32 0)/\∀w,(zeroValue 374).run prog w=.ok (.agg Z) w:=⟨_,rfl,λ_=>by kernel_rfl⟩
def ua(P:Program)(w:eA)(Z:Array iA)(t:TypeId)(b:∀v∈Z.toList,v.oneCell'=dA):
 (storeCells (dB w.1.size 0) Z.toList).run P (w.alloc (vA Z t))=.ok () (w.alloc (vA Z t)):=by
 have a:(w.alloc (vA Z t)).heap[w.1.size]?=bA (vA Z t (0,0)):=heap_alloc_new _ _;have h:=run_storeCells_from (P:=P) w.1.size t Z.toList 0 Z _ a (by simp) b;rw[h];simp only[List.take_zero,Mb,Array.toArray_toList];rw[setRow_self _ _ Z t (0,0) a]
def ez(a:Nat)(b:a<4294967296):bits .and .u32 (a:Int) 1=((a % 2:Nat):Int):=by
 show IntKind.u32.wrap ((BitVec.ofInt 32 (a:Int) &&& BitVec.ofInt 32 ((1:Nat):Int)).toNat:Int)=_;rw[BitVec.toNat_and,Nc,Nc,Hc,Hc,Ic (by omega),Ic (by omega),Nat.and_one_is_mod];simp only[IntKind.wrap,IntKind.bits,IntKind.signed];simp;omega
def ej(a b:Nat)(c:a<4294967296)(d:b<4294967296):bits .xor .u32 (a:Int) (b:Int)=((a ^^^ b:Nat):Int):=by
 have e:a ^^^ b<2 ^ 32:=Qd (by omega) (by omega);show IntKind.u32.wrap ((BitVec.ofInt 32 (a:Int) ^^^ BitVec.ofInt 32 (b:Int)).toNat:Int)=_;rw[Jg,Nc,Nc,Hc,Hc,Ic (by omega),Ic (by omega)];simp only[IntKind.wrap,IntKind.bits,IntKind.signed];simp;omega
def MA(w:eA):
 gA prog 279 #[] w λe v=>∃b a,e=uA (.pointer (yB b))/\w.1.size<=b/\nB v b a 374/\(∀i,i<256->a[i]?=bA (.int .u32 (ZP i:Nat)))/\uB w v:=by
 obtain⟨Z,l,I⟩:=aHu;have r:Z.size=256:=by rw[l];simp
 have C:=ua prog w Z 374 (by rw[l];simp[iA.oneCell']);have s:nB (w.alloc (vA Z 374)) w.1.size Z 374:=heap_alloc_new _ _;have y:cB (nB (w.alloc (vA Z 374)) w.1.size Z 374):=s;clear l s;go_enter func279,ntmps279;go_wp2;go_loopw [2,3,5] (λ_ _ c wr=>∃(k:Nat)(a:Array iA),k<=256/\c=zA k/\cB (nB wr w.1.size a 374)/\a.size=256/\cB (∀i,i<k->a[i]?=bA (.int .u32 (ZP i:Nat)))/\cB (uB w wr)) (λ_ _ c _=>256-(intOf c).toNat)
 case atStart=>exact⟨0,Z,by omega,rfl,y,r,λi u=>absurd u (by omega),zB⟩
 case round=>
  obtain⟨k,a,H,rfl,d,m,h,g⟩:=hrel;by_cases B:k<256
  .go_wp2;go_loop [3,10] (λx c=>∃(j X:Nat),j<=8/\c=zA j/\x=.int .u32 X/\X<4294967296/\cB (X=bP k j)) (λ_ c=>8-(intOf c).toNat)
   case atStart=>exact⟨0,k,by omega,rfl,by go_num,by omega,rfl⟩
   case round=>
    obtain⟨j,X,G,rfl,rfl,A,o⟩:=hrel;have t:=ez X A;have q:=ej (X / 2) 2197175160 (by omega) (by omega);by_cases D:j<8
    .by_cases f:X % 2=1
     .rw[f]at t;go_wp2;refine⟨⟨j+1,(X / 2) ^^^ 2197175160,by omega,by go_num,?_,Qd (n:=32) (by omega) (by omega),?_⟩,by simp[intOf];omega⟩
      .rw[<-q];congr 2
      show _=_;rw[bP,<-o.o,gW,Ma f]
     have z:X % 2=0:=by omega
     rw[z]at t;go_wp2;refine⟨⟨j+1,X / 2,by omega,by go_num,?_,by omega,?_⟩,by simp[intOf];omega⟩
     .go_num
     show _=_;rw[bP,<-o.o,gW,Ja f]
    have e:j=8:=by omega
    subst e;have E:wr.cell? (dB w.1.size k)=bA (a[k]'(by omega)):=by rw[d.o.cell];exact Qc _
    have F:=d.o.free k;go_wp2;refine⟨⟨k+1,a.setIfInBounds k (.int .u32 X),by omega,by go_num,d.o.set k _,by simp[m],?_,?_⟩,by simp[intOf];omega⟩
    .intro i u;rw[Eb];split
     .rename_i e;subst e;rw[Ma (by omega),o.o];rfl
     exact h.o i (by omega)
    exact g.o.setCell (p:=(dB w.1.size k)) (Ia _) _
  have e:k=256:=by omega
  subst e;go_wp2;go_ret;exact⟨w.1.size,a,rfl,Ia _,d.o,h.o,g.o⟩
def aOq(a b:Nat)(c:a<256)(d:b<256):bits .xor .u8 (a:Int) (b:Int)=((a ^^^ b:Nat):Int):=by
 have e:a ^^^ b<2 ^ 8:=Qd (by omega) (by omega);show IntKind.u8.wrap ((BitVec.ofInt 8 (a:Int) ^^^ BitVec.ofInt 8 (b:Int)).toNat:Int)=_;rw[Jg,Nc,Nc,Hc,Hc,Ic (by omega),Ic (by omega)];simp only[IntKind.wrap,IntKind.bits,IntKind.signed];simp;omega
def aKe(a:Nat)(d:a<4294967296):bits .xor .u32 IntKind.u32.max (a:Int)=((4294967295-a:Nat):Int):=by
 have b:bits .xor .u32 IntKind.u32.max (a:Int)=((4294967295 ^^^ a:Nat):Int):=ej 4294967295 a (by omega) d;have c:(4294967295 ^^^ a:Nat)=4294967295-a:=by
  have e:(BitVec.allOnes 32 ^^^ BitVec.ofNat 32 a).toNat=(~~~ BitVec.ofNat 32 a).toNat:=by rw[BitVec.allOnes_xor]
  rw[Jg,BitVec.toNat_allOnes,BitVec.toNat_not,Hc,Ic (by omega)]at e;exact e
 rw[b,c]
def TF(b:Nat)(d:Array iA)(s:jB)(w:eA)(A:s.size<=maxLen)(r:nB w b d 374)(f:∀i,i<256->d[i]?=bA (.int .u32 (ZP i:Nat))):
 dF 280 #[.pointer (yB b),oA s] w (zA (cJ s:Nat)):=by
 have q:cB (nB w b d 374/\∀i,i<256->d[i]?=bA (.int .u32 (ZP i:Nat))):=⟨r,f⟩
 clear r f;unfold maxLen at A;go_enter func280,ntmps280;go_wp2;go_loopw [5,6,9] (λx _ c wr=>∃(k X:Nat),k<=s.size/\c=zA k/\x=.int .u32 X/\X<4294967296/\cB (X=fy (s.data.toList.take k))/\cB (uB w wr)) (λ_ _ c _=>s.size-(intOf c).toNat)
 case atStart=>exact⟨0,4294967295,by omega,rfl,rfl,by omega,by show _=_;simp[fy],iD⟩
 case round=>
  obtain⟨k,X,F,rfl,rfl,y,t,a⟩:=hrel;by_cases p:k<s.size
  .have E:=(s[k]).toNat_lt;obtain⟨N,T,Y,D,h,z,g,B,l,m⟩:∃N T Y:Nat,N<256/\T<4294967296/\Y<4294967296/\bits .xor .u8 ((X:Int) % 256) ((s[k]).toNat:Int)=(N:Int)/\bits .xor .u32 ((X:Int) / 256) (T:Int)=(Y:Int)/\wr.cell? (dB b N)=bA (.int .u32 (T:Nat))/\cB (GB X s[k]=Y):=by
    have g:=aOq (X % 256) (s[k]).toNat (by omega) (by omega);have o:(X % 256) ^^^ (s[k]).toNat<256:=Qd (n:=8) (by omega) (by omega);have j:=q.o.1.z a.o;have h:=aIu o;refine⟨_,_,_,o,h,Qd (n:=32) (by omega) h,g,ej (X / 256) _ (by omega) h,by rw[j.cell];exact q.o.2 _ o,yz X _ (by omega)⟩
   go_wp2;go_region
   go_wp2;refine⟨⟨k+1,Y,by omega,by go_num,rfl,z,?_,a.o.drew⟩,by simp[intOf];omega⟩;show _=_;rw[zW s k p,VT,<-t.o,m.o]
  .have e:k=s.size:=by omega
   subst e;have G:=aKe X y;go_wp2;refine bodyPost_ret (v:=zA (cJ s:Nat)) ?_ rfl ⟨rfl,a.o⟩;have u:wrap64 ((4294967295-X:Nat):Int)=((4294967295-X:Nat):Int):=by simp only[wrap64];omega
   rw[u,show cJ s=4294967295-X by rw[cJ,t.o,Ra (by simp)]];simp[results,results280,go_sem]
def vs(s:jB)(w:eA)(a:s.size<=4):rL 264 #[oA s] w (zA (jT s.data.toList:Nat)):=by
 have h:=GO s w (by omega);have:=DR s.data.toList;rw[kT]at this;have:=Sc (show 0<256 by decide) a;rwa [nI (by omega)]at h
def aJd(d:jB):jT (d.extract 0 4).data.toList=mG d:=by
 have h:=cO d 0 4;rw[Ya]at h;rw[h];rfl
def aMq(d:jB):jT (d.extract 4 8).data.toList=jT (aI d 4 4):=by rw[<-cO d 4 4]
def yc(d:jB)(N:Nat)(h:8+N<=d.size):(d.extract 8 d.size).extract 0 N=d.extract 8 (8+N):=by
 apply DU;have a:=cO (d.extract 8 d.size) 0 N;rw[Ya]at a;have b:=cO d 8 (d.size-8);rw[show 8+(d.size-8)=d.size by omega]at b;rw[a,cO,aI,b,aI,aI,Kf,List.take_take,Nat.min_eq_left (by omega)]
def iq(d:jB)(b:Nat)(a:Array iA)(w:eA)(T:d.size<=maxLen)(G:nB w b a 374)(g:∀i,i<256->a[i]?=bA (.int .u32 (ZP i:Nat))):
 gA prog 286 #[oA d,.pointer (yB b)] w λe c=>(∃p,e=uA (xA #[oA p,qA (frB d)])/\(jJ d->p=d.extract 8 (8+mG d)))/\uB w c:=by
 have D:cB (nB w b a 374/\∀i,i<256->a[i]?=bA (.int .u32 (ZP i:Nat))):=⟨G,g⟩
 clear G g;unfold maxLen at T;by_cases U:d.size<8
 .have E:cB (¬jJ d):=λh=>by have:=h.1;omega
  go_enter func286,ntmps286;go_wp2;refine bodyPost_ret (v:=xA #[oA kA,qA cA]) (by simp[results,results286,go_sem];rfl) rfl ⟨⟨kA,by rw[ia E.o],λh=>absurd h E.o⟩,iD⟩
 have n:cB (∀W,rL 264 #[oA (d.extract 0 4)] W (zA (mG d:Nat))):=λW=>by
  rw[<-aJd d];exact vs _ W (by rw[Je];omega)
 have u:cB (∀W,rL 264 #[oA (d.extract 4 8)] W (zA (jT (aI d 4 4):Nat))):=λW=>by
  rw[<-aMq d];exact vs _ W (by rw[Je];omega)
 have r:cB (∀W,rL 319 #[zA (mG d:Int)] W (qA (bC (mG d) 1 60000))):=λW=>QO _ W;have q:=kC.there w;have L:(4:Int)<=(d.size:Int):=by omega
 have M:(8:Int)<=(d.size:Int):=by omega
 have S:(d.extract 8 d.size).size=d.size-8:=by rw[Je];omega
 by_cases h:1<=mG d/\mG d<=60000/\mG d<=d.size-8
 .have z:cB ((d.extract 8 d.size).extract 0 (mG d)=d.extract 8 (8+mG d)):=yc d _ (by omega);have A:cB (((d.extract 8 d.size).extract 0 (mG d)).size<=maxLen):=by
   show _<=_;rw[z.o,XS (by omega)];unfold maxLen;omega
  have R:bC (mG d) 1 60000=dA:=by simp[bC];omega
  rw[R]at r;have m:cB (jJ d ↔ jT (aI d 4 4)=cJ (d.extract 8 (8+mG d))):=⟨λj=>j.2.2.2.2,λj=>⟨by omega,h.1,h.2.1,h.2.2,j⟩⟩
  have C:¬((d.size-8:Nat):Int)<(mG d:Int):=by omega
  generalize mG d=N at *;obtain⟨O,P,Q⟩:=h;generalize jT (aI d 4 4)=K at *;go_enter func286,ntmps286;go_wp2_with fail;refine wB (by kernel_rfl) (by kernel_rfl) ?_;repeat (go_big_quiet_step ((go_at_call 264;exact uC (n.o _))))
  refine wpQuiet_nil ?_;rintro _ ⟨x,rfl⟩;have f:cB _:=x.h;have s:cB (nB x.w' b a 374):=D.o.1.z x.h;generalize x.w'=H at *;clear q;have q:=kC.there H;go_wp2_with(go_at_call 319;apply dR (r.o _));refine wB (by kernel_rfl) (by kernel_rfl) ?_;repeat (go_big_quiet_step (first|(go_at_call 264;exact uC (u.o _))|(go_at_call 280;exact oC (TF b a _ _ A.o (s.o.z (kC.h _)) D.o.2))))
  refine wpQuiet_nil ?_;rintro _ ⟨y,rfl⟩;have t:cB _:=vB f.o y.h;go_wp2;refine bodyPost_ret (v:=xA #[oA ((d.extract 8 d.size).extract 0 N),qA ((cJ ((d.extract 8 d.size).extract 0 N):Int)==(K:Int))]) (by simp[results,results286,go_sem]) rfl ⟨⟨_,?_,λ_=>z.o⟩,t.o⟩;have e:(((cJ ((d.extract 8 d.size).extract 0 N):Nat):Int)==(K:Int))=frB d:=by
   rw[z.o];by_cases B:K=cJ (d.extract 8 (8+N))
   .rw[aLu (m.o.2 B),B];simp
   rw[ia (λh=>B (m.o.1 h))];simp;omega
  rw[e]
 .have E:cB (¬jJ d):=λj=>h ⟨j.2.1,j.2.2.1,j.2.2.2.1⟩;have l:(!bC (mG d) 1 60000)=dA\/(!bC (mG d) 1 60000)=cA/\((d.size-8:Nat):Int)<(mG d:Int):=by
   simp only[bC];by_cases I:(1:Int)<=(mG d:Int)<;>by_cases J:((mG d:Nat):Int)<=60000<;>simp[I,J]<;>omega
  generalize bC (mG d) 1 60000=F at *;generalize mG d=N at *;go_enter func286,ntmps286;go_wp2_with fail;refine wB (by kernel_rfl) (by kernel_rfl) ?_;repeat (go_big_quiet_step ((go_at_call 264;exact uC (n.o _))))
  refine wpQuiet_nil ?_;rintro _ ⟨x,rfl⟩;have f:cB _:=x.h;generalize x.w'=H at *;obtain o|⟨o,C⟩:=l
  .have k:F=cA:=by simpa using o
   subst k;clear o;go_wp2_with(go_at_call 319;apply dR (r.o _));refine bodyPost_ret (v:=xA #[oA kA,qA cA]) (by simp[results,results286,go_sem];rfl) rfl ⟨⟨kA,by rw[ia E.o],λh=>absurd h E.o⟩,f.o⟩
  have k:F=dA:=by simpa using o
  subst k;clear o;go_wp2_with(go_at_call 319;apply dR (r.o _));refine bodyPost_ret (v:=xA #[oA kA,qA cA]) (by simp[results,results286,go_sem];rfl) rfl ⟨⟨kA,by rw[ia E.o],λh=>absurd h E.o⟩,f.o⟩
