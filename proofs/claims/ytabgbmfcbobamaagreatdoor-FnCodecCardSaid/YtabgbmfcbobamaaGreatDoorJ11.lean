import Derived.Test.YtabgbmfcbobamaaGreatDoorJ06
set_option maxRecDepth 100000
set_option maxHeartbeats 2000000
namespace Go.Proofs.YtabgbmfcbobamaaGreatDoor
open Go.RowKit Tryz
structure vB where
 w:Int
 tl:Int
 ml:Int
 sh:Int
 ha:Int
 sg:Int
def iD (c:vB):Value:=.agg #[.int .i64 c.w,.int .i64 c.tl,.int .i64 c.ml,.int .i64 c.sh,.int .i64 c.ha,.int .i64 c.sg]
def jE (c:vB):Bool:=xA c.w 1 1000000000&&xA c.tl 0 1000000&&xA c.ml 0 1000000&&xA c.sh 1 64&&xA c.ha 0 2&&xA c.sg 100 1000000
theorem dK {x b a:Int} (h:xA x b a=true):b<=x/\x<=a:=by simpa[xA]using h
theorem SE {x b a:Int} (h:¬xA x b a=true):x<b\/a<x:=by
 by_cases c:b<=x
 ·by_cases d:x<=a
  ·exact absurd (by simp[xA,c,d]) h
  ·exact Ja (by omega)
 ·exact Ca (by omega)
theorem aE (x:Int) (w:World):Calls prog 150 #[.int .i64 x] w fun e a=>e=.returned (.bool (xA x 0 1000000))/\a=w:=by
 go_enter func150,ntmps150;go_wp2_with(go_at_call 46;refine(oE _ _ _).mono ?_;rintro e a ⟨rfl,rfl⟩);go_ret;exact⟨rfl,rfl⟩
theorem lu (a b c d e f:Bool):(a=false\/a=true/\(b=false\/b=true/\(c=false\/c=true/\(d=false\/d=true/\(e=false\/e=true/\(f=false\/f=true)))))):=by cases a<;>cases b<;>cases c<;>cases d<;>cases e<;>cases f<;>simp
theorem kH (c:vB) (w:World):Calls prog 67 #[iD c] w fun e a=>e=.returned (.bool (jE c))/\Below w.heap.size w a:=by
 unfold iD;rcases lu (xA c.w 1 1000000000) (xA c.tl 0 1000000) (xA c.ml 0 1000000) (xA c.sh 1 64) (xA c.ha 0 2) (xA c.sg 100 1000000) with b|⟨b,d|⟨d,f|⟨f,g|⟨g,h|⟨h,i|i⟩⟩⟩⟩⟩
 all_goals
  go_enter func67,ntmps67;go_wp2_with(go_at_call 25;refine(nC (by assumption) _).mono ?_;rintro e a ⟨rfl,rfl⟩);go_ret;exact⟨jA (by simp[jE, *]),cA _ _⟩
theorem YD (c:vB) (w:World):Calls prog 133 #[iD c] w fun e g=>e=.returned (.bool (jE c))/\Below w.heap.size w g:=by
 obtain⟨h,ctl,f,b,d,a⟩:=c;unfold iD;simp only;by_cases n:xA h 1 1000000000=false
 ·have i:¬xA h 1 1000000000=true:=by simpa using n
  have E:Hid (jE ⟨h,ctl,f,b,d,a⟩=false):=by show _=_;simp[jE,n]
  have j:=SE i;clear i n;by_cases v:1<=h
  ·have x:¬h<=1000000000:=by omega
   clear j;go_enter func133,ntmps133;go_wp2_with(first|(go_at_call 150;refine(aE _ _).mono ?_;rintro e g ⟨rfl,rfl⟩)|(go_at_call 46;refine(oE _ _ _).mono ?_;rintro e g ⟨rfl,rfl⟩));go_ret;exact⟨jA (by first|exact E.out.symm|(rw[E.out];simp;omega)),cA _ _⟩
  ·clear j;go_enter func133,ntmps133;go_wp2_with(first|(go_at_call 150;refine(aE _ _).mono ?_;rintro e g ⟨rfl,rfl⟩)|(go_at_call 46;refine(oE _ _ _).mono ?_;rintro e g ⟨rfl,rfl⟩));go_ret;exact⟨jA (by first|exact E.out.symm|(rw[E.out];simp;omega)),cA _ _⟩
 have i:xA h 1 1000000000=true:=by simpa using n
 clear n;obtain⟨y,B⟩:=dK i;by_cases r:xA ctl 0 1000000=false
 ·have k:¬xA ctl 0 1000000=true:=by simpa using r
  have E:Hid (jE ⟨h,ctl,f,b,d,a⟩=false):=by show _=_;simp[jE,i,r]
  clear k;go_enter func133,ntmps133;go_wp2_with(first|(go_at_call 150;refine(aE _ _).mono ?_;rintro e g ⟨rfl,rfl⟩)|(go_at_call 46;refine(oE _ _ _).mono ?_;rintro e g ⟨rfl,rfl⟩));go_ret;exact⟨jA (by first|exact E.out.symm|(rw[E.out];simp;omega)),cA _ _⟩
 have k:xA ctl 0 1000000=true:=by simpa using r
 clear r;by_cases s:xA f 0 1000000=false
 ·have m:¬xA f 0 1000000=true:=by simpa using s
  have E:Hid (jE ⟨h,ctl,f,b,d,a⟩=false):=by show _=_;simp[jE,i,k,s]
  clear m;go_enter func133,ntmps133;go_wp2_with(first|(go_at_call 150;refine(aE _ _).mono ?_;rintro e g ⟨rfl,rfl⟩)|(go_at_call 46;refine(oE _ _ _).mono ?_;rintro e g ⟨rfl,rfl⟩));go_ret;exact⟨jA (by first|exact E.out.symm|(rw[E.out];simp;omega)),cA _ _⟩
 have m:xA f 0 1000000=true:=by simpa using s
 clear s;by_cases o:xA b 1 64=false
 ·have l:¬xA b 1 64=true:=by simpa using o
  have E:Hid (jE ⟨h,ctl,f,b,d,a⟩=false):=by show _=_;simp[jE,i,k,m,o]
  have j:=SE l;clear l o;by_cases v:1<=b
  ·have x:¬b<=64:=by omega
   clear j;go_enter func133,ntmps133;go_wp2_with(first|(go_at_call 150;refine(aE _ _).mono ?_;rintro e g ⟨rfl,rfl⟩)|(go_at_call 46;refine(oE _ _ _).mono ?_;rintro e g ⟨rfl,rfl⟩));go_ret;exact⟨jA (by first|exact E.out.symm|(rw[E.out];simp;omega)),cA _ _⟩
  ·clear j;go_enter func133,ntmps133;go_wp2_with(first|(go_at_call 150;refine(aE _ _).mono ?_;rintro e g ⟨rfl,rfl⟩)|(go_at_call 46;refine(oE _ _ _).mono ?_;rintro e g ⟨rfl,rfl⟩));go_ret;exact⟨jA (by first|exact E.out.symm|(rw[E.out];simp;omega)),cA _ _⟩
 have l:xA b 1 64=true:=by simpa using o
 clear o;obtain⟨z,C⟩:=dK l;by_cases t:xA d 0 2=false
 ·have u:¬xA d 0 2=true:=by simpa using t
  have E:Hid (jE ⟨h,ctl,f,b,d,a⟩=false):=by show _=_;simp[jE,i,k,m,l,t]
  clear u;go_enter func133,ntmps133;go_wp2_with(first|(go_at_call 150;refine(aE _ _).mono ?_;rintro e g ⟨rfl,rfl⟩)|(go_at_call 46;refine(oE _ _ _).mono ?_;rintro e g ⟨rfl,rfl⟩));go_ret;exact⟨jA (by first|exact E.out.symm|(rw[E.out];simp;omega)),cA _ _⟩
 have u:xA d 0 2=true:=by simpa using t
 clear t;by_cases p:xA a 100 1000000=false
 ·have q:¬xA a 100 1000000=true:=by simpa using p
  have E:Hid (jE ⟨h,ctl,f,b,d,a⟩=false):=by show _=_;simp[jE,i,k,m,l,u,p]
  have j:=SE q;clear q p;by_cases v:100<=a
  ·have x:¬a<=1000000:=by omega
   clear j;go_enter func133,ntmps133;go_wp2_with(first|(go_at_call 150;refine(aE _ _).mono ?_;rintro e g ⟨rfl,rfl⟩)|(go_at_call 46;refine(oE _ _ _).mono ?_;rintro e g ⟨rfl,rfl⟩));go_ret;exact⟨jA (by first|exact E.out.symm|(rw[E.out];simp;omega)),cA _ _⟩
  ·clear j;go_enter func133,ntmps133;go_wp2_with(first|(go_at_call 150;refine(aE _ _).mono ?_;rintro e g ⟨rfl,rfl⟩)|(go_at_call 46;refine(oE _ _ _).mono ?_;rintro e g ⟨rfl,rfl⟩));go_ret;exact⟨jA (by first|exact E.out.symm|(rw[E.out];simp;omega)),cA _ _⟩
 have q:xA a 100 1000000=true:=by simpa using p
 clear p;obtain⟨A,D⟩:=dK q;have E:Hid (jE ⟨h,ctl,f,b,d,a⟩=true):=by show _=_;simp[jE,i,k,m,l,u,q]
 go_enter func133,ntmps133;go_wp2_with(first|(go_at_call 150;refine(aE _ _).mono ?_;rintro e g ⟨rfl,rfl⟩)|(go_at_call 46;refine(oE _ _ _).mono ?_;rintro e g ⟨rfl,rfl⟩));go_ret;exact⟨jA (by first|exact E.out.symm|(rw[E.out];simp;omega)),cA _ _⟩
structure jD where
 labs:List mA
 bits:Int
structure vI where
 kind:Int
 n9:ByteArray
 metric:ByteArray
 num:Int
 smps:List jD
def WK (w:World) (b o:Nat) (x:jD):Prop:=
 ∃a c,w.cell? ⟨b,o,none⟩=some (.slice a x.labs.length c)/\w.cell? ⟨b,o+1,none⟩=some (.int .i64 x.bits)/\sC w a x.labs/\x.labs.length<=c
def aDl (w:World) (b o:Nat) (a:List jD):Prop:=∀i (h:i<a.length),WK w b (o+i*2) a[i]
def sE (w:World) (a:Option Addr) (c:List jD):Prop:=c=[]\/∃b o,a=some ⟨b,o,none⟩/\b<w.heap.size/\aDl w b o c
theorem WK.later {w f:World} {b o:Nat} {x:jD} (h:WK w b o x) (d:b<w.heap.size) (e:Below w.heap.size w f):WK f b o x:=by
 obtain⟨a,c,g,i,j,k⟩:=h;exact⟨a,c,(e.cell d).trans g,(e.cell d).trans i,j.later e,k⟩
theorem sE.later {w e:World} {a:Option Addr} {f:List jD} (h:sE w a f) (d:Below w.heap.size w e):sE e a f:=by
 rcases h with h|⟨b,o,rfl,c,h⟩
 ·exact Ca h
 ·exact Ja ⟨b,o,rfl,Ib c d.size,fun i g=>(h i g).later c d⟩
theorem sE.atc {w:World} {a:Option Addr} {c:List jD} (h:sE w a c) {i:Nat} (g:i<c.length):
 ∃b o d e,a=some ⟨b,o,none⟩/\b<w.heap.size/\w.cell? ⟨b,o+i*2,none⟩=some (.slice d c[i].labs.length e)/\w.cell? ⟨b,o+i*2+1,none⟩=some (.int .i64 c[i].bits)/\sC w d c[i].labs/\c[i].labs.length<=e:=by
 rcases h with rfl|⟨b,o,rfl,f,h⟩
 ·exact absurd g (by simp)
 ·obtain⟨d,e,h⟩:=h i g;exact⟨b,o,d,e,rfl,f,h⟩
theorem sE.at {w:World} {a:Option Addr} {c:List jD} (h:sE w a c) {i:Nat} (m:i<c.length):
 ∃b o d e,a=some ⟨b,o,none⟩/\b<w.heap.size/\w.cell? ⟨b,o+i*2,none⟩=some (.slice d c[i].labs.length e)/\w.cell? ⟨b,o+i*2+1,none⟩=some (.int .i64 c[i].bits)/\sC w d c[i].labs:=by
 obtain⟨b,o,d,e,f,g,j,k,l,_⟩:=h.atc m;exact⟨b,o,d,e,f,g,j,k,l⟩
theorem gC.butS {g b o B:Nat} {w d:World} {f:List mA} (h:gC w B (some ⟨b,o,none⟩) f) (m:dB g w d) (p:b≠g):gC d B (some ⟨b,o,none⟩) f:=by
 rcases h with h|⟨r,s,c,t,e,l,a,h⟩
 ·exact Ca h
 ·simp only[Pa,Addr.mk.injEq,Yb]at e;obtain⟨rfl,rfl⟩:=e;have k:=m.block b (aA a) p;have n:∀j,d.cell? ⟨b,j,none⟩=w.cell? ⟨b,j,none⟩:=fun j=>World.cell?_of_block k;exact Ja ⟨b,o,c,t,rfl,l,k.trans a,fun i q=>by simp only[n];exact h i q⟩
def iN (w:World) (B:Nat) (T:Nat->Nat) (n:Nat) (a:Option Addr) (c:List mA):Prop:=
 c=[]\/∃g o b t,a=some ⟨g,o,none⟩/\B<=g/\T g=n/\w.heap[g]?=some (.cells b t (0,0))/\fO w g o c
theorem iN.labs {w:World} {B n:Nat} {T:Nat->Nat} {a:Option Addr} {b:List mA} (h:iN w B T n a b):sC w a b:=by
 rcases h with h|⟨g,o,c,t,rfl,_,_,d,h⟩
 ·exact Ca h
 ·exact Ja ⟨g,o,rfl,aA d,h⟩
theorem iN.base {w:World} {B c n:Nat} {T:Nat->Nat} {a:Option Addr} {d:List mA} (h:iN w B T n a d) (l:c<=B):iN w c T n a d:=by
 rcases h with h|⟨g,o,b,t,e,f,i,j,k⟩
 ·exact Ca h
 ·exact Ja ⟨g,o,b,t,e,Ra l f,i,j,k⟩
theorem iN.keep {w w':World} {B n:Nat} {T c:Nat->Nat} {a:Option Addr} {l:List mA} (h:iN w B T n a l)
 (s:∀g,g<w.heap.size->B<=g->T g=n->w'.heap[g]?=w.heap[g]?/\c g=n):iN w' B c n a l:=by
 rcases h with h|⟨g,o,b,t,e,f,p,k,h⟩
 ·exact Ca h
 ·obtain⟨d,m⟩:=s g (aA k) f p;have q:∀j,w'.cell? ⟨g,j,none⟩=w.cell? ⟨g,j,none⟩:=fun j=>World.cell?_of_block d;exact Ja ⟨g,o,b,t,e,f,m,d.trans k,fun i r=>by simp only[q];exact h i r⟩
def CY (w:World) (B:Nat) (T:Nat->Nat) (i b o:Nat) (x:jD):Prop:=
 ∃a c,w.cell? ⟨b,o,none⟩=some (.slice a x.labs.length c)/\w.cell? ⟨b,o+1,none⟩=some (.int .i64 x.bits)/\iN w B T (i+1) a x.labs/\x.labs.length<=c
def tD (w:World) (B:Nat) (a:Option Addr) (c:List jD):Prop:=
 c=[]\/∃g o b t T,a=some ⟨g,o,none⟩/\B<=g/\w.heap[g]?=some (.cells b t (0,0))/\T g=0/\∀i (h:i<c.length),CY w B T i g (o+i*2) c[i]
theorem CY.at {w:World} {B i b o:Nat} {T:Nat->Nat} {x:jD} (h:CY w B T i b o x):WK w b o x:=by
 obtain⟨a,c,d,e,f,g⟩:=h;exact⟨a,c,d,e,f.labs,g⟩
theorem tD.smps {w:World} {B:Nat} {a:Option Addr} {b:List jD} (h:tD w B a b):sE w a b:=by
 rcases h with h|⟨g,o,c,t,T,rfl,_,d,_,h⟩
 ·exact Ca h
 ·exact Ja ⟨g,o,rfl,aA d,fun i e=>(h i e).at⟩
theorem CY.keep {w w':World} {B i b o:Nat} {T d:Nat->Nat} {x:jD} (h:CY w B T i b o x) (f:∀j,j<2->w'.cell? ⟨b,o+j,none⟩=w.cell? ⟨b,o+j,none⟩)
 (r:∀g,g<w.heap.size->B<=g->T g=i+1->w'.heap[g]?=w.heap[g]?/\d g=T g):CY w' B d i b o x:=by
 obtain⟨a,c,k,l,m,n⟩:=h;refine⟨a,c,(f 0 (by omega)).trans k,(f 1 (by omega)).trans l,m.keep fun g q p e=>?_,n⟩;obtain⟨s,t⟩:=r g q p e;exact⟨s,t.trans e⟩
theorem tD.later {w k:World} {B:Nat} {a:Option Addr} {l:List jD} (h:tD w B a l) (d:Below w.heap.size w k):tD k B a l:=by
 rcases h with h|⟨g,o,c,t,T,rfl,n,f,p,h⟩
 ·exact Ca h
 ·have b:=aA f;exact Ja ⟨g,o,c,t,T,rfl,n,(d.block g b).trans f,p,fun i q=>(h i q).keep (fun j _=>World.cell?_of_block (d.block g b)) fun m e _ _=>⟨d.block m e,rfl⟩⟩
theorem tD.but {g B:Nat} {w k:World} {a:Option Addr} {l:List jD} (h:tD w B a l) (e:dB g w k) (s:g<B):tD k B a l:=by
 rcases h with h|⟨d,o,c,t,T,rfl,m,b,p,h⟩
 ·exact Ca h
 ·have f:=e.block d (aA b) (by omega);exact Ja ⟨d,o,c,t,T,rfl,m,f.trans b,p,fun i q=>(h i q).keep (fun j _=>World.cell?_of_block f) fun x r n _=>⟨e.block x r (by omega),rfl⟩⟩
theorem tD.mono {B B':Nat} {w:World} {a:Option Addr} {f:List jD} (h:tD w B a f) (d:B'<=B):tD w B' a f:=by
 rcases h with h|⟨g,o,b,t,T,rfl,q,e,j,h⟩
 ·exact Ca h
 ·refine Ja ⟨g,o,b,t,T,rfl,by omega,e,j,fun i k=>?_⟩;obtain⟨a,c,l,m,n,p⟩:=h i k;exact⟨a,c,l,m,n.base d,p⟩
def kG (x:jD):Nat:=x.labs.length+wB x.labs
def eC:List jD->Nat
 |[]=>0
 |f::r=>kG f+eC r
theorem oO (a b:List jD):eC (a++b)=eC a+eC b:=by
 induction a with
 |nil=>simp[eC]
 |cons f r c=>simp[eC,c];omega
theorem wZ (a:List jD) (k:Nat) (h:k<a.length):eC (a.take (k+1))=eC (a.take k)+kG a[k]:=by
 rw[Ma h,oO];simp[eC]
theorem yS (a:List jD) (k:Nat):eC (a.take k)<=eC a:=by
 have:=oO (a.take k) (a.drop k);rw[Ya]at this;omega
theorem qU (a:List jD) (k:Nat) (h:k<a.length):kG a[k]<=eC a:=by
 have b:=wZ a k h;have c:=yS a (k+1);omega
def yF (r:vI):Nat:=r.n9.size+r.metric.size+r.smps.length+eC r.smps
