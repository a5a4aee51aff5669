import Derived.Test.YtbfnhppoecdnoaaGreatDoorJ02
set_option maxRecDepth 100000
set_option maxHeartbeats 2000000
open Bool renaming true->dA,false->cA
namespace Go.Proofs.YtbfnhppoecdnoaaGreatDoor
open Go.RowKit Tryz
structure lC where
 w:Int
 tl:Int
 ml:Int
 sh:Int
 ha:Int
 sg:Int
def oF(c:lC):Value:=.agg #[.int .i64 c.w,.int .i64 c.tl,.int .i64 c.ml,.int .i64 c.sh,.int .i64 c.ha,.int .i64 c.sg]
def pH(c:lC):Bool:=wB c.w 1 1000000000&&wB c.tl 0 1000000&&wB c.ml 0 1000000&&wB c.sh 1 64&&wB c.ha 0 2&&wB c.sg 100 1000000
theorem uL{x b a:Int}(h:wB x b a=dA):b<=x/\x<=a:=by simpa[wB]using h
theorem ct{x b a:Int}(h:¬wB x b a=dA):x<b\/a<x:=by grind [wB]
theorem bG(x:Int)(w:World):dI 118 #[.int .i64 x] w (.bool (wB x 0 1000000)):=by
 go_enter func118,ntmps118;go_wp2_with(go_at_call 77;apply aC (mF _ _ _);rintro a rfl);go_ret;exact⟨rfl,rfl⟩
theorem aDl(a b c d e f:Bool):(a=cA\/a=dA/\(b=cA\/b=dA/\(c=cA\/c=dA/\(d=cA\/d=dA/\(e=cA\/e=dA/\(f=cA\/f=dA)))))):=by cases a<;>cases b<;>cases c<;>cases d<;>cases e<;>cases f<;>simp
theorem pM(c:lC)(w:World):qD 15 #[oF c] w (.bool (pH c)):=by
 unfold oF;rcases aDl (wB c.w 1 1000000000) (wB c.tl 0 1000000) (wB c.ml 0 1000000) (wB c.sh 1 64) (wB c.ha 0 2) (wB c.sg 100 1000000) with b|⟨b,d|⟨d,f|⟨f,g|⟨g,h|⟨h,i|i⟩⟩⟩⟩⟩
 all_goals
  go_enter func15,ntmps15;go_wp2_with(go_at_call 48;refine aC (bE (by assumption) _) ?_;rintro a rfl);go_ret;exact⟨fB (by simp[pH, *]),vB⟩
theorem AH(c:lC)(w:World):qD 76 #[oF c] w (.bool (pH c)):=by
 obtain⟨h,ctl,f,b,d,a⟩:=c;unfold oF;simp only;by_cases n:wB h 1 1000000000=cA
 .have i:¬wB h 1 1000000000=dA:=by simpa using n
  have E:xA (pH ⟨h,ctl,f,b,d,a⟩=cA):=by show _=_;simp[pH,n]
  have j:=ct i;clear i n;by_cases v:1<=h
  .have x:¬h<=1000000000:=by omega
   clear j;go_enter func76,ntmps76;go_wp2_with(first|(go_at_call 118;apply aC (bG _ _);rintro g rfl)|(go_at_call 77;apply aC (mF _ _ _);rintro g rfl));go_ret;exact⟨fB (by first|exact E.o.symm|(rw[E.o];simp;omega)),vB⟩
  clear j;go_enter func76,ntmps76;go_wp2_with(first|(go_at_call 118;apply aC (bG _ _);rintro g rfl)|(go_at_call 77;apply aC (mF _ _ _);rintro g rfl));go_ret;exact⟨fB (by first|exact E.o.symm|(rw[E.o];simp;omega)),vB⟩
 have i:wB h 1 1000000000=dA:=by simpa using n
 clear n;obtain⟨y,B⟩:=uL i;by_cases r:wB ctl 0 1000000=cA
 .have k:¬wB ctl 0 1000000=dA:=by simpa using r
  have E:xA (pH ⟨h,ctl,f,b,d,a⟩=cA):=by show _=_;simp[pH,i,r]
  clear k;go_enter func76,ntmps76;go_wp2_with(first|(go_at_call 118;apply aC (bG _ _);rintro g rfl)|(go_at_call 77;apply aC (mF _ _ _);rintro g rfl));go_ret;exact⟨fB (by first|exact E.o.symm|(rw[E.o];simp;omega)),vB⟩
 have k:wB ctl 0 1000000=dA:=by simpa using r
 clear r;by_cases s:wB f 0 1000000=cA
 .have m:¬wB f 0 1000000=dA:=by simpa using s
  have E:xA (pH ⟨h,ctl,f,b,d,a⟩=cA):=by show _=_;simp[pH,i,k,s]
  clear m;go_enter func76,ntmps76;go_wp2_with(first|(go_at_call 118;apply aC (bG _ _);rintro g rfl)|(go_at_call 77;apply aC (mF _ _ _);rintro g rfl));go_ret;exact⟨fB (by first|exact E.o.symm|(rw[E.o];simp;omega)),vB⟩
 have m:wB f 0 1000000=dA:=by simpa using s
 clear s;by_cases o:wB b 1 64=cA
 .have l:¬wB b 1 64=dA:=by simpa using o
  have E:xA (pH ⟨h,ctl,f,b,d,a⟩=cA):=by show _=_;simp[pH,i,k,m,o]
  have j:=ct l;clear l o;by_cases v:1<=b
  .have x:¬b<=64:=by omega
   clear j;go_enter func76,ntmps76;go_wp2_with(first|(go_at_call 118;apply aC (bG _ _);rintro g rfl)|(go_at_call 77;apply aC (mF _ _ _);rintro g rfl));go_ret;exact⟨fB (by first|exact E.o.symm|(rw[E.o];simp;omega)),vB⟩
  clear j;go_enter func76,ntmps76;go_wp2_with(first|(go_at_call 118;apply aC (bG _ _);rintro g rfl)|(go_at_call 77;apply aC (mF _ _ _);rintro g rfl));go_ret;exact⟨fB (by first|exact E.o.symm|(rw[E.o];simp;omega)),vB⟩
 have l:wB b 1 64=dA:=by simpa using o
 clear o;obtain⟨z,C⟩:=uL l;by_cases t:wB d 0 2=cA
 .have u:¬wB d 0 2=dA:=by simpa using t
  have E:xA (pH ⟨h,ctl,f,b,d,a⟩=cA):=by show _=_;simp[pH,i,k,m,l,t]
  clear u;go_enter func76,ntmps76;go_wp2_with(first|(go_at_call 118;apply aC (bG _ _);rintro g rfl)|(go_at_call 77;apply aC (mF _ _ _);rintro g rfl));go_ret;exact⟨fB (by first|exact E.o.symm|(rw[E.o];simp;omega)),vB⟩
 have u:wB d 0 2=dA:=by simpa using t
 clear t;by_cases p:wB a 100 1000000=cA
 .have q:¬wB a 100 1000000=dA:=by simpa using p
  have E:xA (pH ⟨h,ctl,f,b,d,a⟩=cA):=by show _=_;simp[pH,i,k,m,l,u,p]
  have j:=ct q;clear q p;by_cases v:100<=a
  .have x:¬a<=1000000:=by omega
   clear j;go_enter func76,ntmps76;go_wp2_with(first|(go_at_call 118;apply aC (bG _ _);rintro g rfl)|(go_at_call 77;apply aC (mF _ _ _);rintro g rfl));go_ret;exact⟨fB (by first|exact E.o.symm|(rw[E.o];simp;omega)),vB⟩
  clear j;go_enter func76,ntmps76;go_wp2_with(first|(go_at_call 118;apply aC (bG _ _);rintro g rfl)|(go_at_call 77;apply aC (mF _ _ _);rintro g rfl));go_ret;exact⟨fB (by first|exact E.o.symm|(rw[E.o];simp;omega)),vB⟩
 have q:wB a 100 1000000=dA:=by simpa using p
 clear p;obtain⟨A,D⟩:=uL q;have E:xA (pH ⟨h,ctl,f,b,d,a⟩=dA):=by show _=_;simp[pH,i,k,m,l,u,q]
 go_enter func76,ntmps76;go_wp2_with(first|(go_at_call 118;apply aC (bG _ _);rintro g rfl)|(go_at_call 77;apply aC (mF _ _ _);rintro g rfl));go_ret;exact⟨fB (by first|exact E.o.symm|(rw[E.o];simp;omega)),vB⟩
