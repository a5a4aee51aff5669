import Derived.Lib.SmallJoins
import Derived.Test.YtjpeimianeiegaaGreatDoorJ09
import Derived.Maps.Ext
import Derived.Sort.KeysCollected
import Derived.Test.YtjpeimianeiegaaGreatDoorJ10
import Derived.Deep.DeepCutAuto
import Derived.Deep.CutBlock
import Derived.Deep.RegionHeld3
set_option maxRecDepth 100000
set_option maxHeartbeats 4000000
namespace Go.Proofs.YtjpeimianeiegaaGreatDoor
open Go.RowKit Tryz
theorem AJ (b:ByteArray) (a:Int) (w:World):
 Calls prog 203 #[.agg #[.string b,.int .i64 a],.agg #[.string b,.int .i64 a]] w fun e c=>e=.returned (.bool true)/\Below w.heap.size w c:=by
 go_enter func203,ntmps203;go_wp2;go_ret;exact⟨rfl,((Below.refl _ _).alloc (Da _) _).alloc (by simp) _⟩
theorem zY (a q:Option Addr) (r j:Nat) (d:List fA) (w:World) (u:vA w a d) (l:vA w q d) (m:d.length<=maxLen):
 Calls prog 154 #[.slice a d.length r,.slice q d.length j] w fun e C=>e=.returned (.bool true)/\Below w.heap.size w C:=by
 unfold maxLen at m;have v:Hid (vA w a d):=u;have p:Hid (vA w q d):=l;clear u l;go_enter func154,ntmps154;go_wp2;go_loopw [5] (fun i wr=>∃k:Nat,k<=d.length/\i=.int .i64 k/\Below w.heap.size w wr) (fun i _=>d.length-(intOf i).toNat)
 case atStart=>exact⟨0,Ha _,rfl,Below.refl _ _⟩
 case round=>
  obtain⟨k,H,rfl,c⟩:=hrel;by_cases n:k<d.length
  ·obtain⟨b,o,rfl,G,s,t⟩:=(v.out.later c).at n;obtain⟨D,I,rfl,A,f,g⟩:=(p.out.later c).at n;have E:=oA.cells s;have F:=oA.cells t;have y:=oA.cells f;have z:=oA.cells g;clear s t f g;have B:=oA.there wr;go_wp2_with fail;refine jA (by kernel_rfl) (by kernel_rfl) ?_;repeat (go_big_quiet_step (refine tA (AJ _ _ _)))
   refine wpQuiet_nil ?_;rintro _ ⟨x,rfl⟩;go_wp2;exact⟨⟨k+1,by omega,by go_num,c.trans (x.h.mono c.size)⟩,by simp[intOf];omega⟩
  ·go_wp2;go_ret;exact⟨rfl,c⟩
theorem SI (b:ByteArray) (a:Int) (w:World):
 Calls prog 204 #[.agg #[.string b,.int .i64 a],.agg #[.string b,.int .i64 a]] w fun e c=>e=.returned (.bool true)/\Below w.heap.size w c:=by
 go_enter func204,ntmps204;go_wp2;go_ret;exact⟨rfl,((Below.refl _ _).alloc (Da _) _).alloc (by simp) _⟩
theorem OJ (a q:Option Addr) (r j:Nat) (d:List fA) (w:World) (u:vA w a d) (l:vA w q d) (m:d.length<=maxLen):
 Calls prog 155 #[.slice a d.length r,.slice q d.length j] w fun e C=>e=.returned (.bool true)/\Below w.heap.size w C:=by
 unfold maxLen at m;have v:Hid (vA w a d):=u;have p:Hid (vA w q d):=l;clear u l;go_enter func155,ntmps155;go_wp2;go_loopw [5] (fun i wr=>∃k:Nat,k<=d.length/\i=.int .i64 k/\Below w.heap.size w wr) (fun i _=>d.length-(intOf i).toNat)
 case atStart=>exact⟨0,Ha _,rfl,Below.refl _ _⟩
 case round=>
  obtain⟨k,H,rfl,c⟩:=hrel;by_cases n:k<d.length
  ·obtain⟨b,o,rfl,G,s,t⟩:=(v.out.later c).at n;obtain⟨D,I,rfl,A,f,g⟩:=(p.out.later c).at n;have E:=oA.cells s;have F:=oA.cells t;have y:=oA.cells f;have z:=oA.cells g;clear s t f g;have B:=oA.there wr;go_wp2_with fail;refine jA (by kernel_rfl) (by kernel_rfl) ?_;repeat (go_big_quiet_step (refine tA (SI _ _ _)))
   refine wpQuiet_nil ?_;rintro _ ⟨x,rfl⟩;go_wp2;exact⟨⟨k+1,by omega,by go_num,c.trans (x.h.mono c.size)⟩,by simp[intOf];omega⟩
  ·go_wp2;go_ret;exact⟨rfl,c⟩
theorem XV {w e:World} {d:String} {a:Array Value} (h:w.var? prog d=some a) (f:Below w.heap.size w e):e.var? prog d=some a:=by
 unfold World.var? at h |-
 cases hg:prog.globalNamed d with
 |none=>rw[hg]at h;cases h
 |some g=>
  rw[hg]at h;simp only[Option.bind_some]at h |-
  have c:g<w.heap.size:=by
   rcases Ac g w.heap.size with b|b
   ·exact b
   ·rw[Tc b]at h;cases h
  rw[f.block g c];exact h
structure oH (w:World):Prop where
 syn : ∃ t p, w.var? prog "strconv.ErrSyntax" = some #[.iface t p]
 rng : ∃ t p, w.var? prog "strconv.ErrRange" = some #[.iface t p]
theorem oH.later {w b:World} (h:oH w) (a:Below w.heap.size w b):oH b:=by
 obtain⟨⟨t,p,c⟩,⟨f,e,d⟩⟩:=h;exact⟨⟨t,p,XV c a⟩,⟨f,e,XV d a⟩⟩
theorem aEj (s:ByteArray) (j:s.size<=1000000000) (w:World) (f:oH w):
 (∃v,Lib.atoiAll s.data.toList=.ok v/\Calls prog 177 #[.string s] w fun e a=>e=.returned (.tuple #[.int .i64 v,.nilIface])/\Below w.heap.size w a)\/
 ((∀v,Lib.atoiAll s.data.toList≠.ok v)/\Calls prog 177 #[.string s] w fun e a=>∃(n:Int) (t:TypeId) (p:Value),e=.returned (.tuple #[.int .i64 n,.iface t p])/\Below w.heap.size w a):=by
 obtain⟨⟨t,p,c⟩,⟨i,g,d⟩⟩:=f;rcases h:Lib.atoiAll s.data.toList with v|_|_
 ·skip;refine Ba ⟨v,rfl,(strconv_Atoi_ok s (by omega) v h w).mono ?_⟩;rintro e a ⟨rfl,rfl|⟨t,rfl⟩⟩
  ·exact⟨rfl,Below.refl _ _⟩
  ·exact⟨rfl,Joins.below_bytesWorld _ _ _ _ (Da _)⟩
 ·skip;refine Ea ⟨nofun,(strconv_Atoi_syntax_var s (by omega) h t p w c).mono ?_⟩;rintro e a ⟨N,rfl,_,_,b⟩;exact⟨_,_,_,rfl,b⟩
 ·skip;refine Ea ⟨nofun,(strconv_Atoi_range_var s (by omega) h i g w d).mono ?_⟩;rintro e a ⟨N,rfl,_,_,b⟩;exact⟨_,_,_,rfl,b⟩
theorem SQ (s:ByteArray) (w:World) (H:s.size<=1000000000) (g:xI w) (B:oH w):
 Calls prog 140 #[.string s] w fun e q=>∃(n:Int) (b:Bool),e=.returned (.tuple #[.int .i64 n,.bool b])/\b=decide (0<mE s)/\(b=true->n=mE s)/\Below w.heap.size w q:=by
 have E:Hid (xI w):=g;have z:(⟨(Lib.trimPrefix s.data.toList [119,97,108,45]).toArray⟩:ByteArray).size<=1000000000:=by
  have a:(Lib.trimPrefix s.data.toList [119,97,108,45]).length<=s.data.toList.length:=by
   unfold Lib.trimPrefix;split<;>simp
  have G:s.data.toList.length=s.size:=rfl;show(Lib.trimPrefix s.data.toList [119,97,108,45]).toArray.size<=_;rw[Yd];omega
 have D:=aEj (⟨(Lib.trimPrefix s.data.toList [119,97,108,45]).toArray⟩:ByteArray) z w B;clear g B;rcases D with⟨v,o,m⟩|⟨o,m⟩
 ·have r:Hid (Lib.atoiAll (Lib.trimPrefix s.data.toList [119,97,108,45])=.ok v):=by show _=_;simpa using o
  have u:Hid (Calls prog 177 #[.string (⟨(Lib.trimPrefix s.data.toList [119,97,108,45]).toArray⟩:ByteArray)] w fun e q=>e=.returned (.tuple #[.int .i64 v,.nilIface])/\Below w.heap.size w q):=m;have A:Hid (vD v=s ↔ 0<mE s):=by
   constructor
   ·intro e;unfold vD at e;split at e
    ·rename_i h;rw[<-e,BL (by omega)];omega
    ·rw[<-e]at r;have:=r.out;simp[Lib.trimPrefix,Lib.hasPrefix,Lib.atoiAll]at this
   ·intro h;obtain⟨e,d⟩:=lQ h;have a:=r.out;rw[e,GO d]at a;injection a with a;rw[vD,Ga (by omega),<-a,Mc];exact e.symm
  have x:Hid (0<mE s->v=mE s):=fun h=>by
   obtain⟨e,d⟩:=lQ h;have a:=r.out;rw[e,GO d]at a;injection a with a;exact a.symm
  clear o m z;go_enter func140,ntmps140;go_wp2_with fail;refine(strings_TrimPrefix s ⟨#[119,97,108,45]⟩ w).mono ?_;rintro e F ⟨rfl,rfl⟩;go_wp2_with fail;refine u.out.mono ?_;rintro e C ⟨rfl,c⟩;have f:Hid _:=c;clear c;go_wp2_with fail;refine(jX v C (E.out.later f.out)).mono ?_;rintro e I ⟨rfl,l⟩;have k:Hid _:=pA f.out l;clear l;by_cases j:vD v=s
  ·have y:((vD v).toList==s.toList)=true:=by rw[j];simp
   have i:Hid _:=A.out.1 j;clear j;go_wp2;go_ret2;exact⟨_,_,rfl,(Rb i.out).symm,fun _=>x.out i.out,k.out⟩
  ·have y:((vD v).toList==s.toList)=false:=by
    rw[<-Bool.not_eq_true];intro h;exact j (toList_inj (by simpa using h))
   have i:Hid (¬0<mE s):=fun h=>j (A.out.2 h);clear j;go_wp2;go_ret2;exact⟨_,_,rfl,(Mb i.out).symm,nofun,k.out⟩
 ·have u:Hid (Calls prog 177 #[.string (⟨(Lib.trimPrefix s.data.toList [119,97,108,45]).toArray⟩:ByteArray)] w fun e q=>∃(n:Int) (t:TypeId) (p:Value),e=.returned (.tuple #[.int .i64 n,.iface t p])/\Below w.heap.size w q):=m;have i:Hid (¬0<mE s):=fun h=>by
   obtain⟨e,d⟩:=lQ h;refine o (mE s:Nat) ?_;have a:=GO d;rw[<-e]at a;simpa using a
  clear o m z;go_enter func140,ntmps140;go_wp2_with fail;refine(strings_TrimPrefix s ⟨#[119,97,108,45]⟩ w).mono ?_;rintro e F ⟨rfl,rfl⟩;go_wp2_with fail;refine u.out.mono ?_;rintro e C ⟨n,t,p,rfl,c⟩;have f:Hid _:=c;clear c;go_wp2;go_ret2;exact⟨_,_,rfl,(Mb i.out).symm,nofun,f.out⟩
def wW (a x:Nat):Nat:=if (a+x) % 2=1 then(a / 2) ^^^ 2197175160 else a / 2
def cO (a b:Nat):Nat->Nat
 |0=>a
 |k+1=>wW (cO a b k) (b / 2 ^ k)
def CI (a:Nat) (c:UInt8):Nat:=cO a c.toNat 8
def gh (l:List UInt8):Nat:=l.foldl CI 4294967295
def kH (s:ByteArray):Nat:=4294967295-gh s.data.toList
theorem zu {a x:Nat} (h:a<4294967296):wW a x<4294967296:=by
 unfold wW;split
 ·exact Fd (n:=32) (by omega) (by omega)
 ·omega
theorem zZ {a b:Nat} (h:a<4294967296):∀k,cO a b k<4294967296
 |0=>h
 |k+1=>zu (zZ h k)
theorem aJz (l:List UInt8):gh l<4294967296:=by
 have a:∀(l:List UInt8) (r:Nat),r<4294967296->l.foldl CI r<4294967296:=fun l=>by
  induction l with
  |nil=>exact fun r h=>h
  |cons c l b=>exact fun r h=>b _ (zZ h 8)
 exact a l _ (by omega)
theorem UQ (l:List UInt8) (c:UInt8):gh (l++[c])=CI (gh l) c:=by simp[gh]
theorem YR (s:ByteArray):kH s<4294967296:=by unfold kH;omega
theorem aMt (a b:Nat) (c:a<4611686018427387904) (d:b<4611686018427387904):bits .xor .i64 (a:Int) (b:Int)=((a ^^^ b:Nat):Int):=by
 have e:a ^^^ b<2 ^ 62:=Fd (by omega) (by omega);show IntKind.i64.wrap ((BitVec.ofInt 64 (a:Int) ^^^ BitVec.ofInt 64 (b:Int)).toNat:Int)=_;rw[Fg,Gc,Gc,Bc,Bc,Hc (by omega),Hc (by omega)];simp only[IntKind.wrap,IntKind.bits,IntKind.signed];simp;omega
theorem aFm (x:Int) (w:World):Calls prog 259 #[.int .i64 x] w fun e c=>e=.returned (.bool (uA x 1 60000))/\c=w:=by
 by_cases a:1<=x
 ·by_cases b:x<=60000
  ·have e:uA x 1 60000=true:=by simp[uA,a,b]
   rw[e];go_enter func259,ntmps259;go_wp2;go_ret;exact⟨rfl,rfl⟩
  ·have e:uA x 1 60000=false:=by simp[uA,b]
   rw[e];go_enter func259,ntmps259;go_wp2;go_ret;exact⟨rfl,rfl⟩
 ·have e:uA x 1 60000=false:=by simp[uA,a]
  rw[e];go_enter func259,ntmps259;go_wp2;go_ret;exact⟨rfl,rfl⟩
def yy (a:List dE):Prop:=∀i (h:i<a.length),I64 a[i].kind/\I64 a[i].num
section
open Go.Maps
def kL (s:ByteArray):Lit:=.string s.data.toList
theorem pY (s:ByteArray):kL s=.string s.toList:=by rw[kL,ByteArray.toList_eq]
theorem aFs {x y:ByteArray} (h:kL x=kL y):x=y:=by
 rw[pY,pY]at h;exact toList_inj (by simpa using h)
theorem JI:∀x y:List UInt8,bytesBefore x y=Op.bytesLess x y
 |[],[]=>rfl
 |[],_::_=>rfl
 |_::_,[]=>rfl
 |a::x,b::y=>by rw[bytesBefore,Op.bytesLess,JI x y]
def uH (x y:ByteArray):Bool:=Op.bytesLess x.toList y.toList
theorem fN (x:ByteArray):uH x x=false:=rE _
theorem GQ {x y z:ByteArray} (a:uH x y=true) (b:uH y z=true):uH x z=true:=dH _ _ _ a b
theorem jY {x y:ByteArray} (h:uH x y=true):uH y x=false:=qL h
theorem qT {x y:ByteArray} (h:uH x y=false) (a:x≠y):uH y x=true:=wJ _ _ h (fun e=>a (toList_inj e))
theorem bH {x y:ByteArray} (h:uH x y=true):x≠y:=fun e=>by rw[e,fN]at h;cases h
theorem UF (x y:ByteArray):(kL x).before (kL y)=uH x y:=by
 rw[pY,pY,uH];exact JI _ _
theorem BI (x y:ByteArray):(kL x).sameKey (kL y)=(x.toList==y.toList):=by rw[pY,pY];rfl
theorem xC (x y:ByteArray):(x.toList==y.toList)=true ↔ x=y:=by
 rw[Jf];exact⟨toList_inj,fun e=>by rw[e]⟩
theorem mC {x y:ByteArray} (h:x≠y):(x.toList==y.toList)=false:=by
 rw[Ic];exact fun e=>h ((xC x y).1 e)
section
variable {V:Type}
def uS (L:List (ByteArray×V)):Prop:=L.Pairwise (fun p q=>uH p.1 q.1=true)
def lk (L:List (ByteArray×V)) (k:ByteArray):Option V:=(L.find? (fun p=>p.1.toList==k.toList)).map (·.2)
def mP (k:ByteArray) (d:V):List (ByteArray×V)->List (ByteArray×V)
 |[]=>[(k,d)]
 |p::r=>if uH p.1 k=true then p::mP k d r else if p.1.toList==k.toList then(k,d):: r else(k,d):: p::r
def CL (k:ByteArray) (L:List (ByteArray×V)):List (ByteArray×V):=L.filter (fun p=>!(p.1.toList==k.toList))
theorem aOd (k:ByteArray):lk ([]:List (ByteArray×V)) k=none:=rfl
theorem dL (p:ByteArray×V) (r:List (ByteArray×V)) (k:ByteArray):lk (p::r) k=if p.1=k then some p.2 else lk r k:=by
 unfold lk;by_cases h:p.1=k
 ·rw[List.find?_cons_of_pos (p:=fun p:ByteArray×V=>p.1.toList==k.toList) (by exact(xC _ _).2 h),Ga h];rfl
 ·rw[List.find?_cons_of_neg (p:=fun p:ByteArray×V=>p.1.toList==k.toList) (by simpa using mC h),Ca h]
theorem sr {L:List (ByteArray×V)} {k:ByteArray} {d:V} (h:lk L k=some d):(k,d) ∈L:=by
 induction L with
 |nil=>cases h
 |cons p r c=>
  rw[dL]at h;by_cases e:p.1=k
  ·rw[Ga e]at h;obtain⟨a,b⟩:=p;simp only[Ja]at h e;rw[<-h,<-e];exact Lb ..
  ·rw[Ca e]at h;exact Za _ (c h)
theorem aLb {L:List (ByteArray×V)} {k:ByteArray} (h:lk L k=none):∀p∈L,p.1≠k:=by
 induction L with
 |nil=>intro p b;cases b
 |cons p r c=>
  rw[dL]at h;by_cases e:p.1=k
  ·rw[Ga e]at h;cases h
  ·rw[Ca e]at h;intro q a;rcases Cb.1 a with rfl|a
   ·exact e
   ·exact c h q a
theorem su {L:List (ByteArray×V)} {k:ByteArray} (h:∀p∈L,p.1≠k):lk L k=none:=by
 cases hl:lk L k with
 |none=>rfl
 |some d=>exact absurd rfl (h _ (sr hl))
theorem uS.head {p:ByteArray×V} {r:List (ByteArray×V)} (h:uS (p::r)):∀q∈r,uH p.1 q.1=true:=(Wb.1 h).1
theorem uS.tail {p:ByteArray×V} {r:List (ByteArray×V)} (h:uS (p::r)):uS r:=(Wb.1 h).2
theorem VU {L:List (ByteArray×V)} (a:uS L) {k:ByteArray} {d:V} (h:(k,d) ∈L):lk L k=some d:=by
 induction L with
 |nil=>cases h
 |cons p r b=>
  rw[dL];rcases Cb.1 h with e|h
  ·rw[<-e,Ga rfl]
  ·have:=a.head _ h;rw[Ca (bH this)];exact b a.tail h
theorem aBa {k:ByteArray} {d:V} {L:List (ByteArray×V)} {q:ByteArray×V} (h:q∈mP k d L):q=(k,d)\/q∈L:=by
 induction L with
 |nil=>exact Ba (by simpa[mP]using h)
 |cons p r a=>
  unfold mP at h;split at h
  ·rcases Cb.1 h with rfl|h
   ·exact Ea (Lb ..)
   ·rcases a h with h|h
    ·exact Ba h
    ·exact Ea (Za _ h)
  ·split at h
   ·rcases Cb.1 h with h|h
    ·exact Ba h
    ·exact Ea (Za _ h)
   ·rcases Cb.1 h with h|h
    ·exact Ba h
    ·exact Ea h
theorem PG {k:ByteArray} {d:V} {L:List (ByteArray×V)} (h:uS L):uS (mP k d L):=by
 induction L with
 |nil=>exact Te ..
 |cons p r g=>
  unfold mP;split
  ·rename_i b;refine Wb.2 ⟨fun q a=>?_,g h.tail⟩;rcases aBa a with rfl|a
   ·exact b
   ·exact h.head q a
  ·rename_i b;split
   ·rename_i f;rw[xC]at f;refine Wb.2 ⟨fun q a=>?_,h.tail⟩;show uH k q.1=true;rw[<-f];exact h.head q a
   ·rename_i f;have c:=qT (by simpa using b) (fun e=>f ((xC _ _).2 e));refine Wb.2 ⟨fun q a=>?_,h⟩;rcases Cb.1 a with rfl|a
    ·exact c
    ·exact GQ c (h.head q a)
theorem kn {k:ByteArray} {d:V} {L:List (ByteArray×V)} (g:uS L) (a:ByteArray):lk (mP k d L) a=if k=a then some d else lk L a:=by
 induction L with
 |nil=>
  unfold mP;rw[dL]
 |cons p r h=>
  unfold mP;split
  ·rename_i b;rw[dL,dL,h g.tail];by_cases e:p.1=a
   ·rw[Ga e,Ga e,Ca (fun f=>bH b (e.trans f.symm))]
   ·rw[Ca e,Ca e]
  ·split
   ·rename_i c;rw[xC]at c;rw[dL,dL];by_cases e:k=a
    ·rw[Ga e,Ga e]
    ·rw[Ca e,Ca e,Ca (by rw[c];exact e)]
   ·rw[dL]
theorem AA {k:ByteArray} {L:List (ByteArray×V)} (h:uS L):uS (CL k L):=Pe _ h
theorem km {k:ByteArray} {L:List (ByteArray×V)} (b:ByteArray):lk (CL k L) b=if k=b then none else lk L b:=by
 induction L with
 |nil=>rw[show CL k ([]:List (ByteArray×V))=[] from rfl,aOd];simp
 |cons p r c=>
  unfold CL at c |-
  by_cases e:p.1=k
  ·rw[Jc (by simp[(xC p.1 k).2 e]),c,dL];by_cases a:k=b
   ·rw[Ga a,Ga a]
   ·rw[Ca a,Ca a,Ca (by rw[e];exact a)]
  ·rw[Ec (by simp[mC e]),dL,dL,c];by_cases a:k=b
   ·rw[Ga a,Ga a,Ca (by rw[<-a];exact e)]
   ·rw[Ca a,Ca a]
theorem uS.eq_of_lk {g i:List (ByteArray×V)} (j:uS g) (l:uS i) (h:∀k,lk g k=lk i k):g=i:=by
 refine Qf (le:=fun(p q:ByteArray×V)=>uH p.1 q.1=true) (fun p q f r n m=>by rw[jY n]at m;cases m) j l ?_;have nd:∀{L:List (ByteArray×V)},uS L->L.Nodup:=fun o=>o.imp (fun {a b} c e=>by rw[e,fN]at c;cases c);refine(List.perm_ext_iff_of_nodup (nd j) (nd l)).2 fun p=>?_;constructor
 ·intro f;exact sr (k:=p.1) (d:=p.2) (by rw[<-h];exact VU j f)
 ·intro f;exact sr (k:=p.1) (d:=p.2) (by rw[h];exact VU l f)
end
def oC (L:List (ByteArray×DataW Unit)):DataW Unit:=.map (L.map fun p=>(kL p.1,p.2))
theorem OS (L : List (ByteArray × DataW Unit)) (k : ByteArray) : (L.map fun p => (kL p.1, p.2)).find? (fun p => p.1.sameKey (kL k)) = (L.find? (fun p => p.1.toList == k.toList)).map (fun p => (kL p.1, p.2)) := by
  rw [List.find?_map]
  congr 1
  apply congrFun
  congr 1
  funext p
  exact BI p.1 k
theorem ew (L:List (ByteArray×DataW Unit)) (k:ByteArray) (z:DataW Unit):(oC L).atKey (kL k) z=(lk L k).getD z:=by
 simp only[oC,DataW.atKey];rw[OS,lk];cases L.find? (fun p=>p.1.toList==k.toList)<;>rfl
theorem aAu (L:List (ByteArray×DataW Unit)) (k:ByteArray):has (oC L) (kL k)=(lk L k).isSome:=by
 have h:∀(l:List (Lit×DataW Unit)) f,l.any f=(l.find? f).isSome:=fun l f=>by rw[Nb,List.find?_isSome,Dg]
 rw[oC,has_eq,h,OS,lk];cases L.find? (fun p=>p.1.toList==k.toList)<;>rfl
theorem uv (L:List (ByteArray×DataW Unit)):Maps.size (oC L)=L.length:=by rw[oC,size_eq,Ua]
theorem aCi (k:ByteArray) (q:ByteArray×DataW Unit):ChangeMaps.notKey (kL k) (kL q.1,q.2)=!(q.1.toList==k.toList):=by
 show(!(kL q.1).sameKey (kL k))=_;rw[BI]
theorem CO (k : ByteArray) (L : List (ByteArray × DataW Unit)) : (L.map fun p => (kL p.1, p.2)).filter (ChangeMaps.notKey (kL k)) = (CL k L).map fun p => (kL p.1, p.2) := by
  rw [List.filter_map, CL]
  congr 1
  apply List.filter_congr
  intro q _
  exact aCi k q
theorem aAb (k:ByteArray) (L:List (ByteArray×DataW Unit)):(oC L).del (kL k)=oC (CL k L):=by
 rw[oC,DataW.del_eq,ChangeMaps.delKey,CO,oC]
theorem ZO (k:ByteArray) (d:DataW Unit) {L:List (ByteArray×DataW Unit)} (g:uS L) (e:lk L k=none):DataW.insert (kL k,d) (L.map fun p=>(kL p.1,p.2))=(mP k d L).map fun p=>(kL p.1,p.2):=by
 induction L with
 |nil=>rfl
 |cons p r i=>
  have b:=aLb e;rw[Sb,DataW.insert,mP];by_cases h:uH p.1 k=true
  ·rw[Ca (by rw[UF,jY h];simp),Ga h,Sb,i g.tail (su fun q f=>b q (Za _ f))]
  ·have a:=b p (Lb ..);have c:=qT (by simpa using h) a;rw[Ga (by rw[UF];exact c),Ca h,Ca (by rw[mC a];simp)];rfl
theorem jk (k:ByteArray) (d:DataW Unit) {L:List (ByteArray×DataW Unit)} (a:uS L):mP k d (CL k L)=mP k d L:=by
 refine uS.eq_of_lk (PG (AA a)) (PG a) fun b=>?_;rw[kn (AA a),kn a,km];by_cases e:k=b
 ·rw[Ga e,Ga e]
 ·rw[Ca e,Ca e,Ca e]
theorem aCs (k:ByteArray) (d:DataW Unit) {L:List (ByteArray×DataW Unit)} (a:uS L):(oC L).put (kL k) d=oC (mP k d L):=by
 rw[oC,DataW.put_eq,ChangeMaps.putKey,CO,ZO k d (AA a) (by rw[km,Ga rfl]),jk k d a,oC]
theorem jT (L:List (ByteArray×DataW Unit)):strKeys (oC L)=L.map (fun p=>p.1.data.toList):=by
 show((L.map fun p=>(kL p.1,p.2)).map fun p=>strOf p.1)=_;rw[Wd];rfl
end
def xS (x y:eB):Bool:=x.name.toList==y.name.toList&&x.value.toList==y.value.toList
def nF:List eB->List eB->Bool
 |[],[]=>true
 |x::r,y::q=>xS x y&&nF r q
 |_,_=>false
theorem qs (x y:eB):xS x y=true ↔ x=y:=by
 unfold xS;rw[Na,Jf,Jf];constructor
 ·rintro⟨a,b⟩;cases x;cases y
  simp only[eB.mk.injEq];exact⟨toList_inj a,toList_inj b⟩
 ·rintro rfl;exact⟨rfl,rfl⟩
theorem BJ:∀(a b:List eB),nF a b=true ↔ a=b
 |[],[]=>by simp[nF]
 |[],_::_=>by simp[nF]
 |_::_,[]=>by simp[nF]
 |x::r,y::q=>by
  rw[nF,Na,qs,BJ r q];simp
theorem ur {a b:List eB} (h:a.length≠b.length):nF a b=false:=by
 rw[Ic];intro c;exact h (by rw[(BJ a b).1 c])
theorem ni (a b:List eB) (k:Nat) (c:k<a.length) (d:k<b.length):nF (a.drop k) (b.drop k)=(xS a[k] b[k] &&nF (a.drop (k+1)) (b.drop (k+1))):=by
 rw[Ra c,Ra d,nF]
def eP (a:List eB):Bool:=decide ((qB a).2.1=0) &&nF (qB a).1 a
def mD:List eB->ByteArray
 |[]=>ByteArray.empty
 |l::r=>xV l.name++nG l.value++mD r
def yT (a:List eB):ByteArray:=aB 1 (a.length:Nat)++mD a
def bZ (a:List eB):ByteArray:=if eP a=true then yT a else ByteArray.empty
theorem wM:∀(a b:List eB),mD (a++b)=mD a++mD b
 |[],b=>by simp[mD]
 |l::r,b=>by
  show xV l.name++nG l.value++mD (r++b)=xV l.name++nG l.value++mD r++mD b;rw[wM r b,Ob (b:=mD r)]
theorem RS (a:List eB) (k:Nat) (h:k<a.length):mD (a.take (k+1))=mD (a.take k)++(xV a[k].name++nG a[k].value):=by
 rw[La h,wM];simp[mD]
theorem NN (a:List eB):(qB a).1.length<=16:=by
 unfold qB;split
 ·simp
 ·rename_i b;split
  ·simp
  ·split
   ·simp
   ·split
    ·simp only;rw[PF];have:=VN a;omega
    ·simp
theorem YI {a:List eB} (h:(qB a).2.1=0):a.length<=16:=by
 unfold qB at h;split at h
 ·exact absurd h (by simp)
 ·omega
theorem NM {a:List eB} (h:eP a=true):a.length<=16:=by
 unfold eP at h;rw[Na,Ya]at h;exact YI h.1
theorem aEr {a:List eB} (h:eP a=true):qB a=(a,0,(qB a).2.2):=by
 unfold eP at h;rw[Na,Ya]at h;have d:=(BJ _ _).1 h.2;have b:=h.1;generalize qB a=c at *;obtain⟨x,y,z⟩:=c;simp only at b d;rw[b,d]
def DL (r:Rd):eB×Rd:=(⟨(yA 1 r).1,(yA 2 (yA 1 r).2).1⟩,(yA 2 (yA 1 r).2).2)
def kS (r:Rd):Nat->List eB×Rd
 |0=>([],r)
 |k+1=>((kS r k).1++[(DL (kS r k).2).1],(DL (kS r k).2).2)
def NT (key:ByteArray):Nat:=(gB 1 ⟨key,false⟩).1
def iF (key:ByteArray):List eB×Rd:=kS (gB 1 ⟨key,false⟩).2 (NT key)
def kT (r:Rd):Bool:=!r.r9&&(r.rest.toList==ByteArray.empty.toList)
def uE (key:ByteArray):List eB×Bool:=if (kT (iF key).2&&eP (iF key).1)=true then((iF key).1,true) else([],false)
theorem xf (r:Rd):DL r=(⟨(yA 1 r).1,(yA 2 (yA 1 r).2).1⟩,(yA 2 (yA 1 r).2).2):=by rw[DL]
theorem EJ (r:Rd) (k:Nat):kS r (k+1)=((kS r k).1++[(DL (kS r k).2).1],(DL (kS r k).2).2):=by rw[kS]
theorem BG (r:Rd):∀k,(kS r k).1.length=k
 |0=>rfl
 |k+1=>by rw[kS];simp[BG r k]
theorem aBm {r:Rd} (h:(DL r).2.r9=false):r.r9=false/\r.rest=xV (DL r).1.name++nG (DL r).1.value++(DL r).2.rest:=by
 obtain⟨c,d⟩:=RY (k:=2) (r:=(yA 1 r).2) h;obtain⟨a,b⟩:=RY (k:=1) (r:=r) c;refine⟨a,?_⟩;rw[b,d];apply dP;simp[DL,xV,nG]
theorem aGi {r:Rd} {l:eB} {q:ByteArray} (h:r.rest=xV l.name++nG l.value++q) (c:l.name.size<256) (d:l.value.size<65536):DL r=(l,⟨q,r.r9⟩):=by
 have e:r.rest=aB 1 (l.name.size:Nat)++(l.name++(nG l.value++q)):=by
  rw[h];apply dP;simp[xV]
 have a:=pQ e (by omega);have b:yA 2 (yA 1 r).2=(l.value,⟨q,r.r9⟩):=by
  rw[a];exact pQ (r:=⟨nG l.value++q,r.r9⟩) (by show nG l.value++q=_;apply dP;simp[nG]) (by omega)
 rw[DL,b,a]
theorem aHx {r:Rd} (k:Nat):(kS r k).2.r9=false->r.r9=false/\r.rest=mD (kS r k).1++(kS r k).2.rest:=by
 induction k with
 |zero=>
  intro h;refine⟨h,?_⟩;show r.rest=ByteArray.empty++r.rest;apply dP;simp
 |succ k f=>
  intro h;rw[EJ]at h |-
  simp only at h |-
  obtain⟨d,e⟩:=aBm h;obtain⟨b,c⟩:=f d;refine⟨b,?_⟩;generalize kS r k=R at *;generalize DL R.2=L at *;rw[c,e,wM];have a:mD [L.1]=xV L.1.name++nG L.1.value:=by
   show xV L.1.name++nG L.1.value++ByteArray.empty=_;apply dP;simp
  rw[a];apply dP;simp
def aEf (a:List eB):Prop:=∀i (h:i<a.length),a[i].name.size<256/\a[i].value.size<65536
theorem xw {r:Rd} {a:List eB} {q:ByteArray} (h:r.rest=mD a++q) (b:aEf a):∀k,k<=a.length->kS r k=(a.take k,⟨mD (a.drop k)++q,r.r9⟩)
 |0,_=>by
  cases r
  simp only at h;simp[kS,h]
 |k+1,f=>by
  have d:=xw h b k (by omega);have e:mD (a.drop k)++q=xV a[k].name++nG a[k].value++(mD (a.drop (k+1))++q):=by
   rw[Ra (by omega)];apply dP;simp[mD]
  have c:=aGi (r:=⟨mD (a.drop k)++q,r.r9⟩) e (b k (by omega)).1 (b k (by omega)).2;rw[EJ,d,c,La (by omega)]
theorem RG (s:ByteArray):∀(b p:Nat) (l:List Nat),s.size<=p+b->rH s b p=some l->s.size<=p+4*l.length
 |0,p,l,c,_=>by omega
 |b+1,p,l,c,h=>by
  rw[rH]at h;split at h
  ·split at h
   ·exact absurd h (by simp)
   ·obtain⟨l',a,rfl⟩:=Ib.1 h;have d:=dV s p;have e:=(yW s p).2;have:=RG s b _ l' (by omega) a;simp;omega
  ·omega
theorem aJg {s:ByteArray} (h:bP s=0):s.size<=512:=by
 unfold bP at h;split at h
 ·exact absurd h (by simp)
 ·rename_i l a;unfold gu at h;split at h
  ·exact absurd h (by simp)
  ·have:=RG s s.size 0 l (by omega) a;omega
theorem fZ:∀(a:List eB) (j:Nat),nC a j=none->∀i (h:i<a.length),lX a[i]=0
 |[],_,_,i,h=>absurd h (by simp)
 |l::r,j,hn,i,h=>by
  rw[nC]at hn;split at hn
  ·rename_i b;cases i with
   |zero=>exact b
   |succ i=>exact fZ r _ hn i (by simpa using h)
  ·exact absurd hn (by simp)
theorem JY:∀(l:List eB) (j c i:Nat),nC l j=some (c,i)->c≠0
 |[],_,_,_,h=>by simp[nC]at h
 |x::r,j,c,i,h=>by
  rw[nC]at h;split at h
  ·exact JY r _ _ _ h
  ·rename_i a;simp only[Ja,Hb]at h;rw[<-h.1];exact a
theorem kY {a:List eB} (h:eP a=true):aEf a:=by
 have k:=aEr h;have j:=NM h;have f:(qB a).2.1=0:=by rw[k]
 have b:nC a 0=none:=by
  cases b:nC a 0 with
  |none=>rfl
  |some g=>
   obtain⟨c,i⟩:=g;rw[GS (by omega) b]at f;exact absurd f (JY a 0 c i b)
 intro i l;have d:=fZ a 0 b i l;unfold lX at d;split at d
 ·rename_i m;have e:ZZ a[i].name:=by simpa[QF]using m
  have:=aJg d;exact⟨by have:=e.2.1;omega,by omega⟩
 ·exact absurd d (by simp)
theorem aFc {a:List eB} (h:eP a=true):uE (yT a)=(a,true):=by
 have c:=NM h;have i:=kY h;have b:wB 1 ⟨yT a,false⟩=(aB 1 (a.length:Nat),⟨mD a,false⟩):=sU rfl (bB 1 _);have f:NT (yT a)=a.length:=by
  show mL (wB 1 ⟨yT a,false⟩).1.data.toList=_;rw[b];exact aO 1 a.length (by omega)
 have g:(gB 1 ⟨yT a,false⟩).2=⟨mD a,false⟩:=by
  show(wB 1 ⟨yT a,false⟩).2=_;rw[b]
 have d:iF (yT a)=(a,⟨ByteArray.empty,false⟩):=by
  unfold iF;rw[f,g];have e:=xw (r:=⟨mD a,false⟩) (q:=ByteArray.empty) (by apply dP;simp) i a.length (Da _);rw[e,Qb,Gg];simp[mD]
 unfold uE;rw[d];simp only;rw[Ga (by simp[kT,h])]
theorem YS {key:ByteArray} (h:(uE key).2=true):eP (uE key).1=true/\yT (uE key).1=key:=by
 unfold uE at h |-
 split at h
 ·rename_i hw;rw[Ga hw];rw[Na]at hw;refine⟨hw.2,?_⟩;have a:=hw.1;unfold kT at a;rw[Na]at a;have d:(iF key).2.r9=false:=by simpa using a.1
  have c:(iF key).2.rest=ByteArray.empty:=toList_inj (by simpa using a.2);obtain⟨g,i⟩:=aHx (r:=(gB 1 ⟨key,false⟩).2) (NT key) d;obtain⟨m,k,l⟩:=bK (n:=1) (r:=⟨key,false⟩) g;have j:(iF key).1.length=NT key:=BG _ _;have e:aB 1 ((iF key).1.length:Nat)=(wB 1 ⟨key,false⟩).1:=by
   rw[j];have:=MS (wB 1 ⟨key,false⟩).1.data.toList 1 (by rw[<-mJ];exact k);show aB 1 (mL (wB 1 ⟨key,false⟩).1.data.toList:Nat)=_;rw[this]
  show aB 1 ((iF key).1.length:Nat)++mD (iF key).1=key;have b:(wB 1 ⟨key,false⟩).2.rest=mD (iF key).1++(iF key).2.rest:=i;have f:key=(wB 1 ⟨key,false⟩).1++(wB 1 ⟨key,false⟩).2.rest:=l;rw[e];conv=>rhs;rw[f,b,c]
  apply dP;simp
 ·exact absurd h (by simp)
theorem MK {key:ByteArray} (h:(uE key).2=false):uE key=([],false)/\∀a,eP a=true->yT a≠key:=by
 refine⟨?_,fun a b e=>?_⟩
 ·unfold uE at h |-
  split at h
  ·exact absurd h (by simp)
  ·rename_i hw;rw[Ca hw]
 ·rw[<-e,aFc b]at h;exact absurd h (by simp)
theorem aHw (r:Rd) (k:Nat):(kS r k).2.rest.size<=r.rest.size/\∀i (h:i<(kS r k).1.length),(kS r k).1[i].name.size<=r.rest.size/\(kS r k).1[i].value.size<=r.rest.size:=by
 induction k with
 |zero=>exact⟨Da _,fun i h=>absurd h (by simp[kS])⟩
 |succ k b=>
  have f:=kK 1 (kS r k).2;have g:=kK 2 (yA 1 (kS r k).2).2;rw[EJ,xf];generalize kS r k=R at *;generalize yA 1 R.2=d at *;generalize yA 2 d.2=j at *;refine⟨by have:=b.1;simp only;omega,fun i c=>?_⟩;simp only at c;by_cases e:i<R.1.length
  ·simp only[Re e];exact b.2 i e
  ·have a:i=R.1.length:=by simp at c;omega
   subst a;simp only[List.getElem_concat_length];have:=b.1;exact⟨by omega,by omega⟩
theorem aCt (key:ByteArray):∀i (h:i<(iF key).1.length),(iF key).1[i].name.size<=key.size/\(iF key).1[i].value.size<=key.size:=by
 intro i d;have a:=(aHw (gB 1 ⟨key,false⟩).2 (NT key)).2 i d;have c:=(eJ 1 ⟨key,false⟩).2.2;have b:(gB 1 ⟨key,false⟩).2.rest.size<=key.size:=c;exact⟨Ma a.1 b,Ma a.2 b⟩
theorem rg {C D:Prop} [Decidable C] [Decidable D] {α:Type} {x y:α} (h:C ↔ D):(if C then x else y)=if D then x else y:=by
 by_cases c:C
 ·rw[Ga c,Ga (h.1 c)]
 ·rw[Ca c,Ca (fun d=>c (h.2 d))]
theorem vV {a b c d:Int} (e:a=c) (f:b=d):Ending.returned (.tuple #[.int .i64 a,.int .i64 b])=.returned (.tuple #[.int .i64 c,.int .i64 d]):=by rw[e,f]
def yR (t:ByteArray) (v:Nat):Nat->Nat
 |0=>v
 |j+1=>yR t v j*64+pB t (j+1) % 64
def tN (t:ByteArray) (n v a:Nat):Nat×Nat:=
 if n<=t.size/\(∀k,k<n->1<=k->pB t k / 64=2)/\a<=yR t v (n-1)/\okR (yR t v (n-1)) then(yR t v (n-1),n) else(0,0)
theorem aPo (t:ByteArray) (h:pB t 0 / 32=6):KF t=tN t 2 (pB t 0 % 32) 128:=by
 rw[aKw t h,tN];have e:yR t (pB t 0 % 32) (2-1)=pB t 0 % 32*64+pB t 1 % 64:=rfl;rw[e];refine rg ?_;constructor
 ·rintro⟨a,b,c⟩;refine⟨a,fun k _ _=>?_,c,by unfold okR aOi;simp;omega⟩;have:k=1:=by omega
  subst this;exact b
 ·rintro⟨a,b,c,_⟩;exact⟨a,b 1 (by omega) (by omega),c⟩
theorem aPp (t:ByteArray) (h:pB t 0 / 16=14):KF t=tN t 3 (pB t 0 % 16) 2048:=by
 rw[aBi t h,tN];have e:yR t (pB t 0 % 16) (3-1)=(pB t 0 % 16*64+pB t 1 % 64)*64+pB t 2 % 64:=rfl;rw[e];refine rg ?_;constructor
 ·rintro⟨b,a,c,d,f⟩;refine⟨b,fun k _ _=>?_,d,f⟩;have:k=1\/k=2:=by omega
  rcases this with rfl|rfl
  ·exact a
  ·exact c
 ·rintro⟨b,a,c,d⟩;exact⟨b,a 1 (by omega) (by omega),a 2 (by omega) (by omega),c,d⟩
theorem aPq (t:ByteArray) (h:pB t 0 / 8=30):KF t=tN t 4 (pB t 0 % 8) 65536:=by
 rw[aFx t h,tN];have e:yR t (pB t 0 % 8) (4-1)=((pB t 0 % 8*64+pB t 1 % 64)*64+pB t 2 % 64)*64+pB t 3 % 64:=rfl;rw[e];refine rg ?_;constructor
 ·rintro⟨b,a,c,d,f,g⟩;refine⟨b,fun k _ _=>?_,f,g⟩;have:k=1\/k=2\/k=3:=by omega
  rcases this with rfl|rfl|rfl
  ·exact a
  ·exact c
  ·exact d
 ·rintro⟨b,a,c,d⟩;exact⟨b,a 1 (by omega) (by omega),a 2 (by omega) (by omega),a 3 (by omega) (by omega),c,d⟩
theorem ez (t:ByteArray) (v:Nat):∀j,yR t v j<(v+1)*64 ^ j
 |0=>by simp[yR]
 |j+1=>by
  have:=ez t v j;rw[yR,Oc,<-Nat.mul_assoc];omega
theorem bq (t:ByteArray) (w:World) (Q:0<t.size) (W:t.size<=maxLen):
 Calls prog 156 #[.string t] w fun e Y=>e=.returned (.tuple #[.int .i64 ((KF t).1:Nat),.int .i64 ((KF t).2:Nat)])/\Y=w:=by
 unfold maxLen at W;have hU:t[0].toNat<256:=t[0].toNat_lt;have a:Hid _:=rT t 0 Q;by_cases p:t[0].toNat<128
 ·have E:Hid (KF t=(t[0].toNat,1)):=by show _=_;rw[a.out];exact aKv t (by rw[<-a.out];exact p)
  rw[E.out];go_enter func156,ntmps156;go_wp2;go_ret2;exact⟨rfl,rfl⟩
 have c:(((t[0].toNat:Int) / 32==6)=true/\KF t=tN t 2 (t[0].toNat % 32) 128)\/((t[0].toNat:Int) / 32==6)=false/\((((t[0].toNat:Int) / 16==14)=true/\KF t=tN t 3 (t[0].toNat % 16) 2048)\/((t[0].toNat:Int) / 16==14)=false/\((((t[0].toNat:Int) / 8==30)=true/\KF t=tN t 4 (t[0].toNat % 8) 65536)\/((t[0].toNat:Int) / 8==30)=false/\KF t=(0,0))):=by
  by_cases z:t[0].toNat / 32=6
  ·exact Ba ⟨by simp;omega,by rw[a.out];exact aPo t (by rw[<-a.out];exact z)⟩
  refine Ea ⟨by simp;omega,?_⟩;by_cases s:t[0].toNat / 16=14
  ·exact Ba ⟨by simp;omega,by rw[a.out];exact aPp t (by rw[<-a.out];exact s)⟩
  refine Ea ⟨by simp;omega,?_⟩;by_cases u:t[0].toNat / 8=30
  ·exact Ba ⟨by simp;omega,by rw[a.out];exact aPq t (by rw[<-a.out];exact u)⟩
  ·exact Ea ⟨by simp;omega,by rw[a.out]at p z s u;exact aFy t (by omega) z s u⟩
 have g:=bA c;clear c;go_enter func156,ntmps156;go_upto_block 0 with fail;go_cut [5,6,7] (fun X G sl Z=>∃n v d:Nat,X=.int .i64 n/\G=.int .i64 v/\sl=.int .i64 d/\2<=n/\n<=4/\(v+1)*64 ^ (n-1)<=8388608/\KF t=tN t n v d/\d<=65536/\Z=w)
 case first=>
  rcases g.out with⟨N,E⟩|⟨N,⟨O,E⟩|⟨O,⟨P,E⟩|⟨P,E⟩⟩⟩
  all_goals
   have E:=bA E;clear g
  ·go_wp2;go_meet;exact⟨2,t[0].toNat % 32,128,rfl,by go_num,rfl,by omega,by omega,by omega,E.out,by omega,rfl⟩
  ·go_wp2;go_meet;exact⟨3,t[0].toNat % 16,2048,rfl,by go_num,rfl,by omega,by omega,by omega,E.out,by omega,rfl⟩
  ·go_wp2;go_meet;exact⟨4,t[0].toNat % 8,65536,rfl,by go_num,rfl,by omega,by omega,by omega,E.out,by omega,rfl⟩
  ·go_wp2;go_ret2;exact⟨vV (by simp[E.out]) (by simp[E.out]),rfl⟩
 clear g;obtain⟨n,v,d,rfl,rfl,rfl,T,U,L,H,S,rfl⟩:=hcut;have E:=bA H;have o:=bA L;clear H L;by_cases hz:t.size<n
 ·have b:Hid (KF t=(0,0)):=by show _=_;rw[E.out,tN,Ca (fun h=>by have:=h.1;omega)]
  go_wp2;go_ret2;exact⟨vV (by simp[b.out]) (by simp[b.out]),rfl⟩
 go_wp2;go_loop [6,8] (fun G i=>∃j V:Nat,1<=j/\j<=n/\i=.int .i64 j/\G=.int .i64 V/\V<8388608/\Hid (V=yR t v (j-1)/\∀k,k<j->1<=k->pB t k / 64=2)) (fun _ i=>n-(intOf i).toNat)
 case atStart=>exact⟨1,v,by omega,by omega,rfl,rfl,by have p:=o.out;have s:=Nat.le_mul_of_pos_right (v+1) (show 0<64 ^ (n-1) from We (by omega));omega,rfl,fun k K h=>absurd h (by omega)⟩
 case round=>
  obtain⟨j,V,B,hj,rfl,rfl,hV,q⟩:=hrel;by_cases F:j<n
  ·have C:j<t.size:=by omega
   have R:t[j].toNat<256:=t[j].toNat_lt;have x:Hid _:=rT t j C;by_cases J:t[j].toNat / 64=2
   ·have A:((t[j].toNat:Int) / 64 != 2)=false:=by simp;omega
    have I:Hid (yR t v j=V*64+t[j].toNat % 64):=by
     show _=_;obtain⟨m,rfl⟩:∃m,j=m+1:=⟨j-1,by omega⟩
     rw[yR,x.out,q.out.1];rfl
    go_wp2;refine⟨⟨j+1,V*64+t[j].toNat % 64,by omega,by omega,by go_num,by go_num,?_,I.out.symm,?_⟩,by simp[intOf];omega⟩
    ·have p:=ez t v j;rw[I.out]at p;have u:(v+1)*64 ^ j<=(v+1)*64 ^ (n-1):=Wg (Da _) (Zb (by omega) (by omega));have:=o.out;omega
    ·intro k K D;by_cases e:k=j
     ·subst e;rw[<-x.out];exact J
     ·exact q.out.2 k (by omega) D
   ·have A:((t[j].toNat:Int) / 64 != 2)=true:=by simp;omega
    have b:Hid (KF t=(0,0)):=by show _=_;rw[E.out,tN,Ca (fun h=>J (by rw[x.out];exact h.2.1 j F B))]
    go_wp2;go_ret2;exact⟨vV (by simp[b.out]) (by simp[b.out]),rfl⟩
  ·have y:Hid (j=n):=by show _=_;omega
   have M:Hid (yR t v (n-1)=V):=by show _=_;rw[<-y.out];exact q.out.1.symm
   have c:(V<d\/¬V<d/\1114111<V\/¬V<d/\¬1114111<V/\uA (V:Int) 55296 57343=true)/\KF t=(0,0)\/¬V<d/\¬1114111<V/\uA (V:Int) 55296 57343=false/\KF t=(V,n):=by
    rw[E.out,tN,M.out];by_cases f:V<d
    ·exact Ba ⟨Ba f,Ca (fun h=>by have:=h.2.2.1;omega)⟩
    by_cases l:1114111<V
    ·exact Ba ⟨Ea (Ba ⟨f,l⟩),Ca (fun h=>by have:=(ak h.2.2.2).1;omega)⟩
    by_cases r:55296<=V/\V<=57343
    ·exact Ba ⟨Ea (Ea ⟨f,l,by simp[uA];omega⟩),Ca (fun h=>(ak h.2.2.2).2 r)⟩
    ·exact Ea ⟨f,l,by simp[uA];omega,Ga ⟨by omega,fun k K=>q.out.2 k (by have:=y.out;omega),by omega,aOh ⟨by omega,r⟩⟩⟩
   clear y;rcases c with⟨f|⟨f,l⟩|⟨f,l,r⟩,b⟩|⟨f,l,r,b⟩
   all_goals
    have b:=bA b;go_wp2_with(go_at_call 41;refine(yC (by assumption) _).mono ?_;rintro e w1 ⟨rfl,hw⟩;replace hw:=hw.symm;subst hw);go_ret2;exact⟨vV (by simp[b.out]) (by simp[b.out]),rfl⟩
def MD (a:List Nat):List Int:=a.map fun(r:Nat)=>(r:Int)
theorem RF (a:List Nat):(MD a).length=a.length:=by simp[MD]
theorem aDj (a:List Nat) (r:Nat):MD (a++[r])=MD a++[(r:Int)]:=by simp[MD]
theorem aKb (r:Nat) (h:¬r<32):uA (r:Int) 127 159=ctl r:=by
 unfold uA ctl;rw[Nb];simp;omega
theorem zc (l:List Nat) (k:Nat) (h:k<l.length):l.any ctl=((l.take k).any ctl||(ctl l[k] ||(l.drop (k+1)).any ctl)):=by
 have e:=Xa k l;rw[Ra h]at e;rw[<-List.any_cons,<-Tf,e]
theorem LF (s:ByteArray) (w:World) (hs:s.size<=1000000000):
 Calls prog 120 #[.string s] w fun e w'=>e=.returned (.int .i64 (bP s:Nat))/\Below w.heap.size w w':=by
 obtain⟨ti,K,Y,Z,a0⟩:=jh;have HI:Hid _:=K;clear K;go_enter func120,ntmps120;go_wp2;go_loopw [3,4,5,6] (fun b0 x _ _ wr=>∃(p:Nat) (a:List Nat) (F:Option Addr) (M:Nat),p<=s.size/\a.length<=p/\Hid (xY s p a/\∀i (h:i<a.length),a[i]<=1114111)/\x=.int .i64 p/\b0=.slice F a.length M/\Hid (wr.ownsRow w.heap.size 3 1 (.slice F a.length M) a.length ((MD a).map (Value.int .i64)))/\Below w.heap.size w wr) (fun _ x _ _ _=>s.size-(intOf x).toNat)
 case atStart=>
  exact⟨0,[],_,_,Ha _,Ha _,⟨xY.start s,fun i h=>absurd h (by simp)⟩,rfl,rfl,World.ownsRow_made w #[] 0 (Da _) (by simp[maxLen]) (by simp),cA _ _⟩
 case round=>
  obtain⟨p,a,F,M,hp,hac,B,rfl,rfl,f,c⟩:=hrel;have hsz:=c.size;by_cases A:p<s.size
  ·have hz:(s.extract p s.size).size=s.size-p:=by simp
   have d:=fun W=>bq (s.extract p s.size) W (by omega) (by unfold maxLen;omega);rw[aOa]at d;by_cases y:Utf8.decode s p=(65533,1)
   ·rw[Ga y]at d;have v:Hid (∀W,Calls prog 156 #[.string (s.extract p s.size)] W fun e w'=>e=.returned (.tuple #[.int .i64 0,.int .i64 0])/\w'=W):=d;have D:Hid _:=B.out.1.bad A y;clear d y hz;go_wp2_with fail;refine(v.out _).mono ?_;rintro e w1 ⟨rfl,hw⟩;replace hw:=hw.symm;subst hw;go_wp2;go_ret;exact⟨iC (by rw[D.out];rfl),c⟩
   ·rw[Ca y]at d;have hpos:=dV s p;have hfit:=JR s p A y;have J:=yW s p;have S:Hid (xY s (p+(Utf8.decode s p).2) (a++[(Utf8.decode s p).1])):=B.out.1.step A y;generalize (Utf8.decode s p).1=R at *;generalize (Utf8.decode s p).2=N at *;have v:Hid _:=d;have hn0:((N:Int)==0)=false:=by simp;omega
    obtain⟨V,hr2⟩:=J;clear d y hz;go_wp2_with fail;refine(v.out _).mono ?_;rintro e w1 ⟨rfl,hw⟩;replace hw:=hw.symm;subst hw;go_wp2_with(at_builtin;refine wpList_append_lies _ rfl _ _ _ rfl w.heap.size 3 ti _ 1 8 underlying116 HI.out Y Z a0 rfl (by omega) (.slice F a.length M) a.length ((MD a).map (Value.int .i64)) rfl (by exact cB f.out (cA _ _)) ⟨wr.heap.size,0,none⟩ 1 1 [.int .i64 (R:Int)] rfl rfl (by exact World.news_of_block (heap_alloc_new _ _)) (by simp[Value.oneCell']) (by omega) (by simp[maxLen];omega) (by omega) (by simp;omega) (wr.heap.size+1) (by simp) ?_;intro g5 G w5 l n hat5 hlt5);have T:Below w.heap.size w w5:=(pA c (cA _ _)).grown n (by simp;omega) (fun q O=>by
     rcases f.out.2 with⟨U,_⟩|⟨g,cap,cur,U,hB,_⟩
     ·rw[U]at O;simp[Value.ownBlock]at O
     ·rw[U]at O;simp[Value.ownBlock]at O;omega)
    have X:(MD a).map (Value.int .i64)++[Value.int .i64 (R:Int)]=(MD (a++[R])).map (Value.int .i64):=by simp[aDj]
    have z:(a++[R]).length=a.length+1:=by simp
    rw[X,<-z]at l;refine⟨⟨p+N,a++[R],some ⟨g5,0,none⟩,G,by omega,by rw[z];omega,⟨S.out,fun i hi=>?_⟩,by go_num,by rw[z],l,T⟩,by simp[intOf];omega⟩;by_cases e:i<a.length
    ·rw[Re e];exact B.out.2 i e
    ·rw[Nf (by omega)];simp;exact V
  ·have D:Hid _:=B.out.1.done (by omega);by_cases t:128<a.length
   ·have m:Hid (bP s=43):=by show _=_;rw[D.out,gu,Ga t]
    go_wp2;go_ret;exact⟨iC (by rw[m.out];rfl),c⟩
   ·have m:Hid (bP s=if a.any ctl=true then 44 else 0):=by show _=_;rw[D.out,gu,Ca t]
    have HN:Hid (GH wr F (MD a)):=qX (by rw[RF];exact f.out);have HA:Hid _:=B.out.2;clear f B D;go_wp2;go_loop [8,35] (fun _ i=>∃k:Nat,k<=a.length/\i=.int .i64 k/\Hid ((a.take k).any ctl=false)) (fun _ i=>a.length-(intOf i).toNat)
    case atStart=>exact⟨0,Ha _,rfl,by show _=_;simp⟩
    case round=>
     obtain⟨k,hk,rfl,HK⟩:=hrel;by_cases j:k<a.length
     ·obtain⟨b,o,rfl,hb,c0⟩:=HN.out.at (i:=k) (by rw[RF];exact j)
      have hr:=HA.out k j;have e0:(MD a)[k]'(by rw[RF];exact j)=((a[k]:Nat):Int):=by simp[MD]
      rw[e0]at c0;have r:Hid (ctl a[k]=true->bP s=44):=fun h=>by rw[m.out,zc a k j,h];simp
      have Q:Hid (ctl a[k]=false->(a.take (k+1)).any ctl=false):=fun h=>by rw[La j,Tf,HK.out];simp[h]
      have P:=aKb a[k];clear e0;generalize a[k]=R at *;by_cases H:R<32
      ·have E:Hid (ctl R=true):=by show _=_;simp[ctl,H]
       clear P;go_wp2;go_ret;exact⟨iC (by rw[r.out E.out];rfl),c⟩
      ·have C:Hid _:=P H;clear P;by_cases I:ctl R=true
       ·have u:Hid _:=C.out.trans I;have L:Hid _:=I;clear I;go_wp2_with fail;refine(fD _ _ _ _).mono ?_;rintro e w1 ⟨rfl,hw⟩;rw[u.out];replace hw:=hw.symm;subst hw;go_wp2;go_ret;exact⟨iC (by rw[r.out L.out];rfl),c⟩
       ·have L:Hid (ctl R=false):=by show _=_;simpa using I
        have u:Hid _:=C.out.trans L.out;clear I;go_wp2_with fail;refine(fD _ _ _ _).mono ?_;rintro e w1 ⟨rfl,hw⟩;rw[u.out];replace hw:=hw.symm;subst hw;go_wp2;exact⟨⟨k+1,by omega,by go_num,Q.out L.out⟩,by simp[intOf];omega⟩
     ·have HV:Hid (bP s=0):=by
       show _=_;have:=HK.out;rw[Pa (by omega)]at this;rw[m.out,this];rfl
      go_wp2;go_ret;exact⟨iC (by rw[HV.out];rfl),c⟩
def lD (a:List eB):List Value:=a.flatMap fun x=>[.string x.name,.string x.value]
theorem tG (a b:List eB):lD (a++b)=lD a++lD b:=by simp[lD]
theorem vP (a:List eB):(lD a).length=a.length*2:=by
 induction a with
 |nil=>rfl
 |cons f r b=>simp[lD]at *;omega
theorem jg:∃i,prog.info? 199=some i/\i.zero=some (.agg #[.string ByteArray.empty,.string ByteArray.empty])/\i.size=2/\i.bytes=32:=by
 obtain⟨i,b,a⟩:=Ib.1 zQ;simp only[Hb]at a;exact⟨i,b,a.1,a.2.1,a.2.2⟩
theorem aCf (W:World) (x:Obj) (cs:Array Value) (t:TypeId):∀j u,cs.toList[j]?=some u->((W.alloc x).alloc (.cells cs t)).cell? ((⟨W.heap.size+1,0,none⟩:Addr).add j)=some u:=
 World.news_of_block (fr:=(0,0)) (by have h:=heap_alloc_new (W.alloc x) (.cells cs t);simpa using h)
theorem jr (l:eB):dS l=l.value.toList.isEmpty:=by
 have e:ByteArray.empty.toList=[]:=by rw[ByteArray.toList_eq];rfl
 unfold dS;rw[e];cases l.value.toList<;>rfl
theorem OV (b:List eB):∀u∈lD b,u.oneCell'=true:=by
 intro u a;simp only[lD,Eg,Cb,List.not_mem_nil,or_false]at a;obtain⟨f,_,rfl|rfl⟩:=a<;>rfl
theorem aFn {w:World} {g:Nat} {a:List eB} (h:∀j u,(lD a)[j]?=some u->w.cell? ⟨g,j,none⟩=some u) (p:Nat):∀j u,(lD (a.drop p))[j]?=some u->w.cell? ⟨g,p*2+j,none⟩=some u:=by
 intro j u b;refine h _ _ ?_;by_cases d:p<=a.length
 ·have e:lD a=lD (a.take p)++lD (a.drop p):=by rw[<-tG,Xa]
  have c:(lD (a.take p)).length=p*2:=by rw[vP,Ta];omega
  rw[e,Rc (by omega),c,Nat.add_sub_cancel_left];exact b
 ·rw[Pb (by omega)]at b;simp[lD]at b
theorem qy {a:List eB} {p:Nat}:∀(j:Nat) (u:Value),(lD (a.take p))[j]?=some u->(lD a)[j]?=some u:=by
 intro j u b;have e:lD a=lD (a.take p)++lD (a.drop p):=by rw[<-tG,Xa]
 have c:j<(lD (a.take p)).length:=(Va.1 b).1;rw[e,Cd c];exact b
theorem kQ {w:World} {B:Nat} {e:TypeId} {g i:Nat} {a:List eB} (h:w.ownsRow B e 2 (.slice (some ⟨g,0,none⟩) a.length i) a.length (lD a)):a.length<=i/\g<w.heap.size/\B<=g/\∀j u,(lD a)[j]?=some u->w.cell? ⟨g,j,none⟩=some u:=by
 rcases h.2 with⟨b,_⟩|⟨p,f,d,b,l,k,m,_,_,o⟩
 ·simp at b
 ·simp only[Value.slice.injEq,Ja,Addr.mk.injEq,Ub]at b;obtain⟨rfl,_,rfl⟩:=b;refine⟨m,aA k,l,fun j u c=>?_⟩;rw[cell_of_row w g j d _ _ k,<-Sd];rw[<-o]at c;have n:=(Va.1 c).1;rw[Ta]at n;rw[Eb (by omega)]at c;exact c
theorem og {w:World} {g:Nat} {a:List eB} (h:∀j u,(lD a)[j]?=some u->w.cell? ⟨g,j,none⟩=some u) (p:Nat):dW w (some ⟨g,0,none⟩) p (lD (a.take p)):=
 Ea ⟨_,rfl,fun j u b=>by rw[ND,Oa];exact h _ _ (qy j u b)⟩
theorem aIm {w:World} {g b:Nat} {a:List eB} (h:∀j u,(lD a)[j]?=some u->w.cell? ⟨g,j,none⟩=some u) (p:Nat) (d:a.length<=b):dW w (if b=p then some ⟨g,0,none⟩ else some ⟨g,p*2,none⟩) (a.length-p) (lD (a.drop p)):=by
 by_cases e:b=p
 ·exact Ba (by omega)
 ·rw[Ca e];exact Ea ⟨_,rfl,fun j u c=>by rw[ND];exact aFn h p j u c⟩
theorem bu {w:World} {g:Nat} {x y:Value} {t:TypeId} (h:w.heap[g]?=some (.cells #[x,y] t (0,0))):dW w (some ⟨g,0,none⟩) 1 [x,y]:=
 Ea ⟨_,rfl,World.news_of_block (cs:=#[x,y]) h⟩
theorem uW {W w:World} {g:Nat} {a:List eB} (h:∀j u,(lD a)[j]?=some u->W.cell? ⟨g,j,none⟩=some u) (c:g<W.heap.size) (b:Below W.heap.size W w):∀j u,(lD a)[j]?=some u->w.cell? ⟨g,j,none⟩=some u:=
 fun j u d=>(b.cell c).trans (h j u d)
theorem yo (W:World) (x y:Obj):((W.alloc x).alloc y).drew.heap[W.heap.size+1]?=some y:=by
 have h:=heap_alloc_new (W.alloc x) y;have e:(W.alloc x).heap.size=W.heap.size+1:=by simp
 rw[e]at h;exact h
theorem yq (W:World) (x y:Obj):((W.alloc x).alloc y).drew.heap[W.heap.size]?=some x:=by
 have h:=heap_alloc_new W x;have a:=(cA (W.alloc x) y).block W.heap.size (by simp);exact a.trans h
theorem aOr (W:World) (t:TypeId):(W.alloc (.cells #[] t)).drew.ownsRow W.heap.size t 2 (.slice (some ⟨W.heap.size,0,none⟩) 0 0) 0 []:=
 ⟨rfl,Ea ⟨W.heap.size,0,#[],rfl,Da _,heap_alloc_new _ _,Da _,Ha _,rfl,rfl⟩⟩
theorem aOs (W:World) (t:TypeId) (x:Obj):((W.alloc (.cells #[] t)).alloc x).drew.ownsRow W.heap.size t 2 (.slice (some ⟨W.heap.size,0,none⟩) 0 0) 0 []:=
 ⟨rfl,Ea ⟨W.heap.size,0,#[],rfl,Da _,yq _ _ _,Da _,Ha _,rfl,rfl⟩⟩
theorem aOt (W:World) (t:TypeId) (x:Obj):((W.alloc x).alloc (.cells #[] t)).drew.ownsRow W.heap.size t 2 (.slice (some ⟨W.heap.size+1,0,none⟩) 0 0) 0 []:=
 ⟨rfl,Ea ⟨W.heap.size+1,0,#[],rfl,by omega,yo _ _ _,Da _,Ha _,rfl,rfl⟩⟩
theorem BP (s:ByteArray) (w:World) (f:s.size<=1000000000):
 Calls prog 86 #[.string s] w fun e b=>e=.returned (.string (xV s))/\Below w.heap.size w b:=by
 have d:Hid (∀W,Calls prog 85 #[.int .i64 1,.int .i64 (s.size:Nat)] W fun e b=>e=.returned (.string (aB 1 (s.size:Nat)))/\Below W.heap.size W b):=fun W=>aE 1 (s.size:Nat) W (by omega) (by omega) (by omega);have g:=bB 1 (s.size:Nat);unfold xV;generalize aB 1 (s.size:Nat)=N at *;go_enter func86,ntmps86;go_wp2_with fail;refine(d.out _).mono ?_;rintro e h ⟨rfl,a⟩;have c:Hid _:=a;clear a;go_wp2;go_ret;exact⟨rfl,c.out⟩
theorem bY (s:ByteArray) (w:World) (f:s.size<=1000000000):
 Calls prog 87 #[.string s] w fun e b=>e=.returned (.string (nG s))/\Below w.heap.size w b:=by
 have d:Hid (∀W,Calls prog 85 #[.int .i64 2,.int .i64 (s.size:Nat)] W fun e b=>e=.returned (.string (aB 2 (s.size:Nat)))/\Below W.heap.size W b):=fun W=>aE 2 (s.size:Nat) W (by omega) (by omega) (by omega);have g:=bB 2 (s.size:Nat);unfold nG;generalize aB 2 (s.size:Nat)=N at *;go_enter func87,ntmps87;go_wp2_with fail;refine(d.out _).mono ?_;rintro e h ⟨rfl,a⟩;have c:Hid _:=a;clear a;go_wp2;go_ret;exact⟨rfl,c.out⟩
theorem UA {P:Program} (w:World) {o:Oper} {a:Act} {K:Act->World->Prop} {Q:Exit->Act->World->Prop} (v:o.guard=none) (s x:Operand) (t:TypeId)
 (O:o.op=.call { callee:=.builtin .append,args:=#[s,x],argTypes:=#[t,t] })
 (base:Nat) (e:TypeId) (i:TypeInfo) (z:Value) (b f:Nat) (S:P.underlying t=some (.slice e)) (M:P.info? e=some i) (U:i.zero=some z)
 (p:i.size=b) (G:i.bytes=f) (I:z.cells.size=b) (H:0<b)
 (r n D:Nat) (J:List Value) (R:a.eval s=.slice (some ⟨r,0,none⟩) n D) (y:w.ownsRow base e b (.slice (some ⟨r,0,none⟩) n D) n J)
 (C:Option Addr) (m c:Nat) (d:List Value) (T:a.eval x=.slice C m c) (N:d.length=m*b) (A:dW w C m d) (L:∀u∈d,u.oneCell'=true)
 (F:n+m<=maxLen) (j:(n+m)*f<=140737488355328) (l:base<=w.heap.size)
 (h:∀g q B,B.ownsRow base e b (.slice (some ⟨g,0,none⟩) (n+m) q) (n+m) (J++d)->Below base w B->(∀k,k<w.heap.size->k≠r->B.heap[k]?=w.heap[k]?)->base<=g->(g=r\/g=w.heap.size)->g<B.heap.size->K (a.put o.dst (.slice (some ⟨g,0,none⟩) (n+m) q)) B):
 Oper.wp P o a w K Q:=by
 have hw:Region.wanted o (yielded #[] a.tmps)=true:=by simp[Region.wanted,v]
 have:=jP (P:=P) w (ops:=#[]) (E:=False) (Q:=Q) v s x t O base e i z b f S M U p G I H r n D J R y C m c d T N A L F j l h;rwa [Ga hw]at this
