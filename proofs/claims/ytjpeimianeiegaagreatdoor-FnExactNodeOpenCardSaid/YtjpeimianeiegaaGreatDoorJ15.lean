import Derived.Test.YtjpeimianeiegaaGreatDoorJ07
import Derived.Shelf.Spec.SlicesInsert
import Derived.Lib.AppendZerosOnto
import Derived.Test.YtjpeimianeiegaaGreatDoorJ13
set_option maxRecDepth 100000
set_option maxHeartbeats 4000000
namespace Go.Proofs.YtjpeimianeiegaaGreatDoor
open Go.RowKit Tryz
structure jC (S:Nat→Prop) (w w':World):Prop where
 os:w'.os=w.os
 tape:w'.tape=w.tape
 output:w'.output=w.output
 size:w.heap.size≤w'.heap.size
 block:∀k,k<w.heap.size→¬S k→w'.heap[k]?=w.heap[k]?
theorem jC.refl (S:Nat->Prop) (w:World):jC S w w:=⟨rfl,rfl,rfl,Da _,fun _ _ _=>rfl⟩
theorem jC.trans {S:Nat->Prop} {a b c:World} (h:jC S a b) (k:jC S b c):jC S a c:=
 ⟨k.os.trans h.os,k.tape.trans h.tape,k.output.trans h.output,Ma h.size k.size,fun i e d=>(k.block i (Ab e h.size) d).trans (h.block i e d)⟩
theorem jC.of {S:Nat->Prop} {w a:World} (h:Below w.heap.size w a):jC S w a:=⟨h.os,h.tape,h.output,h.size,fun k b _=>h.block k b⟩
theorem jC.mono {S T:Nat->Prop} {w a:World} (h:jC S w a) (c:∀k,S k->T k):jC T w a:=⟨h.os,h.tape,h.output,h.size,fun k b d=>h.block k b (fun x=>d (c k x))⟩
theorem jC.below {S:Nat->Prop} {B:Nat} {w a:World} (h:jC S w a) (b:∀k,S k->B<=k) (d:B<=w.heap.size):Below B w a:=
 ⟨h.os,h.tape,h.output,h.size,fun k c=>h.block k (by omega) (fun x=>by have:=b k x;omega)⟩
theorem jC.but {g:Nat} {w a:World} (h:eD g w a):jC (fun k=>k=g) w a:=⟨h.os,h.tape,h.output,h.size,h.block⟩
theorem jC.setCell {S:Nat->Prop} {a w:World} (h:jC S a w) {g:Nat} (b:S g) (o:Nat) (v:Value):jC S a (w.setCell ⟨g,o,none⟩ v):=
 h.trans ⟨rfl,rfl,rfl,by simp[World.setCell],fun k _ c=>Below.heap_setCell _ _ _ _ (fun e=>c (by rw[e];exact b))⟩
theorem jC.setCells {S:Nat->Prop} {g:Nat} (b:S g):∀(c:List Value) (o:Nat) {a w:World},jC S a w->jC S a (w.setCells g o c)
 |[],_,_,_,h=>h
 |v::r,o,_,_,h=>jC.setCells b r (o+1) (h.setCell b o v)
theorem jC.drew {S:Nat->Prop} {a w:World} (h:jC S a w):jC S a w.drew:=⟨h.os,h.tape,h.output,h.size,h.block⟩
theorem jC.grown {S:Nat->Prop} {w a:World} {row:Option Nat} (h:w.grownBy a row) (d:∀g,row=some g->S g):jC S w a:=
 ⟨h.os,h.tape,h.output,h.size,fun k c b=>h.block k c (fun e=>b (d k e.symm))⟩
theorem lA.keeps {S:Nat->Prop} {w c:World} {g:Nat} {a:Array Value} {t:TypeId} (h:lA w g a t) (d:jC S w c) (b:¬S g):lA c g a t:=(d.block g (aA h) b).trans h
theorem lA.setCells {g:Nat} {t:TypeId}:∀(f:List Value) (o:Nat) {w:World} {a:Array Value},lA w g a t->∃b,lA (w.setCells g o f) g b t/\b.size=a.size
 |[],_,_,a,h=>⟨a,h,rfl⟩
 |v::r,o,_,a,h=>by
  obtain⟨c,d,e⟩:=lA.setCells r (o+1) (h.set o v);exact⟨c,d,by rw[e];simp⟩
theorem aQ {w:World} {B g n a:Nat} {b:Array Value} {e:TypeId} {c:List Value} (f:B<=g) (h:lA w g b e) (m:n<=a) (l:a<=maxLen) (o:b.size=a*3) (p:c.length=n*3)
 (i:∀j u,c[j]?=some u->w.cell? ⟨g,j,none⟩=some u):w.ownsRow B e 3 (.slice (some ⟨g,0,none⟩) n a) n c:=by
 refine⟨p,Ea ⟨g,a,b,rfl,f,h,m,l,o,?_⟩⟩;apply List.ext_getElem?;intro j;by_cases k:j<n*3
 ·rw[Eb k];have d:=i j c[j] (Ka (by omega));rw[h.cell]at d;rw[Sd,d,Ka (by omega)]
 ·rw[Td (by simp;omega),Td (by omega)]
theorem sP {w:World} {B g n m a:Nat} {e:TypeId} {l:List Value} (h:w.ownsRow B e 3 (.slice (some ⟨g,0,none⟩) m a) n l):
 ∃b,B<=g/\m=n/\lA w g b e/\n<=a/\a<=maxLen/\b.size=a*3/\∀j u,l[j]?=some u->w.cell? ⟨g,j,none⟩=some u:=by
 rcases h.2 with⟨d,_⟩|⟨t,i,b,d,o,k,q,p,r,s⟩
 ·exact absurd d (by simp)
 ·simp only[Value.slice.injEq,Ja,Addr.mk.injEq,Ub]at d;obtain⟨rfl,rfl,rfl⟩:=d;refine⟨b,o,rfl,k,q,p,r,fun j u c=>?_⟩;rw[lA.cell k];rw[<-s]at c;have f:=(Va.1 c).1;rw[Ta]at f;rw[Eb (by omega)]at c;simpa using c
theorem iO {P:Program} (w:World) (n B C d:TypeId) (b o c g:Nat) (a:Addr) (e l k f:Nat) (cs:List Value)
 (A:P.underlying n=some (.slice d)) (z:(P.info? d).map (·.size)=some f) (t:Nat.min e c=k) (x:cs.length=k*f)
 (h:∀j v,cs[j]?=some v->w.cell? (a.add j)=some v) (q:∀j,j<cs.length->(w.cell? ⟨b,o+j,none⟩).isSome=true) (r:∀j,j<cs.length->w.frozen? ⟨b,o+j,none⟩=false) (p:∀v∈cs,v.oneCell'=true):
 (Builtin.copy_ #[n,B] C #[.slice (some ⟨b,o,none⟩) c g,.slice (some a) e l]).run P w=.ok (goInt k) (w.setCells b o cs):=by
 have u:=run_loadCells_list (P:=P) w a cs h;have m:=run_storeCells_cells (P:=P) b o cs 0 w (by simpa using q) (by simpa using r) p;obtain⟨i,y,s⟩:=Ib.1 z;simp[Builtin.copy_,run_underlying A,Builtin.lenOf,Builtin.firstCells,sizeOf,typeInfo,y,s,t,<-x,u,m]
def eY:List Value:=[.string ByteArray.empty,.string ByteArray.empty,.int .i64 0]
theorem TF {P:Program} (w:World) (t m e:TypeId) (i:TypeInfo) (k:P.underlying t=some (.slice e)) (h:P.info? e=some i) (l:i.zero=some (.agg #[.string ByteArray.empty,.string ByteArray.empty,.int .i64 0]))
 (b o c:Nat) (f:∀j,j<3->(w.cell? ⟨b,o+j,none⟩).isSome=true) (g:∀j,j<3->w.frozen? ⟨b,o+j,none⟩=false):
 (Builtin.clear_ #[t] m #[.slice (some ⟨b,o,none⟩) 1 c]).run P w=.ok (.tuple #[]) (w.setCells b o eY):=by
 have a:=run_storeCells_cells (P:=P) b o eY 0 w (by simpa[eY]using f) (by simpa[eY]using g) (by simp[eY,Value.oneCell']);have d:(Builtin.zeroCells (Value.agg #[.string ByteArray.empty,.string ByteArray.empty,.int .i64 0]).cells 1).toList=eY:=by kernel_rfl
 simp[Builtin.clear_,run_underlying k,zeroValue,typeInfo,h,l,d,a]
theorem qu (a:List dA) (i:Nat):flat (a.eraseIdx i)=flat (a.take i)++flat (a.drop (i+1)):=by
 rw[List.eraseIdx_eq_take_drop_succ,uG]
theorem OW (a:List dA) (i:Nat):flat a=flat (a.take i)++flat (a.drop i):=by
 rw[<-uG,Xa]
theorem yS (a:List dA) (i j:Nat) (h:i<=a.length):(flat (a.drop i))[j]?=(flat a)[i*3+j]?:=by
 have b:(flat (a.take i)).length=i*3:=by rw[pD,Ta];omega
 rw[OW a i,Rc (by omega),b];congr 1;omega
theorem dO (a:List dA) (i j:Nat) (h:i<=a.length) (b:j<i*3):(flat (a.take i))[j]?=(flat a)[j]?:=by
 have c:(flat (a.take i)).length=i*3:=by rw[pD,Ta];omega
 rw[OW a i,Cd (by omega)]
def dK (a:List dA) (i:Nat) (f:dA):List dA:=a.take i++f::a.drop i
theorem sO (a:List dA) (i:Nat) (f:dA) (h:i<=a.length):(dK a i f).length=a.length+1:=by simp[dK];omega
theorem VL (a:List dA) (i:Nat) (f:dA):flat (dK a i f)=flat (a.take i)++(flat [f]++flat (a.drop i)):=by
 rw[dK,uG,show f::a.drop i=[f]++a.drop i from rfl,uG]
def CA (w:World) (a:Nat) (f:dA):Prop:=lA w a #[.string f.name,.string f.data,.int .i64 f.y9] 98
theorem CA.cells {w:World} {a:Nat} {f:dA} (h:CA w a f):∀j u,(flat [f])[j]?=some u->w.cell? ⟨a,j,none⟩=some u:=fun j u b=>by
 rw[lA.cell h,<-b];simp[flat]
theorem VM {w:World} {g i n:Nat} {b:List dA} {f:dA} (p:b.length=n) (o:i<=n) (e:∀j u,j<i*3->(flat b)[j]?=some u->w.cell? ⟨g,j,none⟩=some u) (h:∀j u,(flat [f])[j]?=some u->w.cell? ⟨g,i*3+j,none⟩=some u)
 (k:∀j u,(flat (b.drop i))[j]?=some u->w.cell? ⟨g,(i+1)*3+j,none⟩=some u):∀j u,(flat (dK b i f))[j]?=some u->w.cell? ⟨g,j,none⟩=some u:=by
 intro j u a;have c:(flat (b.take i)).length=i*3:=by rw[pD,Ta];omega
 have l:(flat [f]).length=3:=rfl;rw[VL]at a;by_cases d:j<i*3
 ·rw[Cd (by omega),dO b i j (by omega) d]at a;exact e j u d a
 ·rw[Rc (by omega),c]at a;by_cases m:j-i*3<3
  ·rw[Cd (by omega)]at a;have:=h _ _ a;rwa [show i*3+(j-i*3)=j by omega]at this
  ·rw[Rc (by omega),l]at a;have:=k _ _ a;rwa [show(i+1)*3+(j-i*3-3)=j by omega]at this
theorem ZP (B g a i F:Nat) (d:List dA) (f:dA) (w:World) (D:w.ownsRow B 98 3 (.slice (some ⟨g,0,none⟩) d.length a) d.length (flat d)) (p:CA w F f) (Q:F≠g) (hi:i<d.length) (s:d.length+1<=a) (N:d.length<=1048576):
 Calls prog 160 #[.slice (some ⟨g,0,none⟩) d.length a,.int .i64 i,.slice (some ⟨F,0,none⟩) 1 1] w fun e w'=>
  e=.returned (.slice (some ⟨g,0,none⟩) (d.length+1) a)/\w'.ownsRow B 98 3 (.slice (some ⟨g,0,none⟩) (d.length+1) a) (d.length+1) (flat (dK d i f))/\jC (fun k=>k=g) w w':=by
 obtain⟨K,hB,_,b,W,H,y,I⟩:=sP D;obtain⟨i0,M,Y,R,Z⟩:=tJ;obtain⟨n,T⟩:∃n,d.length=n:=⟨_,rfl⟩
 rw[T]at hi s N W |-
 have l:(prog.info? 98).map (·.size)=some 3:=by rw[M];simp[R]
 have t:∀w,(Go.sizeOf 98).run prog w=.ok 3 w:=fun w=>by simp[sizeOf,typeInfo,M,R]
 have c:∀j,j<a*3->(w.cell? ⟨g,j,none⟩).isSome=true:=fun j h=>by obtain⟨v,p⟩:=b.there (j:=j) (by omega);rw[p];rfl
 have X:∀lb U,(callFunc 208 #[.slice (some ⟨F,0,none⟩) 1 1,.slice (some ⟨g,(i+1)*3,none⟩) lb U]).run prog w=.ok (.value (.bool false)) w:=fun lb U=>by
  rw[run_callFunc_extern func208 (by kernel_rfl) (by kernel_rfl) (by kernel_rfl) (e:=Extern.SlicesOverlaps.overlaps #[28,28] #[4]) (by kernel_rfl),
   Lib.run_overlaps_apart w 28 4 98 underlying28 3 t ⟨F,0,none⟩ ⟨g,(i+1)*3,none⟩ 1 1 lb U Q 98 98 3 K.size (by unfold CA lA at p;simp[World.shape?,p]) (by unfold lA at b;simp[World.shape?,b]) (by omega) (lA.free p _) (lA.free p _)]
  rfl
 obtain⟨z,r⟩:∃z,z=flat (d.drop i):=⟨_,rfl⟩
 have C:z.length=(n-i)*3:=by rw[r,pD,Lc,T]
 have A:∀J G sc,(Builtin.copy_ #[28,28] J #[.slice (some ⟨g,(i+1)*3,none⟩) (n-i) G,.slice (some ⟨g,i*3,none⟩) (n+1-i) sc]).run prog w.drew=.ok (goInt ((n-i:Nat):Int)) (w.drew.setCells g ((i+1)*3) z):=fun J G sc=>
  iO w.drew _ _ J 98 g ((i+1)*3) (n-i) G ⟨g,i*3,none⟩ (n+1-i) sc (n-i) 3 z underlying28 l (by simp only[Nat.min_def];split<;>omega) C
   (fun j v h=>by rw[Addr.add_lit];exact I _ v (by rwa [r,yS d i j (by omega)]at h))
   (fun j h=>c _ (by omega)) (fun j h=>b.free _) (by rw[r];exact vE _)
 obtain⟨q,m⟩:∃q,q=w.drew.setCells g ((i+1)*3) z:=⟨_,rfl⟩
 obtain⟨cur1,o,x⟩:=lA.setCells z ((i+1)*3) (show lA w.drew g K 98 from b);rw[<-m]at o A;have P:CA q F f:=by rw[m];exact lA.keeps (S:=fun k=>k=g) p (jC.setCells (S:=fun k=>k=g) rfl _ _ (jC.refl _ _).drew) Q
 have L:∀J G,(Builtin.copy_ #[28,28] J #[.slice (some ⟨g,i*3,none⟩) (n+1-i) G,.slice (some ⟨F,0,none⟩) 1 1]).run prog q=.ok (goInt 1) (q.setCells g (i*3) (flat [f])):=fun J G=>
  iO q _ _ J 98 g (i*3) (n+1-i) G ⟨F,0,none⟩ 1 1 1 3 (flat [f]) underlying28 l (by simp only[Nat.min_def];split<;>omega) rfl
   (fun j v h=>by rw[Addr.add_lit,Oa];exact P.cells j v h)
   (fun j h=>by obtain⟨v,p⟩:=o.there (j:=i*3+j) (by rw[x,y];simp[flat]at h;omega);rw[p];rfl) (fun j h=>o.free _) (vE _)
 obtain⟨cur2,V,O⟩:=lA.setCells (flat [f]) (i*3) o;have HK:Hid (jC (fun k=>k=g) w (q.setCells g (i*3) (flat [f]))):=by
  show jC _ _ _;rw[m];exact jC.setCells (S:=fun k=>k=g) rfl _ _ (jC.setCells (S:=fun k=>k=g) rfl _ _ (jC.refl _ _).drew)
 have HO:Hid ((q.setCells g (i*3) (flat [f])).ownsRow B 98 3 (.slice (some ⟨g,0,none⟩) (n+1) a) (n+1) (flat (dK d i f))):=by
  refine aQ hB V s H (by rw[O,x,y]) (by rw[pD,sO _ _ _ (by omega),T]) (VM T (by omega) ?_ ?_ ?_)
  ·intro j u h E;rw[World.cell?_setCells_out g (flat [f]) (i*3) q _ (fun _ _=>Ba h),m,World.cell?_setCells_out g z ((i+1)*3) _ _ (fun _ _=>Ba (by show j<_;omega))];exact I j u E
  ·intro j u E;have h:=(Va.1 E).1;rw[World.cell?_setCells_in g (flat [f]) (i*3) q (fun k hk=>by obtain⟨v,p⟩:=o.there (j:=i*3+k) (by rw[x,y];simp[flat]at hk;omega);rw[p];rfl) j h,<-E,Ka]
  ·intro j u E;rw[<-r]at E;have h:=(Va.1 E).1;rw[World.cell?_setCells_out g (flat [f]) (i*3) q _ (fun _ _=>Ea (by simp[flat];omega)),m,
    World.cell?_setCells_in g z ((i+1)*3) w.drew (fun k hk=>c _ (by omega)) j h,<-E,Ka]
 have Z:¬((i:Int)=(n:Int)):=by omega
 have hz3:¬((a:Int)<(n:Int)+1):=by omega
 have hw1:IntKind.i64.wrap ((i:Int)+1)=(i:Int)+1:=by rw[IntKind.wrap_i64];omega
 have hbd:(0:Int)<=(i:Int)+1:=by omega
 have hin:i<=n:=by omega
 have htn:((i:Int)+1).toNat=i+1:=by omega
 have hbe:¬(a=i+1):=by omega
 have hb3:(i:Int)+1<=(n:Int)+1:=by omega
 have hb4:¬(a=i):=by omega
 have hb5:(i:Int)<=(n:Int)+1:=by omega
 have hb6:((n:Int)+1).toNat=n+1:=by omega
 have hcm2:(a:Int)<=9223372036854775807:=by unfold maxLen at H;omega
 clear D b o I c p P y x O r C m Y t l H;go_enter func160,ntmps160;go_wp2_with(simp only[X]);go_region_law (refine step_copy_runI rfl _ _ 28 28 rfl _ _ (by simp[Act.eval,Act.put]) (by simp[Act.eval,Act.put]) (A _ _ _) ?_)
 go_wp2_with(at_builtin;refine wpList_copy_runI _ rfl _ _ 28 28 rfl _ _ rfl rfl (L _ _) ?_);go_ret;exact⟨rfl,HO.out,HK.out⟩
theorem aOk (a b:Nat) (c:a<4611686018427387904) (d:b<4611686018427387904):bits .or .i64 (a:Int) (b:Int)=((a||| b:Nat):Int):=by
 have e:a||| b<2 ^ 62:=Nat.or_lt_two_pow (by omega) (by omega)
 show IntKind.i64.wrap ((BitVec.ofInt 64 (a:Int) ||| BitVec.ofInt 64 (b:Int)).toNat:Int)=_;rw[BitVec.toNat_or,Gc,Gc,Bc,Bc,Hc (by omega),Hc (by omega)];simp only[IntKind.wrap,IntKind.bits,IntKind.signed];simp;omega
theorem aOl (a b:Nat) (e:b<256) (d:a<281474976710656):bits .or .i64 ((a:Int)*256) (b:Int)=((a*256+b:Nat):Int):=by
 have c:a*256||| b=a*256+b:=by
  have:=Ef (i:=8) (b:=b) (by omega) a;rw[show 2 ^ 8*a=a*256 by omega]at this;exact this.symm
 rw[<-c];exact aOk (a*256) b (by omega) (by omega)
theorem gX (s:ByteArray) (w:World) (l:s.size<=7):
 Calls prog 241 #[.string s] w fun e g=>e=.returned (.int .i64 (mL s.data.toList:Nat))/\g=w:=by
 go_enter func241,ntmps241;go_wp2;go_loopw [3,4,7] (fun x _ c wr=>∃(k X:Nat),k<=s.size/\c=.int .i64 k/\x=.int .i64 X/\X<256 ^ k/\Hid (X=mL (s.data.toList.take k))/\wr=w) (fun _ _ c _=>s.size-(intOf c).toNat)
 case atStart=>exact⟨0,0,by omega,rfl,rfl,by simp,by show _=_;simp[mL],rfl⟩
 case round=>
  obtain⟨k,X,i,rfl,rfl,d,b,rfl⟩:=hrel;by_cases a:k<s.size
  ·have h:=(s[k]).toNat_lt;have f:X<281474976710656:=Ab d (Zb (n:=256) (by omega) (show k<=6 by omega));have j:=aOl X (s[k]).toNat (by omega) (by omega);go_wp2;refine⟨⟨k+1,X*256+(s[k]).toNat,by omega,by go_num,?_,?_,?_,trivial⟩,by simp[intOf];omega⟩
   ·go_num
   ·rw[Oc];omega
   ·show _=_;rw[oQ s k a,sW,<-b.out]
  ·have e:k=s.size:=by omega
   subst e;go_wp2;go_ret;refine⟨?_,rfl⟩;show Ending.returned (.int .i64 (X:Nat))=_;rw[b.out,Pa (by simp)]
def yk:ByteArray:=⟨#[116,104,101,32,100,105,115,107,32,105,115,32,100,111,119,110]⟩
def cu:ByteArray:=⟨#[116,104,101,32,111,112,101,114,97,116,105,111,110,32,102,97,105,108,101,100]⟩
def aIt:ByteArray:=⟨#[116,104,101,32,100,105,115,107,32,105,115,32,102,117,108,108]⟩
def RP:ByteArray:=⟨#[116,104,101,32,102,105,108,101,32,105,115,32,109,105,115,115,105,110,103]⟩
def cn:ByteArray:=⟨#[116,104,101,32,102,105,108,101,32,101,120,105,115,116,115]⟩
def aPa:ByteArray:=⟨#[116,104,101,32,111,112,101,114,97,116,105,111,110,32,105,115,32,105,109,112,114,111,112,101,114]⟩
def iG (a:Nat):Value:=match a with
 |0=>.nilIface
 |1=>.iface 139 (.string yk)
 |2=>.iface 139 (.string cu)
 |3=>.iface 139 (.string aIt)
 |4=>.iface 139 (.string RP)
 |5=>.iface 139 (.string cn)
 |_=>.iface 139 (.string aPa)
theorem aJy (w:World):Calls prog 109 #[.nilIface] w fun e a=>e=.returned (.int .i64 0)/\a=w:=by
 go_enter func109,ntmps109;go_wp2;go_ret;exact⟨rfl,rfl⟩
theorem zq (w:World):Calls prog 109 #[.iface 139 (.string yk)] w fun e a=>e=.returned (.int .i64 1)/\a=w:=by
 go_enter func109,ntmps109;go_wp2_with fail;refine(gD _ _ true (by kernel_rfl) _).mono ?_;rintro e a ⟨rfl,rfl⟩;go_wp2;go_ret;exact⟨rfl,rfl⟩
theorem fw (w:World):Calls prog 109 #[.iface 139 (.string cu)] w fun e a=>e=.returned (.int .i64 2)/\a=w:=by
 go_enter func109,ntmps109;go_wp2_with fail;refine(gD _ _ false (by kernel_rfl) _).mono ?_;rintro e a ⟨rfl,rfl⟩;go_wp2_with fail;refine(gD _ _ true (by kernel_rfl) _).mono ?_;rintro e a ⟨rfl,rfl⟩;go_wp2;go_ret;exact⟨rfl,rfl⟩
theorem zr (w:World):Calls prog 109 #[.iface 139 (.string aIt)] w fun e a=>e=.returned (.int .i64 3)/\a=w:=by
 go_enter func109,ntmps109;go_wp2_with fail;refine(gD _ _ false (by kernel_rfl) _).mono ?_;rintro e a ⟨rfl,rfl⟩;go_wp2_with fail;refine(gD _ _ false (by kernel_rfl) _).mono ?_;rintro e a ⟨rfl,rfl⟩;go_wp2_with fail;refine(gD _ _ true (by kernel_rfl) _).mono ?_;rintro e a ⟨rfl,rfl⟩;go_wp2;go_ret;exact⟨rfl,rfl⟩
theorem YO (w:World):Calls prog 109 #[.iface 139 (.string RP)] w fun e a=>e=.returned (.int .i64 4)/\a=w:=by
 go_enter func109,ntmps109;go_wp2_with fail;refine(gD _ _ false (by kernel_rfl) _).mono ?_;rintro e a ⟨rfl,rfl⟩;go_wp2_with fail;refine(gD _ _ false (by kernel_rfl) _).mono ?_;rintro e a ⟨rfl,rfl⟩;go_wp2_with fail;refine(gD _ _ false (by kernel_rfl) _).mono ?_;rintro e a ⟨rfl,rfl⟩;go_wp2_with fail;refine(gD _ _ true (by kernel_rfl) _).mono ?_;rintro e a ⟨rfl,rfl⟩;go_wp2;go_ret;exact⟨rfl,rfl⟩
theorem fv (w:World):Calls prog 109 #[.iface 139 (.string cn)] w fun e a=>e=.returned (.int .i64 5)/\a=w:=by
 go_enter func109,ntmps109;go_wp2_with fail;refine(gD _ _ false (by kernel_rfl) _).mono ?_;rintro e a ⟨rfl,rfl⟩;go_wp2_with fail;refine(gD _ _ false (by kernel_rfl) _).mono ?_;rintro e a ⟨rfl,rfl⟩;go_wp2_with fail;refine(gD _ _ false (by kernel_rfl) _).mono ?_;rintro e a ⟨rfl,rfl⟩;go_wp2_with fail;refine(gD _ _ false (by kernel_rfl) _).mono ?_;rintro e a ⟨rfl,rfl⟩;go_wp2_with fail;refine(gD _ _ true (by kernel_rfl) _).mono ?_;rintro e a ⟨rfl,rfl⟩;go_wp2;go_ret;exact⟨rfl,rfl⟩
theorem aEw (w:World):Calls prog 109 #[.iface 139 (.string aPa)] w fun e a=>e=.returned (.int .i64 6)/\a=w:=by
 go_enter func109,ntmps109;go_wp2_with fail;refine(gD _ _ false (by kernel_rfl) _).mono ?_;rintro e a ⟨rfl,rfl⟩;go_wp2_with fail;refine(gD _ _ false (by kernel_rfl) _).mono ?_;rintro e a ⟨rfl,rfl⟩;go_wp2_with fail;refine(gD _ _ false (by kernel_rfl) _).mono ?_;rintro e a ⟨rfl,rfl⟩;go_wp2_with fail;refine(gD _ _ false (by kernel_rfl) _).mono ?_;rintro e a ⟨rfl,rfl⟩;go_wp2_with fail;refine(gD _ _ false (by kernel_rfl) _).mono ?_;rintro e a ⟨rfl,rfl⟩;go_wp2;go_ret;exact⟨rfl,rfl⟩
theorem aEx (a:Nat) (h:a<=6) (w:World):Calls prog 109 #[iG a] w fun e b=>e=.returned (.int .i64 a)/\b=w:=by
 match a,h with
 |0,_=>exact aJy w
 |1,_=>exact zq w
 |2,_=>exact fw w
 |3,_=>exact zr w
 |4,_=>exact YO w
 |5,_=>exact fv w
 |6,_=>exact aEw w
theorem jm (B g a i vb:Nat) (c:List dA) (f:dA) (w:World) (R:w.ownsRow B 98 3 (.slice (some ⟨g,0,none⟩) c.length a) c.length (flat c)) (F:CA w vb f) (hi:i<c.length) (C:a<c.length+1) (h0:c.length<=1048576) (hBs:B<=w.heap.size):
 Calls prog 160 #[.slice (some ⟨g,0,none⟩) c.length a,.int .i64 i,.slice (some ⟨vb,0,none⟩) 1 1] w fun e w'=>
  ∃L,e=.returned (.slice (some ⟨w.heap.size,0,none⟩) (c.length+1) L)/\w'.ownsRow B 98 3 (.slice (some ⟨w.heap.size,0,none⟩) (c.length+1) L) (c.length+1) (flat (dK c i f))/\Below w.heap.size w w':=by
 obtain⟨cur,hB,_,r,hnc,b0,hsz,V⟩:=sP R;obtain⟨i0,e0,l0,m0,n0⟩:=tJ;obtain⟨n,hn⟩:∃n,c.length=n:=⟨_,rfl⟩
 rw[hn]at hi C h0 hnc |-
 have m:(prog.info? 98).map (·.size)=some 3:=by rw[e0];simp[m0]
 have hgw:=aA r;have g0:(n:Int)+1-(i:Int)=((n+1-i:Nat):Int):=by omega
 have W:i+(n+1-i)=n+1:=by omega
 have K:(flat (c.take i)).length=i*3:=by rw[pD,Ta];omega
 have Q:(Builtin.firstCells i0.size i (.slice (some ⟨g,0,none⟩) i a)).run prog w.drew=.ok (flat (c.take i)).toArray w.drew:=by
  rw[m0];exact run_firstCells_some w.drew 3 i ⟨g,0,none⟩ i a (flat (c.take i)) K (fun j v d=>by
   rw[Addr.add_lit,Oa];have hlt:=(Va.1 d).1;rw[dO c i j (by omega) (by omega)]at d;exact V j v d)
 obtain⟨G,hG⟩:∃G,G=grownCap w (n+1) a 98:=⟨_,rfl⟩
 obtain⟨z,q⟩:∃z:Array Value,z=(flat (c.take i)).toArray++Builtin.zeroCells (Value.agg #[.string ByteArray.empty,.string ByteArray.empty,.int .i64 0]).cells (n+1-i)++Builtin.zeroCells (Value.agg #[.string ByteArray.empty,.string ByteArray.empty,.int .i64 0]).cells (G-(n+1)):=⟨_,rfl⟩
 obtain⟨o,I⟩:∃o,o=w.drew.alloc (.cells z 98):=⟨_,rfl⟩
 have hrz:∀E,(Builtin.append_ #[28,3] E #[.slice (some ⟨g,0,none⟩) i a,.int .i64 ((n:Int)+1-(i:Int))]).run prog w=.ok (.slice (some ⟨w.heap.size,0,none⟩) (n+1) G) o:=fun E=>by
  have h:=Lib.run_append_grow_zeros w 28 3 E 98 i0 _ .i64 .i64 underlying28 underlying3 e0 l0 (some ⟨g,0,none⟩) i a _ Q (n+1-i) (by omega) (by omega) (by omega) (by omega) (by rw[n0];omega) (by rw[n0,W];exact growslice_fits C (by omega));rw[W,<-hG,<-q,<-I]at h;rw[g0];exact h
 have hGn:n+1<=G:=by rw[hG];exact grownCap_ge w _ _ _
 have a0:G<=maxLen:=by rw[hG];exact grownCap_le_maxLen w (n+1) a 98 (by unfold maxLen;omega)
 have o0:(Value.agg #[.string ByteArray.empty,.string ByteArray.empty,.int .i64 0]).cells.size=3:=rfl;have s:z.size=G*3:=by
  rw[q];simp only[Array.size_append,Yd,size_zeroCells,o0,K];omega
 have x:lA o w.heap.size z 98:=by rw[I];exact heap_alloc_new w.drew _
 have b:Below w.heap.size w o:=by rw[I];exact pA (Below.refl _ _).drew (cA _ _)
 have k0:CA o vb f:=lA.later F b;have c0:=r.later b;have M:∀E T,(Builtin.copy_ #[28,28] E #[.slice (some ⟨w.heap.size,i*3,none⟩) (n+1-i) T,.slice (some ⟨vb,0,none⟩) 1 1]).run prog o=.ok (goInt 1) (o.setCells w.heap.size (i*3) (flat [f])):=fun E T=>
  iO o _ _ E 98 w.heap.size (i*3) (n+1-i) T ⟨vb,0,none⟩ 1 1 1 3 (flat [f]) underlying28 m (by simp only[Nat.min_def];split<;>omega) rfl
   (fun j v d=>by rw[Addr.add_lit,Oa];exact k0.cells j v d)
   (fun j d=>by obtain⟨v,F⟩:=x.there (j:=i*3+j) (by rw[s];simp[flat]at d;omega);rw[F];rfl) (fun j d=>x.free _) (vE _)
 obtain⟨p,t⟩:∃p,p=o.setCells w.heap.size (i*3) (flat [f]):=⟨_,rfl⟩
 rw[<-t]at M;obtain⟨Z,y,J⟩:=lA.setCells (flat [f]) (i*3) x;rw[<-t]at y;have X:jC (fun k=>k=w.heap.size) o p:=by rw[t];exact jC.setCells (S:=fun k=>k=w.heap.size) rfl _ _ (jC.refl _ _)
 have d0:=c0.keeps X (by omega);obtain⟨H,A⟩:∃H,H=flat (c.drop i):=⟨_,rfl⟩
 have P:H.length=(n-i)*3:=by rw[A,pD,Lc,hn]
 have O:∀j u,(flat c)[j]?=some u->cur[j]?=some u:=fun j u D=>by rw[<-r.cell];exact V j u D
 have N:∀E T sc,(Builtin.copy_ #[28,28] E #[.slice (some ⟨w.heap.size,(i+1)*3,none⟩) (n-i) T,.slice (some ⟨g,i*3,none⟩) (n-i) sc]).run prog p.drew=.ok (goInt ((n-i:Nat):Int)) (p.drew.setCells w.heap.size ((i+1)*3) H):=fun E T sc=>
  iO p.drew _ _ E 98 w.heap.size ((i+1)*3) (n-i) T ⟨g,i*3,none⟩ (n-i) sc (n-i) 3 H underlying28 m (by simp only[Nat.min_def];split<;>omega) P
   (fun j v d=>by
    rw[Addr.add_lit];show p.cell? _=_;rw[d0.cell];exact O _ v (by rwa [A,yS c i j (by omega)]at d))
   (fun j d=>by obtain⟨v,F⟩:=y.there (j:=(i+1)*3+j) (by rw[J,s];omega);show(p.cell? _).isSome=true;rw[F];rfl) (fun j d=>y.free _) (by rw[A];exact vE _)
 obtain⟨Y,l⟩:∃Y,Y=p.drew.setCells w.heap.size ((i+1)*3) H:=⟨_,rfl⟩
 rw[<-l]at N;obtain⟨cur3,U,j0⟩:=lA.setCells H ((i+1)*3) (show lA p.drew w.heap.size Z 98 from y);rw[<-l]at U;have HB:Hid (Below w.heap.size w Y):=by
  have k3:jC (fun k=>k=w.heap.size) o Y:=by rw[l];exact jC.setCells (S:=fun k=>k=w.heap.size) rfl _ _ X.drew
  exact b.trans (k3.below (fun k e=>by omega) b.size)
 have HO:Hid (Y.ownsRow B 98 3 (.slice (some ⟨w.heap.size,0,none⟩) (n+1) G) (n+1) (flat (dK c i f))):=by
  refine aQ hBs U hGn a0 (by rw[j0,J,s]) (by rw[pD,sO _ _ _ (by omega),hn]) (VM hn (by omega) ?_ ?_ ?_)
  ·intro j u d D;rw[l,World.cell?_setCells_out w.heap.size H ((i+1)*3) _ _ (fun _ _=>Ba (by show j<_;omega))];show p.cell? _=_;rw[t,World.cell?_setCells_out w.heap.size (flat [f]) (i*3) o _ (fun _ _=>Ba d),x.cell,q];rw[<-dO c i j (by omega) d]at D;rw[Array.append_assoc,Array.getElem?_append_left (by simp[K];omega)];simpa using D
  ·intro j u D;have d:=(Va.1 D).1;have hj3:j<3:=d;rw[l,World.cell?_setCells_out w.heap.size H ((i+1)*3) _ _ (fun _ _=>Ba (by show i*3+j<_;omega))];show p.cell? _=_;rw[t,World.cell?_setCells_in w.heap.size (flat [f]) (i*3) o (fun k hk=>by obtain⟨v,F⟩:=x.there (j:=i*3+k) (by rw[s];simp[flat]at hk;omega);rw[F];rfl) j d,<-D,Ka]
  ·intro j u D;rw[<-A]at D;have d:=(Va.1 D).1;rw[l,World.cell?_setCells_in w.heap.size H ((i+1)*3) p.drew (fun k hk=>by obtain⟨v,F⟩:=y.there (j:=(i+1)*3+k) (by rw[J,s];omega);show(p.cell? _).isSome=true;rw[F];rfl) j d,<-D,Ka]
 have hq3:(a:Int)<(n:Int)+1:=by omega
 have hw1:IntKind.i64.wrap ((i:Int)+1)=(i:Int)+1:=by rw[IntKind.wrap_i64];omega
 have hbd:(0:Int)<=(i:Int)+1:=by omega
 have hin:i<=n:=by omega
 have htn:((i:Int)+1).toNat=i+1:=by omega
 have hb5:(i:Int)<=(n:Int)+1:=by omega
 have hb6:(i:Int)+1<=(n:Int)+1:=by omega
 have hGi:¬(G=i):=by omega
 have hGim:¬(G=i+1):=by omega
 have hci:¬(a=i):=by omega
 have hic:(i:Int)<=(a:Int):=by omega
 have hcm2:(a:Int)<=9223372036854775807:=by unfold maxLen at b0;omega
 clear R r V O F k0 hsz J j0 A P I t l l0 m b0 x y U c0 d0 X b s q hG a0 Q g0 W K hgw;go_enter func160,ntmps160;go_wp2_with(first
  |(at_builtin;refine Lib.wpList_append_run _ rfl _ _ _ _ rfl _ _ rfl rfl _ _ (hrz _) ?_)
  |(at_builtin;refine wpList_copy_runI _ rfl _ _ 28 28 rfl _ _ rfl rfl (M _ _) ?_))
 go_region_law (refine step_copy_runI rfl _ _ 28 28 rfl _ _ (by simp[Act.eval,Act.put]) (by simp[Act.eval,Act.put]) (N _ _ _) ?_)
 go_wp2;go_ret;exact⟨G,rfl,HO.out,HB.out⟩
theorem rj (B t:Nat) (v:Value) (a:List dA) (f:dA) (w:World) (d:w.ownsRow B 98 3 v a.length (flat a)) (G:CA w t f) (F:a.length<=1048576) (o:B<=w.heap.size):
 Calls prog 160 #[v,.int .i64 a.length,.slice (some ⟨t,0,none⟩) 1 1] w fun e I=>
  ∃x,e=.returned x/\I.ownsRow B 98 3 x (a.length+1) (flat (dK a a.length f))/\jC (fun k=>v.ownBlock=some k) w I/\(x.ownBlock=v.ownBlock\/x.ownBlock=some w.heap.size):=by
 obtain⟨H,p,q,r,s⟩:=tJ;have i:Hid (∀j u,(flat [f])[j]?=some u->w.cell? ((⟨t,0,none⟩:Addr).add j)=some u):=fun j u N=>by
  rw[Addr.add_lit,Oa];exact G.cells j u N
 have z:Hid (flat (dK a a.length f)=flat a++flat [f]):=by
  show _=_;rw[VL];simp[flat]
 have D:Hid (w.ownsRow B 98 3 v a.length (flat a)):=d;have C:Hid _:=p;clear G p;rcases d.2 with⟨rfl,K⟩|⟨g,m,J,rfl,P,L,M,y,_⟩
 ·obtain rfl:a=[]:=Fb.1 K;clear d;go_enter func160,ntmps160;go_wp2_with(at_builtin;refine wpList_append_own_at _ rfl _ _ _ rfl B 98 H _ 3 40 underlying28 C.out q r s rfl (by omega) (.slice none 0 0) 0 [] rfl D.out ⟨t,0,none⟩ 1 1 (flat [f]) rfl rfl i.out (vE _) (by simp[maxLen]) (by omega) o ?_;intro A O c b _ l);go_ret;exact⟨A,rfl,c,jC.grown b fun g h=>h,l⟩
 ·have E:(m:Int)<=9223372036854775807:=by unfold maxLen at y;omega
  clear d L;generalize Q:a.length=n at *;go_enter func160,ntmps160;go_wp2_with(at_builtin;refine wpList_append_own_at _ rfl _ _ _ rfl B 98 H _ 3 40 underlying28 C.out q r s rfl (by omega) (.slice (some ⟨g,0,none⟩) n m) n (flat a) rfl D.out ⟨t,0,none⟩ 1 1 (flat [f]) rfl rfl i.out (vE _) (by simp[maxLen];omega) (by omega) o ?_;intro A O c b _ l);all_goals(go_ret;rw[z.out];exact⟨A,rfl,c,jC.grown b fun g h=>h,l⟩)
theorem PK (B h i:Nat) (v:Value) (b:List dA) (f:dA) (w:World) (a:w.ownsRow B 98 3 v b.length (flat b)) (p:CA w h f) (q:v.ownBlock≠some h) (D:i<=b.length) (c:b.length<=1048576) (j:B<=w.heap.size):
 Calls prog 160 #[v,.int .i64 i,.slice (some ⟨h,0,none⟩) 1 1] w fun e m=>
  ∃l,e=.returned l/\m.ownsRow B 98 3 l (b.length+1) (flat (dK b i f))/\jC (fun k=>v.ownBlock=some k) w m/\(l.ownBlock=v.ownBlock\/l.ownBlock=some w.heap.size):=by
 by_cases u:i=b.length
 ·subst u;exact rj B h v b f w a p c j
 ·rcases a.2 with⟨rfl,z⟩|⟨g,d,s,rfl,A,C,x,t,_⟩
  ·omega
  ·by_cases y:b.length+1<=d
   ·refine(ZP B g d i h b f w a p (fun e=>q (by rw[e];rfl)) (by omega) y c).mono ?_;rintro e m ⟨rfl,n,o⟩;exact⟨_,rfl,n,o.mono (fun k e=>by subst e;rfl),Ba rfl⟩
   ·refine(jm B g d i h b f w a p (by omega) (by omega) c j).mono ?_;rintro e m ⟨r,rfl,n,o⟩;exact⟨_,rfl,n,jC.of o,Ea rfl⟩
section
open Go.Maps
section
variable {α β:Type}
def qA (key:α->ByteArray) (a:α):List α->List α
 |[]=>[a]
 |p::r=>if uH (key p) (key a)=true then p::qA key a r else if (key p).toList==(key a).toList then a::r else a::p::r
def tD (key:α->ByteArray) (k:ByteArray) (l:List α):List α:=l.filter (fun p=>!((key p).toList==k.toList))
def zB (key:α->ByteArray) (k:ByteArray) (l:List α):Option α:=l.find? (fun p=>(key p).toList==k.toList)
def vB (key:α->ByteArray) (l:List α):Prop:=l.Pairwise (fun p q=>uH (key p) (key q)=true)
theorem fQ {key:α->ByteArray} {key':β->ByteArray} (g:α->β) (b:∀a,key' (g a)=key a) (a:α) (l:List α):(qA key a l).map g=qA key' (g a) (l.map g):=by
 induction l with
 |nil=>rfl
 |cons p r c=>
  rw[Sb,qA,qA,b,b];split
  ·rw[Sb,c]
  ·split<;>simp
theorem lY {key : α → ByteArray} {key' : β → ByteArray} (g : α → β) (hg : ∀ a, key' (g a) = key a) (k : ByteArray) (l : List α) : (tD key k l).map g = tD key' k (l.map g) := by
  unfold tD
  rw [List.filter_map]
  congr 1
  apply List.filter_congr
  intro p _
  simp only [Function.comp, hg]
theorem eQ {key : α → ByteArray} {key' : β → ByteArray} (g : α → β) (hg : ∀ a, key' (g a) = key a) (k : ByteArray) (l : List α) : zB key' k (l.map g) = (zB key k l).map g := by
  unfold zB
  rw [List.find?_map]
  congr 2
  funext p
  simp only [Function.comp, hg]
theorem lR {key:α->ByteArray} {key':β->ByteArray} (g:α->β) (b:∀a,key' (g a)=key a) {l:List α}:vB key' (l.map g) ↔ vB key l:=by
 unfold vB;rw[Zd];simp only[b]
theorem aFq (k:ByteArray) (d:β) (l:List (ByteArray×β)):qA (·.1) (k,d) l=mP k d l:=by
 induction l with
 |nil=>rfl
 |cons p r a=>rw[qA,mP,a]
theorem aFe (k:ByteArray) (l:List (ByteArray×β)):tD (·.1) k l=CL k l:=rfl
theorem ik (k:ByteArray) (l:List (ByteArray×β)):(zB (·.1) k l).map (·.2)=lk l k:=rfl
theorem aCz {l:List (ByteArray×β)}:vB (·.1) l ↔ uS l:=Iff.rfl
theorem vT {key:α->ByteArray} {k:ByteArray} {l:List α} {a:α} (h:zB key k l=some a):a∈l/\key a=k:=
 ⟨List.mem_of_find?_eq_some h,(xC _ _).1 (List.find?_some (p:=fun p=>(key p).toList==k.toList) h)⟩
theorem jV {key:α->ByteArray} {k:ByteArray} {l:List α} (h:zB key k l=none):∀a∈l,key a≠k:=fun a b e=>by
 have:=List.find?_eq_none.1 h a b;exact this ((xC _ _).2 e)
theorem vK {key:α->ByteArray} {k:ByteArray} {l:List α} (h:∀a∈l,key a≠k):zB key k l=none:=
 List.find?_eq_none.2 fun a b e=>h a b ((xC _ _).1 e)
theorem vB.head {key:α->ByteArray} {p:α} {r:List α} (h:vB key (p::r)):∀q∈r,uH (key p) (key q)=true:=(Wb.1 h).1
theorem vB.tail {key:α->ByteArray} {p:α} {r:List α} (h:vB key (p::r)):vB key r:=(Wb.1 h).2
theorem yQ {key:α->ByteArray} (p:α) (r:List α) (k:ByteArray):zB key k (p::r)=if key p=k then some p else zB key k r:=by
 unfold zB;by_cases h:key p=k
 ·rw[List.find?_cons_of_pos (p:=fun p:α=>(key p).toList==k.toList) (by exact(xC _ _).2 h),Ga h]
 ·rw[List.find?_cons_of_neg (p:=fun p:α=>(key p).toList==k.toList) (by simpa using mC h),Ca h]
theorem cK {key:α->ByteArray} {l:List α} (b:vB key l) {a:α} (h:a∈l):zB key (key a) l=some a:=by
 induction l with
 |nil=>cases h
 |cons p r c=>
  rw[yQ];rcases Cb.1 h with rfl|h
  ·rw[Ga rfl]
  ·rw[Ca (bH (b.head _ h))];exact c b.tail h
theorem tI {key:α->ByteArray} {a q:α} {l:List α} (h:q∈qA key a l):q=a\/q∈l:=by
 induction l with
 |nil=>exact Ba (by simpa[qA]using h)
 |cons p r b=>
  unfold qA at h;split at h
  ·rcases Cb.1 h with rfl|h
   ·exact Ea (Lb ..)
   ·rcases b h with h|h
    ·exact Ba h
    ·exact Ea (Za _ h)
  ·split at h
   ·rcases Cb.1 h with h|h
    ·exact Ba h
    ·exact Ea (Za _ h)
   ·rcases Cb.1 h with h|h
    ·exact Ba h
    ·exact Ea h
theorem dI {key:α->ByteArray} {a:α} {l:List α} (h:vB key l):vB key (qA key a l):=by
 induction l with
 |nil=>exact Te ..
 |cons p r g=>
  unfold qA;split
  ·rename_i c;refine Wb.2 ⟨fun q b=>?_,g h.tail⟩;rcases tI b with rfl|b
   ·exact c
   ·exact h.head q b
  ·rename_i c;split
   ·rename_i f;rw[xC]at f;refine Wb.2 ⟨fun q b=>?_,h.tail⟩;rw[<-f];exact h.head q b
   ·rename_i f;have d:uH (key a) (key p)=true:=qT (by simpa using c) (fun e=>f ((xC _ _).2 e));refine Wb.2 ⟨fun q b=>?_,h⟩;rcases Cb.1 b with rfl|b
    ·exact d
    ·exact GQ d (h.head q b)
theorem aAz {key:α->ByteArray} {a:α} {l:List α} (h:∀p∈l,uH (key p) (key a)=true):qA key a l=l++[a]:=by
 induction l with
 |nil=>rfl
 |cons p r c=>
  unfold qA;rw[Ga (h p (Lb ..)),c (fun q b=>h q (Za _ b))];rfl
theorem IC {key:α->ByteArray} {a:α} {l:List α} (h:zB key (key a) l=none):(qA key a l).Perm (a::l):=by
 induction l with
 |nil=>exact Kf _
 |cons p r d=>
  have b:=jV h;unfold qA;split
  ·have:=d (vK fun q c=>b q (Za _ c));exact(List.Perm.cons p this).trans (List.Perm.swap a p r)
  ·rw[Ca (by rw[mC (b p (Lb ..))];simp)]
theorem iN {key:α->ByteArray} {k:ByteArray} {l:List α} (h:vB key l):vB key (tD key k l):=Pe _ h
theorem gQ {key:α->ByteArray} {k:ByteArray} {l:List α} {a:α}:a∈tD key k l ↔ a∈l/\key a≠k:=by
 unfold tD;rw[Ed];constructor
 ·rintro⟨c,b⟩;exact⟨c,fun e=>by rw[(xC _ _).2 e]at b;cases b⟩
 ·rintro⟨c,b⟩;exact⟨c,by rw[mC b];rfl⟩
end
theorem ZD {α:Type} (key:α->ByteArray) (val:α->DataW Unit) (l:List α) (k:ByteArray):has (oC (l.map fun a=>(key a,val a))) (kL k)=(zB key k l).isSome:=by
 rw[aAu,<-ik,eQ (key:=key) (fun a=>(key a,val a)) (fun _=>rfl)];cases zB key k l<;>rfl
theorem rQ {α:Type} (key:α->ByteArray) (val:α->DataW Unit) (l:List α) (k:ByteArray) (z:DataW Unit):(oC (l.map fun a=>(key a,val a))).atKey (kL k) z=((zB key k l).map val).getD z:=by
 rw[ew,<-ik,eQ (key:=key) (fun a=>(key a,val a)) (fun _=>rfl)];cases zB key k l<;>rfl
theorem aMb {α:Type} {key:α->ByteArray} (val:α->DataW Unit) {l:List α} (h:vB key l):uS (l.map fun a=>(key a,val a)):=by
 rw[<-aCz,lR (key:=key) (fun a=>(key a,val a)) (fun _=>rfl)];exact h
theorem IM {α:Type} {key:α->ByteArray} (val:α->DataW Unit) (a:α) {l:List α} (h:vB key l):(oC (l.map fun a=>(key a,val a))).put (kL (key a)) (val a)=oC ((qA key a l).map fun a=>(key a,val a)):=by
 rw[aCs _ _ (aMb val h),fQ (key':=(·.1)) (fun a=>(key a,val a)) (fun _=>rfl),aFq]
theorem YT {α:Type} {key:α->ByteArray} (val:α->DataW Unit) (k:ByteArray) (l:List α):(oC (l.map fun a=>(key a,val a))).del (kL k)=oC ((tD key k l).map fun a=>(key a,val a)):=by
 rw[aAb,lY (key':=(·.1)) (fun a=>(key a,val a)) (fun _=>rfl),aFe]
theorem fL {α:Type} (key:α->ByteArray) (val:α->DataW Unit) (l:List α):Maps.size (oC (l.map fun a=>(key a,val a)))=l.length:=by
 rw[uv,Ua]
def pH (met:ByteArray->ByteArray) (l:List fA) (m:ByteArray):Nat:=(l.filter fun p=>(met p.s).toList==m.toList).length
theorem UP {met:ByteArray->ByteArray} {l l':List fA} (h:l.Perm l') (m:ByteArray):pH met l m=pH met l' m:=(h.filter _).length_eq
theorem UO (met:ByteArray->ByteArray) (p:fA) (l:List fA) (m:ByteArray):pH met (p::l) m=pH met l m+if met p.s=m then 1 else 0:=by
 unfold pH;by_cases h:met p.s=m
 ·rw[Ec (by exact(xC _ _).2 h),Ga h];rfl
 ·rw[Jc (by rw[mC h];simp),Ca h];rfl
theorem YN (met:ByteArray->ByteArray) (l:List fA) (m:ByteArray):pH met l m<=l.length:=Tb _ _
end
structure nB where
 w:Int
 tl:Int
 ml:Int
 sh:Int
 ha:Int
 sg:Int
def tE (c:nB):Value:=.agg #[.int .i64 c.w,.int .i64 c.tl,.int .i64 c.ml,.int .i64 c.sh,.int .i64 c.ha,.int .i64 c.sg]
def vF (c:nB):Bool:=uA c.w 1 1000000000&&uA c.tl 0 1000000&&uA c.ml 0 1000000&&uA c.sh 1 64&&uA c.ha 0 2&&uA c.sg 100 1000000
theorem qK {x b a:Int} (h:uA x b a=true):b<=x/\x<=a:=by simpa[uA]using h
theorem YG {x b a:Int} (h:¬uA x b a=true):x<b\/a<x:=by
 by_cases c:b<=x
 ·by_cases d:x<=a
  ·exact absurd (by simp[uA,c,d]) h
  ·exact Ea (by omega)
 ·exact Ba (by omega)
theorem qE (x:Int) (w:World):Calls prog 58 #[.int .i64 x] w fun e a=>e=.returned (.bool (uA x 0 1000000))/\a=w:=by
 go_enter func58,ntmps58;go_wp2_with(go_at_call 59;refine(pE _ _ _).mono ?_;rintro e a ⟨rfl,rfl⟩);go_ret;exact⟨rfl,rfl⟩
theorem zi (a b c d e f:Bool):(a=false\/a=true/\(b=false\/b=true/\(c=false\/c=true/\(d=false\/d=true/\(e=false\/e=true/\(f=false\/f=true)))))):=by cases a<;>cases b<;>cases c<;>cases d<;>cases e<;>cases f<;>simp
theorem LB (c:nB) (w:World):Calls prog 15 #[tE c] w fun e a=>e=.returned (.bool (vF c))/\Below w.heap.size w a:=by
 unfold tE;rcases zi (uA c.w 1 1000000000) (uA c.tl 0 1000000) (uA c.ml 0 1000000) (uA c.sh 1 64) (uA c.ha 0 2) (uA c.sg 100 1000000) with b|⟨b,d|⟨d,f|⟨f,g|⟨g,h|⟨h,i|i⟩⟩⟩⟩⟩
 all_goals
  go_enter func15,ntmps15;go_wp2_with(go_at_call 41;refine(yC (by assumption) _).mono ?_;rintro e a ⟨rfl,rfl⟩);go_ret;exact⟨kA (by simp[vF, *]),cA _ _⟩
theorem KB (c:nB) (w:World):Calls prog 26 #[tE c] w fun e g=>e=.returned (.bool (vF c))/\Below w.heap.size w g:=by
 obtain⟨h,ctl,f,b,d,a⟩:=c;unfold tE;simp only;by_cases n:uA h 1 1000000000=false
 ·have i:¬uA h 1 1000000000=true:=by simpa using n
  have E:Hid (vF ⟨h,ctl,f,b,d,a⟩=false):=by show _=_;simp[vF,n]
  have j:=YG i;clear i n;by_cases v:1<=h
  ·have x:¬h<=1000000000:=by omega
   clear j;go_enter func26,ntmps26;go_wp2_with(first|(go_at_call 58;refine(qE _ _).mono ?_;rintro e g ⟨rfl,rfl⟩)|(go_at_call 59;refine(pE _ _ _).mono ?_;rintro e g ⟨rfl,rfl⟩));go_ret;exact⟨kA (by first|exact E.out.symm|(rw[E.out];simp;omega)),cA _ _⟩
  ·clear j;go_enter func26,ntmps26;go_wp2_with(first|(go_at_call 58;refine(qE _ _).mono ?_;rintro e g ⟨rfl,rfl⟩)|(go_at_call 59;refine(pE _ _ _).mono ?_;rintro e g ⟨rfl,rfl⟩));go_ret;exact⟨kA (by first|exact E.out.symm|(rw[E.out];simp;omega)),cA _ _⟩
 have i:uA h 1 1000000000=true:=by simpa using n
 clear n;obtain⟨y,B⟩:=qK i;by_cases r:uA ctl 0 1000000=false
 ·have k:¬uA ctl 0 1000000=true:=by simpa using r
  have E:Hid (vF ⟨h,ctl,f,b,d,a⟩=false):=by show _=_;simp[vF,i,r]
  clear k;go_enter func26,ntmps26;go_wp2_with(first|(go_at_call 58;refine(qE _ _).mono ?_;rintro e g ⟨rfl,rfl⟩)|(go_at_call 59;refine(pE _ _ _).mono ?_;rintro e g ⟨rfl,rfl⟩));go_ret;exact⟨kA (by first|exact E.out.symm|(rw[E.out];simp;omega)),cA _ _⟩
 have k:uA ctl 0 1000000=true:=by simpa using r
 clear r;by_cases s:uA f 0 1000000=false
 ·have m:¬uA f 0 1000000=true:=by simpa using s
  have E:Hid (vF ⟨h,ctl,f,b,d,a⟩=false):=by show _=_;simp[vF,i,k,s]
  clear m;go_enter func26,ntmps26;go_wp2_with(first|(go_at_call 58;refine(qE _ _).mono ?_;rintro e g ⟨rfl,rfl⟩)|(go_at_call 59;refine(pE _ _ _).mono ?_;rintro e g ⟨rfl,rfl⟩));go_ret;exact⟨kA (by first|exact E.out.symm|(rw[E.out];simp;omega)),cA _ _⟩
 have m:uA f 0 1000000=true:=by simpa using s
 clear s;by_cases o:uA b 1 64=false
 ·have l:¬uA b 1 64=true:=by simpa using o
  have E:Hid (vF ⟨h,ctl,f,b,d,a⟩=false):=by show _=_;simp[vF,i,k,m,o]
  have j:=YG l;clear l o;by_cases v:1<=b
  ·have x:¬b<=64:=by omega
   clear j;go_enter func26,ntmps26;go_wp2_with(first|(go_at_call 58;refine(qE _ _).mono ?_;rintro e g ⟨rfl,rfl⟩)|(go_at_call 59;refine(pE _ _ _).mono ?_;rintro e g ⟨rfl,rfl⟩));go_ret;exact⟨kA (by first|exact E.out.symm|(rw[E.out];simp;omega)),cA _ _⟩
  ·clear j;go_enter func26,ntmps26;go_wp2_with(first|(go_at_call 58;refine(qE _ _).mono ?_;rintro e g ⟨rfl,rfl⟩)|(go_at_call 59;refine(pE _ _ _).mono ?_;rintro e g ⟨rfl,rfl⟩));go_ret;exact⟨kA (by first|exact E.out.symm|(rw[E.out];simp;omega)),cA _ _⟩
 have l:uA b 1 64=true:=by simpa using o
 clear o;obtain⟨z,C⟩:=qK l;by_cases t:uA d 0 2=false
 ·have u:¬uA d 0 2=true:=by simpa using t
  have E:Hid (vF ⟨h,ctl,f,b,d,a⟩=false):=by show _=_;simp[vF,i,k,m,l,t]
  clear u;go_enter func26,ntmps26;go_wp2_with(first|(go_at_call 58;refine(qE _ _).mono ?_;rintro e g ⟨rfl,rfl⟩)|(go_at_call 59;refine(pE _ _ _).mono ?_;rintro e g ⟨rfl,rfl⟩));go_ret;exact⟨kA (by first|exact E.out.symm|(rw[E.out];simp;omega)),cA _ _⟩
 have u:uA d 0 2=true:=by simpa using t
 clear t;by_cases p:uA a 100 1000000=false
 ·have q:¬uA a 100 1000000=true:=by simpa using p
  have E:Hid (vF ⟨h,ctl,f,b,d,a⟩=false):=by show _=_;simp[vF,i,k,m,l,u,p]
  have j:=YG q;clear q p;by_cases v:100<=a
  ·have x:¬a<=1000000:=by omega
   clear j;go_enter func26,ntmps26;go_wp2_with(first|(go_at_call 58;refine(qE _ _).mono ?_;rintro e g ⟨rfl,rfl⟩)|(go_at_call 59;refine(pE _ _ _).mono ?_;rintro e g ⟨rfl,rfl⟩));go_ret;exact⟨kA (by first|exact E.out.symm|(rw[E.out];simp;omega)),cA _ _⟩
  ·clear j;go_enter func26,ntmps26;go_wp2_with(first|(go_at_call 58;refine(qE _ _).mono ?_;rintro e g ⟨rfl,rfl⟩)|(go_at_call 59;refine(pE _ _ _).mono ?_;rintro e g ⟨rfl,rfl⟩));go_ret;exact⟨kA (by first|exact E.out.symm|(rw[E.out];simp;omega)),cA _ _⟩
 have q:uA a 100 1000000=true:=by simpa using p
 clear p;obtain⟨A,D⟩:=qK q;have E:Hid (vF ⟨h,ctl,f,b,d,a⟩=true):=by show _=_;simp[vF,i,k,m,l,u,q]
 go_enter func26,ntmps26;go_wp2_with(first|(go_at_call 58;refine(qE _ _).mono ?_;rintro e g ⟨rfl,rfl⟩)|(go_at_call 59;refine(pE _ _ _).mono ?_;rintro e g ⟨rfl,rfl⟩));go_ret;exact⟨kA (by first|exact E.out.symm|(rw[E.out];simp;omega)),cA _ _⟩
def vH (f:Nat->Bool):Nat->Bool
 |0=>true
 |k+1=>vH f k&&f k
theorem lJ (f:Nat->Bool) (k:Nat):vH f (k+1)=(vH f k&&f k):=rfl
theorem eN {f:Nat->Bool} {k n:Nat} (h:f k=false) (b:k<n):vH f n=false:=by
 induction n with
 |zero=>omega
 |succ n a=>
  rw[lJ];by_cases e:k=n
  ·subst e;rw[h,Zf]
  ·rw[a (by omega),Ld]
theorem qO {f:Nat->Bool} {k n:Nat} (h:vH f n=true) (a:k<n):f k=true:=by
 cases hf:f k with
 |true=>rfl
 |false=>rw[eN hf a]at h;cases h
def okT (c:UInt8):Bool:=(97<=c&&c<=122) ||(48<=c&&c<=57) ||c==45
def kC (s:ByteArray):Bool:=decide (1<=s.size) &&decide (s.size<=32) &&s.data.toList.all okT
def lE (s:ByteArray):Bool:=!s.toList.isEmpty&&decide (bP s=0)
def tC (s:ByteArray):ByteArray:=iJ (uE s).1
def aJ (s:ByteArray):Bool:=!(tC s).toList.isEmpty
def bE (t:eA):Bool:=t.l9==-1&&t.m9.length==0&&t.s9.length==0
def yJ (a:List fA) (i:Nat):Bool:=match i with
 |0=>true
 |j+1=>match a[j]?,a[j+1]? with
  |some p,some q=>uH p.s q.s
  |_,_=>false
def nK (a:List fA) (i:Nat):Bool:=match a[i]? with
 |some m=>yJ a i&&lE m.s&&uA m.n 0 1000000
 |none=>false
def yL (a:List fA):Bool:=vH (nK a) a.length
def iH (b a:Int) (c:List fA) (i:Nat):Bool:=match c[i]? with
 |some x=>yJ c i&&aJ x.s&&uA x.n 0 a&&decide (a-x.n<b)
 |none=>false
def aL (b a:Int) (c:List fA):Bool:=vH (iH b a c) c.length
def zL (a:List eA) (i:Nat):Bool:=match i with
 |0=>true
 |j+1=>match a[j]?,a[j+1]? with
  |some p,some q=>uH p.name q.name
  |_,_=>false
def kP (b a:Int) (t:eA):Bool:=kC t.name&&uA t.l9 (-1) 1000000&&yL t.m9&&aL b a t.s9&&!bE t
def xM (b a:Int) (c:List eA) (i:Nat):Bool:=match c[i]? with
 |some t=>zL c i&&kP b a t
 |none=>false
def yM (b a:Int) (c:List eA):Bool:=vH (xM b a c) c.length
def iB (c:nB) (a:Int) (b:List eA):Bool:=vF c&&uA a 0 1000000000000&&decide (b.length<=10000) &&yM c.w a b
theorem iR {a:List fA} {k:Nat} (c:0<k) (b:k<a.length):yJ a k=uH (a[k-1]'(by omega)).s a[k].s:=by
 obtain⟨j,rfl⟩:∃j,k=j+1:=⟨k-1,by omega⟩
 simp[yJ,Ka (show j<a.length by omega),Ka b]
theorem lU {a:List eA} {k:Nat} (c:0<k) (b:k<a.length):zL a k=uH (a[k-1]'(by omega)).name a[k].name:=by
 obtain⟨j,rfl⟩:∃j,k=j+1:=⟨k-1,by omega⟩
 simp[zL,Ka (show j<a.length by omega),Ka b]
theorem mX {a:List fA} {k:Nat} (b:k<a.length):nK a k=(yJ a k&&lE a[k].s&&uA a[k].n 0 1000000):=by simp[nK,Ka b]
theorem pU {c a:Int} {b:List fA} {k:Nat} (d:k<b.length):iH c a b k=(yJ b k&&aJ b[k].s&&uA b[k].n 0 a&&decide (a-b[k].n<c)):=by simp[iH,Ka d]
theorem tU {b a:Int} {c:List eA} {k:Nat} (d:k<c.length):xM b a c k=(zL c k&&kP b a c[k]):=by simp[xM,Ka d]
theorem mR {α:Type} {key:α->ByteArray}:∀(l:List α),(∀k (h:k+1<l.length),uH (key (l[k]'(by omega))) (key l[k+1])=true)->vB key l
 |[],_=>Kd
 |[a],_=>Te ..
 |a::b::r,h=>by
  have e:vB key (b::r):=mR (b::r) fun k f=>h (k+1) (by simp at f |-;omega);have d:uH (key a) (key b)=true:=h 0 (by simp);refine Wb.2 ⟨fun q c=>?_,e⟩;rcases Cb.1 c with rfl|c
  ·exact d
  ·exact GQ d (e.head q c)
theorem aDa {α:Type} {key:α->ByteArray} {l:List α} (k:Nat) (h:vB key l):vB key (l.take k):=List.Pairwise.sublist (List.take_sublist ..) h
theorem II {a:List fA} {n:Nat} (h:vH (nK a) n=true) (d:n<=a.length):vB (·.s) (a.take n):=by
 apply mR;intro k c;simp only[Ta]at c;have:=qO h (k:=k+1) (by omega);rw[mX (by omega),Na,Na]at this;have b:=this.1.1;rw[iR (by omega) (by omega)]at b;simpa using b
theorem IY {c b:Int} {a:List fA} {n:Nat} (h:vH (iH c b a) n=true) (f:n<=a.length):vB (·.s) (a.take n):=by
 apply mR;intro k e;simp only[Ta]at e;have:=qO h (k:=k+1) (by omega);rw[pU (by omega),Na,Na,Na]at this;have d:=this.1.1.1;rw[iR (by omega) (by omega)]at d;simpa using d
theorem aDr {c a:Int} {b:List eA} {n:Nat} (h:vH (xM c a b) n=true) (f:n<=b.length):vB (·.name) (b.take n):=by
 apply mR;intro k e;simp only[Ta]at e;have:=qO h (k:=k+1) (by omega);rw[tU (by omega),Na]at this;have d:=this.1;rw[lU (by omega) (by omega)]at d;simpa using d
theorem PH {α:Type} {key:α->ByteArray} {l:List α} {k:Nat} (c:k<l.length) (h:vB key (l.take (k+1))):qA key l[k] (l.take k)=l.take (k+1)/\zB key (key l[k]) (l.take k)=none:=by
 rw[La c]at h |-
 have b:∀p∈l.take k,uH (key p) (key l[k])=true:=fun p a=>(Je.1 h).2.2 p a _ (Uf.2 rfl);exact⟨aAz b,vK fun p a=>bH (b p a)⟩
def dB (a:List eA) (name:ByteArray):eA:=(zB (·.name) name a).getD ⟨name,-1,[],[]⟩
def aG (a:List fA) (m:ByteArray) (d:Int):Int:=a.foldl (fun d p=>if p.s.toList==m.toList then p.n else d) d
theorem la (a:List fA) (m:ByteArray) (d:Int) (k:Nat) (h:k<a.length):aG (a.take (k+1)) m d=if a[k].s.toList==m.toList then a[k].n else aG (a.take k) m d:=by
 rw[La h,aG,List.foldl_append];rfl
theorem ky {a:List fA} {m:ByteArray} (h:∀p∈a,p.s≠m) (d:Int):aG a m d=d:=by
 induction a generalizing d with
 |nil=>rfl
 |cons p r c=>
  rw[aG,Wc,Ca (by rw[mC (h p (Lb ..))];simp)];exact c (fun q b=>h q (Za _ b)) d
theorem aCa {a:List fA} (b:vB (·.s) a) (m:ByteArray) (d:Int):aG a m d=((zB (·.s) m a).map (·.n)).getD d:=by
 induction a generalizing d with
 |nil=>rfl
 |cons p r g=>
  rw[aG,Wc,yQ];by_cases e:p.s=m
  ·rw[Ga ((xC _ _).2 e),Ga e];exact ky (fun q f c=>bH (b.head q f) (e.trans c.symm)) _
  ·rw[Ca (by rw[mC e];simp),Ca e];exact g b.tail d
def lF (c:nB) (t:eA) (m:ByteArray):Int×Int:=
 if m.toList.isEmpty=true then((t.s9.length:Nat),if t.l9<0 then c.tl else t.l9) else((pH tC t.s9 m:Nat),aG t.m9 m c.ml)
theorem zo (l:List fA) (m:ByteArray) (k:Nat) (h:k<l.length):pH tC (l.take (k+1)) m=pH tC (l.take k) m+if (tC l[k].s).toList==m.toList then 1 else 0:=by
 rw[La h,pH,pH,Ud,Qa];congr 1;cases hb:(tC l[k].s).toList==m.toList<;>simp[hb]
theorem AM {α:Type} {key:α->ByteArray} {l:List α} {k:ByteArray}:∀(n:Nat),(∀j (_:j<n) (c:j<l.length),key l[j]≠k)->zB key k l=zB key k (l.drop n)
 |0,_=>by simp
 |n+1,h=>by
  rw[AM n (fun j d a=>h j (by omega) a)];by_cases b:n<l.length
  ·rw[Ra b,yQ,Ca (h n (by omega) b)]
  ·rw[Pb (by omega),Pb (by omega)]
abbrev aOb:Inhabited eB:=⟨⟨ByteArray.empty,ByteArray.empty⟩⟩
def wQ (x:eB):List Value:=[.string x.name,.string x.value]
theorem SY (l:eB) (w:World) (k:l.name.size<=1000000000) (d:l.value.size<=1000000000) (b:dF w):
 Calls prog 294 #[.agg #[.string l.name,.string l.value]] w fun e n=>e=.returned (.int .i64 (lX l:Nat))/\Below w.heap.size w n:=by
 have i:Hid (dF w):=b;have HN:Hid _:=fun W=>ZI l.name W (by unfold maxLen;omega);have j:Hid _:=fun W h=>KD l.value W d h;clear b k d;by_cases h:QF l.name=true
 ·have E:Hid (lX l=bP l.value):=by show _=_;rw[lX,Ga h]
  rw[E.out];have a:Hid _:=h;clear h E;generalize l.name=m at *;generalize l.value=f at *;generalize bP f=V at *;go_enter func294,ntmps294;go_wp2_with fail;refine(HN.out _).mono ?_;rintro e o ⟨rfl,hw⟩;rw[a.out];replace hw:=hw.symm;subst hw;go_wp2_with fail;refine(j.out _ (i.out.later (cA _ _))).mono ?_;rintro e p ⟨rfl,c⟩;have g:Hid _:=pA (cA _ _) c;clear c;go_wp2;go_ret;exact⟨rfl,g.out⟩
 ·have a:Hid (QF l.name=false):=by show _=_;simpa using h
  have E:Hid (lX l=41):=by show _=_;rw[lX,Ca h]
  rw[E.out];clear h E;generalize l.name=m at *;generalize l.value=f at *;go_enter func294,ntmps294;go_wp2_with fail;refine(HN.out _).mono ?_;rintro e o ⟨rfl,hw⟩;rw[a.out];replace hw:=hw.symm;subst hw;go_wp2;go_ret;exact⟨rfl,cA _ _⟩
theorem aAt (t:ByteArray) (B:Nat) (w:World) (c:B<w.heap.size) (a:w.cell? ⟨B,0,none⟩=some (.string t)):
 PredBelow prog 299 #[.pointer (some ⟨B,0,none⟩)] (fun x=>.agg (wQ x).toArray) (fun x:eB=>x.name.toList==t.toList) w:=fun W x b=>by
 have e:=(b.cell (p:=⟨B,0,none⟩) c).trans a;have d:=Ab c b.size;show Calls prog 299 #[.agg #[.string x.name,.string x.value],.pointer (some ⟨B,0,none⟩)] W _;go_enter func299,ntmps299;go_wp2;go_ret;exact⟨rfl,b.alloc b.size _⟩
theorem ip (b o n c:Nat) (f:List eB) (t:ByteArray) (w:World) (u:b<w.heap.size) (l:tS w b o f) (s:n<=f.length) (m:f.length<=2000000):
 Calls prog 295 #[.slice (some ⟨b,o,none⟩) n c,.string t] w fun e p=>e=.returned (.bool ((f.take n).any fun x=>x.name.toList==t.toList))/\Below w.heap.size w p:=by
 have q:∀args w,(callFunc 299 args).run prog w=.ok (.enter 299 args) w:=enters_of func299 (by kernel_rfl) rfl;haveI:=aOb
 have a:=AnyQ.slices_ContainsFunc contL 2 isAgg199 sizeOf199 wQ (fun _=>rfl) (fun x:eB=>x.name.toList==t.toList) 299 #[.pointer (some ⟨w.heap.size,0,none⟩)] q b o n c f (w.alloc (.cells #[.string t] 9))
  (aAt t w.heap.size _ (by simp) (by simp)) s (by omega) (by simp;omega) (fun j k i v d=>by
   refine Lib.cell?_alloc_some _ ?_;have h:=l j k;have e:f[j]! = f[j]:=getElem!_pos f j k;rw[e]at d;match i,d with
   |0,d=>simp[wQ]at d;rw[<-d];exact h.1
   |1,d=>simp[wQ]at d;rw[<-d];exact h.2
   |i+2,d=>simp[wQ]at d)
 change Calls prog 298 _ _ _ at a;clear l;generalize ((f.take n).any fun x=>x.name.toList==t.toList)=r at a |-
 go_enter func295,ntmps295;go_wp2_with(go_at_call 298;refine a.mono ?_;rintro e p ⟨rfl,g⟩);go_ret;exact⟨rfl,((Below.refl _ w).alloc (Da _) _).trans (g.mono (by simp))⟩
theorem QN:QL.toList=[95,95,110,97,109,101,95,95]:=by rw[QL,ByteArray.toList_eq]
theorem DR (a:Option Addr) (l:Nat) (c:List eB) (w:World) (p:gE w a c) (q:c.length<=2000000):
 Calls prog 247 #[.slice a c.length l] w fun e u=>e=.returned (.string (iJ c))/\Below w.heap.size w u:=by
 have s:Hid (gE w a c):=p;clear p;go_enter func247,ntmps247;go_wp2;go_loopw [4,7] (fun _ i wr=>∃k:Nat,k<=c.length/\i=.int .i64 k/\Hid (iJ c=iJ (c.drop k))/\Below w.heap.size w wr) (fun _ i _=>c.length-(intOf i).toNat)
 case atStart=>exact⟨0,Ha _,rfl,rfl,Below.refl _ _⟩
 case round=>
  obtain⟨k,z,rfl,j,d⟩:=hrel;by_cases g:k<c.length
  ·obtain⟨b,o,rfl,y,v,x⟩:=(s.out.later d).at g;have h:=VZ c k g;have n:Hid (cN c[k]=(c[k].name.toList==[95,95,110,97,109,101,95,95])):=by show _=_;rw[cN,QN]
   generalize c[k].name=r at *;by_cases f:cN c[k]=true
   ·have m:(r.toList==[95,95,110,97,109,101,95,95])=true:=by rw[<-n.out];exact f
    have E:Hid (iJ c=c[k].value):=by show _=_;rw[j.out,h,Ga f]
    clear h f;generalize c[k].value=t at *;go_wp2;go_ret;exact⟨by rw[E.out];rfl,pA d (cA _ _)⟩
   ·have m:(r.toList==[95,95,110,97,109,101,95,95])=false:=by rw[<-n.out];simpa using f
    have E:Hid (iJ c=iJ (c.drop (k+1))):=by show _=_;rw[j.out,h,Ca f]
    clear h f;generalize c[k].value=t at *;go_wp2;exact⟨⟨k+1,by omega,by go_num,E.out,pA d (cA _ _)⟩,by simp[intOf];omega⟩
  ·have E:Hid (iJ c=ByteArray.empty):=by
    show _=_;rw[j.out,Pb (by omega)];rfl
   go_wp2;go_ret;exact⟨by rw[E.out];rfl,d⟩
