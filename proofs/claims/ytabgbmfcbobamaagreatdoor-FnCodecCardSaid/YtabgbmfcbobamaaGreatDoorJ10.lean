import Derived.Test.YtabgbmfcbobamaaGreatDoorJ05
import Derived.Test.YtabgbmfcbobamaaGreatDoorJ06
import Derived.Deep.RegionHeld3
import Derived.Lib.LazyBuf
import Derived.Stop.Asserts
import Derived.RowKitTokens
import Derived.Lib.ItoaNum
set_option maxHeartbeats 1000000
namespace Go.Proofs.YtabgbmfcbobamaaGreatDoor
open Go.RowKit Tryz
section
open Go.Maps
section
variable {α β:Type}
def bB (b:α->ByteArray) (a:α):List α->List α
 |[]=>[a]
 |p::r=>if wH (b p) (b a)=true then p::bB b a r else if (b p).toList==(b a).toList then a::r else a::p::r
def dI (a:α->ByteArray) (k:ByteArray) (l:List α):List α:=l.filter (fun p=>!((a p).toList==k.toList))
def xC (a:α->ByteArray) (k:ByteArray) (l:List α):Option α:=l.find? (fun p=>(a p).toList==k.toList)
def jC (a:α->ByteArray) (l:List α):Prop:=l.Pairwise (fun p q=>wH (a p) (a q)=true)
theorem DL {key:α->ByteArray} {key':β->ByteArray} (g:α->β) (b:∀a,key' (g a)=key a) (a:α) (l:List α):(bB key a l).map g=bB key' (g a) (l.map g):=by
 induction l with
 |nil=>rfl
 |cons p r c=>
  rw[Lb,bB,bB,b,b];split
  ·rw[Lb,c]
  ·split<;>simp
theorem PK {key:α->ByteArray} {key':β->ByteArray} (g:α->β) (b:∀a,key' (g a)=key a) (k:ByteArray) (l:List α):xC key' k (l.map g)=(xC key k l).map g:=by
 unfold xC;rw[List.find?_map];congr 2;funext p;simp only[Function.comp,b]
theorem LW {key:α->ByteArray} {key':β->ByteArray} (g:α->β) (b:∀a,key' (g a)=key a) {l:List α}:jC key' (l.map g) ↔ jC key l:=by
 unfold jC;rw[Lg];simp only[b]
theorem uy (k:ByteArray) (d:β) (l:List (ByteArray×β)):bB (·.1) (k,d) l=sO k d l:=by
 induction l with
 |nil=>rfl
 |cons p r a=>rw[bB,sO,a]
theorem px {l:List (ByteArray×β)}:jC (·.1) l ↔ tR l:=Iff.rfl
theorem xW {b:α->ByteArray} {k:ByteArray} {l:List α} {a:α} (h:xC b k l=some a):a∈l/\b a=k:=
 ⟨List.mem_of_find?_eq_some h,(wC _ _).1 (List.find?_some (p:=fun p=>(b p).toList==k.toList) h)⟩
theorem tT {b:α->ByteArray} {k:ByteArray} {l:List α} (h:xC b k l=none):∀a∈l,b a≠k:=fun a c e=>by
 have:=List.find?_eq_none.1 h a c;exact this ((wC _ _).2 e)
theorem rJ {b:α->ByteArray} {k:ByteArray} {l:List α} (h:∀a∈l,b a≠k):xC b k l=none:=
 List.find?_eq_none.2 fun a c e=>h a c ((wC _ _).1 e)
theorem jC.head {a:α->ByteArray} {p:α} {r:List α} (h:jC a (p::r)):∀q∈r,wH (a p) (a q)=true:=(Dc.1 h).1
theorem jC.tail {a:α->ByteArray} {p:α} {r:List α} (h:jC a (p::r)):jC a r:=(Dc.1 h).2
theorem rT {a:α->ByteArray} (p:α) (r:List α) (k:ByteArray):xC a k (p::r)=if a p=k then some p else xC a k r:=by
 unfold xC;by_cases h:a p=k
 ·rw[List.find?_cons_of_pos (p:=fun p:α=>(a p).toList==k.toList) (by exact(wC _ _).2 h),Qa h]
 ·rw[List.find?_cons_of_neg (p:=fun p:α=>(a p).toList==k.toList) (by simpa using dD h),Oa h]
theorem xH {b:α->ByteArray} {a q:α} {l:List α} (h:q∈bB b a l):q=a\/q∈l:=by
 induction l with
 |nil=>exact Ca (by simpa[bB]using h)
 |cons p r c=>
  unfold bB at h;split at h
  ·rcases Ab.1 h with rfl|h
   ·exact Ja (Pb ..)
   ·rcases c h with h|h
    ·exact Ca h
    ·exact Ja (Cb _ h)
  ·split at h
   ·rcases Ab.1 h with h|h
    ·exact Ca h
    ·exact Ja (Cb _ h)
   ·rcases Ab.1 h with h|h
    ·exact Ca h
    ·exact Ja h
theorem wP {b:α->ByteArray} {a:α} {l:List α} (h:jC b l):jC b (bB b a l):=by
 induction l with
 |nil=>exact Xe ..
 |cons p r i=>
  unfold bB;split
  ·rename_i d;refine Dc.2 ⟨fun q c=>?_,i h.tail⟩;rcases xH c with rfl|c
   ·exact d
   ·exact h.head q c
  ·rename_i d;split
   ·rename_i g;rw[wC]at g;refine Dc.2 ⟨fun q c=>?_,h.tail⟩;rw[<-g];exact h.head q c
   ·rename_i g;have f:wH (b a) (b p)=true:=jS (by simpa using d) (fun e=>g ((wC _ _).2 e));refine Dc.2 ⟨fun q c=>?_,h⟩;rcases Ab.1 c with rfl|c
    ·exact f
    ·exact DC f (h.head q c)
theorem nt {b:α->ByteArray} {a:α} {l:List α} (h:∀p∈l,wH (b p) (b a)=true):bB b a l=l++[a]:=by
 induction l with
 |nil=>rfl
 |cons p r d=>
  unfold bB;rw[Qa (h p (Pb ..)),d (fun q c=>h q (Cb _ c))];rfl
theorem DM {key:α->ByteArray} {a:α} {l:List α} (h:xC key (key a) l=none):(bB key a l).Perm (a::l):=by
 induction l with
 |nil=>exact Xg _
 |cons p r d=>
  have b:=tT h;unfold bB;split
  ·have:=d (rJ fun q c=>b q (Cb _ c));exact(List.Perm.cons p this).trans (List.Perm.swap a p r)
  ·rw[Oa (by rw[dD (b p (Pb ..))];simp)]
theorem JY {a:α->ByteArray} {k:ByteArray} {l:List α} (h:jC a l):jC a (dI a k l):=Qf _ h
theorem QA {b:α->ByteArray} {k:ByteArray} {l:List α} {a:α}:a∈dI b k l ↔ a∈l/\b a≠k:=by
 unfold dI;rw[Ge];constructor
 ·rintro⟨d,c⟩;exact⟨d,fun e=>by rw[(wC _ _).2 e]at c;cases c⟩
 ·rintro⟨d,c⟩;exact⟨d,by rw[dD c];rfl⟩
end
theorem aBl {α:Type} {b:α->ByteArray} (val:α->DataW Unit) {l:List α} (h:jC b l):tR (l.map fun a=>(b a,val a)):=by
 rw[<-px,LW (key:=b) (fun a=>(b a,val a)) (fun _=>rfl)];exact h
theorem gc {α:Type} {key:α->ByteArray} (val:α->DataW Unit) (a:α) {l:List α} (h:jC key l):(rH (l.map fun a=>(key a,val a))).put (kL (key a)) (val a)=rH ((bB key a l).map fun a=>(key a,val a)):=by
 rw[pg _ _ (aBl val h),DL (key':=(·.1)) (fun a=>(key a,val a)) (fun _=>rfl),uy]
theorem VE {α:Type} (b:α->ByteArray) (val:α->DataW Unit) (l:List α):Maps.size (rH (l.map fun a=>(b a,val a)))=l.length:=by
 rw[go,Rb]
def wN (a:ByteArray->ByteArray) (l:List lA) (m:ByteArray):Nat:=(l.filter fun p=>(a p.s).toList==m.toList).length
theorem lw {a:ByteArray->ByteArray} {l l':List lA} (h:l.Perm l') (m:ByteArray):wN a l m=wN a l' m:=(h.filter _).length_eq
theorem lv (a:ByteArray->ByteArray) (p:lA) (l:List lA) (m:ByteArray):wN a (p::l) m=wN a l m+if a p.s=m then 1 else 0:=by
 unfold wN;by_cases h:a p.s=m
 ·rw[Mc (by exact(wC _ _).2 h),Qa h];rfl
 ·rw[Uc (by rw[dD h];simp),Oa h];rfl
theorem je (a:ByteArray->ByteArray) (l:List lA) (m:ByteArray):wN a l m<=l.length:=Gc _ _
end
def aB (a:List mA):List Value:=a.flatMap fun x=>[.string x.name,.string x.value]
theorem eD (a b:List mA):aB (a++b)=aB a++aB b:=by simp[aB]
theorem lF (a:List mA):(aB a).length=a.length*2:=by
 induction a with
 |nil=>rfl
 |cons f r b=>simp[aB]at *;omega
theorem vV:∃i,prog.info? 156=some i/\i.zero=some (.agg #[.string ByteArray.empty,.string ByteArray.empty])/\i.size=2/\i.bytes=32:=by
 obtain⟨i,b,a⟩:=Ub.1 vP;simp only[Hc]at a;exact⟨i,b,a.1,a.2.1,a.2.2⟩
theorem ov (W:World) (x:Obj) (cs:Array Value) (t:TypeId):∀j u,cs.toList[j]?=some u->((W.alloc x).alloc (.cells cs t)).cell? ((⟨W.heap.size+1,0,none⟩:Addr).add j)=some u:=
 World.news_of_block (fr:=(0,0)) (by have h:=heap_alloc_new (W.alloc x) (.cells cs t);simpa using h)
theorem YS (l:mA):eR l=l.value.toList.isEmpty:=by
 have e:ByteArray.empty.toList=[]:=by rw[ByteArray.toList_eq];rfl
 unfold eR;rw[e];cases l.value.toList<;>rfl
theorem uP (b:List mA):∀u∈aB b,u.oneCell'=true:=by
 intro u a;simp only[aB,Uf,Ab,Kd,Hf]at a;obtain⟨f,_,rfl|rfl⟩:=a<;>rfl
theorem uj {w:World} {g:Nat} {a:List mA} (h:∀j u,(aB a)[j]?=some u->w.cell? ⟨g,j,none⟩=some u) (p:Nat):∀j u,(aB (a.drop p))[j]?=some u->w.cell? ⟨g,p*2+j,none⟩=some u:=by
 intro j u b;refine h _ _ ?_;by_cases d:p<=a.length
 ·have e:aB a=aB (a.take p)++aB (a.drop p):=by rw[<-eD,Ya]
  have c:(aB (a.take p)).length=p*2:=by rw[lF,Hb];omega
  rw[e,Bd (by omega),c,Nat.add_sub_cancel_left];exact b
 ·rw[Ac (by omega)]at b;simp[aB]at b
theorem en {a:List mA} {p:Nat}:∀(j:Nat) (u:Value),(aB (a.take p))[j]?=some u->(aB a)[j]?=some u:=by
 intro j u b;have e:aB a=aB (a.take p)++aB (a.drop p):=by rw[<-eD,Ya]
 have c:j<(aB (a.take p)).length:=(Fc.1 b).1;rw[e,Td c];exact b
theorem cG {w:World} {B:Nat} {e:TypeId} {g i:Nat} {a:List mA} (h:w.ownsRow B e 2 (.slice (some ⟨g,0,none⟩) a.length i) a.length (aB a)):a.length<=i/\g<w.heap.size/\B<=g/\∀j u,(aB a)[j]?=some u->w.cell? ⟨g,j,none⟩=some u:=by
 rcases h.2 with⟨b,_⟩|⟨p,f,d,b,l,k,m,_,_,o⟩
 ·simp at b
 ·simp only[Value.slice.injEq,Pa,Addr.mk.injEq,Yb]at b;obtain⟨rfl,_,rfl⟩:=b;refine⟨m,aA k,l,fun j u c=>?_⟩;rw[cell_of_row w g j d _ _ k,<-Zd];rw[<-o]at c;have n:=(Fc.1 c).1;rw[Hb]at n;rw[Mb (by omega)]at c;exact c
theorem cc {w:World} {g:Nat} {a:List mA} (h:∀j u,(aB a)[j]?=some u->w.cell? ⟨g,j,none⟩=some u) (p:Nat):iS w (some ⟨g,0,none⟩) p (aB (a.take p)):=
 Ja ⟨_,rfl,fun j u b=>by rw[WN,Wa];exact h _ _ (en j u b)⟩
theorem ce {w:World} {g b:Nat} {a:List mA} (h:∀j u,(aB a)[j]?=some u->w.cell? ⟨g,j,none⟩=some u) (p:Nat) (d:a.length<=b):iS w (if b=p then some ⟨g,0,none⟩ else some ⟨g,p*2,none⟩) (a.length-p) (aB (a.drop p)):=by
 by_cases e:b=p
 ·exact Ca (by omega)
 ·rw[Oa e];exact Ja ⟨_,rfl,fun j u c=>by rw[WN];exact uj h p j u c⟩
theorem VN {w:World} {g:Nat} {x y:Value} {t:TypeId} (h:w.heap[g]?=some (.cells #[x,y] t (0,0))):iS w (some ⟨g,0,none⟩) 1 [x,y]:=
 Ja ⟨_,rfl,World.news_of_block (cs:=#[x,y]) h⟩
theorem lV {W w:World} {g:Nat} {a:List mA} (h:∀j u,(aB a)[j]?=some u->W.cell? ⟨g,j,none⟩=some u) (c:g<W.heap.size) (b:Below W.heap.size W w):∀j u,(aB a)[j]?=some u->w.cell? ⟨g,j,none⟩=some u:=
 fun j u d=>(b.cell c).trans (h j u d)
theorem ku (W:World) (x y:Obj):((W.alloc x).alloc y).drew.heap[W.heap.size+1]?=some y:=by
 have h:=heap_alloc_new (W.alloc x) y;have e:(W.alloc x).heap.size=W.heap.size+1:=by simp
 rw[e]at h;exact h
theorem kv (W:World) (x y:Obj):((W.alloc x).alloc y).drew.heap[W.heap.size]?=some x:=by
 have h:=heap_alloc_new W x;have a:=(cA (W.alloc x) y).block W.heap.size (by simp);exact a.trans h
theorem aFj (W:World) (t:TypeId):(W.alloc (.cells #[] t)).drew.ownsRow W.heap.size t 2 (.slice (some ⟨W.heap.size,0,none⟩) 0 0) 0 []:=
 ⟨rfl,Ja ⟨W.heap.size,0,#[],rfl,Ka _,heap_alloc_new _ _,Ka _,La _,rfl,rfl⟩⟩
theorem aFk (W:World) (t:TypeId) (x:Obj):((W.alloc (.cells #[] t)).alloc x).drew.ownsRow W.heap.size t 2 (.slice (some ⟨W.heap.size,0,none⟩) 0 0) 0 []:=
 ⟨rfl,Ja ⟨W.heap.size,0,#[],rfl,Ka _,kv _ _ _,Ka _,La _,rfl,rfl⟩⟩
theorem aFl (W:World) (t:TypeId) (x:Obj):((W.alloc x).alloc (.cells #[] t)).drew.ownsRow W.heap.size t 2 (.slice (some ⟨W.heap.size+1,0,none⟩) 0 0) 0 []:=
 ⟨rfl,Ja ⟨W.heap.size+1,0,#[],rfl,by omega,ku _ _ _,Ka _,La _,rfl,rfl⟩⟩
theorem OA {P:Program} (w:World) {o:Oper} {a:Act} {K:Act->World->Prop} {Q:Exit->Act->World->Prop} (v:o.guard=none) (s x:Operand) (t:TypeId)
 (O:o.op=.call { callee:=.builtin .append,args:=#[s,x],argTypes:=#[t,t] })
 (b:Nat) (e:TypeId) (i:TypeInfo) (z:Value) (size f:Nat) (S:P.underlying t=some (.slice e)) (M:P.info? e=some i) (U:i.zero=some z)
 (p:i.size=size) (G:i.bytes=f) (I:z.cells.size=size) (H:0<size)
 (r n D:Nat) (J:List Value) (R:a.eval s=.slice (some ⟨r,0,none⟩) n D) (y:w.ownsRow b e size (.slice (some ⟨r,0,none⟩) n D) n J)
 (C:Option Addr) (m c:Nat) (d:List Value) (T:a.eval x=.slice C m c) (N:d.length=m*size) (A:iS w C m d) (L:∀u∈d,u.oneCell'=true)
 (F:n+m<=maxLen) (j:(n+m)*f<=140737488355328) (l:b<=w.heap.size)
 (h:∀g q B,B.ownsRow b e size (.slice (some ⟨g,0,none⟩) (n+m) q) (n+m) (J++d)->Below b w B->(∀k,k<w.heap.size->k≠r->B.heap[k]?=w.heap[k]?)->b<=g->(g=r\/g=w.heap.size)->g<B.heap.size->K (a.put o.dst (.slice (some ⟨g,0,none⟩) (n+m) q)) B):
 Oper.wp P o a w K Q:=by
 have hw:Region.wanted o (yielded #[] a.tmps)=true:=by simp[Region.wanted,v]
 have:=tH (P:=P) w (ops:=#[]) (E:=False) (Q:=Q) v s x t O b e i z size f S M U p G I H r n D J R y C m c d T N A L F j l h;rwa [Qa hw]at this
def ld (w:World) (a:List TV):Prop:=∀y∈a,yA w y.a1 y.t.m9/\yA w y.a2 y.t.s9
theorem ld.snoc {w:World} {ys:List TV} (h:ld w ys) {y:TV} (b:yA w y.a1 y.t.m9) (c:yA w y.a2 y.t.s9):ld w (ys++[y]):=fun z a=>by
 rcases Oc.1 a with a|a
 ·exact h z a
 ·rw[Tc.1 a];exact⟨b,c⟩
theorem ng:∀(l:List TV) (i:Nat) (a:i<l.length),(jH l)[i*4]?=some (.string l[i].t.name)/\(jH l)[i*4+1]?=some (.int .i64 l[i].t.l9)/\(jH l)[i*4+2]?=some (.slice l[i].a1 l[i].t.m9.length l[i].c1)/\(jH l)[i*4+3]?=some (.slice l[i].a2 l[i].t.s9.length l[i].c2):=by
 intro l;unfold jH;induction l with
 |nil=>intro i a;exact absurd a (by simp)
 |cons x r b=>
  intro i a;cases i with
  |zero=>simp
  |succ i=>
   have:=b i (by simpa using a);simp only[Sc,Xc,Nb,Ic];refine⟨?_,?_,?_,?_⟩
   ·rw[show(i+1)*4=i*4+1+1+1+1 by omega,Ia,Ia,Ia,Ia];exact this.1
   ·rw[show(i+1)*4+1=i*4+1+1+1+1+1 by omega,Ia,Ia,Ia,Ia];exact this.2.1
   ·rw[show(i+1)*4+2=i*4+2+1+1+1+1 by omega,Ia,Ia,Ia,Ia];exact this.2.2.1
   ·rw[show(i+1)*4+3=i*4+3+1+1+1+1 by omega,Ia,Ia,Ia,Ia];exact this.2.2.2
theorem aBo {w m:World} {B:Nat} {e:TypeId} {a:Option Addr} {o:Nat} {l:List TV} (h:m.ownsRow B e 4 (.slice a l.length o) l.length (jH l)) (y:ld w l):
 ∀i (q:i<l.length),∃b,a=some ⟨b,0,none⟩/\b<m.heap.size/\m.cell? ⟨b,i*4,none⟩=some (.string l[i].t.name)/\m.cell? ⟨b,i*4+1,none⟩=some (.int .i64 l[i].t.l9)/\m.cell? ⟨b,i*4+2,none⟩=some (.slice l[i].a1 l[i].t.m9.length l[i].c1)/\m.cell? ⟨b,i*4+3,none⟩=some (.slice l[i].a2 l[i].t.s9.length l[i].c2)/\yA w l[i].a1 l[i].t.m9/\yA w l[i].a2 l[i].t.s9:=by
 intro i q;rcases h.2 with⟨_,E⟩|⟨g,s,p,u,D,v,_,_,z,r⟩
 ·omega
 ·simp only[Value.slice.injEq]at u;obtain⟨c,d,f,k⟩:=ng l i q;have n:∀j,j<l.length*4->m.cell? ⟨g,j,none⟩=(jH l)[j]?:=fun j x=>by
   rw[eA.cell (show eA m g p e from v) j,<-Zd,<-r,Mb x]
  obtain⟨A,C⟩:=y l[i] (Xa q);refine⟨g,u.1,aA v,?_,?_,?_,?_,A,C⟩
  ·rw[n _ (by omega)];exact c
  ·rw[n _ (by omega)];exact d
  ·rw[n _ (by omega)];exact f
  ·rw[n _ (by omega)];exact k
structure pE where
 fs:List kA
 c:Int
 k:Int
 cr:Int
 fl:Int
 dn:Bool
structure mP where
 first:Int
 last:Int
 size:Int
structure yC where
 d:pE
 l:mP
 now:Int
 ts:List dA
 lsn:Int
 deg:Bool
 up:Bool
def iB (a:Option Addr) (e:Nat) (b:Option Addr) (f:Nat) (N:yC):Array Value:=#[.slice a N.d.fs.length e,.int .i64 N.d.c,.int .i64 N.d.k,.int .i64 N.d.cr,.int .i64 N.d.fl,.bool N.d.dn,.int .i64 N.l.first,.int .i64 N.l.last,.int .i64 N.l.size,.int .i64 N.now,.slice b N.ts.length f,.int .i64 N.lsn,.bool N.deg,.bool N.up]
theorem eA.n14 {w:World} {b:Nat} {a c d e f g i j k l m n o p:Value} {t:TypeId} (h:eA w b #[a,c,d,e,f,g,i,j,k,l,m,n,o,p] t):
 w.cell? ⟨b,0,none⟩=some a/\w.cell? ⟨b,1,none⟩=some c/\w.cell? ⟨b,2,none⟩=some d/\w.cell? ⟨b,3,none⟩=some e/\w.cell? ⟨b,4,none⟩=some f/\w.cell? ⟨b,5,none⟩=some g/\w.cell? ⟨b,6,none⟩=some i/\
 w.cell? ⟨b,7,none⟩=some j/\w.cell? ⟨b,8,none⟩=some k/\w.cell? ⟨b,9,none⟩=some l/\w.cell? ⟨b,10,none⟩=some m/\w.cell? ⟨b,11,none⟩=some n/\w.cell? ⟨b,12,none⟩=some o/\w.cell? ⟨b,13,none⟩=some p:=by
 refine⟨?_,?_,?_,?_,?_,?_,?_,?_,?_,?_,?_,?_,?_,?_⟩<;>(rw[eA.cell h];rfl)
theorem eA.frees {w:World} {b:Nat} {cs:Array Value} {t:TypeId} (h:eA w b cs t):w.frozen? ⟨b,0,none⟩=false/\w.frozen? ⟨b,1,none⟩=false/\w.frozen? ⟨b,2,none⟩=false/\w.frozen? ⟨b,3,none⟩=false/\w.frozen? ⟨b,4,none⟩=false/\w.frozen? ⟨b,5,none⟩=false/\w.frozen? ⟨b,6,none⟩=false/\
 w.frozen? ⟨b,7,none⟩=false/\w.frozen? ⟨b,8,none⟩=false/\w.frozen? ⟨b,9,none⟩=false/\w.frozen? ⟨b,10,none⟩=false/\w.frozen? ⟨b,11,none⟩=false/\w.frozen? ⟨b,12,none⟩=false/\w.frozen? ⟨b,13,none⟩=false:=
 ⟨h.free 0,h.free 1,h.free 2,h.free 3,h.free 4,h.free 5,h.free 6,h.free 7,h.free 8,h.free 9,h.free 10,h.free 11,h.free 12,h.free 13⟩
theorem zm {C:World->Prop} {w:World} {O:Nat} {r s u v x y i j l m n o p q a b c d e f:Value} {t:TypeId} (h:eA w O #[r,s,u,v,x,y,i,j,l,m,n,o,p,q] t)
 (k:∀g,eA g O #[a,b,c,d,e,f,i,j,l,m,n,o,p,q] t->gA (·=O) w g->C g):C ((((((w.setCell ⟨O,0,none⟩ a).setCell ⟨O,1,none⟩ b).setCell ⟨O,2,none⟩ c).setCell ⟨O,3,none⟩ d).setCell ⟨O,4,none⟩ e).setCell ⟨O,5,none⟩ f):=
 k _ (by have:=((((((h.set 0 a).set 1 b).set 2 c).set 3 d).set 4 e).set 5 f);simpa using this) (((((((gA.refl (·=O) w).setCell (Ca rfl) 0 a).setCell (Ca rfl) 1 b).setCell (Ca rfl) 2 c).setCell (Ca rfl) 3 d).setCell (Ca rfl) 4 e).setCell (Ca rfl) 5 f)
def lJ:yC:=⟨⟨[],0,0,0,0,false⟩,⟨0,0,0⟩,0,[],0,false,false⟩
def yk (N:yC):Bool:=N.up&&!N.deg
theorem tr (w:World) (n:Int):(convert 22 9 (.slice (some ⟨w.heap.size,0,none⟩) 1 1)).run prog (w.alloc (.cells #[.int .u8 n] 5))=.ok (.string ⟨#[UInt8.ofNat n.toNat]⟩) (w.alloc (.cells #[.int .u8 n] 5)):=by
 rw[run_convert_bytes_string _ 22 9 5 _ 1 1 underlying22 underlying5 underlying9,run_bytesToString _ _ 1 1 [n] (by simp[go_sem,loadCells])];rfl
theorem aCe (c:UInt8) (s:ByteArray):((⟨#[c]⟩:ByteArray)++s).data.toList=c::s.data.toList:=by
 simp
theorem VP (c:UInt8) (s:ByteArray):((⟨#[c]⟩:ByteArray)++s).size=s.size+1:=by
 rw[Ga];show 1+s.size=_;omega
theorem ou (s:ByteArray) (l:List UInt8) (h:s.data.toList=l):s=⟨l.toArray⟩:=by
 subst h;simp
def US (c:UInt8):Bool:=(97<=c&&c<=122) ||(48<=c&&c<=57) ||c==45||c==46
def lN (l:List UInt8):Bool:=l.all US
def mL (s:ByteArray):Bool:=decide (1<=s.size) &&decide (s.size<=40) &&lN s.data.toList
theorem UT (l:List UInt8) (c:UInt8):lN (l++[c])=(lN l&&US c):=by simp[lN]
theorem ZX {l:List UInt8} {k:Nat} (h:lN (l.take k)=false):lN l=false:=by
 rw[Yc]at h |-
 intro a;apply h;simp only[lN,Wd]at a |-
 intro x b;exact a x (Ed b)
theorem pa (c:UInt8):US c=decide ((97<=(c.toNat:Int)/\(c.toNat:Int)<=122)\/(48<=(c.toNat:Int)/\(c.toNat:Int)<=57)\/(c.toNat:Int)=45\/(c.toNat:Int)=46):=by
 have a:(c==45)=decide (c.toNat=45):=by rw[Sb];simp[<-UInt8.toNat_inj]
 have b:(c==46)=decide (c.toNat=46):=by rw[Sb];simp[<-UInt8.toNat_inj]
 rw[Sb];simp[US,a,b,Jf];omega
theorem KT (s:ByteArray) (w:World) (m:s.size<=maxLen):
 Calls prog 109 #[.string s] w fun e h=>e=.returned (.bool (mL s))/\h=w:=by
 unfold maxLen at m;by_cases c:1<=s.size/\s.size<=40
 ·have l:xA (s.size:Int) 1 40=true:=by unfold xA;simp;omega
  have f:Hid (mL s=lN s.data.toList):=by show mL s=_;simp[mL,c.1,c.2]
  have o:=c.1;have p:=c.2;clear c;go_enter func109,ntmps109;go_wp2_with(go_at_call 25;refine(hC _ _ _ _).mono ?_;rintro e h ⟨rfl,rfl⟩);go_loop [3,4] (fun i _=>∃k:Nat,k<=s.size/\i=.int .i64 k/\lN (s.data.toList.take k)=true) (fun i _=>s.size-(intOf i).toNat)
  case atStart=>exact⟨0,La _,rfl,by simp[lN]⟩
  case round=>
   obtain⟨k,n,rfl,d⟩:=hrel;have b:Hid _:=d;clear d l;by_cases g:k<s.size
   ·have a:=UT (s.data.toList.take k) s[k];rw[<-lP s k g,b.out,Ce,pa]at a;have j:Hid _:=a;clear a;go_wp2;all_goals first
     |(go_ret
       refine⟨jA ?_,rfl⟩
       rw[f.out]
       refine(ZX (k:=k+1) ?_).symm
       rw[j.out,Ze]
       simp at *
       omega)
     |(refine⟨⟨k+1,by omega,by go_num,?_⟩,by simp[intOf];omega⟩
       rw[j.out,decide_eq_true_iff]
       simp at *
       omega)
   ·go_wp2;go_ret;exact⟨jA (by rw[f.out,<-b.out,Ua (by simp;omega)]),rfl⟩
 ·have l:xA (s.size:Int) 1 40=false:=by unfold xA;simp;omega
  have f:Hid (mL s=false):=by show mL s=_;simp[mL];omega
  go_enter func109,ntmps109;go_wp2_with(go_at_call 25;refine(hC _ _ _ _).mono ?_;rintro e h ⟨rfl,rfl⟩);go_ret;exact⟨jA f.out.symm,rfl⟩
def XW (f:kA):Bool:=mL f.name&&xA f.y9 0 f.data.size
def DW (a:List kA) (i:Nat):Bool:=
 match a[i]? with
 |none=>true
 |some f=>XW f&&(match i with
  |0=>true
  |j+1=>match a[j]? with
   |none=>true
   |some g=>Op.bytesLess g.name.toList f.name.toList)
def IA (a:List kA) (k:Nat):Bool:=(List.range k).all (DW a)
def mT (a:List kA):Bool:=IA a a.length
theorem QH (a:List kA) (k:Nat):IA a (k+1)=(IA a k&&DW a k):=by simp[IA,List.range_succ]
theorem LN {a:List kA} {k n:Nat} (h:DW a k=false) (c:k<n):IA a n=false:=by
 rw[Yc];intro b;simp only[IA,Wd,Wg]at b;rw[b k c]at h;exact absurd h (by simp)
theorem mZ:∃i,prog.info? 187=some i/\i.zero=some (.agg #[.string ByteArray.empty,.string ByteArray.empty,.int .i64 0])/\i.size=3/\i.bytes=40:=by
 have h:(prog.info? 187).map (fun i=>(i.zero,i.size,i.bytes))=some (some (.agg #[.string ByteArray.empty,.string ByteArray.empty,.int .i64 0]),3,40):=by kernel_rfl
 obtain⟨i,b,a⟩:=Ub.1 h;simp only[Hc]at a;exact⟨i,b,a⟩
theorem nU {w:World} {B:Nat} {e:TypeId} {size:Nat} {v:Value} {n:Nat} {f:List Value} (h:w.ownsRow B e size v n f):∀g,v.ownBlock=some g->g<w.heap.size:=by
 intro g a;rcases h.2 with⟨rfl,_⟩|⟨i,b,c,rfl,_,d,_⟩
 ·simp[Value.ownBlock]at a
 ·simp[Value.ownBlock]at a;subst a;exact aA d
theorem xd {w:World} {B:Nat} {e:TypeId} {size:Nat} {v:Value} {n:Nat} {d:List Value} (h:w.ownsRow B e size v n d):∃a b,v=.slice a n b:=by
 rcases h.2 with⟨rfl,rfl⟩|⟨f,b,c,rfl,_⟩
 ·exact⟨none,0,rfl⟩
 ·exact⟨_,b,rfl⟩
theorem bf {w:World} {B B':Nat} {e:TypeId} {size:Nat} {v:Value} {n:Nat} {c:List Value} (h:w.ownsRow B e size v n c) (f:B'<=B):w.ownsRow B' e size v n c:=by
 refine⟨h.1,?_⟩;rcases h.2 with d|⟨g,a,b,j,i,r⟩
 ·exact Ca d
 ·exact Ja ⟨g,a,b,j,Ra f i,r⟩
def gl (n:Nat):Nat->List UInt8
 |0=>[]
 |i+1=>(48+UInt8.ofNat (n / 10 ^ i % 10)):: gl n i
def aFp (n:Nat):ByteArray:=⟨(119::97::108::45::gl n 6).toArray⟩
def wQ (n:Int):ByteArray:=if 1<=n/\n<=999999 then aFp n.toNat else ByteArray.empty
theorem FZ (n:Nat):∀i,(gl n i).length=i
 |0=>rfl
 |i+1=>by simp[gl,FZ n i]
theorem aN (n:Int):(wQ n).size<=10:=by
 unfold wQ;split
 ·show(119::97::108::45::gl n.toNat 6).toArray.size<=10;simp[FZ]
 ·simp
theorem ur:(prog.info? 107).map (fun i=>(i.zero,i.size,i.bytes))=some (some (.agg #[.string ⟨#[]⟩,.int .i64 0]),2,24):=by kernel_rfl
theorem uv:(prog.info? 109).map (fun i=>(i.zero,i.size,i.bytes))=some (some (.agg #[.string ⟨#[]⟩,.int .i64 0]),2,24):=by kernel_rfl
theorem xV:(prog.info? 31).map (fun i=>(i.zero,i.size,i.bytes))=some (some (.agg #[.int .i64 0,.string ByteArray.empty,.string ByteArray.empty,.int .i64 0]),4,48):=by kernel_rfl
