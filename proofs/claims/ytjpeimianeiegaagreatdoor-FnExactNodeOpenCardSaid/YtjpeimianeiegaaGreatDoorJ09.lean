import Derived.Test.YtjpeimianeiegaaGreatDoorJ08
import Derived.ProofKit
import Derived.OpenShut
import Derived.Deep.Strs
set_option maxRecDepth 100000
set_option maxHeartbeats 2000000
namespace Go.Proofs.YtjpeimianeiegaaGreatDoor
open Go.RowKit Tryz
theorem TA (a:Option Addr) (N:Nat) (b:List dA) (k B:Nat) (w:World) (hk:0<k) (a0:k+3*b.length<=100000000) (U:nO w B a b):
 Calls prog 36 #[.slice a b.length N,.int .i64 (k:Int)] w fun e W=>e=.returned (.int .i64 ((k+3*b.length:Nat):Int))/\GG w W B a b.length/\nO W B a (nP k b.length):=by
 have E:nO w B a b/\(b=[]\/0<b.length):=⟨U,by rcases b with _|⟨f,r⟩<;>simp⟩
 have Q:b=[]\/(0<b.length/\∃g o d t,a=some ⟨g,o,none⟩/\B<=g/\w.heap[g]?=some (.cells d t (0,0))/\xR w g o b):=by
  rcases E.2 with h|h
  ·exact Ba h
  ·rcases E.1 with O|O
   ·exact Ba O
   ·exact Ea ⟨h,O⟩
 clear U E;rcases Q with rfl|⟨I,g,o,d,t,rfl,T,R,H⟩
 ·go_enter func36,ntmps36;go_wp2;go_loopw [1,5] (fun l i wr=>l=.int .i64 (k:Int)/\i=.int .i64 0/\wr=w) (fun _ i _=>0)
  case atStart=>exact⟨rfl,rfl,rfl⟩
  case round=>
   obtain⟨rfl,rfl,rfl⟩:=hrel;go_wp2;go_ret;exact⟨rfl,Ba ⟨rfl,Below.refl _ _⟩,Ba rfl⟩
 have z:=MA R H;have J:=aDi z;have X:Hid (lA w g d t):=R;clear z R H;generalize V:b.length=n at *;have A:n=0\/o+n*3<=d.size:=by
  rcases J with h|h
  ·left;rw[<-V,h];rfl
  ·exact Ea h
 clear J V;go_enter func36,ntmps36;go_wp2;go_loopw [1,5] (fun l i wr=>∃(j:Nat) (c:Array Value),j<=n/\i=.int .i64 j/\l=.int .i64 ((k+3*j:Nat):Int)/\lA wr g c t/\c.size=d.size/\(∀m,m<j->bF c o m (ku k m))/\eD g w wr) (fun _ i _=>n-(intOf i).toNat)
 case atStart=>exact⟨0,d,Ha _,rfl,rfl,X.out,rfl,fun m h=>absurd h (by omega),eD.refl _ _⟩
 case round=>
  obtain⟨j,c,hj,rfl,rfl,y,G,v,u⟩:=hrel;have q:Hid (lA wr g c t):=y;have s:Hid _:=v;have M:Hid _:=G;clear y v;by_cases b0:j<n
  ·have P:o+j*3+2<c.size:=by rcases A with h|h<;>omega
   clear G A;go_wp2_with fail;refine(wG _ (k+3*j) (by omega) _ (by omega) (by omega)).mono ?_;rintro e w1 ⟨rfl,C⟩;have x:=q.out.later C;obtain⟨v0,Y⟩:=x.there (j:=o+j*3) (by omega);have Z:=x.free (o+j*3);have K:Hid (lA w1 g c t):=x;clear x;go_wp2_with fail;refine(wG _ (k+3*j+1) (by omega) _ (by omega) (by omega)).mono ?_;rintro e w2 ⟨rfl,D⟩;have p:=(K.out.set (o+j*3) (.string (mt (k+3*j)))).later D;obtain⟨v1,d1⟩:=p.there (j:=o+j*3+1) (by simp;omega);have f1:=p.free (o+j*3+1);obtain⟨v2,d2⟩:=p.there (j:=o+j*3+2) (by simp;omega);have f2:=p.free (o+j*3+2);have L:Hid (lA w2 g (c.setIfInBounds (o+j*3) (.string (mt (k+3*j)))) t):=p;have F:Hid _:=((u.trans (eD.of C)).setCell _ _).trans (eD.of D);clear p Y Z C D u;go_wp2;refine⟨⟨j+1,_,by omega,by go_num,by go_num,(L.out.set (o+j*3+1) (.string (mt (k+3*j+1)))).set (o+j*3+2) (.int .i64 ((k+3*j+2:Nat):Int)),by simp[M.out],?_,(F.out.setCell _ _).setCell _ _⟩,by simp[intOf];omega⟩;intro m S;by_cases e:m=j
   ·subst e;exact bF.made c o m (ku k m) P
   ·exact(((s.out m (by omega)).set (by omega) _).set (by omega) _).set (by omega) _
  ·go_wp2;go_ret;have e:j=n:=by omega
   subst e;refine⟨iC (by omega),Ea ⟨I,g,o,rfl,T,u⟩,Ea ⟨g,o,c,t,rfl,T,q.out,fP q.out ?_⟩⟩;intro m S;rw[VX];exact s.out m (by rw[DO]at S;exact S)
def uA (x b a:Int):Bool:=decide (b<=x) &&decide (x<=a)
theorem fD (x b a:Int) (w:World):Calls prog 41 #[.int .i64 x,.int .i64 b,.int .i64 a] w fun e f=>e=.returned (.bool (uA x b a))/\f=w:=by
 by_cases c:b<=x
 ·by_cases d:x<=a
  ·have e:uA x b a=true:=by simp[uA,c,d]
   rw[e];go_enter func41,ntmps41;go_wp2;go_ret;exact⟨rfl,rfl⟩
  ·have e:uA x b a=false:=by simp[uA,d]
   rw[e];go_enter func41,ntmps41;go_wp2;go_ret;exact⟨rfl,rfl⟩
 ·have e:uA x b a=false:=by simp[uA,c]
  rw[e];go_enter func41,ntmps41;go_wp2;go_ret;exact⟨rfl,rfl⟩
theorem oQ (s:ByteArray) (k:Nat) (h:k<s.size):s.data.toList.take (k+1)=s.data.toList.take k++[s[k]]:=by
 rw[La (by simpa using h)];rfl
theorem yC {x c a:Int} {b:Bool} (h:uA x c a=b) (w:World):Calls prog 41 #[.int .i64 x,.int .i64 c,.int .i64 a] w fun e d=>e=.returned (.bool b)/\d=w:=h ▸ fD x c a w
theorem oI {w:World} {B:Nat} {e:TypeId} {a:Nat} {v:Value} {n:Nat} {i:List Value} (h:w.ownsRow B e a v n i):∀g,v.ownBlock=some g->B<=g:=by
 intro g b;rcases h.2 with⟨rfl,_⟩|⟨j,c,d,rfl,f,_⟩
 ·simp[Value.ownBlock]at b
 ·simp[Value.ownBlock]at b;subst b;exact f
def dW (w:World) (b:Option Addr) (m:Nat) (a:List Value):Prop:=m=0\/∃A,b=some A/\∀j u,a[j]?=some u->w.cell? (A.add j)=some u
theorem ND (b o j:Nat):(⟨b,o,none⟩:Addr).add j=⟨b,o+j,none⟩:=by unfold Addr.add;split<;>simp_all
theorem JJ (W:World) (x:Obj):Below W.heap.size W (W.alloc x).drew:=(cA _ _).drew
theorem JK (W:World) (x y:Obj):Below W.heap.size W ((W.alloc x).alloc y).drew:=(pA (cA _ _) (cA _ _)).drew
theorem jP {P:Program} (w:World) {ops:Array Oper} {o:Oper} {a:Act} {K:Act->World->Prop} {Q:Exit->Act->World->Prop} {E:Prop} (G:o.guard=none) (s x:Operand) (t:TypeId)
 (Z:o.op=.call { callee:=.builtin .append,args:=#[s,x],argTypes:=#[t,t] })
 (base:Nat) (e:TypeId) (i:TypeInfo) (z:Value) (b j:Nat) (ht:P.underlying t=some (.slice e)) (Y:P.info? e=some i) (hz:i.zero=some z)
 (B:i.size=b) (S:i.bytes=j) (U:z.cells.size=b) (T:0<b)
 (v n O:Nat) (M:List Value) (hs:a.eval s=.slice (some ⟨v,0,none⟩) n O) (d:w.ownsRow base e b (.slice (some ⟨v,0,none⟩) n O) n M)
 (N:Option Addr) (m c:Nat) (f:List Value) (hx:a.eval x=.slice N m c) (hl:f.length=m*b) (J:dW w N m f) (h1:∀u∈f,u.oneCell'=true)
 (R:n+m<=maxLen) (r:(n+m)*j<=140737488355328) (l:base<=w.heap.size)
 (h:∀g p C,C.ownsRow base e b (.slice (some ⟨g,0,none⟩) (n+m) p) (n+m) (M++f)->Below base w C->(∀k,k<w.heap.size->k≠v->C.heap[k]?=w.heap[k]?)->base<=g->(g=v\/g=w.heap.size)->g<C.heap.size->K (a.put o.dst (.slice (some ⟨g,0,none⟩) (n+m) p)) C):
 if Region.wanted o (yielded ops a.tmps)=true then Oper.wp P o a w K Q else E:=by
 have F:base<=v:=oI d v rfl;rcases Nat.eq_zero_or_pos m with rfl|hm
 ·have hw:Region.wanted o (yielded ops a.tmps)=true:=by simp[Region.wanted,G]
  rw[Ga hw];have H:f=[]:=Fb.1 (by omega);subst H;have I:=oU (P:=P) (w:=w) base t o.type e i b ht Y _ n M d N c;have hK:=h v O w (by rw[Dd];exact d) (Below.refl _ _) (fun _ _ _=>rfl) F (Ba rfl) (by
   rcases d.2 with⟨L,_⟩|⟨g',V,cur,L,_,hb,_⟩
   ·simp at L
   ·simp only[Value.slice.injEq,Ja,Addr.mk.injEq,Ub]at L;rw[L.1];exact aA hb)
  unfold Oper.wp execOp;simp only[Z,resolve,invoke,builtin,Sem.run_bind,Sem.run_pure,Result.andThen_ok,Cg,Sb,Tg,hs,hx,I];exact hK
 ·rcases J with h0|⟨A,rfl,y⟩
  ·omega
  refine step_append_lies w G s x t Z base e i z b j ht Y hz B S U T _ n M hs d A m c f hx hl y h1 hm R r l w.heap.size rfl fun g p C h2 W D h5=>?_;have X:g=v\/g=w.heap.size:=by
   rcases D with D|D
   ·left;simpa[Value.ownBlock]using D.symm
   ·exact Ea D
  refine h g p C h2 ((Below.refl base w).grown W l (fun q hq=>oI d q hq)) (fun k hk hne=>W.block k hk (by simp[Value.ownBlock];omega)) ?_ X h5;rcases X with rfl|rfl
  ·exact F
  ·exact l
theorem wH (a:Option Addr) (j:Nat) (c:List dA) (w:World) (l:iA w a c) (f:c.length<=maxLen) (m:xA c<=1000000000):
 Calls prog 61 #[.slice a c.length j] w fun e t=>e=.returned (.int .i64 (xA c))/\Below w.heap.size w t:=by
 unfold maxLen at f;have n:Hid (iA w a c):=l;clear l;go_enter func61,ntmps61;go_wp2;go_loopw [3,8,5] (fun s i _ wr=>∃k:Nat,k<=c.length/\i=.int .i64 k/\s=.int .i64 (xA (c.take k))/\Below w.heap.size w wr) (fun _ i _ _=>c.length-(intOf i).toNat)
 case atStart=>exact⟨0,Ha _,rfl,rfl,Below.refl _ _⟩
 case round=>
  obtain⟨k,A,rfl,rfl,d⟩:=hrel;have q:=oF c k;by_cases g:k<c.length
  ·obtain⟨b,o,rfl,y,u,v,x⟩:=(n.out.later d).at g;have h:=eG c k g;have r:=oF c (k+1);have z:c[k].data.size<=1000000000:=by omega
   have p:Hid _:=h;clear h;go_wp2;exact⟨⟨k+1,by omega,by go_num,by rw[p.out];go_num,d.alloc d.size _⟩,by simp[intOf];omega⟩
  ·go_wp2;go_ret;have e:c.take k=c:=Pa (by omega);exact⟨iC (by rw[e]),d⟩
theorem kX (a:Option Addr) (l:Nat) (d:List dA) (c y r u:Int) (t:Bool) (w:World) (m:iA w a d) (g:d.length<=maxLen) (n:xA d<=1000000000):
 Calls prog 42 #[.agg #[.slice a d.length l,.int .i64 c,.int .i64 y,.int .i64 r,.int .i64 u,.bool t]] w fun e z=>e=.returned (.int .i64 (xA d))/\Below w.heap.size w z:=by
 unfold maxLen at g;have p:Hid (iA w a d):=m;clear m;go_enter func42,ntmps42;go_wp2;go_loopw [3,9,5] (fun s i _ wr=>∃k:Nat,k<=d.length/\i=.int .i64 k/\s=.int .i64 (xA (d.take k))/\Below w.heap.size w wr) (fun _ i _ _=>d.length-(intOf i).toNat)
 case atStart=>exact⟨0,Ha _,rfl,rfl,(Below.refl _ _).alloc (Da _) _⟩
 case round=>
  obtain⟨k,F,rfl,rfl,f⟩:=hrel;have v:=oF d k;by_cases h:k<d.length
  ·obtain⟨b,o,rfl,D,A,B,C⟩:=(p.out.later f).at h;have j:=eG d k h;have x:=oF d (k+1);have E:d[k].data.size<=1000000000:=by omega
   have q:Hid _:=j;clear j;go_wp2;exact⟨⟨k+1,by omega,by go_num,by rw[q.out];go_num,f.alloc f.size _⟩,by simp[intOf];omega⟩
  ·go_wp2;go_ret;have e:d.take k=d:=Pa (by omega);exact⟨iC (by rw[e]),f⟩
section
open Go.ChangeShapes Go.WideShapes Go.ChangeAt Go.Deep
theorem NQ:prog.cellsOf 95=3:=by kernel_rfl
theorem zh:prog.cellsOf 9=1:=by kernel_rfl
theorem UN:prog.cellsOf 3=1:=by kernel_rfl
theorem qh:prog.cellsOf 4=1:=by kernel_rfl
theorem fj:prog.cellsOf 24=1:=by kernel_rfl
theorem qi:prog.cellsOf 26=6:=by kernel_rfl
section
variable {H:Type} {enc:TypeId×Value→H} {W:World}
theorem WJ {a:Nat} {cs:List Value} {x:DataW H×List MemPlace} (h:DataW.trod enc prog W 0 (fun _=>true) true a 95 cs=some x):
 ∃f:dA,cs=[.string f.name,.string f.data,.int .i64 f.y9]/\f.name.size<=maxLen/\f.data.size<=maxLen:=by
 obtain⟨t,u,v,n,_,j,e,g,i⟩:=trod_struct3 underlying95 h;rw[NQ]at j;match cs,j with
 |[q,r,s],_=>
  simp[zh,UN]at e g i;obtain⟨l,b,_,o⟩:=DataW.trod_string underlying9 e;obtain⟨m,c,_,p⟩:=DataW.trod_string underlying9 g;obtain⟨k,d,_,_⟩:=DataW.trod_int underlying3 i;simp at b c d;exact⟨⟨l,m,k⟩,by simp[b,c,d],o,p⟩
theorem ue {q:Nat} {v:Value} {x:DataW H×List MemPlace} (h:DataW.trod enc prog W 0 (fun _=>true) true q 24 [v]=some x):
 ∃(a:Option Addr) (g:Nat) (t:List dA),v=.slice a t.length g/\iA W a t/\mK t/\t.length<=maxLen:=by
 rcases open_slice underlying24 h with⟨r,_⟩|⟨a,len,g,m,n,D,O,r,_,P,Q,B,_,C⟩
 ·simp at r;exact⟨none,0,[],by simpa using r,Ba rfl,fun i h=>absurd h (by simp),by simp⟩
 ·simp at r;simp only[Lf]at B;have J:Inhabited dA:=⟨⟨ByteArray.empty,ByteArray.empty,0⟩⟩
  obtain⟨b,o,e⟩:=a;rw[NQ]at C;have s:0<len->e=none:=fun I=>by
   obtain⟨u,w,y⟩:=C 0 (by omega);obtain⟨f,rfl,_,_⟩:=WJ y;obtain⟨_,_,c⟩:=World.cells?_some w;have d:=c 0 (by omega);simp only[Kb]at d;have:=World.cell?_spot d;simpa[Addr.add]using this
  obtain⟨F,z⟩:=choose_lt (α:=dA) (n:=len) (p:=fun i f=>W.cell? ⟨b,o+i*3,none⟩=some (.string f.name)/\
   W.cell? ⟨b,o+i*3+1,none⟩=some (.string f.data)/\W.cell? ⟨b,o+i*3+2,none⟩=some (.int .i64 f.y9)/\f.name.size<=maxLen/\f.data.size<=maxLen) (fun i l=>by
   obtain⟨u,w,y⟩:=C i (by omega);obtain⟨f,rfl,E,G⟩:=WJ y;obtain⟨_,_,c⟩:=World.cells?_some w;have k:=s (by omega);subst k;refine⟨f,?_,?_,?_,E,G⟩
   ·simpa[add_plain]using c 0 (by omega)
   ·simpa[add_plain]using c 1 (by omega)
   ·simpa[add_plain]using c 2 (by omega))
  refine⟨some ⟨b,o,e⟩,g,(List.range len).map F,by simp[r],?_,?_,by simp;omega⟩
  ·by_cases I:len=0
   ·subst I;exact Ba rfl
   ·have K:=s (by omega);subst K;have j:b<W.heap.size:=by
     have d:=(z 0 (by omega)).1;rcases Ac b W.heap.size with j|A
     ·exact j
     ·simp[World.cell?,Tc A]at d
    refine Ea ⟨b,o,rfl,j,fun i l=>?_⟩;simp only[Ua,List.length_range]at l;obtain⟨L,M,N,_⟩:=z i l;simpa using ⟨L,M,N⟩
  ·intro i l;simp only[Ua,List.length_range]at l;obtain⟨_,_,_,E,G⟩:=z i l;simpa using ⟨E,G⟩
theorem aCm {r:Reach} {D:Nat} {v:Value} {d:DataW H} {p:List MemPlace} (M:Value.okWide prog W r D 26 v) (h:DataW.Trod enc prog W 0 (fun _=>true) true 26 v d p):
 ∃(a:Option Addr) (e:Nat) (g:List dA) (c k j u:Int) (F:Bool),v=.agg #[.slice a g.length e,.int .i64 c,.int .i64 k,.int .i64 j,.int .i64 u,.bool F]/\iA W a g/\mK g/\g.length<=maxLen/\
  (Lit.int .i64 c).wf=true/\(Lit.int .i64 k).wf=true/\(Lit.int .i64 j).wf=true/\(Lit.int .i64 u).wf=true:=by
 obtain⟨cs,rfl,f⟩:=okWide_struct underlying26 M;obtain⟨w,L⟩:=h;obtain⟨V,n,_,_,_,i,b⟩:=DataW.trod_struct underlying26 L;rw[qi]at f;obtain⟨l⟩:=cs;simp at f;match l,f with
 |[X,Y,Z,c3,c4,c5],_=>
  match V,i with
  |[y0,y1,y2,y3,y4,y5],_=>
   have x:=b 0 _ rfl;have y:=b 1 _ rfl;have z:=b 2 _ rfl;have A:=b 3 _ rfl;have B:=b 4 _ rfl;have C:=b 5 _ rfl;simp[Value.cells,fj,UN,qh]at x y z A B C;obtain⟨a,e,g,G,I,K,J⟩:=ue x;obtain⟨N,m,_,R⟩:=DataW.trod_int underlying3 y;obtain⟨O,o,_,S⟩:=DataW.trod_int underlying3 z;obtain⟨P,q,_,T⟩:=DataW.trod_int underlying3 A;obtain⟨Q,s,_,U⟩:=DataW.trod_int underlying3 B;obtain⟨E,t,_⟩:=DataW.trod_bool underlying4 C;simp at m o q s t;exact⟨a,e,g,N,O,P,Q,E,by simp[G,m,o,q,s,t],I,K,J,R,S,T,U⟩
end
end
