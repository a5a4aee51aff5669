import Derived.Test.YtabgbmfcbobamaaGreatDoorJ43
import Derived.Test.YtabgbmfcbobamaaGreatDoorJ40
import Derived.Test.YtabgbmfcbobamaaGreatDoorJ41
import Derived.Test.YtabgbmfcbobamaaGreatDoorJ37
namespace Go.Proofs.YtabgbmfcbobamaaGreatDoor
open Go.RowKit Tryz
section
open Go.Maps
attribute [local go_sem] rG sH mN eA.drewI dM.drewI dM.new dM.alloc dM.alloc2
structure tO (w:World) (a b:Option Addr) (N:yC):Prop where
 files:qA w a N.d.fs
 fit:CU N.d.fs
 tens:oB w b N.ts
 bulk:N.ts.length+uA N.ts≤800000
 rng:WJ N.ts
 lsn:uY N.lsn
 now:uY N.now
theorem tO.later {w W:World} {a b:Option Addr} {N:yC} (h:tO w a b N) (c:Below w.heap.size w W):tO W a b N:=⟨h.files.later c,h.fit,h.tens.later c,h.bulk,h.rng,h.lsn,h.now⟩
theorem NP.held {w W:World} {c:vB} {cs:Array Value} (h:NP w W c cs) (M:Array Value) (a:World) (b:Below W.heap.size W a):eA a (w.heap.size+1) cs 82/\eA (a.setRow (w.heap.size+1+1) M) (w.heap.size+1) cs 82:=
 ⟨(h.later b).N,(fF a (w.heap.size+1+1) M).blk (h.later b).N (by omega)⟩
theorem wG {d:Func} {t:Act} {w W:World} {i j:Nat} {c:vB} {cs:Array Value} {M:yC} {x:Value} {a b:Option Addr} {f g:Nat} (h:d.results=#[.cell i 82,.tmp j]) (k:t.tmps.getD i undef=.pointer (some ⟨w.heap.size+1+1,0,none⟩)) (l:t.tmps.getD j undef=x) (m:t.defers=[]) (P:NP w W c cs) (I:tO W a b M):bodyPost prog d (fun e n=>cz M x w e n) .ret t (W.setRow (w.heap.size+1+1) (iB a f b g M)):=
 oR h k l m P.R (mD _ _ _ _ _) (by omega) P.B I.files I.tens
theorem JI {C:World->Prop} {w:World} {a cs:Array Value} {T:TypeId} (k:∀W,Below w.heap.size w W->eA W w.heap.size cs T->C W):C ((w.alloc (.cells a T)).setRow w.heap.size cs):=
 k _ ((cA _ _).trans ((fF _ _ _).below (by simp) fun i b e=>by omega)) (eA.new _ _ _).row
theorem aGa {C:World->Prop} {w:World} {O:Nat} {f g a b:Value} {t:TypeId} (h:eA w O #[f,g] t) (k:∀W,eA W O #[a,b] t->gA (·=O) w W->(∀{B:Nat} {e:TypeId} {z:Nat} {v:Value} {n:Nat} {d:List Value},w.ownsRow B e z v n d->O<B->W.ownsRow B e z v n d)->C W):C ((w.setCell ⟨O,0,none⟩ a).setCell ⟨O,1,none⟩ b):=
 k _ (by have:=(h.set 0 a).set 1 b;simpa using this) (((gA.refl (·=O) w).setCell (Ca rfl) 0 a).setCell (Ca rfl) 1 b) fun h c=>nY (nY h c _) c _
theorem ba {W:World} {g:Nat} {k n:Int} {t x:ByteArray} {T:TypeId} (h:eA W g #[.int .i64 k,.string t,.string x,.int .i64 n] T):gF W (some ⟨g,0,none⟩) [⟨k,t,x,n⟩]:=
 Ja ⟨g,0,rfl,aA h,fun i a=>by obtain rfl:i=0:=by simp at a;exact a
                              exact h.c4⟩
theorem UN (c:vB) {a b:Option Addr} {ca cb:Nat} {N:yC} {W:World} (h:tO W a b N) {f:Option Addr} {capr:Nat} {d:List lC} (i:gF W f d) (k:d.length+pC d<=240000) (g:MW d):
 Calls prog 83 #[iD c,.agg (iB a ca b cb N),.slice f d.length capr] W fun e j=>cz (bJ c N d).1 (.int .i64 (bJ c N d).2) W e j:=
 bv c a b ca cb N f capr d W ⟨h.files,h.fit,h.tens,i,by have:=h.bulk;omega,g,h.lsn⟩
theorem kg {k n:Int} {t x:ByteArray} (c:0<=k/\k<=9) (b:AC n):MW [⟨k,t,x,n⟩]:=fun i a=>by
 obtain rfl:i=0:=by simp at a;exact a
 exact⟨⟨by dsimp;omega,by dsimp;omega⟩,b⟩
theorem zp {c:vB} {d:Int} {a:List dA} (h:gB c d a=true) (b f:ByteArray) (j:a.length+uA a<=1100000): -1<=(cF c d a b f).1/\(cF c d a b f).1<=2000000/\-1<=(cF c d a b f).2/\(cF c d a b f).2<=1000000:=by
 obtain⟨k,_,_,_,m⟩:=oF h;obtain⟨n,i,_⟩:=pR m (name:=b);have p:(tA a b).s9.length<=1100000:=by
  rcases uI (ts:=a) (name:=b) with⟨g,_⟩|⟨e,_⟩
  ·exact(AW j _ g).2.2.2.2
  ·rw[e];exact La _
 have l:(0<=c.tl/\c.tl<=1000000)/\(0<=c.ml/\c.ml<=1000000):=by
  simp only[jE,xA,Sa,Eb]at k;omega
 have g : -1<=qG (tA a b).m9 f c.ml/\qG (tA a b).m9 f c.ml<=1000000:=by
  rw[oq (IU i).2];cases hg:xC (·.s) f (tA a b).m9 with
  |none=>exact⟨by simp;omega,by simp;omega⟩
  |some q=>
   have:=((IU i).1 q (xW hg).1).2;simp only[xA,Sa,Eb]at this;exact⟨by simp;omega,by simp;omega⟩
 have o:wN vD (tA a b).s9 f<=(tA a b).s9.length:=Gc _ _;simp only[xA,Sa,Eb]at n;unfold cF qD;split
 ·split
  ·refine⟨by dsimp only;omega,by dsimp only;omega,?_,?_⟩<;>(dsimp only;split<;>omega)
  ·exact⟨by dsimp only;omega,by dsimp only;omega,g.1,g.2⟩
 ·exact⟨by simp,by simp,by simp,by simp⟩
theorem UQ (v:Int) (W:World) (a : -9223372036854775808<=v) (b:v<=9223372036854775807):Calls prog 26 #[.int .i64 8,.int .i64 v] W fun e c=>e=.returned (.string (fA 8 v))/\Below W.heap.size W c:=aC 8 v W (by omega) a b
theorem aEy (v:Int) (W:World) (a : -9223372036854775808<=v) (b:v<=9223372036854775807):Calls prog 26 #[.int .i64 4,.int .i64 v] W fun e c=>e=.returned (.string (fA 4 v))/\Below W.heap.size W c:=aC 4 v W (by omega) a b
theorem aEx (v:Int) (W:World) (a : -9223372036854775808<=v) (b:v<=9223372036854775807):Calls prog 26 #[.int .i64 2,.int .i64 v] W fun e c=>e=.returned (.string (fA 2 v))/\Below W.heap.size W c:=aC 2 v W (by omega) a b
theorem yb {c:vB} {g:Int} {a:List dA} (h:gB c g a=true) (b:ByteArray) (o:a.length+uA a<=1100000):(tA a b).s9.length+fC (tA a b).s9<=1100000/\RR (tA a b).s9:=by
 obtain⟨_,m,d,_,k⟩:=oF h;obtain⟨_,_,l⟩:=pR k (name:=b);refine⟨?_,fun i f=>?_⟩
 ·rcases uI (ts:=a) (name:=b) with⟨j,_⟩|⟨e,_⟩
  ·obtain⟨i,f,e⟩:=Ob j;have d:=mH a i f;have n:=iJ a (i+1);rw[e]at d;unfold fD at d;omega
  ·rw[e];exact La _
 ·have:=((BV l).1 _ (Xa f)).2.1;simp only[xA,Sa,Eb]at this;exact⟨by omega,by omega⟩
theorem eg (a b d e:Value) (W:World):(Instr.field 100 (.agg #[a,b,d,e]) 3).run prog W=.ok e W:=by kernel_rfl
theorem aGr {c:vB} {a:Int} {e:List dA} (h:gB c a e=true) (d:ByteArray) (b:List jD) (r:(cD b).size<=60000) (v:b.length<=500) (q:d.size<=255) (k:Nat) (p:k<=b.length):gB c a (sQ c a d e (b.take k)).1=true/\(sQ c a d e (b.take k)).1.length+uA (sQ c a d e (b.take k)).1<=e.length+uA e+190000/\(sQ c a d e (b.take k)).2.1.size=k/\(sQ c a d e (b.take k)).2.2.length<=k/\pC (sQ c a d e (b.take k)).2.2<=190000/\MW (sQ c a d e (b.take k)).2.2:=by
 obtain⟨j,s,l,m,t,n⟩:=yu h d b k p;have u:(cD (b.take k)).size<=60000:=by
  have:=fL (b.take k) (b.drop k);rw[Ya]at this;rw[this,Ga]at r;omega
 have w:k*(d.size+2)<=500*257:=De (by omega) (by omega);have x:k*d.size<=500*255:=De (by omega) q;refine⟨j,by omega,l,m,by omega,fun i o=>?_⟩;obtain⟨f,g⟩:=n _ (Xa o);rw[f,g];exact⟨⟨by omega,by omega⟩,⟨by omega,by omega⟩⟩
def uM (k:Int):Bool:=k != 2&&k != 4
def et (c:vB) (N:yC) (s:ByteArray) (a:List Int):Prop:=jE c=true/\N.up=true/\gB c N.now N.ts=true/\(nE s).2=true/\(nE s).1.kind∈a
theorem et.ans {c:vB} {N:yC} {s:ByteArray} {e:List Int} (h:et c N s e):bM c N s=iV c N (nE s).1:=by
 obtain⟨_,a,b,d,_⟩:=h;unfold bM;rw[Oa (by rw[a,b];simp),Oa (by rw[d];simp)]
end
