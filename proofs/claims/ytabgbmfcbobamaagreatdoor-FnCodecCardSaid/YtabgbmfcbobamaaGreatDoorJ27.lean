import Derived.Test.YtabgbmfcbobamaaGreatDoorJ24
import Derived.Test.YtabgbmfcbobamaaGreatDoorJ23
import Derived.Test.YtabgbmfcbobamaaGreatDoorJ22
import Derived.Test.YtabgbmfcbobamaaGreatDoorJ21
import Derived.ProofKit
import Derived.OpenShut
import Derived.Deep.Strs
set_option maxRecDepth 100000
set_option maxHeartbeats 8000000
namespace Go.Proofs.YtabgbmfcbobamaaGreatDoor
open Go.RowKit Tryz
theorem yO (a:List lA) (k:Nat) (h:k<a.length):a[k].s.size<=fC a:=by
 have b:=aQ a k h;have c:=wM a (k+1);omega
theorem xR {a:List dA} (h:a.length+uA a<=1100000):za a 1100000/\yz a/\True/\aFx a:=by
 have g:∀i (b:i<a.length),fD a[i]<=1100000:=fun i b=>by have:=MO a i b;omega
 have d:∀i (b:i<a.length),a[i].name.size<=1100000/\a[i].m9.length<=1100000/\a[i].s9.length<=1100000/\fC a[i].m9<=1100000/\fC a[i].s9<=1100000:=fun i b=>by have:=g i b;unfold fD at this;omega
 have c:∀i (b:i<a.length),(∀j (f:j<a[i].m9.length),a[i].m9[j].s.size<=1000000000)/\(∀j (f:j<a[i].s9.length),a[i].s9[j].s.size<=1000000000):=fun i b=>
  ⟨fun j e=>by have:=yO _ j e;have:=d i b;omega,fun j e=>by have:=yO _ j e;have:=d i b;omega⟩
 refine⟨fun i b=>⟨?_,(c i b).1,(c i b).2,?_,?_,?_⟩,fun i b=>⟨?_,(c i b).1,(c i b).2,?_,?_⟩,trivial,fun i b=>⟨?_,?_⟩⟩<;>(have:=d i b;unfold maxLen at *;omega)
def fV (V:Int×List dA×Bool) (w:World) (e:Ending) (c:World):Prop:=
 ∃a b,e=.returned (.tuple #[.agg #[.int .i64 V.1,.slice a V.2.1.length b],.bool V.2.2])/\oC c w.heap.size a V.2.1/\Below w.heap.size w c
theorem AW {ts:List dA} (h:ts.length+uA ts<=1100000):∀x∈ts,x.name.size<=1100000/\(∀p∈x.m9,p.s.size<=1100000)/\(∀p∈x.s9,p.s.size<=1100000)/\x.m9.length<=1100000/\x.s9.length<=1100000:=by
 intro x e;obtain⟨i,d,rfl⟩:=Ob e;have c:=MO ts i d;unfold fD at c;refine⟨by omega,fun p b=>?_,fun p b=>?_,by omega,by omega⟩
 ·obtain⟨j,a,rfl⟩:=Ob b;have:=yO _ j a;omega
 ·obtain⟨j,a,rfl⟩:=Ob b;have:=yO _ j a;omega
theorem QX {b:List dA} (h:∀x∈b,x.name.size<=1100000/\(∀p∈x.m9,p.s.size<=1100000)/\(∀p∈x.s9,p.s.size<=1100000)/\x.m9.length<=1100000/\x.s9.length<=1100000) {a:ByteArray} (f:a.size<=1100000):
 (tA b a).name.size<=1100000/\(∀p∈(tA b a).m9,p.s.size<=1100000)/\(∀p∈(tA b a).s9,p.s.size<=1100000)/\(tA b a).m9.length<=1100000/\(tA b a).s9.length<=1100000:=by
 rcases uI (ts:=b) (name:=a) with⟨d,_⟩|⟨e,_⟩
 ·exact h _ d
 ·rw[e];exact⟨f,fun p c=>(by cases c),fun p c=>(by cases c),La _,La _⟩
theorem BE {α:Type} {key:α->ByteArray} {a:α} (l:List α):(bB key a l).length<=l.length+1:=by
 induction l with
 |nil=>simp[bB]
 |cons p r b=>
  rw[bB];split
  ·simp only[Jb];omega
  ·split<;>simp
theorem ZO {c:vB} {a:Int} {d:List dA} (h:gB c a d=true):∀p∈d,p.name≠⟨#[]⟩:=fun p f e=>by
 have b:=(gJ (nH (oF h).2.2.2.2 p f)).1;rw[e]at b;simp only[yB,Sa,Eb]at b;have g:(⟨#[]⟩:ByteArray).size=0:=rfl;omega
theorem IP {c:vB} {b:Int} {a:List dA} (h:gB c b a=true) (e:a.length+uA a<=1100000):∀x∈a,RM x:=fun x d=>by
 obtain⟨_,j,k,_,g⟩:=oF h;obtain⟨_,_,_,l,m⟩:=AW e x d;refine⟨by omega,by omega,fun i f=>?_⟩;have:=IZ (gJ (nH g x d)).2.2.1 _ (Xa f);omega
theorem xl {c:vB} {a:Int} {b:List dA} (h:gB c a b=true):uC c.w a (CP ⟨⟨#[]⟩,0,[],[]⟩ true b)=b:=by
 rw[sR (t:=⟨⟨#[]⟩,0,[],[]⟩) (ZO h)];exact YW (oF h).2.2.2.2
theorem xP (c:vB) (f:Int) (a:Option Addr) (k:Nat) (j:List dA) (w:World) (F:oB w a j) (m:gB c f j=true) (E:j.length+uA j<=1100000):
 Calls prog 117 #[iD c,.agg #[.int .i64 f,.slice a j.length k]] w fun e y=>∃r l,e=.returned (.agg #[.int .i64 f,.slice r j.length l])/\oC y w.heap.size r j/\Below w.heap.size w y:=by
 obtain⟨_,B,L,_,_⟩:=oF m;have I:Hid (∀W,Below w.heap.size w W->Calls prog 127 #[iD c,.agg #[.int .i64 f,.slice a j.length k],.int .i64 f,.agg #[.string ⟨#[]⟩,.int .i64 0,.slice none 0 0,.slice none 0 0]] W fun e y=>∃r l,e=.returned (.agg #[.int .i64 f,.slice r j.length l])/\oC y W.heap.size r j/\Below W.heap.size W y):=fun W K=>by
  have:=qZ c f f a k j ⟨⟨#[]⟩,0,[],[]⟩ none none 0 0 W (F.later K) (Ca rfl) (Ca rfl) (by omega) (fun x C=>by
   rcases C with rfl|C
   ·exact⟨La _,La _,fun i h=>absurd h (by simp)⟩
   ·exact IP m E x C) B (by omega)
  have e:(⟨⟨#[]⟩,0,[],[]⟩:dA).name.toList.isEmpty=true:=by kernel_rfl
  rw[e,xl m]at this;exact this
 clear F m E;unfold iD at *;go_enter func117,ntmps117;have D:Hid (Below w.heap.size w (((w.alloc (.cells #[.int .i64 c.w,.int .i64 c.tl,.int .i64 c.ml,.int .i64 c.sh,.int .i64 c.ha,.int .i64 c.sg] 33)).alloc (.cells #[.int .i64 f,.slice a j.length k] 51)).alloc (.cells #[.int .i64 0,.slice none 0 0] 51))):=nA (nA (cA _ _) (cA _ _)) (cA _ _);have J:Hid _:=bA (by have:=eA.new ((w.alloc (.cells #[.int .i64 c.w,.int .i64 c.tl,.int .i64 c.ml,.int .i64 c.sh,.int .i64 c.ha,.int .i64 c.sg] 33)).alloc (.cells #[.int .i64 f,.slice a j.length k] 51)) #[.int .i64 0,.slice none 0 0] 51;simpa using this);go_wp2_with fail;refine(I.out _ D.out).mono ?_;rintro e o ⟨p,u,rfl,t,n⟩;have A:Hid _:=bA (by simpa using t);have z:Hid (eA o (w.heap.size+1+1) #[.int .i64 0,.slice none 0 0] 51):=J.out.later n;have H:Hid _:=nA D.out n;have M:o.cell? ⟨w.heap.size+1+1,0,none⟩=some (.int .i64 0):=z.out.cell 0;have N:o.cell? ⟨w.heap.size+1+1,1,none⟩=some (.slice none 0 0):=z.out.cell 1;have b:=z.out.free 0;have d:=z.out.free 1;clear t n;go_wp2;have q:gA (·=w.heap.size+1+1) o ((o.setCell ⟨w.heap.size+1+1,0,none⟩ (.int .i64 f)).setCell ⟨w.heap.size+1+1,1,none⟩ (.slice p j.length u)):=((gA.refl (·=w.heap.size+1+1) o).setCell (Ca rfl) 0 _).setCell (Ca rfl) 1 _;have G:oC ((o.setCell ⟨w.heap.size+1+1,0,none⟩ (.int .i64 f)).setCell ⟨w.heap.size+1+1,1,none⟩ (.slice p j.length u)) w.heap.size p j:=(oC.turned A.out q (fun g O P e=>by omega)).mono (by omega);have s:=((gA.of (S:=fun i=>w.heap.size<=i) H.out).trans' (q.mono fun i _ e=>by omega)).below (Ka _) fun i Q h=>by omega
 refine bodyPost_ret (v:=.agg #[.int .i64 f,.slice p j.length u]) (by simp[results,results117,go_sem,M,N]) rfl ?_;first
  |exact⟨p,⟨u,rfl⟩,G,s⟩
  |exact⟨p,u,rfl,G,s⟩
def KX (a:World) (X:Nat) (K:dA) (b:World):Prop:=
 ∃c e d f,eA b X #[.string K.name,.int .i64 K.l9,.slice c K.m9.length e,.slice d K.s9.length f] 100/\(∀W,gA (·=X) b W->yA W c K.m9/\yA W d K.s9)/\a.heap.size<=X/\Below a.heap.size a b
theorem BM {w W:World} {B X:Nat} {q:Option Addr} {c:List lA} (h:dC w B q c) (b:gA (·=X) w W) (n:X<B\/w.heap.size<=X):yA W q c:=by
 rcases h with h|⟨g,o,d,t,rfl,m,f,h⟩
 ·exact Ca h
 ·have a:=aA f;have l:=b.block g a (by omega);have e:∀j,W.cell? ⟨g,j,none⟩=w.cell? ⟨g,j,none⟩:=fun j=>World.cell?_of_block l;exact Ja ⟨g,o,rfl,by have:=b.size;omega,fun i k=>by simp only[e];exact h i k⟩
theorem aEm {e b:World} {K:dA} {B M:Nat} {c d:Option Addr} {f g:Nat} (i:dC b B c K.m9) (j:dC b M d K.s9) (h:Below e.heap.size e b):
 KX e b.heap.size K (b.alloc (.cells #[.string K.name,.int .i64 K.l9,.slice c K.m9.length f,.slice d K.s9.length g] 100)):=by
 refine⟨c,f,d,g,eA.new _ _ _,fun W k=>?_,h.size,nA h (cA _ _)⟩;have a:=(gA.of (cA _ _)).trans' k;exact⟨BM i a (Ja (Ka _)),BM j a (Ja (Ka _))⟩
theorem ve {f a:World} {K:dA} {B M X:Nat} {b c:Option Addr} {d e:Nat} (k:dC a B b K.m9) (l:dC a M c K.s9) (m:X<B) (o:B<=M) (j:f.heap.size<=X) (g:eA a X #[.string ⟨#[]⟩,.int .i64 0,.slice none 0 0,.slice none 0 0] 100) (n:Below f.heap.size f a):
 KX f X K ((((a.setCell ⟨X,0,none⟩ (.string K.name)).setCell ⟨X,1,none⟩ (.int .i64 K.l9)).setCell ⟨X,2,none⟩ (.slice b K.m9.length d)).setCell ⟨X,3,none⟩ (.slice c K.s9.length e)):=by
 have i:gA (·=X) a ((((a.setCell ⟨X,0,none⟩ (.string K.name)).setCell ⟨X,1,none⟩ (.int .i64 K.l9)).setCell ⟨X,2,none⟩ (.slice b K.m9.length d)).setCell ⟨X,3,none⟩ (.slice c K.s9.length e)):=((((gA.refl (·=X) a).setCell (Ca rfl) 0 _).setCell (Ca rfl) 1 _).setCell (Ca rfl) 2 _).setCell (Ca rfl) 3 _;refine⟨b,d,c,e,?_,fun W h=>⟨BM k (i.trans' h) (Ca m),BM l (i.trans' h) (Ca (by omega))⟩,j,VD n j⟩;have:=(((g.set 0 (.string K.name)).set 1 (.int .i64 K.l9)).set 2 (.slice b K.m9.length d)).set 3 (.slice c K.s9.length e);simpa using this
structure qX (w W:World) (c:vB) (now:Int) (a:Option Addr) (n cap:Nat):Prop where
 C:eA W w.heap.size #[.int .i64 c.w,.int .i64 c.tl,.int .i64 c.ml,.int .i64 c.sh,.int .i64 c.ha,.int .i64 c.sg] 33
 S:eA W (w.heap.size+1) #[.int .i64 now,.slice a n cap] 51
 R:eA W (w.heap.size+1+1) #[.int .i64 0,.slice none 0 0] 51
 B:Below w.heap.size w W
section
variable {w W W':World} {c:vB} {now:Int} {a:Option Addr} {n cap:Nat}
theorem qX.new:qX w (((w.alloc (.cells #[.int .i64 c.w,.int .i64 c.tl,.int .i64 c.ml,.int .i64 c.sh,.int .i64 c.ha,.int .i64 c.sg] 33)).alloc (.cells #[.int .i64 now,.slice a n cap] 51)).alloc (.cells #[.int .i64 0,.slice none 0 0] 51)) c now a n cap:=
 ⟨((eA.new _ _ _).alloc _).alloc _,by have:=(eA.new (w.alloc (.cells #[.int .i64 c.w,.int .i64 c.tl,.int .i64 c.ml,.int .i64 c.sh,.int .i64 c.ha,.int .i64 c.sg] 33)) #[.int .i64 now,.slice a n cap] 51).alloc (.cells #[.int .i64 0,.slice none 0 0] 51);simpa using this,
   by have:=eA.new ((w.alloc (.cells #[.int .i64 c.w,.int .i64 c.tl,.int .i64 c.ml,.int .i64 c.sh,.int .i64 c.ha,.int .i64 c.sg] 33)).alloc (.cells #[.int .i64 now,.slice a n cap] 51)) #[.int .i64 0,.slice none 0 0] 51;simpa using this,nA (nA (cA _ _) (cA _ _)) (cA _ _)⟩
theorem qX.later (h:qX w W c now a n cap) (b:Below W.heap.size W W'):qX w W' c now a n cap:=⟨h.C.later b,h.S.later b,h.R.later b,nA h.B b⟩
theorem qX.lt (h:qX w W c now a n cap):w.heap.size+1+1<W.heap.size:=aA h.R
theorem qX.turn {X:Nat} (h:qX w W c now a n cap) (b:gA (·=X) W W') (d:w.heap.size+1+1<X):qX w W' c now a n cap:=
 ⟨b.blk h.C (by omega),b.blk h.S (by omega),b.blk h.R (by omega),h.B.trans (b.below (by have:=h.B.size;omega) fun i f e=>by omega)⟩
theorem qX.cells (h:qX w W c now a n cap):W.cell? ⟨w.heap.size,0,none⟩=some (.int .i64 c.w)/\W.cell? ⟨w.heap.size,1,none⟩=some (.int .i64 c.tl)/\W.cell? ⟨w.heap.size,2,none⟩=some (.int .i64 c.ml)/\W.cell? ⟨w.heap.size,3,none⟩=some (.int .i64 c.sh)/\W.cell? ⟨w.heap.size,4,none⟩=some (.int .i64 c.ha)/\W.cell? ⟨w.heap.size,5,none⟩=some (.int .i64 c.sg)/\W.cell? ⟨w.heap.size+1,0,none⟩=some (.int .i64 now)/\W.cell? ⟨w.heap.size+1,1,none⟩=some (.slice a n cap)/\W.cell? ⟨w.heap.size+1+1,0,none⟩=some (.int .i64 0)/\W.cell? ⟨w.heap.size+1+1,1,none⟩=some (.slice none 0 0)/\W.frozen? ⟨w.heap.size+1+1,0,none⟩=false/\W.frozen? ⟨w.heap.size+1+1,1,none⟩=false/\w.heap.size+1+1<W.heap.size:=
 ⟨h.C.cell 0,h.C.cell 1,h.C.cell 2,h.C.cell 3,h.C.cell 4,h.C.cell 5,h.S.cell 0,h.S.cell 1,h.R.cell 0,h.R.cell 1,h.R.free 0,h.R.free 1,h.lt⟩
theorem qX.done {N rc:Nat} {v:Int} {d:Option Addr} {b:List dA} (h:qX w W c now a n cap) (j:oC W N d b) (m:w.heap.size+1+1<N):
 oC ((W.setCell ⟨w.heap.size+1+1,0,none⟩ (.int .i64 v)).setCell ⟨w.heap.size+1+1,1,none⟩ (.slice d b.length rc)) w.heap.size d b/\Below w.heap.size w ((W.setCell ⟨w.heap.size+1+1,0,none⟩ (.int .i64 v)).setCell ⟨w.heap.size+1+1,1,none⟩ (.slice d b.length rc)):=by
 have f:gA (·=w.heap.size+1+1) W ((W.setCell ⟨w.heap.size+1+1,0,none⟩ (.int .i64 v)).setCell ⟨w.heap.size+1+1,1,none⟩ (.slice d b.length rc)):=((gA.refl (·=w.heap.size+1+1) W).setCell (Ca rfl) 0 _).setCell (Ca rfl) 1 _;exact⟨(oC.turned j f (fun g k l e=>by omega)).mono (by omega),((gA.of (S:=fun i=>w.heap.size<=i) h.B).trans' (f.mono fun i _ e=>by omega)).below (Ka _) fun i o h=>by omega⟩
end
def KXR (a:World) (X:Nat) (K:dA) (c:World):Prop:=
 ∃M b f e d,eA c X #[.string K.name,.int .i64 K.l9,.slice b K.m9.length f,.slice e K.s9.length d] 100/\dC c a.heap.size b K.m9/\(∀g o,b=some ⟨g,o,none⟩->g<M)/\c.ownsRow M 109 2 (.slice e K.s9.length d) K.s9.length (flatK K.s9)/\(∀q,(Value.slice e K.s9.length d).ownBlock=some q->q≠X)/\(∀g o,b=some ⟨g,o,none⟩->K.m9≠[]->g≠X)/\a.heap.size<=X/\a.heap.size<=M/\Below a.heap.size a c
theorem aAg {d a:World} {K:dA} {B M:Nat} {c k:Option Addr} {b f:Nat} (r:d.heap.size<=B) (l:dC a B c K.m9) (i:∀g o,c=some ⟨g,o,none⟩->g<M) (m:a.ownsRow M 109 2 (.slice k K.s9.length f) K.s9.length (flatK K.s9)) (x:B<=M) (n:Below d.heap.size d a):
 KXR d a.heap.size K (a.alloc (.cells #[.string K.name,.int .i64 K.l9,.slice c K.m9.length b,.slice k K.s9.length f] 100)):=by
 refine⟨M,c,b,k,f,eA.new _ _ _,(l.mono r).later (cA _ _),i,vA m (cA _ _),fun q u e=>?_,fun g o e j v=>?_,n.size,by omega,nA n (cA _ _)⟩
 ·have:=(m.lt q u).2;omega
 ·rcases l with h|⟨w,y,p,t,b,_,s,_⟩
  ·exact j h
  ·rw[b]at e;simp only[Pa,Addr.mk.injEq,Yb]at e;have:=aA s;omega
theorem jm {l a:World} {K:dA} {B M X:Nat} {d f:Option Addr} {b c:Nat} (w:dC a B d K.m9) (m:∀g o,d=some ⟨g,o,none⟩->g<M) (n:a.ownsRow M 109 2 (.slice f K.s9.length c) K.s9.length (flatK K.s9)) (H:X<B) (G:B<=M) (z:l.heap.size<=X) (r:eA a X #[.string ⟨#[]⟩,.int .i64 0,.slice none 0 0,.slice none 0 0] 100) (A:Below l.heap.size l a):
 KXR l X K ((((a.setCell ⟨X,0,none⟩ (.string K.name)).setCell ⟨X,1,none⟩ (.int .i64 K.l9)).setCell ⟨X,2,none⟩ (.slice d K.m9.length b)).setCell ⟨X,3,none⟩ (.slice f K.s9.length c)):=by
 have y:gA (·=X) a ((((a.setCell ⟨X,0,none⟩ (.string K.name)).setCell ⟨X,1,none⟩ (.int .i64 K.l9)).setCell ⟨X,2,none⟩ (.slice d K.m9.length b)).setCell ⟨X,3,none⟩ (.slice f K.s9.length c)):=((((gA.refl (·=X) a).setCell (Ca rfl) 0 _).setCell (Ca rfl) 1 _).setCell (Ca rfl) 2 _).setCell (Ca rfl) 3 _;refine⟨M,d,b,f,c,?_,?_,m,y.row n (fun q v e=>by have:=(n.lt q v).1;omega),fun q v e=>by have:=(n.lt q v).1;omega,fun g o e u E=>?_,z,by omega,VD A z⟩
 ·have:=(((r.set 0 (.string K.name)).set 1 (.int .i64 K.l9)).set 2 (.slice d K.m9.length b)).set 3 (.slice f K.s9.length c);simpa using this
 ·rcases w with h|⟨g,o,k,t,rfl,p,s,h⟩
  ·exact Ca h
  ·have x:=y.block g (aA s) (by omega);have C:∀j,((((a.setCell ⟨X,0,none⟩ (.string K.name)).setCell ⟨X,1,none⟩ (.int .i64 K.l9)).setCell ⟨X,2,none⟩ (.slice (some ⟨g,o,none⟩) K.m9.length b)).setCell ⟨X,3,none⟩ (.slice f K.s9.length c)).cell? ⟨g,j,none⟩=a.cell? ⟨g,j,none⟩:=fun j=>World.cell?_of_block x;exact Ja ⟨g,o,k,t,rfl,by omega,x.trans s,fun i D=>by simp only[C];exact h i D⟩
 ·rcases w with h|⟨F,I,k,t,b,p,s,_⟩
  ·exact u h
  ·rw[b]at e;simp only[Pa,Addr.mk.injEq,Yb]at e;omega
theorem aa {S:Nat->Prop} {w W:World} {B:Nat} {q:Option Addr} {a:List lA} (h:dC w B q a) (d:gA S w W) (f:∀g o,q=some ⟨g,o,none⟩->a≠[]->¬S g):yA W q a:=by
 rcases h with h|⟨g,o,e,t,rfl,n,b,h⟩
 ·exact Ca h
 ·by_cases c:a=[]
  ·exact Ca c
  ·have m:=d.block g (aA b) (f g o rfl c);have k:∀j,W.cell? ⟨g,j,none⟩=w.cell? ⟨g,j,none⟩:=fun j=>World.cell?_of_block m;exact Ja ⟨g,o,rfl,by have:=d.size;have:=aA b;omega,fun i l=>by simp only[k];exact h i l⟩
theorem ux {l:List lA} (e:jC (·.s) l) {k:ByteArray} {n:Int} {i:Nat} (b:i<l.length) (h:l[i].s=k):bB (·.s) ⟨k,n⟩ l=l.set i ⟨k,n⟩:=by
 induction l generalizing i with
 |nil=>simp at b
 |cons p r g=>
  cases i with
  |zero=>
   have d:p.s=k:=h;rw[bB,Oa (by show ¬wH p.s k=true;rw[d,pP];simp),Qa (by exact(wC _ _).2 d)];rfl
  |succ i=>
   have a:i<r.length:=by simpa using b
   have c:r[i].s=k:=by simpa using h
   have f:wH p.s k=true:=by rw[<-c];exact e.head _ (Xa a)
   rw[bB,Qa f,g e.tail a c];rfl
theorem mx (l:List lA) (i:Nat) (b:i<l.length) (n:Int):flatK (l.set i ⟨l[i].s,n⟩)=(flatK l).set (i*2+1) (.int .i64 n):=by
 induction l generalizing i with
 |nil=>simp at b
 |cons p r c=>
  cases i with
  |zero=>rfl
  |succ i=>
   have a:i<r.length:=by simpa using b
   have:=c i a;simp only[flatK,Nd,Sc,Ic]at this |-
   rw[this];have e:(i+1)*2+1=(i*2+1)+2:=by omega
   rw[e];rfl
theorem xe {w:World} {M g n a:Nat} {f:List Value} {j:Nat} {v:Value} (h:w.ownsRow M 109 2 (.slice (some ⟨g,0,none⟩) n a) n f):(w.setCell ⟨g,j,none⟩ v).ownsRow M 109 2 (.slice (some ⟨g,0,none⟩) n a) n (f.set j v):=by
 refine⟨by rw[Xb];exact h.1,?_⟩;rcases h.2 with⟨e,_⟩|⟨q,d,b,e,o,p,i,k,l,m⟩
 ·cases e
 ·simp only[Value.slice.injEq,Pa,Addr.mk.injEq,Yb]at e;obtain⟨rfl,_,rfl⟩:=e;have c:eA w g b 109:=p;refine Ja ⟨g,a,b.setIfInBounds j v,rfl,o,c.set j v,i,k,by simp[l],?_⟩;rw[Of,List.take_set,m]
theorem bc {w:World} {M n b:Nat} {a:Option Addr} {f:List Value} (h:w.ownsRow M 109 2 (.slice a n b) n f) (i:0<n):∃g,a=some ⟨g,0,none⟩:=by
 rcases h.2 with⟨_,e⟩|⟨g,c,d,e,_⟩
 ·omega
 ·simp only[Value.slice.injEq]at e;exact⟨g,e.1⟩
theorem aFm {w:World} {M n b:Nat} {a:Option Addr} {i:List Value} (h:w.ownsRow M 109 2 (.slice a n b) n i):(a=none/\b=0/\n=0)\/∃g,a=some ⟨g,0,none⟩:=by
 rcases h.2 with⟨e,f⟩|⟨g,c,d,e,_⟩
 ·simp only[Value.slice.injEq]at e;exact Ca ⟨e.1,e.2.2,f⟩
 ·simp only[Value.slice.injEq]at e;exact Ja ⟨g,e.1⟩
theorem aBm {w:World} {M n a g:Nat} {f:List Value} (h:w.ownsRow M 109 2 (.slice (some ⟨g,0,none⟩) n a) n f):n<=a:=by
 rcases h.2 with⟨e,_⟩|⟨i,b,c,e,_,_,d,_⟩
 ·cases e
 ·simp only[Value.slice.injEq]at e;rw[e.2.2];exact d
theorem aCa {w:World} {M g a j:Nat} {l:List lA} (h:w.ownsRow M 109 2 (.slice (some ⟨g,0,none⟩) l.length a) l.length (flatK l)) (n:j<=l.length):iS w (some ⟨g,0,none⟩) j (flatK (l.take j))/\iS w (some ⟨g,j*2,none⟩) (l.length-j) (flatK (l.drop j)):=by
 have p:=vC h;by_cases d:l=[]
 ·subst d;exact⟨Ca (by simpa using n),Ca (by simp)⟩
 rcases p with m|⟨q,o,f,t,e,_,_,c⟩
 ·exact absurd m d
 simp only[Pa,Addr.mk.injEq,Yb]at e;obtain⟨rfl,rfl⟩:=e;refine⟨Ja ⟨_,rfl,cQ fun i b=>?_⟩,Ja ⟨_,rfl,cQ fun i b=>?_⟩⟩
 ·rw[Hb]at b;have:=c i (by omega);simpa[Mf]using this
 ·rw[Ad]at b;have:=c (j+i) (by omega);have k:0+(j+i)*2=j*2+i*2:=by omega
  rw[k]at this;simpa[List.getElem_drop]using this
theorem AA {P:Program} (w:World) {D:Array Oper} {p:List Oper} {o:Oper} {a:Act} {Q:Exit->Act->World->Prop} (A:o.guard=none) (s x:Operand) (t:TypeId)
 (X:o.op=.call { callee:=.builtin .append,args:=#[s,x],argTypes:=#[t,t] })
 (b:Nat) (e:TypeId) (i:TypeInfo) (z:Value) (size f:Nat) (Z:P.underlying t=some (.slice e)) (V:P.info? e=some i) (hz:i.zero=some z)
 (r:i.size=size) (H:i.bytes=f) (J:z.cells.size=size) (I:0<size)
 (y n F:Nat) (K:List Value) (Y:a.eval s=.slice (some ⟨y,0,none⟩) n F) (B:w.ownsRow b e size (.slice (some ⟨y,0,none⟩) n F) n K)
 (E:Option Addr) (m c:Nat) (d:List Value) (hx:a.eval x=.slice E m c) (W:d.length=m*size) (C:iS w E m d) (L:∀u∈d,u.oneCell'=true)
 (G:n+m<=maxLen) (l:(n+m)*f<=140737488355328) (q:b<=w.heap.size)
 (h:∀g j v,v.ownsRow b e size (.slice (some ⟨g,0,none⟩) (n+m) j) (n+m) (K++d)->Below b w v->(∀k,k<w.heap.size->k≠y->v.heap[k]?=w.heap[k]?)->b<=g->(g=y\/g=w.heap.size)->g<v.heap.size->wpList P D Q p (a.put o.dst (.slice (some ⟨g,0,none⟩) (n+m) j)) v):wpList P D Q (o::p) a w:=
 wpList_plain A fun _ U=>OA w A s x t X b e i z size f Z V hz r H J I y n F K Y B E m c d hx W C L G l q fun g j v M N O R S T=>U _ _ (h g j v M N O R S T)
theorem OL {w a:World} {cs:Array Value} {t:TypeId} (h:Below (w.alloc (.cells cs t)).drew.heap.size (w.alloc (.cells cs t)).drew a):eA a w.heap.size cs t:=(eA.new w cs t).later ⟨h.os,h.tape,h.output,h.size,h.block⟩
theorem ig {s:ByteArray} (h:yB s=true):s.toList.isEmpty=false:=by
 refine pW.2 fun e=>?_;simp only[yB,Sa,Eb]at h;rw[e,ByteArray.size_empty]at h;omega
structure SC (w:World) (c:vB) (now:Int) (a:Option Addr) (cap:Nat) (ts:List dA) (n9:ByteArray) (tn:dA):Prop where
 ok:∀W,Below w.heap.size w W→Calls prog 78 #[.agg #[.int .i64 c.w,.int .i64 c.tl,.int .i64 c.ml,.int .i64 c.sh,.int .i64 c.ha,.int .i64 c.sg],.agg #[.int .i64 now,.slice a ts.length cap]] W fun e w'=>e=.returned (.bool true)∧Below W.heap.size W w'
 nm:∀W,Calls prog 81 #[.string n9] W fun e w'=>e=.returned (.bool true)∧w'=W
 sm:∀W,Below w.heap.size w W→Calls prog 117 #[.agg #[.int .i64 c.w,.int .i64 c.tl,.int .i64 c.ml,.int .i64 c.sh,.int .i64 c.ha,.int .i64 c.sg],.agg #[.int .i64 now,.slice a ts.length cap]] W fun e w'=>∃a' cap',e=.returned (.agg #[.int .i64 now,.slice a' ts.length cap'])∧oC w' W.heap.size a' ts∧Below W.heap.size W w'
 te:∀W,Below w.heap.size w W→Calls prog 89 #[.agg #[.int .i64 now,.slice a ts.length cap],.string n9] W fun e w'=>(∃a1 c1 a2 c2,e=.returned (.agg #[.string tn.name,.int .i64 tn.l9,.slice a1 tn.m9.length c1,.slice a2 tn.s9.length c2])∧yA w' a1 tn.m9∧yA w' a2 tn.s9)∧Below W.heap.size W w'
 kp:∀W a1 a2 c1 c2,yA W a1 tn.m9→yA W a2 tn.s9→Calls prog 128 #[.agg #[.string tn.name,.int .i64 tn.l9,.slice a1 tn.m9.length c1,.slice a2 tn.s9.length c2],.int .i64 now,.int .i64 c.w] W fun e w'=>∃M a1 c1 a2 c2,e=.returned (.agg #[.string tn.name,.int .i64 tn.l9,.slice a1 tn.m9.length c1,.slice a2 tn.s9.length c2])∧W.heap.size≤M∧dC w' W.heap.size a1 tn.m9∧(∀g o,a1=some ⟨g,o,none⟩→g<M)∧w'.ownsRow M 109 2 (.slice a2 tn.s9.length c2) tn.s9.length (flatK tn.s9)∧M≤w'.heap.size∧Below W.heap.size W w'
 wi:∀W L ms ss q1 q2 e1 e2,Below w.heap.size w W→yA W q1 ms→yA W q2 ss→RM ⟨tn.name,L,ms,ss⟩→Calls prog 127 #[.agg #[.int .i64 c.w,.int .i64 c.tl,.int .i64 c.ml,.int .i64 c.sh,.int .i64 c.ha,.int .i64 c.sg],.agg #[.int .i64 now,.slice a ts.length cap],.int .i64 now,.agg #[.string tn.name,.int .i64 L,.slice q1 ms.length e1,.slice q2 ss.length e2]] W fun e w'=>∃a' cap',e=.returned (.agg #[.int .i64 now,.slice a' (uC c.w now (bB (·.name) ⟨tn.name,L,ms,ss⟩ ts)).length cap'])∧oC w' W.heap.size a' (uC c.w now (bB (·.name) ⟨tn.name,L,ms,ss⟩ ts))∧Below W.heap.size W w'
 fit:RM tn
 len:tn.m9.length≤1100000∧tn.s9.length≤1100000
 rm:jC (·.s) tn.m9
 rs:jC (·.s) tn.s9
 now0:0≤now∧now≤1000000000000
theorem aDb {c:vB} {l:Int} {a:Option Addr} {cap:Nat} {k:List dA} {j:ByteArray} {w:World} (v:oB w a k) (o:k.length+uA k<=1100000) (P:j.size<=1100000) (t:gB c l k=true) (C:yB j=true):SC w c l a cap k j (tA k j):=by
 obtain⟨d,b,f,g⟩:=xR o;obtain⟨-,r,z,-,m⟩:=oF t;obtain⟨-,-,-,R,S⟩:=QX (AW o) P;have p:RM (tA k j)/\jC (·.s) (tA k j).m9/\jC (·.s) (tA k j).s9:=by
  rcases uI (ts:=k) (name:=j) with⟨u,_⟩|⟨e,_⟩
  ·obtain⟨-,N,O,-⟩:=gJ (nH m _ u);have E:=DV (n:=(tA k j).m9.length) N (Ka _);have F:=EE (n:=(tA k j).s9.length) O (Ka _);rw[Wb]at E F;exact⟨IP t o _ u,E,F⟩
  ·rw[e];exact⟨⟨La _,La _,fun i h=>absurd h (by simp)⟩,Xd,Xd⟩
 refine⟨fun W q=>?_,fun W=>?_,fun W q=>xP c l a cap k W (v.later q) t o,fun W q=>yT l a cap k j W (v.later q) (by omega),fun W G H I J A B=>?_,fun W L D ss T U K M q A B y=>?_,p.1,⟨R,S⟩,p.2.1,p.2.2,r,z⟩
 ·have:=eE c l a cap k W (v.later q) b (by omega);rw[t]at this;exact this
 ·have:=bE j W (by unfold maxLen;omega);rw[C]at this;exact this
 ·have:=Fs7 (tA k j) G H I J l c.w W A B (by omega) (by omega) r (by omega) p.1.2.2;rw[aX (zZ m)]at this;exact this
 ·have:=qZ c l l a cap k ⟨(tA k j).name,L,D,ss⟩ T U K M W (v.later q) A B (by omega) (fun x Q=>Q.elim (fun e=>e ▸ y) (IP t o x)) r (by omega);rw[show(⟨(tA k j).name,L,D,ss⟩:dA).name.toList.isEmpty=false from by show(tA k j).name.toList.isEmpty=false;rw[zD];exact ig C,yn (eP m)]at this;exact this
theorem SC.wn {w:World} {c:vB} {b:Int} {a:Option Addr} {f:Nat} {n k:List dA} {d:ByteArray} {j:dA} (h:SC w c b a f n d j) {W:World} {L:Int} {i ss:List lA} {l m:Option Addr} {p q r s:Nat} (x:uC c.w b (bB (·.name) ⟨j.name,L,i,ss⟩ n)=k) (u:i.length=r) (v:ss.length=s) (y:Below w.heap.size w W) (A:yA W l i) (B:yA W m ss) (z:RM ⟨j.name,L,i,ss⟩):
 Calls prog 127 #[.agg #[.int .i64 c.w,.int .i64 c.tl,.int .i64 c.ml,.int .i64 c.sh,.int .i64 c.ha,.int .i64 c.sg],.agg #[.int .i64 b,.slice a n.length f],.int .i64 b,.agg #[.string j.name,.int .i64 L,.slice l r p,.slice m s q]] W fun e t=>∃o g,e=.returned (.agg #[.int .i64 b,.slice o k.length g])/\oC t W.heap.size o k/\Below W.heap.size W t:=by
 subst x u v;exact h.wi W L i ss l m p q y A B z
theorem qX.kin {w W:World} {c:vB} {e:Int} {a:Option Addr} {n d:Nat} (h:qX w W c e a n d):∀b,Below W.heap.size W b->b.cell? ⟨w.heap.size+1,0,none⟩=some (.int .i64 e)/\b.cell? ⟨w.heap.size+1,1,none⟩=some (.slice a n d)/\b.cell? ⟨w.heap.size,0,none⟩=some (.int .i64 c.w):=fun b f=>by
 have k:=h.later f;exact⟨k.S.cell 0,k.S.cell 1,k.C.cell 0⟩
section
open Go.Maps
def OC (V:Int×List dA×Nat) (w:World) (e:Ending) (c:World):Prop:=
 ∃a b,e=.returned (.tuple #[.agg #[.int .i64 V.1,.slice a V.2.1.length b],.int .i64 (V.2.2:Nat)])/\oC c w.heap.size a V.2.1/\Below w.heap.size w c
end
def nP (w:World) (A:Nat->Prop) (a:Option Addr) (b:List lA):Prop:=b=[]\/∃g o,a=some ⟨g,o,none⟩/\A g/\g<w.heap.size/\IK w g o b
theorem nP.pairs {w:World} {A:Nat->Prop} {a:Option Addr} {c:List lA} (h:nP w A a c):yA w a c:=by
 rcases h with h|⟨g,o,rfl,_,b,h⟩
 ·exact Ca h
 ·exact Ja ⟨g,o,rfl,b,h⟩
theorem dC.toN {w:World} {C:Nat} {A:Nat->Prop} {a:Option Addr} {b:List lA} (h:dC w C a b) (d:∀g,C<=g->A g):nP w A a b:=by
 rcases h with h|⟨g,o,c,t,rfl,e,f,h⟩
 ·exact Ca h
 ·exact Ja ⟨g,o,rfl,d g e,aA f,h⟩
def aGw (w:World) (A:Nat->Prop) (b o:Nat) (t:dA):Prop:=
 ∃a d c e,w.cell? ⟨b,o,none⟩=some (.string t.name)/\w.cell? ⟨b,o+1,none⟩=some (.int .i64 t.l9)/\w.cell? ⟨b,o+2,none⟩=some (.slice a t.m9.length d)/\w.cell? ⟨b,o+3,none⟩=some (.slice c t.s9.length e)/\
  nP w A a t.m9/\nP w A c t.s9
def aI (w:World) (A:Nat->Prop) (a:Option Addr) (c:List dA):Prop:=c=[]\/∃b o,a=some ⟨b,o,none⟩/\A b/\b<w.heap.size/\∀i (h:i<c.length),aGw w A b (o+i*4) c[i]
theorem nP.keep {w w':World} {A:Nat->Prop} {a:Option Addr} {d:List lA} (h:nP w A a d) (l:w.heap.size<=w'.heap.size) (k:∀g,A g->g<w.heap.size->w'.heap[g]?=w.heap[g]?):nP w' A a d:=by
 rcases h with h|⟨g,o,rfl,c,b,h⟩
 ·exact Ca h
 ·have e:∀j,w'.cell? ⟨g,j,none⟩=w.cell? ⟨g,j,none⟩:=fun j=>World.cell?_of_block (k g c b);exact Ja ⟨g,o,rfl,c,by omega,fun i f=>by simp only[e];exact h i f⟩
theorem aI.keep {w w':World} {A:Nat->Prop} {a:Option Addr} {l:List dA} (h:aI w A a l) (k:w.heap.size<=w'.heap.size) (d:∀g,A g->g<w.heap.size->w'.heap[g]?=w.heap[g]?):aI w' A a l:=by
 rcases h with h|⟨b,o,rfl,f,e,h⟩
 ·exact Ca h
 ·refine Ja ⟨b,o,rfl,f,by omega,fun i y=>?_⟩;obtain⟨m,p,n,q,r,s,t,u,v,x⟩:=h i y;have c:∀j,w'.cell? ⟨b,j,none⟩=w.cell? ⟨b,j,none⟩:=fun j=>World.cell?_of_block (d b f e);exact⟨m,p,n,q,(c _).trans r,(c _).trans s,(c _).trans t,(c _).trans u,v.keep k d,x.keep k d⟩
theorem aI.later {w d:World} {A:Nat->Prop} {a:Option Addr} {c:List dA} (h:aI w A a c) (b:Below w.heap.size w d):aI d A a c:=h.keep b.size fun g _ e=>b.block g e
theorem nP.mono {w:World} {A A':Nat->Prop} {a:Option Addr} {b:List lA} (h:nP w A a b) (c:∀g,A g->A' g):nP w A' a b:=by
 rcases h with h|⟨g,o,e,q,h⟩
 ·exact Ca h
 ·exact Ja ⟨g,o,e,c g q,h⟩
theorem aI.mono {w:World} {A A':Nat->Prop} {a:Option Addr} {f:List dA} (h:aI w A a f) (c:∀g,A g->A' g):aI w A' a f:=by
 rcases h with h|⟨b,o,e,q,d,h⟩
 ·exact Ca h
 ·refine Ja ⟨b,o,e,c b q,d,fun i v=>?_⟩;obtain⟨j,l,k,m,n,p,r,s,t,u⟩:=h i v;exact⟨j,l,k,m,n,p,r,s,t.mono c,u.mono c⟩
theorem aI.tens {w:World} {A:Nat->Prop} {a:Option Addr} {d:List dA} (h:aI w A a d):oB w a d:=by
 rcases h with h|⟨b,o,rfl,_,c,h⟩
 ·exact Ca h
 ·refine Ja ⟨b,o,rfl,c,fun i r=>?_⟩;obtain⟨e,g,f,j,k,l,m,n,p,q⟩:=h i r;exact⟨e,g,f,j,k,l,m,n,p.pairs,q.pairs⟩
theorem oC.toN {w:World} {C:Nat} {A:Nat->Prop} {a:Option Addr} {c:List dA} (h:oC w C a c) (b:∀g,C<=g->A g):aI w A a c:=by
 rcases h with h|⟨g,o,k,t,T,rfl,s,u,_,h⟩
 ·exact Ca h
 ·refine Ja ⟨g,o,rfl,b g s,aA u,fun i v=>?_⟩;obtain⟨d,f,e,j,l,m,n,p,q,r⟩:=h i v;exact⟨d,f,e,j,l,m,n,p,q.own.toN b,r.own.toN b⟩
theorem oB.toN {w:World} {a:Option Addr} {d:List dA} (h:oB w a d):aI w (fun g=>g<w.heap.size) a d:=by
 rcases h with h|⟨b,o,e,c,h⟩
 ·exact Ca h
 ·refine Ja ⟨b,o,e,c,c,fun i v=>?_⟩;obtain⟨f,m,j,n,p,q,r,s,t,u⟩:=h i v;exact⟨f,m,j,n,p,q,r,s,t.elim Ca fun⟨g,o,e,l,k⟩=>Ja ⟨g,o,e,l,l,k⟩,u.elim Ca fun⟨g,o,e,l,k⟩=>Ja ⟨g,o,e,l,l,k⟩⟩
theorem aI.lt {w:World} {A:Nat->Prop} {a:Option Addr} {d:List dA} (h:aI w A a d):aI w (fun g=>A g/\g<w.heap.size) a d:=by
 rcases h with h|⟨b,o,e,x,c,h⟩
 ·exact Ca h
 ·refine Ja ⟨b,o,e,⟨x,c⟩,c,fun i y=>?_⟩;obtain⟨f,n,j,p,q,r,s,t,u,v⟩:=h i y;exact⟨f,n,j,p,q,r,s,t,u.elim Ca fun⟨g,o,e,l,m,k⟩=>Ja ⟨g,o,e,⟨l,m⟩,m,k⟩,v.elim Ca fun⟨g,o,e,l,m,k⟩=>Ja ⟨g,o,e,⟨l,m⟩,m,k⟩⟩
theorem aI.turn {w W:World} {A S:Nat->Prop} {a:Option Addr} {c:List dA} (h:aI w A a c) (b:gA S w W) (d:∀g,A g->¬S g):aI W A a c:=h.keep b.size fun g e f=>b.block g f (d g e)
theorem BN {p:lA} (l:List lA):fC (bB (·.s) p l)<=fC l+p.s.size/\(bB (·.s) p l).length<=l.length+1:=by
 induction l with
 |nil=>simp[bB,fC]
 |cons q r a=>
  rw[bB];split
  ·simp only[fC,Jb];omega
  ·split<;>(simp only[fC,Jb];omega)
theorem xU (f:lA->Bool) (l:List lA):fC (l.filter f)<=fC l/\(l.filter f).length<=l.length:=by
 induction l with
 |nil=>exact⟨Ka _,Ka _⟩
 |cons q r a=>
  rw[Sd];split<;>(simp only[fC,Jb];omega)
theorem pO (f:dA->Bool) (l:List dA):uA (l.filter f)<=uA l/\(l.filter f).length<=l.length:=by
 induction l with
 |nil=>exact⟨Ka _,Ka _⟩
 |cons q r a=>
  rw[Sd];split<;>(simp only[uA,Jb];omega)
theorem CM {a:List dA} (g:jC (·.name) a) {t:dA} {k:Nat} (h:fD t<=fD (tA a t.name)+k):(bB (·.name) t a).length+uA (bB (·.name) t a)<=a.length+uA a+1+t.name.size+k:=by
 have i:fD ⟨t.name,-1,[],[]⟩=t.name.size:=by simp[fD,fC]
 have f:(∃q∈a,q.name=t.name/\fD t<=fD q+k)\/(fD t<=t.name.size+k):=by
  rcases uI (ts:=a) (name:=t.name) with⟨n,_⟩|⟨e,_⟩
  ·exact Ca ⟨_,n,zD,h⟩
  ·rw[e,i]at h;exact Ja h
 clear h i;rcases f with⟨q,c,d,m⟩|m
 ·have:(bB (·.name) t a).length+uA (bB (·.name) t a)<=a.length+uA a+k:=by
   induction a with
   |nil=>cases c
   |cons p r j=>
    rw[bB];rcases Ab.1 c with rfl|c
    ·rw[Oa (by rw[d,pP];simp),Qa ((wC _ _).2 d)];simp only[Jb,uA];omega
    ·have b:=g.head q c;simp only[d]at b;rw[Qa b];have:=j g.tail c;simp only[Jb,uA];omega
  omega
 ·have:∀l:List dA,(bB (·.name) t l).length+uA (bB (·.name) t l)<=l.length+uA l+1+fD t:=fun l=>by
   induction l with
   |nil=>simp[bB,uA]
   |cons p r j=>
    rw[bB];split
    ·simp only[Jb,uA];omega
    ·split<;>(simp only[Jb,uA];omega)
  have:=this a;omega
theorem lg {d:List dA} {a b:ByteArray} {c:Int}:fD (kI (tA d a) b c)<=fD (tA d (kI (tA d a) b c).name)+(1+b.size):=by
 have e:(kI (tA d a) b c).name=a:=zD;rw[e];have:=BN (p:=⟨b,c⟩) (tA d a).s9;simp only[fD,kI]at this |-
 omega
theorem oi {d:List dA} {a b:ByteArray} {c:Int}:fD (qH (tA d a) b c)<=fD (tA d (qH (tA d a) b c).name)+(1+b.size):=by
 have e:(qH (tA d a) b c).name=a:=by rw[gP,zD]
 rw[e];have f:=BN (p:=⟨b,c⟩) (tA d a).m9;have g:fC (dI (·.s) b (tA d a).m9)<=fC (tA d a).m9/\(dI (·.s) b (tA d a).m9).length<=(tA d a).m9.length:=xU _ _;simp only at f;unfold qH;split
 ·simp only[fD];omega
 ·simp only[fD];split<;>omega
theorem oc {win now:Int} (a:List dA):(uC win now a).length+uA (uC win now a)<=a.length+uA a:=by
 have c:=pO (fun t=>!iE t) (a.map (fG win now));have e:uA (a.map (fG win now))<=uA a:=by
  induction a with
  |nil=>exact Ka _
  |cons t r d=>
   have:=xU (fun p=>decide (now-p.n<win)) t.s9;have b:=d (pO _ _);simp only[Lb,uA,fD,fG]at b |-
   omega
 unfold uC;rw[Rb]at c;omega
theorem MK {c:vB} {b:Int} {a:List dA} (h:gB c b a=true) (r:lC):(vF c b a r).2.1.length+uA (vF c b a r).2.1<=a.length+uA a+2+r.n9.size+r.text.size:=by
 have g:=eP (oF h).2.2.2.2;have d:a.length+uA a<=a.length+uA a+2+r.n9.size+r.text.size:=by omega
 have f:(bB (·.name) (kI (tA a r.n9) r.text b) a).length+uA (bB (·.name) (kI (tA a r.n9) r.text b) a)<=a.length+uA a+2+r.n9.size+r.text.size:=by
  have:=CM g (t:=kI (tA a r.n9) r.text b) lg;have e:(kI (tA a r.n9) r.text b).name=r.n9:=zD;rw[e]at this;omega
 have i:(bB (·.name) (qH (tA a r.n9) r.text r.num) a).length+uA (bB (·.name) (qH (tA a r.n9) r.text r.num) a)<=a.length+uA a+2+r.n9.size+r.text.size:=by
  have:=CM g (t:=qH (tA a r.n9) r.text r.num) oi;have e:(qH (tA a r.n9) r.text r.num).name=r.n9:=by rw[gP,zD]
  rw[e]at this;omega
 unfold vF;split
 ·unfold jT;split
  ·exact d
  ·split
   ·exact f
   ·generalize (if (tA a r.n9).l9 = -1 then c.tl else(tA a r.n9).l9)=j;split
    ·exact d
    ·split
     ·exact d
     ·exact f
 ·split
  ·unfold rR;split
   ·exact d
   ·have:=oc (win:=c.w) (now:=b+r.num) a;show(uC c.w (b+r.num) a).length+uA (uC c.w (b+r.num) a)<=_;omega
  ·split
   ·unfold uZ;split
    ·exact d
    ·split
     ·have:=pO (fun p=>!((fun q:dA=>q.name) p).toList==r.n9.toList) a;show(dI (·.name) r.n9 a).length+uA (dI (·.name) r.n9 a)<=_;unfold dI;omega
     ·split
      ·exact d
      ·exact i
   ·exact d
def aBj (r:lC):Value:=.agg #[.int .i64 r.kind,.string r.n9,.string r.text,.int .i64 r.num]
def KR (r:lC):Value:=if r.kind=1 then .iface 171 (.agg #[.int .i64 1,.string r.n9,.string r.text]) else if r.kind=2 then .iface 173 (.agg #[.int .i64 2,.string ByteArray.empty,.int .i64 r.num]) else if r.kind=3 then .iface 175 (.agg #[.int .i64 3,.string r.n9,.string r.text,.int .i64 r.num]) else .nilIface
def YZ (r:lC):Bool:=decide (r.kind=1\/r.kind=2\/r.kind=3)
theorem aP (r:lC) (w:World):
 Calls prog 57 #[aBj r] w fun e i=>e=.returned (.tuple #[KR r,.bool (YZ r)])/\Below w.heap.size w i:=by
 obtain⟨a,g,h,f⟩:=r;unfold aBj;by_cases b:a=1
 ·subst b;go_enter func57,ntmps57;go_wp2;go_ret2;exact⟨rfl,cA _ _⟩
 ·by_cases c:a=2
  ·subst c;go_enter func57,ntmps57;go_wp2;go_ret2;exact⟨rfl,cA _ _⟩
  ·by_cases d:a=3
   ·subst d;go_enter func57,ntmps57;go_wp2;go_ret2;exact⟨rfl,cA _ _⟩
   ·have E:Hid (KR ⟨a,g,h,f⟩=.nilIface/\YZ ⟨a,g,h,f⟩=false):=⟨by unfold KR;simp[b,c,d],by unfold YZ;simp[b,c,d]⟩
    go_enter func57,ntmps57;go_wp2;go_ret2;exact⟨by rw[E.out.1,E.out.2];rfl,cA _ _⟩
theorem bp (v:Int):∀k,vZ v k=v / 2 ^ (8*k)
 |0=>by simp[vZ]
 |k+1=>by
  rw[vZ,bp v k,show 8*(k+1)=8*k+8 by omega,Int.pow_add,Int.ediv_ediv_of_nonneg (Int.pow_nonneg (by omega))];rfl
theorem ZT (v:Int):∀n i,i<n->(bV v n)[i]?=some (vZ v (n-1-i) % 256)
 |0,i,h=>absurd h (by omega)
 |n+1,0,_=>by simp[bV]
 |n+1,i+1,h=>by
  rw[bV,Ia,ZT v n i (by omega)];congr 3;omega
theorem eG (n:Nat) (v:Int) (w:World) (J:n<=8):
 Calls prog 56 #[.int .i64 v,.int .i64 n] w fun e F=>e=.returned (.string (fA n v))/\Below w.heap.size w F:=by
 obtain⟨C,y,B⟩:∃C:Array Value,C.size=n/\(Instr.makeSlice 22 (.int .i64 n) (.int .i64 n)).run prog w=.ok (.slice (some ⟨w.heap.size,0,none⟩) n n) (w.alloc (.cells C 5)):=by
  obtain⟨E,m,o,q,r⟩:=IQ;have h:=run_make (P:=prog) w 22 5 E _ underlying22 m o .i64 .i64 (n:Int) (n:Int) (by omega) (by omega) (by rw[r];omega) (by omega);rw[q,Cd,Nat.mul_one]at h;exact⟨_,size_madeCells _ _,h⟩
 have t:Hid (eA (w.alloc (.cells C 5)) w.heap.size C 5):=heap_alloc_new _ _;go_enter func56,ntmps56;go_wp2;go_loopw [6,11] (fun _ c wr=>∃(k:Nat) (b:Array Value),k<=n/\c=.int .i64 k/\Hid (eA wr w.heap.size b 5)/\b.size=n/\Hid (∀i,i<k->b[n-1-i]?=some (.int .u8 (vZ v i % 256)))/\Hid (Below w.heap.size w wr)) (fun _ c _=>n-(intOf c).toNat)
 case atStart=>exact⟨0,C,by omega,rfl,t,y,fun i l=>absurd l (by omega),cA _ _⟩
 case round=>
  obtain⟨k,b,I,rfl,a,j,f,d⟩:=hrel;by_cases A:k<n
  ·obtain⟨p,K,g⟩:∃p:Nat,(n:Int)-1-(k:Int)=(p:Int)/\Hid (p=n-1-k):=⟨n-1-k,by omega,rfl⟩
   have G:wr.cell? ⟨w.heap.size,p,none⟩=some (b[p]'(by have:=g.out;omega)):=by rw[a.out.cell];exact Vc _
   have H:=a.out.free p;go_wp2;refine⟨⟨k+1,b.setIfInBounds p (.int .u8 (v / 2 ^ (8*k) % 256)),by omega,by go_num,a.out.set p _,by simp[j],?_,d.out.setCell (p:=⟨w.heap.size,p,none⟩) (Ka _) _⟩,by simp[intOf];omega⟩;intro i l;have D:=g.out;rw[Bb];split
   ·rename_i e;have u:i=k:=by omega
    subst u;rw[Qa (by omega),bp]
   ·rename_i e;exact f.out i (by omega)
  ·have e:k=n:=by omega
   subst e;have z:(convert 22 9 (.slice (some ⟨w.heap.size,0,none⟩) k k)).run prog wr=.ok (.string (fA k v)) wr:=by
    refine run_convert_bytes_arg wr 22 5 underlying22 underlying5 w.heap.size 0 _ _ (bV v k) (cW v k) (fun i l=>?_) 9 underlying9;rw[a.out.cell,Wa];have s:=f.out (k-1-i) (by omega);rw[show k-1-(k-1-i)=i by omega]at s;rw[s];have x:=ZT v k i (by omega);simp[List.getD,x]
   go_wp2;go_ret;exact⟨rfl,d.out⟩
theorem IH (c:vB) (k:Int) (a:Option Addr) (l:Nat) (m:List dA) (i h:ByteArray) (j:Int) (w:World) (J:oB w a m) (s:m.length+uA m<=1100000) (hn:i.size<=1100000) (hm:h.size<=1100000) (G:gB c k m=true)
 (hr:(yB i&&(h.toList.isEmpty||cE h) &&xA j (-1) 1000000)=false):
 Calls prog 86 #[iD c,.agg #[.int .i64 k,.slice a m.length l],.string i,.string h,.int .i64 j] w fun e M=>fV (k,m,false) w e M:=by
 obtain⟨d,b,f,g⟩:=xR s;have D:=bA (fun W (H:Below w.heap.size w W)=>eE c k a l m W (J.later H) b (by omega));have r:=bA (fun W=>bE i W (by unfold maxLen;omega));have q:=bA (fun W=>aJ h W (by omega));have p:=bA (fun W=>hC j (-1) 1000000 W);have t:=bA (fun W (H:Below w.heap.size w W)=>xP c k a l m W (J.later H) G s);rw[G]at D;clear J s d b f g G;unfold iD at *;have F:=bA (qX.new (w:=w) (c:=c) (now:=k) (a:=a) (n:=m.length) (cap:=l));go_enter func86,ntmps86;go_wp2_with fail;refine(D.out _ F.out.B).mono ?_;rintro e wv ⟨rfl,o⟩;have P:=bA (F.out.later o);clear o F D;obtain⟨N,O,Q,R,S,T,U,V,x,y,z,A,K⟩:=P.out.cells;have I:yB i=false\/(yB i=true/\h.toList.isEmpty=false/\cE h=false)\/(yB i=true/\h.toList.isEmpty=true/\xA j (-1) 1000000=false)\/(yB i=true/\h.toList.isEmpty=false/\cE h=true/\xA j (-1) 1000000=false):=by
  revert hr;cases yB i<;>cases h.toList.isEmpty<;>cases cE h<;>cases xA j (-1) 1000000<;>simp
 clear hr;rcases I with C|⟨C,k2,k3⟩|⟨C,k2,k4⟩|⟨C,k2,k3,k4⟩
 all_goals
  rw[C]at r;try rw[k3]at q
  try rw[k4]at p
  go_wp2_with(first
   |(go_at_call 81;refine(r.out _).mono ?_;rintro e M ⟨rfl,hw⟩;subst hw)
   |(go_at_call 25;refine(p.out _).mono ?_;rintro e M ⟨rfl,hw⟩;subst hw)
   |(go_at_call 120;refine(q.out _).mono ?_;rintro e w5 ⟨rfl,o⟩;replace P:=bA (P.out.later o);clear o N O Q R S T U V x y z A K;obtain⟨N,O,Q,R,S,T,U,V,x,y,z,A,K⟩:=P.out.cells))
  refine(t.out _ P.out.B).mono ?_;rintro e w9 ⟨L,u,rfl,Z,o⟩;have X:=bA (P.out.later o);have E:=bA Z;clear Z o N O Q R S T U V x y z A t r q p;obtain⟨_,_,_,_,_,_,_,_,x,y,z,A,hz9⟩:=X.out.cells;go_wp2;refine bodyPost_ret (v:=.tuple #[.agg #[.int .i64 k,.slice L m.length u],.bool false]) (by simp[results,results86,go_sem,x,y]) rfl ?_;have Y:=X.out.done (v:=k) (rc:=u) E.out K;first
   |exact⟨L,⟨u,rfl⟩,Y⟩
   |exact⟨L,u,rfl,Y⟩
def lL {α:Type} (g:Option Nat->α×Option Nat) (p0:Option Nat):Nat->List α×Option Nat
 |0=>([],p0)
 |k+1=>match (lL g p0 k).2 with
  |none=>lL g p0 k
  |some p=>((lL g p0 k).1++[(g (some p)).1],(g (some p)).2)
section
variable {α:Type} {g:Option Nat→α×Option Nat} {p0:Option Nat} {k p:Nat} {s:ByteArray}
theorem BI (h:(lL g p0 k).2=none):lL g p0 (k+1)=lL g p0 k:=by rw[lL,h]
theorem bU (h:(lL g p0 k).2=some p):lL g p0 (k+1)=((lL g p0 k).1++[(g (some p)).1],(g (some p)).2):=by rw[lL,h]
theorem aAj (h:(lL g p0 k).2=none) {m:Nat} (b:k<=m):lL g p0 m=lL g p0 k:=by
 induction b with
 |refl=>rfl
 |step _ a=>rw[BI (by rw[a];exact h),a]
theorem PR (k:Nat):(lL g p0 k).1.length<=k:=by
 induction k with
 |zero=>exact Ka _
 |succ k a=>
  cases h:(lL g p0 k).2 with
  |none=>rw[BI h];omega
  |some p=>rw[bU h];simp;omega
theorem aEo {P:α->Prop} (c:∀p,P (g p).1) (k:Nat):∀i (h:i<(lL g p0 k).1.length),P (lL g p0 k).1[i]:=by
 have:∀x∈(lL g p0 k).1,P x:=by
  induction k with
  |zero=>intro x a;cases a
  |succ k b=>
   cases h:(lL g p0 k).2 with
   |none=>rw[BI h];exact b
   |some p=>
    rw[bU h];intro x a;rcases Oc.1 a with a|a
    ·exact b x a
    ·rw[Tc.1 a];exact c _
 exact fun i h=>this _ (Xa h)
theorem aDa {f:Rd->α×Rd} (j:∀r:Rd,r.r9=true->(f r).2.r9=true) (l:∀(r:Rd) p,GT s r p->(f r).2.r9=false->∃q,g (some p)=((f r).1,some q)/\GT s (f r).2 q) {r:Rd} (h:GT s r p) (k:Nat) (a:(DY f r k).2.r9=false):∃q,lL g (some p) k=((DY f r k).1,some q)/\GT s (DY f r k).2 q:=by
 induction k with
 |zero=>exact⟨p,rfl,h⟩
 |succ k m=>
  obtain⟨q,b,c⟩:=m (by
   cases e:(DY f r k).2.r9
   ·rfl
   ·rw[xM j e (Yg k)]at a;exact a)
  obtain⟨n,d,i⟩:=l _ _ c a;exact⟨n,by rw[bU (p:=q) (by rw[b]),b,d,DY],i⟩
theorem ff {z:α->Nat} {sz:List α->Nat} {n:Nat} (e:sz []=0) (f:∀d x,sz (d++[x])=sz d+z x) (m:∀p q,(g p).2=some q->∃a,p=some a/\a+z (g p).1=q/\q<=n) (k:Nat):∀q,(lL g p0 k).2=some q->∃a,p0=some a/\a+sz (lL g p0 k).1=q/\((∀b,p0=some b->b<=n)->q<=n):=by
 induction k with
 |zero=>intro q h;exact⟨q,h,by rw[lL];simp[e],fun c=>c q h⟩
 |succ k o=>
  intro q h;cases c:(lL g p0 k).2 with
  |none=>rw[BI c,c]at h;cases h
  |some p=>
   obtain⟨a,j,r,_⟩:=o p c;rw[bU c]at h |-
   obtain⟨b,l,t,i⟩:=m _ _ h;cases l
   exact⟨a,j,by simp only[f];omega,fun _=>i⟩
theorem jn {z:α->Nat} {sz:List α->Nat} {n m:Nat} (c:sz []=0) (d:∀e x,sz (e++[x])=sz e+z x) (i:∀p q,(g p).2=some q->∃a,p=some a/\a+z (g p).1=q/\q<=n) (h:∀p,z (g p).1<=m) (j:∀b,p0=some b->b<=n) (k:Nat):sz (lL g p0 k).1<=n+m:=by
 induction k with
 |zero=>rw[lL];simp[c]
 |succ k l=>
  cases hh:(lL g p0 k).2 with
  |none=>rw[BI hh];exact l
  |some p=>
   obtain⟨a,r,o,f⟩:=ff c d i k p hh;have:=f j;have:=h (some p);rw[bU hh];simp only[d];omega
end
def ZA (s:ByteArray) (p:Option Nat):mA×Option Nat:=(⟨(iG s 1 p).1,(iG s 2 (iG s 1 p).2).1⟩,(iG s 2 (iG s 1 p).2).2)
def AD (s:ByteArray) (a:Option Nat) (k:Nat):List mA×Option Nat:=lL (ZA s) a k
def GY (s:ByteArray) (p:Option Nat):Nat×Option Nat:=cU s 1 p
def fh (s:ByteArray) (p:Option Nat):List mA×Option Nat:=AD s (GY s p).2 (GY s p).1
def fg (s:ByteArray) (p:Option Nat):Nat×Option Nat:=cU s 8 (fh s p).2
def lSm (s:ByteArray) (p:Option Nat):jD×Option Nat:=(⟨(fh s p).1,jB (fg s p).1⟩,(fg s p).2)
def NH (s:ByteArray) (a:Option Nat) (k:Nat):List jD×Option Nat:=lL (lSm s) a k
theorem aBk {s:ByteArray} {r:Rd} {p:Nat} (h:GT s r p) (a:(zN r).2.r9=false):∃q,ZA s (some p)=((zN r).1,some q)/\GT s (zN r).2 q:=by
 rw[dX]at a |-
 simp only at a;have f:(oA 1 r).2.r9=false:=VV a;obtain⟨i,b,c⟩:=LV h f;obtain⟨g,d,e⟩:=LV c a;refine⟨g,?_,e⟩;rw[ZA,b];simp only;rw[d]
theorem aFg {s:ByteArray} {r:Rd} {p:Nat} (h:GT s r p) (k:Nat) (a:(yH r k).2.r9=false):∃q,AD s (some p) k=((yH r k).1,some q)/\GT s (yH r k).2 q:=by
 rw[wl]at *;exact aDa (fun _=>PV) (fun _ _=>aBk) h k a
theorem aFh {s:ByteArray} {r:Rd} {p:Nat} (h:GT s r p) (a:(xS r).2.r9=false):∃q,lSm s (some p)=((xS r).1,some q)/\GT s (xS r).2 q:=by
 rw[oQ]at a;have b:(wS r).2.r9=false:=by rw[GG]at a;exact fv a
 have i:(CA r).2.r9=false:=by
  cases e:(CA r).2.r9 with
  |false=>rfl
  |true=>rw[wS,QO e]at b;exact b
 have d:GY s (some p)=((CA r).1,some (p+1))/\GT s (CA r).2 (p+1):=by
  rw[GY];rw[CA]at i |-
  exact jX h i
 obtain⟨c,f,k⟩:∃q,fh s (some p)=((wS r).1,some q)/\GT s (wS r).2 q:=by
  rw[fh,d.1];rw[wS]at b |-
  obtain⟨_,j⟩:=d;generalize (CA r).2=Z at *;generalize (CA r).1=Y at *;exact aFg j _ b
 have g:fg s (some p)=((GG r).1,some (c+8))/\GT s (GG r).2 (c+8):=by
  rw[fg,f];rw[GG]at a |-
  generalize (wS r).2=Z at *;exact jX k a
 have l:lSm s (some p)=(⟨(fh s (some p)).1,jB (fg s (some p)).1⟩,(fg s (some p)).2):=by rw[lSm]
 rw[l,f,g.1,MG,oQ];exact⟨c+8,rfl,g.2⟩
theorem aFi {s:ByteArray} {r:Rd} {p:Nat} (h:GT s r p) (k:Nat) (a:(yD r k).2.r9=false):∃q,NH s (some p) k=((yD r k).1,some q)/\GT s (yD r k).2 q:=aDa (fun _=>QS) (fun _ _=>aFh) h k a
def kY (s:ByteArray):Nat×Option Nat:=cU s 1 (some 0)
def BK (s:ByteArray):ByteArray×Option Nat:=if xQ ((kY s).1:Nat)=true then iG s 1 (kY s).2 else(ByteArray.empty,(kY s).2)
def wX (s:ByteArray):ByteArray×Option Nat:=if uQ ((kY s).1:Nat)=true then iG s 2 (BK s).2 else(ByteArray.empty,(BK s).2)
def CT (s:ByteArray):Int×Option Nat:=if fR ((kY s).1:Nat)=true then(jB (cU s 8 (wX s).2).1,(cU s 8 (wX s).2).2) else(0,(wX s).2)
def yw (s:ByteArray):Nat×Option Nat:=cU s 2 (CT s).2
def UK (s:ByteArray):List jD×Option Nat:=if (kY s).1=1 then NH s (yw s).2 (yw s).1 else([],(CT s).2)
def qx (s:ByteArray):vI:=⟨((kY s).1:Nat),(BK s).1,(wX s).1,(CT s).1,(UK s).1⟩
theorem aGj {s:ByteArray} (h:(eJ s).2.r9=false):kY s=((eJ s).1,some 1)/\GT s (eJ s).2 1:=by
 have a:GT s ⟨s,false⟩ 0:=⟨rfl,La _,by simp⟩
 have:=jX a h;rwa [Wa]at this
theorem kc {s:ByteArray} {r:Rd} {p n:Nat} {b:Bool} (h:GT s r p) (a:(if b=true then oA n r else(ByteArray.empty,r)).2.r9=false):∃q,(if b=true then iG s n (some p) else(ByteArray.empty,some p))=((if b=true then oA n r else(ByteArray.empty,r)).1,some q)/\GT s (if b=true then oA n r else(ByteArray.empty,r)).2 q:=by
 cases b
 ·exact⟨p,rfl,h⟩
 ·exact LV h a
theorem vl {s:ByteArray} (c:(bP s).2.r9=false):qx s=QR s:=by
 have f:(mQ s).2.r9=false:=by rw[bP]at c;split at c;exact fv c;exact c
 have a:(lO s).2.r9=false:=by rw[mQ]at f;split at f;exact VV f;exact f
 have g:(rQ s).2.r9=false:=by
  rw[lO]at a;split at a
  ·cases e:(rQ s).2.r9
   ·rfl
   ·rw[iQ (k:=0) (by rw[dJ,da];exact bD e) _ (La _)]at a;exact a
  ·exact a
 have A:(eJ s).2.r9=false:=by rw[rQ]at g;split at g;exact VV g;exact g
 obtain⟨d,u⟩:=aGj A;have j:(kY s).1=(eJ s).1:=by rw[d]
 obtain⟨E,i,n⟩:∃q,BK s=((rQ s).1,some q)/\GT s (rQ s).2 q:=by rw[BK,d];rw[rQ]at g |-;exact kc u g
 have y:(BK s).1=(rQ s).1:=by rw[i]
 have l:(wX s).1=(mQ s).1/\(CT s).1=(bP s).1/\(UK s).1=(lO s).1:=by
  by_cases b:(eJ s).1=1
  ·have B:mQ s=(ByteArray.empty,(lO s).2):=by rw[mQ,b];rfl
   have C:bP s=(0,(mQ s).2):=by rw[bP,b];rfl
   have p:wX s=(ByteArray.empty,(BK s).2):=by rw[wX,d,b];rfl
   have r:CT s=(0,(wX s).2):=by rw[CT,d,b];rfl
   refine⟨by rw[B,p],by rw[C,r],?_⟩;rw[UK,j,Qa b,yw,r,p,i];rw[lO,Qa b]at a |-
   have o:(da s).2.r9=false:=by
    cases e:(da s).2.r9
    ·rfl
    ·rw[iQ (k:=0) (by rw[dJ];exact e) _ (La _)]at a;exact a
   rw[da]at o a |-
   obtain⟨w,x⟩:=jX n o;rw[w];obtain⟨q,z,_⟩:=aFi x _ a;rw[z]
  ·have t:lO s=([],(rQ s).2):=by rw[lO,Oa b]
   obtain⟨D,m,v⟩:∃q,wX s=((mQ s).1,some q)/\GT s (mQ s).2 q:=by rw[wX,d,i];rw[mQ,t]at f |-;exact kc n f
   refine⟨by rw[m],?_,by rw[UK,j,Oa b,t]⟩;rw[CT,d,m];rw[bP]at c |-
   split
   ·rename_i h;rw[Qa h]at c;rw[(jX v c).1]
   ·rfl
 rw[qx,QR,j,y,l.1,l.2.1,l.2.2]
theorem IR (s:ByteArray):AC (qx s).num/\∀i (h:i<(qx s).smps.length),AC (qx s).smps[i].bits:=by
 constructor
 ·show AC (CT s).1;rw[CT];split
  ·exact EO _
  ·exact⟨by simp only;omega,by simp only;omega⟩
 ·show ∀i (h:i<(UK s).1.length),AC (UK s).1[i].bits;rw[UK];split
  ·exact aEo (P:=fun x:jD=>AC x.bits) (fun p=>EO _) _
  ·exact fun i h=>absurd h (by simp)
theorem fq {s:ByteArray} (a:s.size≠0) (h:aG (qx s)=s):nE s=(qx s,true):=jf a h (IR s).1 (IR s).2
theorem oj {s:ByteArray} (h:¬(s.size≠0/\aG (qx s)=s)):nE s=(⟨0,ByteArray.empty,ByteArray.empty,0,[]⟩,false):=by
 refine SQ fun⟨c,a,b⟩=>h ⟨fun d=>?_,by rw[vl a];exact b⟩;have:(eJ s).1=0:=by
  rw[eJ,zA,uB,Qa (by show s.size<1;omega)];rfl
 omega
theorem aFs (a b:Nat) (c:a<256) (d:b<256):bits .xor .u8 (a:Int) (b:Int)=((a ^^^ b:Nat):Int):=by
 have e:a ^^^ b<2 ^ 8:=Gd (by omega) (by omega);show IntKind.u8.wrap ((BitVec.ofInt 8 (a:Int) ^^^ BitVec.ofInt 8 (b:Int)).toNat:Int)=_;rw[Vf,Jc,Jc,Ec,Ec,Kc (by omega),Kc (by omega)];simp only[IntKind.wrap,IntKind.bits,IntKind.signed];simp;omega
theorem ii {s:ByteArray} {i x:Nat} (j:i<s.size) (k:1<=x) (b:x<256):∃y:UInt8,s[i]≠y/\s.data.toList=s.data.toList.take i++s[i]:: s.data.toList.drop (i+1)/\(s.extract 0 i++strOfNums [bits .xor .u8 (s[i].toNat:Int) (x:Int)]++s.extract (i+1) s.size).data.toList=s.data.toList.take i++y::s.data.toList.drop (i+1)/\(s.extract 0 i++strOfNums [bits .xor .u8 (s[i].toNat:Int) (x:Int)]++s.extract (i+1) s.size).size<=s.size+1:=by
 have g:s[i].toNat<256:=s[i].toNat_lt;have c:s[i].toNat ^^^ x<256:=Gd (n:=8) (by omega) (by omega);rw[aFs _ _ g b];refine⟨UInt8.ofNat (s[i].toNat ^^^ x),fun e=>?_,?_,?_,?_⟩
 ·have d:=Fd UInt8.toNat e;rw[UInt8.toNat_ofNat_of_lt' c]at d;have f:s[i].toNat ^^^ (s[i].toNat ^^^ x)=s[i].toNat ^^^ s[i].toNat:=by rw[<-d]
  rw[<-Nat.xor_assoc,Nat.xor_self,Nat.zero_xor]at f;omega
 ·have a:i<s.data.toList.length:=by rw[Ue];exact j
  have h:=Ya i s.data.toList;rw[Kb a]at h;exact h.symm
 ·rw[Pg,Ve,Pg,Ve,Gf,Gf,Rf,Rf,strOfNums_data];simp only[List.extract_eq_take_drop,We,Nat.sub_zero,Lb,Qc,Cd,Ld,Xc,Nb];rw[Ua (l:=s.data.toList.drop (i+1)) (by rw[Ad,Ue];exact Ka _)]
 ·rw[Ga,Ga,Hd,Hd,strOfNums_size];simp only[Jb,Pd];omega
section
open Go.ChangeShapes Go.WideShapes Go.ChangeAt Go.Deep
theorem td:prog.cellsOf 5=1:=by kernel_rfl
theorem ju {H:Type} {m:TypeId×Value->H} {W:World} {g:Nat} {v:Value} {x:DataW H×List MemPlace} (h:DataW.trod m prog W 0 (fun _=>true) true g 22 [v]=some x):
 ∃(a:Option Addr) (n d:Nat),v=.slice a n d/\n<=maxLen/\gO W W.heap.size W.heap.size a n:=by
 rcases open_ints underlying22 underlying5 td h with⟨p,_⟩|⟨a,len,d,w,p,_,z,A,u,_,c,r⟩
 ·exact⟨none,0,0,by simpa using p,La _,Ca rfl⟩
 ·simp only[Ee]at u;refine⟨some a,len,d,by simpa using p,by omega,?_⟩;by_cases s:len=0
  ·exact Ca s
  ·obtain⟨b,o,l⟩:=a;have f:l=none:=by simpa[Addr.add]using World.cell?_spot (c 0 (by omega))
   subst f;have e:b<W.heap.size:=by
    have j:=c 0 (by omega);rcases Rc b W.heap.size with e|q
    ·exact e
    ·rw[Addr.add_lit]at j;simp[World.cell?,Qd q]at j
   refine Ja ⟨b,o,rfl,by omega,e,fun i y=>?_⟩;have k:=c i (by omega);rw[Addr.add_lit,List.getD_eq_getElem?_getD]at k;have t:=range_u8 r i;refine⟨(w[i]?.getD 0).toNat,by omega,?_⟩;rw[Vg t.1];exact k
end
