import Derived.BigQuiet
import Derived.WalkLawsBesides
import Derived.WalkSpells
import Derived.Test.YtabgbmfcbobamaaGreatDoorJ01
import Derived.Test.YtabgbmfcbobamaaGreatDoorProg
import Derived.Lib.RuneCountTail
import Derived.Deep.AppendLies
set_option maxRecDepth 100000
set_option maxHeartbeats 1000000
namespace Go.Proofs.YtabgbmfcbobamaaGreatDoor
open Go.RowKit Tryz
theorem bA {p:Prop} (h:p):Hid p:=h
structure kA where
 name:ByteArray
 data:ByteArray
 y9:Int
def AE (w:World) (b o:Nat) (a:List kA):Prop:=
 ∀i (h:i<a.length),w.cell? ⟨b,o+i*3,none⟩=some (.string a[i].name)/\
  w.cell? ⟨b,o+i*3+1,none⟩=some (.string a[i].data)/\w.cell? ⟨b,o+i*3+2,none⟩=some (.int .i64 a[i].y9)
theorem zF {k:IntKind} {a b:Int} (h:a=b):Ending.returned (.int k a)=.returned (.int k b):=by rw[h]
theorem jA {a b:Bool} (h:a=b):Ending.returned (.bool a)=.returned (.bool b):=by rw[h]
structure fB (w:World) where
 w':World
 h:Below w.heap.size w w'
theorem fB.there (w:World):Nonempty (fB w):=⟨⟨w,Below.refl _ _⟩⟩
theorem fB.cell {w:World} (x:fB w) {b o:Nat} {v:Value} (h:w.cell? ⟨b,o,none⟩=some v):x.w'.cell? ⟨b,o,none⟩=some v:=by
 have d:b<w.heap.size:=by
  rcases Rc b w.heap.size with c|a
  ·exact c
  ·simp[World.cell?,Qd a]at h
 rw[<-h];exact x.h.cell d
theorem fB.cells {w:World} {b o:Nat} {v:Value} (h:w.cell? ⟨b,o,none⟩=some v):∀x:fB w,x.w'.cell? ⟨b,o,none⟩=some v:=fun x=>x.cell h
theorem eB {P:Program} {id:Nat} {Q:Exit->Act->World->Prop} {a:Act} {w:World} {l:List Oper} (e:P.follows .mixedOrders=true) (d:Region.lexB .any l.toArray=true)
 (h:wpQuiet P l.toArray (fun b=>∃x:fB w,b=x.w') (fun c=>∀b,(∃x:fB w,b=x.w')->Q .normal c b) l a):(Code.region id l.toArray true).wp P Q a w:=
 wp_region_quiet (C:=fun b=>∃x:fB w,b=x.w') e d ⟨⟨w.drew,(Below.refl _ _).drew⟩,rfl⟩ (by simpa using h)
theorem pB {P:Program} {f:FuncId} {args:Array Value} {w:World} {x:fB w} {v:Value}
 (h:Calls P f args x.w' fun e a=>e=.returned v/\Below x.w'.heap.size x.w' a):Calls P f args x.w' fun e a=>e=.returned v/\∃y:fB w,a=y.w':=
 h.mono fun _ a ⟨c,b⟩=>⟨c,⟨a,x.h.trans (b.mono x.h.size)⟩,rfl⟩
theorem lD {P:Program} {f:FuncId} {args:Array Value} {w:World} {x:fB w} {v:Value}
 (h:Calls P f args x.w' fun e a=>e=.returned v/\a=x.w'):Calls P f args x.w' fun e a=>e=.returned v/\∃y:fB w,a=y.w':=
 h.mono fun _ _ ⟨c,b⟩=>⟨c,x,b⟩
def qA (w:World) (a:Option Addr) (c:List kA):Prop:=c=[]\/∃b o,a=some ⟨b,o,none⟩/\b<w.heap.size/\AE w b o c
theorem qA.later {w f:World} {a:Option Addr} {e:List kA} (h:qA w a e) (d:Below w.heap.size w f):qA f a e:=by
 rcases h with h|⟨b,o,rfl,c,h⟩
 ·exact Ca h
 ·refine Ja ⟨b,o,rfl,Ib c d.size,fun i l=>?_⟩;obtain⟨g,j,k⟩:=h i l;exact⟨by rw[<-g];exact d.cell c,by rw[<-j];exact d.cell c,by rw[<-k];exact d.cell c⟩
theorem qA.at {w:World} {a:Option Addr} {c:List kA} (h:qA w a c) {i:Nat} (e:i<c.length):
 ∃b o,a=some ⟨b,o,none⟩/\b<w.heap.size/\w.cell? ⟨b,o+i*3,none⟩=some (.string c[i].name)/\
  w.cell? ⟨b,o+i*3+1,none⟩=some (.string c[i].data)/\w.cell? ⟨b,o+i*3+2,none⟩=some (.int .i64 c[i].y9):=by
 rcases h with rfl|⟨b,o,rfl,d,h⟩
 ·exact absurd e (by simp)
 ·exact⟨b,o,rfl,d,h i e⟩
theorem qA.setCell {w:World} {g o:Nat} {c:List kA} (h:qA w (some ⟨g,o,none⟩) c) {p:Addr} (k:p.block≠g) (v:Value):qA (w.setCell p v) (some ⟨g,o,none⟩) c:=by
 rcases h with h|⟨b,l,e,a,h⟩
 ·exact Ca h
 ·simp only[Pa,Addr.mk.injEq,Yb]at e;obtain⟨rfl,rfl⟩:=e;have f:∀j,(w.setCell p v).cell? ⟨g,j,none⟩=w.cell? ⟨g,j,none⟩:=fun j=>World.cell?_of_block (Below.heap_setCell w p v g (Ne.symm k));refine Ja ⟨g,o,rfl,by simpa[World.setCell]using a,fun i d=>?_⟩;simp only[f];exact h i d
def bulk:List kA->Nat
 |[]=>0
 |f::r=>f.name.size+f.data.size+bulk r
def xB:List kA->Nat
 |[]=>0
 |f::r=>f.data.size+xB r
theorem pN (a b:List kA):xB (a++b)=xB a+xB b:=by
 induction a with
 |nil=>simp[xB]
 |cons f r c=>simp[xB,c];omega
theorem cN (a:List kA) (k:Nat) (h:k<a.length):xB (a.take (k+1))=xB (a.take k)+a[k].data.size:=by
 rw[Ma h,pN];simp[xB]
theorem vL (a:List kA) (k:Nat):xB (a.take k)<=xB a:=by
 have:=pN (a.take k) (a.drop k);rw[Ya]at this;omega
def eV (a:List kA):Prop:=∀i (h:i<a.length),a[i].name.size<=maxLen/\a[i].data.size<=maxLen
def qO (w:World) (b:Nat) (a c d e f g:Value):Prop:=
 w.cell? ⟨b,0,none⟩=some a/\w.cell? ⟨b,1,none⟩=some c/\w.cell? ⟨b,2,none⟩=some d/\w.cell? ⟨b,3,none⟩=some e/\w.cell? ⟨b,4,none⟩=some f/\w.cell? ⟨b,5,none⟩=some g
theorem qO.new (w:World) (a b c d e f:Value) (t:TypeId):qO (w.alloc (.cells #[a,b,c,d,e,f] t)) w.heap.size a b c d e f:=by
 simp[qO,go_sem]
theorem qO.lt {w:World} {b:Nat} {d e f g i j:Value} (h:qO w b d e f g i j):b<w.heap.size:=by
 rcases Rc b w.heap.size with c|a
 ·exact c
 ·have:=h.1;simp[World.cell?,Qd a]at this
theorem qO.later {w k:World} {b:Nat} {d e f g i j:Value} (h:qO w b d e f g i j) (a:Below w.heap.size w k):qO k b d e f g i j:=by
 have c:=h.lt;obtain⟨l,m,n,o,p,q⟩:=h;exact⟨(a.cell c).trans l,(a.cell c).trans m,(a.cell c).trans n,(a.cell c).trans o,(a.cell c).trans p,(a.cell c).trans q⟩
theorem nA {a b c:World} (h:Below a.heap.size a b) (k:Below b.heap.size b c):Below a.heap.size a c:=h.trans (k.mono h.size)
theorem cA (w:World) (o:Obj):Below w.heap.size w (w.alloc o):=(Below.refl _ _).alloc (Ka _) _
structure dB (g:Nat) (w w':World):Prop where
 os:w'.os=w.os
 tape:w'.tape=w.tape
 output:w'.output=w.output
 size:w.heap.size≤w'.heap.size
 block:∀k,k<w.heap.size→k≠g→w'.heap[k]?=w.heap[k]?
theorem dB.refl (g:Nat) (w:World):dB g w w:=⟨rfl,rfl,rfl,Ka _,fun _ _ _=>rfl⟩
theorem dB.trans {g:Nat} {a b c:World} (h:dB g a b) (k:dB g b c):dB g a c:=
 ⟨k.os.trans h.os,k.tape.trans h.tape,k.output.trans h.output,Ra h.size k.size,fun i e d=>(k.block i (Ib e h.size) d).trans (h.block i e d)⟩
theorem dB.of {g:Nat} {w a:World} (h:Below w.heap.size w a):dB g w a:=⟨h.os,h.tape,h.output,h.size,fun k b _=>h.block k b⟩
theorem dB.setCell {g:Nat} {a w:World} (h:dB g a w) (o:Nat) (v:Value):dB g a (w.setCell ⟨g,o,none⟩ v):=
 h.trans ⟨rfl,rfl,rfl,by simp[World.setCell],fun k _ b=>Below.heap_setCell _ _ _ _ b⟩
theorem dB.below {g B:Nat} {w a:World} (h:dB g w a) (b:B<=g) (d:B<=w.heap.size):Below B w a:=
 ⟨h.os,h.tape,h.output,h.size,fun k c=>h.block k (by omega) (by omega)⟩
theorem qA.but {g b o:Nat} {w c:World} {d:List kA} (h:qA w (some ⟨b,o,none⟩) d) (f:dB g w c) (k:b≠g):qA c (some ⟨b,o,none⟩) d:=by
 rcases h with h|⟨n,p,e,a,h⟩
 ·exact Ca h
 ·simp only[Pa,Addr.mk.injEq,Yb]at e;obtain⟨rfl,rfl⟩:=e;have m:∀j,c.cell? ⟨b,j,none⟩=w.cell? ⟨b,j,none⟩:=fun j=>World.cell?_of_block (f.block b a k);exact Ja ⟨b,o,rfl,Ib a f.size,fun i l=>by simp only[m];exact h i l⟩
def OH (w:World) (B:Nat) (a:Option Addr) (c:List kA):Prop:=
 c=[]\/∃g o b t,a=some ⟨g,o,none⟩/\B<=g/\w.heap[g]?=some (.cells b t (0,0))/\AE w g o c
theorem aA {w:World} {g:Nat} {x:Obj} (h:w.heap[g]?=some x):g<w.heap.size:=by
 rcases Rc g w.heap.size with b|a
 ·exact b
 ·rw[Qd a]at h;exact absurd h (by simp)
theorem OH.files {w:World} {B:Nat} {a:Option Addr} {b:List kA} (h:OH w B a b):qA w a b:=by
 rcases h with h|⟨g,o,c,t,rfl,_,d,h⟩
 ·exact Ca h
 ·exact Ja ⟨g,o,rfl,aA d,h⟩
def eA (w:World) (g:Nat) (a:Array Value) (t:TypeId):Prop:=w.heap[g]?=some (.cells a t (0,0))
theorem eA.set {w:World} {g:Nat} {a:Array Value} {t:TypeId} (h:eA w g a t) (j:Nat) (v:Value):eA (w.setCell ⟨g,j,none⟩ v) g (a.setIfInBounds j v) t:=heap_setCell_same w g j a t v h
theorem eA.later {w b:World} {g:Nat} {a:Array Value} {t:TypeId} (h:eA w g a t) (c:Below w.heap.size w b):eA b g a t:=(c.block g (aA h)).trans h
theorem eA.cell {w:World} {g:Nat} {a:Array Value} {t:TypeId} (h:eA w g a t) (j:Nat):w.cell? ⟨g,j,none⟩=a[j]?:=cell_of_row w g j a t _ h
theorem eA.free {w:World} {g:Nat} {a:Array Value} {t:TypeId} (h:eA w g a t) (j:Nat):w.frozen? ⟨g,j,none⟩=false:=frozen_of_row w g j a t h
theorem eA.c2 {w:World} {g:Nat} {a b:Value} {t:TypeId} (h:eA w g #[a,b] t):w.cell? ⟨g,0,none⟩=some a/\w.cell? ⟨g,1,none⟩=some b:=⟨h.cell 0,h.cell 1⟩
theorem eA.c3 {w:World} {g:Nat} {a b c:Value} {t:TypeId} (h:eA w g #[a,b,c] t):w.cell? ⟨g,0,none⟩=some a/\w.cell? ⟨g,1,none⟩=some b/\w.cell? ⟨g,2,none⟩=some c:=⟨h.cell 0,h.cell 1,h.cell 2⟩
theorem eA.c4 {w:World} {g:Nat} {a b c d:Value} {t:TypeId} (h:eA w g #[a,b,c,d] t):w.cell? ⟨g,0,none⟩=some a/\w.cell? ⟨g,1,none⟩=some b/\w.cell? ⟨g,2,none⟩=some c/\w.cell? ⟨g,3,none⟩=some d:=⟨h.cell 0,h.cell 1,h.cell 2,h.cell 3⟩
theorem eA.c5 {w:World} {g:Nat} {a b c d e:Value} {t:TypeId} (h:eA w g #[a,b,c,d,e] t):w.cell? ⟨g,0,none⟩=some a/\w.cell? ⟨g,1,none⟩=some b/\w.cell? ⟨g,2,none⟩=some c/\w.cell? ⟨g,3,none⟩=some d/\w.cell? ⟨g,4,none⟩=some e:=⟨h.cell 0,h.cell 1,h.cell 2,h.cell 3,h.cell 4⟩
theorem eA.c6 {w:World} {g:Nat} {a b c d e f:Value} {t:TypeId} (h:eA w g #[a,b,c,d,e,f] t):w.cell? ⟨g,0,none⟩=some a/\w.cell? ⟨g,1,none⟩=some b/\w.cell? ⟨g,2,none⟩=some c/\w.cell? ⟨g,3,none⟩=some d/\w.cell? ⟨g,4,none⟩=some e/\w.cell? ⟨g,5,none⟩=some f:=⟨h.cell 0,h.cell 1,h.cell 2,h.cell 3,h.cell 4,h.cell 5⟩
theorem eA.there {w:World} {g:Nat} {a:Array Value} {t:TypeId} (h:eA w g a t) {j:Nat} (b:j<a.size):∃v,w.cell? ⟨g,j,none⟩=some v:=⟨a[j],by rw[h.cell];exact Vc b⟩
def zb (a:Array Value) (o j:Nat) (f:kA):Prop:=a[o+j*3]?=some (.string f.name)/\a[o+j*3+1]?=some (.string f.data)/\a[o+j*3+2]?=some (.int .i64 f.y9)
theorem GW {w:World} {g o:Nat} {a:Array Value} {t:TypeId} {b:List kA} (h:eA w g a t) (d:∀j (c:j<b.length),zb a o j b[j]):AE w g o b:=by
 intro j c;simp only[h.cell];exact d j c
theorem eA.new (w:World) (cs:Array Value) (t:TypeId):eA (w.alloc (.cells cs t)) w.heap.size cs t:=heap_alloc_new _ _
theorem eA.alloc {w:World} {g:Nat} {a:Array Value} {t:TypeId} (h:eA w g a t) (o:Obj):eA (w.alloc o) g a t:=h.later (cA _ _)
theorem eA.but {w d:World} {g c:Nat} {a:Array Value} {t:TypeId} (h:eA w g a t) (e:dB c w d) (b:g≠c):eA d g a t:=(e.block g (aA h) b).trans h
theorem tE:∀x:List UInt8,Op.bytesLess x x=false
 |[]=>rfl
 |a::x=>by simp[Op.bytesLess,tE x]
theorem oI:∀x y z:List UInt8,Op.bytesLess x y=true->Op.bytesLess y z=true->Op.bytesLess x z=true
 |_,_,[],_,h=>by simp[Op.bytesLess]at h
 |_,[],_::_,h,_=>by simp[Op.bytesLess]at h
 |[],_::_,_::_,_,_=>by simp[Op.bytesLess]
 |a::x,b::y,c::z,e,d=>by
  simp only[Op.bytesLess,He,Sa,Eb,Eg]at e d |-
  rcases e with e|⟨rfl,e⟩
  ·rcases d with d|⟨rfl,_⟩
   ·exact Ca (UInt8.lt_trans e d)
   ·exact Ca e
  ·rcases d with d|⟨rfl,d⟩
   ·exact Ca d
   ·exact Ja ⟨rfl,oI x y z e d⟩
theorem gK:∀x y:List UInt8,Op.bytesLess x y=false->x≠y->Op.bytesLess y x=true
 |[],[],_,h=>absurd rfl h
 |[],_::_,h,_=>by simp[Op.bytesLess]at h
 |_::_,[],_,_=>by simp[Op.bytesLess]
 |a::x,b::y,h,d=>by
  simp only[Op.bytesLess,Bool.or_eq_false_iff,Og,Ze,He,Sa,Eb,Eg]at h |-
  obtain⟨f,c⟩:=h;by_cases e:a=b
  ·subst e;rcases c with c|c
   ·simp at c
   ·exact Ja ⟨rfl,gK x y c (fun e=>d (by rw[e]))⟩
  ·left;rcases UInt8.lt_or_lt_of_ne e with h|h
   ·exact absurd h f
   ·exact h
theorem qM {x y:List UInt8} (h:Op.bytesLess x y=true):Op.bytesLess y x=false:=by
 rw[Yc];intro a;have:=oI x y x h a;rw[tE]at this;exact absurd this (by simp)
theorem toList_inj {x y:ByteArray} (h:x.toList=y.toList):x=y:=by
 have a:x.data.toList=y.data.toList:=by rw[<-ByteArray.toList_eq x,<-ByteArray.toList_eq y];exact h
 cases x;cases y
 simp only[ByteArray.mk.injEq];exact Array.toList_inj.1 a
structure mA where
 name:ByteArray
 value:ByteArray
def fO (w:World) (b o:Nat) (a:List mA):Prop:=
 ∀i (h:i<a.length),w.cell? ⟨b,o+i*2,none⟩=some (.string a[i].name)/\w.cell? ⟨b,o+i*2+1,none⟩=some (.string a[i].value)
def sC (w:World) (a:Option Addr) (c:List mA):Prop:=c=[]\/∃b o,a=some ⟨b,o,none⟩/\b<w.heap.size/\fO w b o c
theorem sC.later {w f:World} {a:Option Addr} {e:List mA} (h:sC w a e) (d:Below w.heap.size w f):sC f a e:=by
 rcases h with h|⟨b,o,rfl,c,h⟩
 ·exact Ca h
 ·refine Ja ⟨b,o,rfl,Ib c d.size,fun i k=>?_⟩;obtain⟨g,j⟩:=h i k;exact⟨by rw[<-g];exact d.cell c,by rw[<-j];exact d.cell c⟩
theorem sC.at {w:World} {a:Option Addr} {c:List mA} (h:sC w a c) {i:Nat} (e:i<c.length):
 ∃b o,a=some ⟨b,o,none⟩/\b<w.heap.size/\w.cell? ⟨b,o+i*2,none⟩=some (.string c[i].name)/\w.cell? ⟨b,o+i*2+1,none⟩=some (.string c[i].value):=by
 rcases h with rfl|⟨b,o,rfl,d,h⟩
 ·exact absurd e (by simp)
 ·exact⟨b,o,rfl,d,h i e⟩
def gC (w:World) (B:Nat) (a:Option Addr) (c:List mA):Prop:=
 c=[]\/∃g o b t,a=some ⟨g,o,none⟩/\B<=g/\w.heap[g]?=some (.cells b t (0,0))/\fO w g o c
theorem gC.labs {w:World} {B:Nat} {a:Option Addr} {b:List mA} (h:gC w B a b):sC w a b:=by
 rcases h with h|⟨g,o,c,t,rfl,_,d,h⟩
 ·exact Ca h
 ·exact Ja ⟨g,o,rfl,aA d,h⟩
theorem gC.later {w d:World} {B:Nat} {a:Option Addr} {k:List mA} (h:gC w B a k) (e:Below w.heap.size w d):gC d B a k:=by
 rcases h with h|⟨g,o,c,t,rfl,l,f,h⟩
 ·exact Ca h
 ·have b:=aA f;have n:∀j,d.cell? ⟨g,j,none⟩=w.cell? ⟨g,j,none⟩:=fun j=>World.cell?_of_block (e.block g b);exact Ja ⟨g,o,c,t,rfl,l,(e.block g b).trans f,fun i m=>by simp only[n];exact h i m⟩
theorem gC.mono {w:World} {B B':Nat} {a:Option Addr} {d:List mA} (h:gC w B a d) (e:B'<=B):gC w B' a d:=by
 rcases h with h|⟨g,o,b,t,rfl,c,f,h⟩
 ·exact Ca h
 ·exact Ja ⟨g,o,b,t,rfl,Ra e c,f,h⟩
theorem rF {w:World} {B:Nat} {e:TypeId} {a:Option Addr} {d:Nat} {l:List mA}
 (h:w.ownsRow B e 2 (.slice a l.length d) l.length (l.flatMap fun x=>[.string x.name,.string x.value])):gC w B a l:=by
 rcases h.2 with⟨_,t⟩|⟨g,m,b,o,p,f,_,_,u,k⟩
 ·exact Ca (Qb.1 t)
 ·simp only[Value.slice.injEq]at o;have q:∀(l:List mA) i (c:i<l.length),(l.flatMap fun x=>[Value.string x.name,.string x.value])[i*2]?=some (.string l[i].name)/\(l.flatMap fun x=>[Value.string x.name,.string x.value])[i*2+1]?=some (.string l[i].value):=by
   intro l;induction l with
   |nil=>intro i c;exact absurd c (by simp)
   |cons x r v=>
    intro i c;cases i with
    |zero=>simp
    |succ i=>
     have:=v i (by simpa using c);simp only[Sc,Xc,Nb,Ic];rw[show(i+1)*2=i*2+1+1 by omega,Ia,Ia,Ia,Ia];exact this
  refine Ja ⟨g,0,b,e,o.1,p,f,fun i c=>?_⟩;have n:∀j,j<l.length*2->b[j]?=(l.flatMap fun x=>[Value.string x.name,.string x.value])[j]?:=fun j s=>by
   rw[<-k,Mb s,Zd]
  rw[cell_of_row w g _ b _ _ f,cell_of_row w g _ b _ _ f,Wa,n _ (by omega),n _ (by omega)];exact q l i c
def wB:List mA->Nat
 |[]=>0
 |f::r=>f.name.size+f.value.size+wB r
theorem iL (a b:List mA):wB (a++b)=wB a+wB b:=by
 induction a with
 |nil=>simp[wB]
 |cons f r c=>simp[wB,c];omega
theorem jL (a:List mA) (k:Nat) (h:k<a.length):wB (a.take (k+1))=wB (a.take k)+(a[k].name.size+a[k].value.size):=by
 rw[Ma h,iL];simp[wB]
theorem yJ (a:List mA) (k:Nat):wB (a.take k)<=wB a:=by
 have:=iL (a.take k) (a.drop k);rw[Ya]at this;omega
def eH (s:ByteArray):Nat->Nat->Option (List Nat)
 |0,_=>some []
 |b+1,p=>if p<s.size then(if Utf8.decode s p=(65533,1) then none else(eH s b (p+(Utf8.decode s p).2)).map ((Utf8.decode s p).1 :: ·)) else some []
def ctl (r:Nat):Bool:=decide (r<32) ||(decide (127<=r) &&decide (r<=159))
def SZ (l:List Nat):Nat:=if 128<l.length then 43 else if l.any ctl=true then 44 else 0
def dN (s:ByteArray):Nat:=match eH s s.size 0 with
 |none=>42
 |some l=>SZ l
def rX (s:ByteArray) (p:Nat) (a:List Nat):Prop:=a.length<=p/\∃b,s.size<=p+b/\eH s s.size 0=(eH s b p).map (a++·)
theorem rX.start (s:ByteArray):rX s 0 []:=⟨Ka _,s.size,by omega,by simp⟩
theorem lT (s:ByteArray) (p:Nat):1<=(Utf8.decode s p).2:=by
 simp only[Utf8.decode];repeat' split
 all_goals simp_all
theorem rX.step {s:ByteArray} {p:Nat} {a:List Nat} (h:rX s p a) (d:p<s.size) (c:Utf8.decode s p≠(65533,1)):rX s (p+(Utf8.decode s p).2) (a++[(Utf8.decode s p).1]):=by
 obtain⟨i,b,g,e⟩:=h;have f:=lT s p;cases b with
 |zero=>omega
 |succ b=>
  refine⟨by simp;omega,b,by omega,?_⟩;rw[e,eH,Qa d,Oa c];cases eH s b (p+(Utf8.decode s p).2)<;>simp
theorem rX.bad {s:ByteArray} {p:Nat} {a:List Nat} (h:rX s p a) (d:p<s.size) (c:Utf8.decode s p=(65533,1)):dN s=42:=by
 obtain⟨g,b,f,e⟩:=h;cases b with
 |zero=>omega
 |succ b=>
  rw[eH,Qa d,Qa c]at e;rw[dN,e];rfl
theorem rX.done {s:ByteArray} {p:Nat} {a:List Nat} (h:rX s p a) (f:s.size<=p):dN s=SZ a:=by
 obtain⟨d,b,c,e⟩:=h;have:eH s b p=some []:=by
  cases b with
  |zero=>rfl
  |succ b=>rw[eH,Oa (by omega)]
 rw[this]at e;rw[dN,e];simp
theorem OW (s:ByteArray) (p:Nat):Utf8.decode (s.extract p s.size) 0=Utf8.decode s p:=Lib.tail_decode s p 0
def FQ (t:ByteArray):Nat×Nat:=if Utf8.decode t 0=(65533,1) then(0,0) else Utf8.decode t 0
def nB (t:ByteArray) (k:Nat):Nat:=(t.get! k).toNat
theorem aFu (t:ByteArray) (k:Nat):nB t k<256:=(t.get! k).toNat_lt
theorem kS (t:ByteArray) (k:Nat) (h:k<t.size):t[k].toNat=nB t k:=by
 have:=get_at t k h;rw[Bf]at this;rw[nB,this]
def nV (a b c d:Nat) (e f g:Bool):Nat×Nat:=
 if a<128 then(a,1)
 else if (a / 32==6&&e)=true then(if 128<=a % 32*64+b % 64 then(a % 32*64+b % 64,2) else(65533,1))
 else if (a / 16==14&&e&&f)=true then(if (decide (2048<=a % 16*4096+b % 64*64+c % 64) &&Utf8.valid ((a % 16*4096+b % 64*64+c % 64:Nat):Int))=true then(a % 16*4096+b % 64*64+c % 64,3) else(65533,1))
 else if (a / 8==30&&e&&f&&g)=true then(if (decide (65536<=a % 8*262144+b % 64*4096+c % 64*64+d % 64) &&Utf8.valid ((a % 8*262144+b % 64*4096+c % 64*64+d % 64:Nat):Int))=true then(a % 8*262144+b % 64*4096+c % 64*64+d % 64,4) else(65533,1))
 else(65533,1)
def tj (t:ByteArray) (k:Nat):Bool:=decide (k<t.size) &&nB t k / 64==2
theorem bL (t:ByteArray) (k:Nat):tj t k=true ↔ k<t.size/\nB t k / 64=2:=by simp[tj]
theorem qP (t:ByteArray) (p:Nat):Utf8.decode t p=nV (nB t p) (nB t (p+1)) (nB t (p+2)) (nB t (p+3)) (tj t (p+1)) (tj t (p+2)) (tj t (p+3)):=rfl
def aFa (v:Nat):Bool:=decide (v<=1114111/\¬(55296<=v/\v<=57343))
abbrev qy (v:Nat):Prop:=aFa v=true
theorem aEz {v:Nat} (h:v<=1114111/\¬(55296<=v/\v<=57343)):qy v:=Zb h
theorem UU {v:Nat} (h:qy v):v<=1114111/\¬(55296<=v/\v<=57343):=Fe h
theorem RG (v:Nat):Utf8.valid (v:Int)=decide (qy v):=by
 unfold Utf8.valid qy aFa;rw[Sb];simp;omega
theorem XH {a b d e:Nat} {c f g:Bool} (h:a / 32=6):nV a b d e c f g=if c=true/\128<=a % 32*64+b % 64 then(a % 32*64+b % 64,2) else(65533,1):=by
 have i:(a / 16==14)=false:=by simp;omega
 have j:(a / 8==30)=false:=by simp;omega
 unfold nV;rw[Oa (by omega),h,i,j];cases c<;>simp
theorem JW {a b c g:Nat} {d f i:Bool} (h:a / 16=14):
 nV a b c g d f i=if d=true/\f=true/\2048<=(a % 16*64+b % 64)*64+c % 64/\qy ((a % 16*64+b % 64)*64+c % 64) then((a % 16*64+b % 64)*64+c % 64,3) else(65533,1):=by
 have j:(a / 32==6)=false:=by simp;omega
 have k:(a / 8==30)=false:=by simp;omega
 have e:a % 16*4096+b % 64*64+c % 64=(a % 16*64+b % 64)*64+c % 64:=by omega
 unfold nV;rw[Oa (by omega),j,h,k,e,RG];cases d<;>cases f<;>simp[qy]
theorem OT {a b c d:Nat} {f g i:Bool} (h:a / 8=30):
 nV a b c d f g i=if f=true/\g=true/\i=true/\65536<=((a % 8*64+b % 64)*64+c % 64)*64+d % 64/\qy (((a % 8*64+b % 64)*64+c % 64)*64+d % 64) then(((a % 8*64+b % 64)*64+c % 64)*64+d % 64,4) else(65533,1):=by
 have j:(a / 32==6)=false:=by simp;omega
 have k:(a / 16==14)=false:=by simp;omega
 have e:a % 8*262144+b % 64*4096+c % 64*64+d % 64=((a % 8*64+b % 64)*64+c % 64)*64+d % 64:=by omega
 unfold nV;rw[Oa (by omega),j,k,h,e];simp only[RG];cases f<;>cases g<;>cases i<;>simp[qy]
theorem XG {a b c d:Nat} {e f g:Bool} (h:a<128):nV a b c d e f g=(a,1):=by unfold nV;rw[Qa h]
theorem OU {a e f g:Nat} {h i j:Bool} (k:128<=a) (b:a / 32≠6) (c:a / 16≠14) (d:a / 8≠30):nV a e f g h i j=(65533,1):=by
 have b:(a / 32==6)=false:=by simp[b]
 have c:(a / 16==14)=false:=by simp[c]
 have d:(a / 8==30)=false:=by simp[d]
 unfold nV;rw[Oa (by omega),b,c,d];simp
theorem OV {a e f g:Nat} {b c d:Bool}:nV a e f g b c d=(65533,1)\/((nV a e f g b c d).1<=1114111/\((nV a e f g b c d).2=1\/(nV a e f g b c d).2=2/\b=true\/(nV a e f g b c d).2=3/\c=true\/(nV a e f g b c d).2=4/\d=true)):=by
 by_cases l:a<128
 ·rw[XG l];right;exact⟨by simp;omega,Ca rfl⟩
 by_cases i:a / 32=6
 ·rw[XH i];split
  ·rename_i h;right;exact⟨by simp;omega,Ja (Ca ⟨rfl,h.1⟩)⟩
  ·exact Ca rfl
 by_cases j:a / 16=14
 ·rw[JW j];split
  ·rename_i h;right;exact⟨(UU h.2.2.2).1,Ja (Ja (Ca ⟨rfl,h.2.1⟩))⟩
  ·exact Ca rfl
 by_cases k:a / 8=30
 ·rw[OT k];split
  ·rename_i h;right;exact⟨(UU h.2.2.2.2).1,Ja (Ja (Ja ⟨rfl,h.2.2.1⟩))⟩
  ·exact Ca rfl
 ·rw[OU (by omega) i j k];exact Ca rfl
theorem FC (s:ByteArray) (p:Nat) (b:p<s.size) (h:Utf8.decode s p≠(65533,1)):p+(Utf8.decode s p).2<=s.size:=by
 rw[qP]at h |-
 rcases OV with a|⟨_,a|⟨e,a⟩|⟨e,a⟩|⟨e,a⟩⟩
 ·exact absurd a h
 ·rw[a];omega
 ·rw[e];have:=((bL _ _).1 a).1;omega
 ·rw[e];have:=((bL _ _).1 a).1;omega
 ·rw[e];have:=((bL _ _).1 a).1;omega
theorem oV (s:ByteArray) (p:Nat):(Utf8.decode s p).1<=1114111/\(Utf8.decode s p).2<=4:=by
 rw[qP];rcases OV with a|⟨h,a|⟨e,a⟩|⟨e,a⟩|⟨e,a⟩⟩
 ·rw[a];exact⟨by simp,by simp⟩
 ·exact⟨h,by omega⟩
 ·exact⟨h,by omega⟩
 ·exact⟨h,by omega⟩
 ·exact⟨h,by omega⟩
theorem aAh (t:ByteArray) (h:nB t 0<128):FQ t=(nB t 0,1):=by
 rw[FQ,qP,XG h,Oa];simp only[Hc,Yb];omega
theorem fd {t:ByteArray} {C D:Prop} [Decidable C] [Decidable D] {v n:Nat} (h:Utf8.decode t 0=if C then(v,n) else(65533,1)) (b:n≠1) (a:C ↔ D):FQ t=if D then(v,n) else(0,0):=by
 unfold FQ;rw[h];by_cases c:C
 ·rw[Qa c,Qa (a.1 c),Oa (by simp;exact fun _=>b)]
 ·rw[Oa c,Oa (fun h=>c (a.2 h)),Qa rfl]
theorem aAi (t:ByteArray) (h:nB t 0 / 32=6):
 FQ t=if 2<=t.size/\nB t 1 / 64=2/\128<=nB t 0 % 32*64+nB t 1 % 64 then(nB t 0 % 32*64+nB t 1 % 64,2) else(0,0):=by
 refine fd ((qP t 0).trans (XH h)) (by omega) ?_;rw[Wa,bL];constructor
 ·rintro⟨⟨a,b⟩,c⟩;exact⟨a,b,c⟩
 ·rintro⟨a,b,c⟩;exact⟨⟨a,b⟩,c⟩
theorem od (t:ByteArray) (h:nB t 0 / 16=14):
 FQ t=if 3<=t.size/\nB t 1 / 64=2/\nB t 2 / 64=2/\2048<=(nB t 0 % 16*64+nB t 1 % 64)*64+nB t 2 % 64/\qy ((nB t 0 % 16*64+nB t 1 % 64)*64+nB t 2 % 64) then((nB t 0 % 16*64+nB t 1 % 64)*64+nB t 2 % 64,3) else(0,0):=by
 refine fd ((qP t 0).trans (JW h)) (by omega) ?_;rw[Wa,Wa,bL,bL];constructor
 ·rintro⟨⟨_,b⟩,⟨a,c⟩,d⟩;exact⟨a,b,c,d⟩
 ·rintro⟨a,b,c,d⟩;exact⟨⟨by omega,b⟩,⟨a,c⟩,d⟩
theorem vg (t:ByteArray) (h:nB t 0 / 8=30):
 FQ t=if 4<=t.size/\nB t 1 / 64=2/\nB t 2 / 64=2/\nB t 3 / 64=2/\65536<=((nB t 0 % 8*64+nB t 1 % 64)*64+nB t 2 % 64)*64+nB t 3 % 64/\qy (((nB t 0 % 8*64+nB t 1 % 64)*64+nB t 2 % 64)*64+nB t 3 % 64) then(((nB t 0 % 8*64+nB t 1 % 64)*64+nB t 2 % 64)*64+nB t 3 % 64,4) else(0,0):=by
 refine fd ((qP t 0).trans (OT h)) (by omega) ?_;rw[Wa,Wa,Wa,bL,bL,bL];constructor
 ·rintro⟨⟨_,b⟩,⟨_,c⟩,⟨a,d⟩,e⟩;exact⟨a,b,c,d,e⟩
 ·rintro⟨a,b,c,d,e⟩;exact⟨⟨by omega,b⟩,⟨by omega,c⟩,⟨a,d⟩,e⟩
theorem vh (t:ByteArray) (a:128<=nB t 0) (b:nB t 0 / 32≠6) (c:nB t 0 / 16≠14) (d:nB t 0 / 8≠30):FQ t=(0,0):=by
 rw[FQ,qP,OU a b c d,Qa rfl]
theorem aEn (s:ByteArray) (p:Nat):FQ (s.extract p s.size)=if Utf8.decode s p=(65533,1) then(0,0) else Utf8.decode s p:=by rw[FQ,OW]
abbrev gV (c:Nat):Prop:=(65<=c/\c<=90)\/(97<=c/\c<=122)\/c=95
abbrev KA (c:Nat):Prop:=48<=c/\c<=57
abbrev lY (s:ByteArray) (i:Nat):Prop:=gV (nB s i)\/(KA (nB s i)/\0<i)
abbrev UL (s:ByteArray):Prop:=1<=s.size/\s.size<=64/\∀i,i<s.size->lY s i
def LC (s:ByteArray):Bool:=decide (UL s)
def fU (l:mA):Nat:=if LC l.name=true then dN l.value else 41
def kC:List mA->Nat->Option (Nat×Nat)
 |[],_=>none
 |l::r,i=>if fU l=0 then kC r (i+1) else some (fU l,i)
def nQ (x l:mA):Bool:=x.name.toList==l.name.toList
def uD:List mA->List mA->Nat->Option Nat
 |_,[],_=>none
 |a,l::r,i=>if a.any (fun x=>nQ x l)=true then some i else uD (a++[l]) r (i+1)
def LH:ByteArray:=⟨#[95,95,110,97,109,101,95,95]⟩
def eM (l:mA):Bool:=l.name.toList==LH.toList
def eR (l:mA):Bool:=l.value.toList==ByteArray.empty.toList
def sJ (x y:mA):Bool:=Op.bytesLess x.name.toList y.name.toList
def gI:List mA->ByteArray
 |[]=>ByteArray.empty
 |l::r=>if eM l=true then l.value else gI r
def jK (a:List mA):List mA:=a.filter (fun l=>!eR l)
def gU (a:List mA):Bool:=a.any (fun l=>!eR l&&eM l)
def cV (l:mA):List mA->Nat
 |[]=>0
 |x::r=>if sJ x l=true then cV l r+1 else 0
def aO (l:mA) (a:List mA):List mA:=a.take (cV l a)++l::a.drop (cV l a)
def mF (a:List mA):List mA->List mA
 |[]=>a
 |l::r=>mF (if eR l=true then a else aO l a) r
def pA (a:List mA):List mA×Nat×Nat:=
 if 16<a.length then([],40,0) else match kC a 0 with
 |some (c,i)=>([],c,i)
 |none=>match uD [] a 0 with
  |some i=>([],45,i)
  |none=>if gU a=true then(mF [] a,0,0) else([],46,0)
theorem jx (l:mA):∀a,cV l a<=a.length
 |[]=>Ka _
 |x::r=>by
  have:=jx l r;rw[cV];split
  ·simp;omega
  ·simp
theorem pe (l:mA) (a:List mA) (k:Nat) (b:k<a.length):cV l (a.drop k)=if sJ a[k] l=true then cV l (a.drop (k+1))+1 else 0:=by
 rw[Kb b,cV]
theorem UJ (l:mA) (a:List mA):(aO l a).length=a.length+1:=by
 have:=jx l a;simp[aO];omega
theorem nx (l:mA) (a:List mA):(aO l a).Perm (l::a):=by
 unfold aO;refine List.perm_middle.trans ?_;rw[Ya]
theorem iK:∀(c b:List mA),(mF b c).Perm (b++jK c)
 |[],b=>by simp[mF,jK]
 |l::r,b=>by
  rw[mF,jK,Sd];by_cases h:eR l=true
  ·rw[Qa h,Oa (by simp[h])];exact iK r b
  ·rw[Oa h,Qa (by simpa using h)];refine(iK r _).trans ?_;refine((nx l b).append_right _).trans ?_;exact(List.perm_middle (l₁:=b) (a:=l) (l₂:=jK r)).symm
theorem DQ (a:List mA):(jK a).length<=a.length:=Gc _ _
theorem nZ (a:List mA):(mF [] a).length=(jK a).length:=by
 have:=(iK a []).length_eq;simpa using this
def Le (x y:mA):Prop:=sJ y x=false
theorem QL (l:mA):∀(a:List mA),∀x∈a.take (cV l a),sJ x l=true
 |[],x,h=>by simp at h
 |y::r,x,h=>by
  rw[cV]at h;split at h
  ·rename_i b;rw[List.take_succ_cons,Ab]at h;rcases h with rfl|h
   ·exact b
   ·exact QL l r x h
  ·simp at h
theorem QM (l:mA):∀(a:List mA),a.Pairwise Le->∀x∈a.drop (cV l a),sJ x l=false
 |[],_,x,h=>by simp at h
 |y::r,d,x,h=>by
  rw[cV]at h;rw[Dc]at d;split at h
  ·rw[List.drop_succ_cons]at h;exact QM l r d.2 x h
  ·rename_i i;rw[We,Ab]at h;have c:sJ y l=false:=by simpa using i
   rcases h with rfl|h
   ·exact c
   ·have b:=d.1 x h;unfold Le at b;cases hx:sJ x l
    ·rfl
    ·exfalso;by_cases e:y.name.toList=l.name.toList
     ·unfold sJ at b hx;rw[e]at b;rw[b]at hx;exact absurd hx (by simp)
     ·have f:sJ l y=true:=gK _ _ c e;have g:sJ x y=true:=oI _ _ _ hx f;rw[g]at b;exact absurd b (by simp)
theorem LB {x y z:mA} (b:Le x y) (a:Le y z):Le x z:=by
 unfold Le at *;cases hx:sJ z x
 ·rfl
 ·exfalso;by_cases e:y.name.toList=x.name.toList
  ·unfold sJ at a hx;rw[e]at a;rw[a]at hx;exact absurd hx (by simp)
  ·have c:sJ x y=true:=gK _ _ b e;have d:sJ z y=true:=oI _ _ _ hx c;rw[d]at a;exact absurd a (by simp)
theorem YO (l:mA) (c:List mA) (h:c.Pairwise Le):(aO l c).Pairwise Le:=by
 unfold aO;have i:=QL l c;have f:=QM l c h;rw[Re];refine⟨h.sublist (List.take_sublist _ _),?_,?_⟩
 ·rw[Dc];exact⟨fun x j=>f x j,h.sublist (List.drop_sublist _ _)⟩
 ·intro a g b d;have e:Le a l:=qM (i a g);rw[Ab]at d;rcases d with rfl|d
  ·exact e
  ·exact LB e (f b d)
theorem gY:∀(b a:List mA),a.Pairwise Le->(mF a b).Pairwise Le
 |[],a,h=>h
 |l::r,a,h=>by
  rw[mF];refine gY r _ ?_;split
  ·exact h
  ·exact YO l a h
def GQ (a:List mA):Prop:=a.Pairwise (fun x y=>x.name≠y.name)
theorem qh (x l:mA):nQ x l=true ↔ x.name=l.name:=by
 unfold nQ;rw[Eg];exact⟨fun h=>toList_inj h,fun h=>by rw[h]⟩
theorem AU:∀(r c:List mA) (i:Nat),GQ c->uD c r i=none->GQ (c++r)
 |[],c,_,h,_=>by simpa using h
 |l::r,c,i,h,d=>by
  rw[uD]at d;split at d
  ·exact absurd d (by simp)
  ·rename_i j;have:GQ (c++[l]):=by
    unfold GQ;rw[Re];refine⟨h,Xe _ _,fun a g b f=>?_⟩;rw[Tc]at f;subst f;intro e;apply j;rw[Tf];exact⟨a,g,(qh _ _).2 e⟩
   have:=AU r _ _ this d;simpa using this
theorem aAw (a:List mA) (h:uD [] a 0=none):GQ a:=by
 have:=AU a [] 0 (by exact Xd) h;simpa using this
theorem aAv {c:List mA} (h:GQ c) {x y:mA} (b:x∈c) (a:y∈c) (e:x.name=y.name):x=y:=by
 induction c with
 |nil=>exact absurd b (by simp)
 |cons l r d=>
  unfold GQ at h;rw[Dc]at h;rw[Ab]at b a;rcases b with rfl|b
  ·rcases a with rfl|a
   ·rfl
   ·exact absurd e (h.1 y a)
  ·rcases a with rfl|a
   ·exact absurd e.symm (h.1 x b)
   ·exact d h.2 b a
theorem ql {c d:List mA} (h:GQ c) (k:d.Perm (jK c)) (q:d.Pairwise Le):d=mF [] c:=by
 have f:=(iK c []).trans (by rw[Nb]);refine List.Perm.eq_of_pairwise (le:=Le) ?_ q (gY c [] Xd) (k.trans f.symm);intro a b o p g m;have i:a∈c:=(Ge.1 (k.mem_iff.1 o)).1;have j:b∈c:=(Ge.1 (f.mem_iff.1 p)).1;refine aAv h i j ?_;by_cases e:a.name=b.name
 ·exact e
 ·have n:sJ b a=true:=gK _ _ m (fun l=>e (toList_inj l));unfold Le at g;rw[n]at g;exact absurd g (by simp)
theorem ZM:∀(c:List mA),GQ c->((gI c).toList==ByteArray.empty.toList)=!gU c
 |[],_=>by simp[gI,gU]
 |l::r,h=>by
  unfold GQ at h;rw[Dc]at h;rw[gI,gU,List.any_cons];by_cases a:eM l=true
  ·rw[Qa a,a,Ag];have g:(r.any fun l=>!eR l&&eM l)=false:=by
    rw[List.any_eq_false];intro x i d;rw[Sa]at d;have e:l.name=LH:=toList_inj (by simpa[eM]using a);have f:x.name=LH:=toList_inj (by simpa[eM]using d.2);exact h.1 x i (by rw[e,f])
   rw[g,Bool.or_false,Bool.not_not];rfl
  ·rw[Oa a];have b:eM l=false:=by simpa using a
   rw[b,Jg,Bg];exact ZM r h.2
theorem JM {a:List mA} (h:16<a.length):pA a=([],40,0):=by unfold pA;rw[Qa h]
theorem DE {a:List mA} (h:¬16<a.length) {c i:Nat} (b:kC a 0=some (c,i)):pA a=([],c,i):=by unfold pA;rw[Oa h,b]
theorem EV {a:List mA} (h:¬16<a.length) (b:kC a 0=none) {i:Nat} (c:uD [] a 0=some i):pA a=([],45,i):=by unfold pA;rw[Oa h,b,c]
theorem OM {a:List mA} (h:¬16<a.length) (b:kC a 0=none) (d:uD [] a 0=none) (c:gU a=false):pA a=([],46,0):=by
 unfold pA;rw[Oa h,b,d];simp[c]
theorem WS {a:List mA} (h:¬16<a.length) (b:kC a 0=none) (d:uD [] a 0=none) (c:gU a=true):pA a=(mF [] a,0,0):=by
 unfold pA;rw[Oa h,b,d];simp[c]
theorem eY (a:List mA) (k:Nat) (b:k<a.length):kC (a.drop k) k=if fU a[k]=0 then kC (a.drop (k+1)) (k+1) else some (fU a[k],k):=by
 rw[Kb b,kC]
theorem AV (a:List mA) (k:Nat) (b:k<a.length):uD (a.take k) (a.drop k) k=if (a.take k).any (fun x=>nQ x a[k])=true then some k else uD (a.take (k+1)) (a.drop (k+1)) (k+1):=by
 rw[Kb b,uD,Ma b]
theorem QC (a:List mA) (k:Nat) (b:k<a.length):gI (a.drop k)=if eM a[k]=true then a[k].value else gI (a.drop (k+1)):=by
 rw[Kb b,gI]
theorem YM (a b:List mA) (k:Nat) (c:k<b.length):mF a (b.drop k)=mF (if eR b[k]=true then a else aO b[k] a) (b.drop (k+1)):=by
 rw[Kb c,mF]
theorem om (a:List mA) (k:Nat) (b:k<a.length):gU (a.take (k+1))=(gU (a.take k) ||(!eR a[k] &&eM a[k])):=by
 rw[Ma b,gU,Dg];simp[gU]
theorem ex (a:List mA) (k:Nat) (b:k<a.length):jK (a.take (k+1))=jK (a.take k)++if eR a[k]=true then [] else [a[k]]:=by
 rw[Ma b,jK,Cf,jK];congr 1;by_cases h:eR a[k]=true<;>simp[h]
def jN (l:List UInt8):Nat:=l.foldl (fun v c=>v*256+c.toNat) 0
theorem jV (l:List UInt8) (c:UInt8):jN (l++[c])=jN l*256+c.toNat:=by simp[jN]
theorem aZ (l:List UInt8):jN l<256 ^ l.length:=by
 have b:∀(n:Nat) (l:List UInt8),l.length=n->jN l<256 ^ n:=fun n=>by
  induction n with
  |zero=>intro l h;rw[Qb.1 h];decide
  |succ n c=>
   intro l h;have a:l≠[]:=by intro e;rw[e]at h;simp at h
   rw[<-List.dropLast_concat_getLast a,jV];have d:=c l.dropLast (by simp[h]);have f:=(l.getLast a).toNat_lt;rw[Md];omega
 exact b _ l rfl
def fI (s:ByteArray) (p n:Nat):List UInt8:=(s.data.toList.drop p).take n
theorem sL {s:ByteArray} {p n:Nat} (h:p+n<=s.size):(fI s p n).length=n:=by
 have:s.data.toList.length=s.size:=by simp
 simp only[fI,Hb,Ad];omega
theorem ME {s:ByteArray} {p k:Nat} (h:p+k<s.size):fI s p (k+1)=fI s p k++[s[p+k]]:=by
 have a:s.data.toList.length=s.size:=by simp
 unfold fI;rw[Ma (by rw[Ad,a];omega),List.getElem_drop];rfl
def flat (a:List kA):List Value:=a.flatMap fun f=>[.string f.name,.string f.data,.int .i64 f.y9]
theorem flat_append (a b:List kA):flat (a++b)=flat a++flat b:=by simp[flat]
theorem uV (f:kA):flat [f]=[.string f.name,.string f.data,.int .i64 f.y9]:=rfl
theorem tV (a:List kA):(flat a).length=a.length*3:=by
 induction a with
 |nil=>rfl
 |cons f r b=>simp[flat]at *;omega
theorem flat_get:∀(a:List kA) (j:Nat) (h:j<a.length),(flat a)[j*3]?=some (.string a[j].name)/\(flat a)[j*3+1]?=some (.string a[j].data)/\(flat a)[j*3+2]?=some (.int .i64 a[j].y9)
 |[],_,h=>absurd h (by simp)
 |f::r,0,_=>by simp[flat]
 |f::r,j+1,h=>by
  have i:=flat_get r j (by simpa using h);have e:flat (f::r)=[.string f.name,.string f.data,.int .i64 f.y9]++flat r:=rfl;rw[e];have c:(j+1)*3=3+j*3:=by omega
  have d:(j+1)*3+1=3+(j*3+1):=by omega
  have g:(j+1)*3+2=3+(j*3+2):=by omega
  have b:∀p,([.string f.name,.string f.data,.int .i64 f.y9]++flat r)[3+p]?=(flat r)[p]?:=fun p=>by
   rw[Bd (by simp)];simp
  rw[g,d,c,b,b,b];exact i
theorem fY (b:List kA):∀u∈flat b,u.oneCell'=true:=by
 intro u a;simp only[flat,Uf,Ab,Kd,Hf]at a;obtain⟨f,_,rfl|rfl|rfl⟩:=a<;>rfl
theorem oL {w:World} {B:Nat} {e:TypeId} {v:Value} {c:List kA} (h:w.ownsRow B e 3 v c.length (flat c)):∃a b,v=.slice a c.length b/\OH w B a c:=by
 rcases h.2 with⟨rfl,q⟩|⟨g,b,f,rfl,r,l,_,_,_,t⟩
 ·have:c=[]:=Qb.1 q;subst this;exact⟨none,0,rfl,Ca rfl⟩
 ·refine⟨_,b,rfl,Ja ⟨g,0,f,e,rfl,r,l,GW l fun j s=>?_⟩⟩;have d:∀p v,(flat c)[p]?=some v->f[p]?=some v:=fun p v i=>by
   rw[<-t]at i;have k:=(Fc.1 i).1;rw[Hb]at k;rw[Mb (by omega)]at i;simpa using i
  obtain⟨m,n,o⟩:=flat_get c j s;refine⟨?_,?_,?_⟩
  ·rw[Wa];exact d _ _ m
  ·rw[Wa];exact d _ _ n
  ·rw[Wa];exact d _ _ o
theorem vA {w f:World} {B:Nat} {e:TypeId} {size:Nat} {v:Value} {n:Nat} {i:List Value} (h:w.ownsRow B e size v n i) (l:Below w.heap.size w f):f.ownsRow B e size v n i:=by
 obtain⟨j,c⟩:=h;refine⟨j,?_⟩;rcases c with c|⟨g,a,b,m,k,d,r⟩
 ·exact Ca c
 ·exact Ja ⟨g,a,b,m,k,(l.block g (aA d)).trans d,r⟩
theorem nY {w:World} {B:Nat} {e:TypeId} {size:Nat} {v:Value} {n:Nat} {d:List Value} (h:w.ownsRow B e size v n d) {p:Addr} (l:p.block<B) (u:Value):(w.setCell p u).ownsRow B e size v n d:=by
 obtain⟨f,c⟩:=h;refine⟨f,?_⟩;rcases c with c|⟨g,a,b,k,i,j,r⟩
 ·exact Ca c
 ·exact Ja ⟨g,a,b,k,i,(Below.heap_setCell w p u g (by omega)).trans j,r⟩
theorem mV {w:World} {b o:Nat} {d:List kA} (h:AE w b o d):∀j u,(flat d)[j]?=some u->w.cell? ((⟨b,o,none⟩:Addr).add j)=some u:=by
 intro j u a;have g:=(Fc.1 a).1;rw[tV]at g;have i:j / 3<d.length:=by omega
 obtain⟨k,l,m⟩:=flat_get d (j / 3) i;obtain⟨n,p,q⟩:=h (j / 3) i;have c:(⟨b,o,none⟩:Addr).add j=⟨b,o+j,none⟩:=by unfold Addr.add;split<;>simp_all
 rw[c];have f:j % 3=0\/j % 3=1\/j % 3=2:=by omega
 rcases f with f|f|f
 ·have e:j=j / 3*3:=by omega
  rw[e]at a;rw[k]at a;rw[show o+j=o+j / 3*3 by omega,n];exact a
 ·have e:j=j / 3*3+1:=by omega
  rw[e]at a;rw[l]at a;rw[show o+j=o+j / 3*3+1 by omega,p];exact a
 ·have e:j=j / 3*3+2:=by omega
  rw[e]at a;rw[m]at a;rw[show o+j=o+j / 3*3+2 by omega,q];exact a
def vZ (v:Int):Nat->Int
 |0=>v
 |k+1=>vZ v k / 256
def bV (v:Int):Nat->List Int
 |0=>[]
 |n+1=>vZ v n % 256::bV v n
def fA (n:Nat) (v:Int):ByteArray:=strOfNums (bV v n)
theorem cW (v:Int):∀n,(bV v n).length=n
 |0=>rfl
 |n+1=>by simp[bV,cW v n]
theorem iA (n:Nat) (v:Int):(fA n v).size=n:=by
 rw[fA,strOfNums_size,cW]
theorem IQ:∃i,prog.info? 5=some i/\i.zero=some (.int .u8 0)/\i.size=1/\i.bytes=1:=by
 have h:(prog.info? 5).map (fun i=>(i.zero,i.size,i.bytes))=some (some (.int .u8 0),1,1):=by kernel_rfl
 obtain⟨i,b,a⟩:=Ub.1 h;simp only[Hc]at a;exact⟨i,b,a.1,a.2.1,a.2.2⟩
theorem AN {w:World} {B:Nat} {d:Option Addr} {f:Nat} {ys:List Int} (h:w.ownsRow B 5 1 (.slice d ys.length f) ys.length (ys.map (Value.int .u8))):
 (convert 22 9 (.slice d ys.length f)).run prog w=.ok (.string (strOfNums ys)) w:=by
 rcases h.2 with⟨b,q⟩|⟨g,k,a,b,_,m,o,_,p,c⟩
 ·simp only[Value.slice.injEq]at b;obtain⟨rfl,l,rfl⟩:=b;have e:ys=[]:=Qb.1 l;subst e;exact run_convert_bytes_nil w 22 5 underlying22 underlying5 _ _ 9 underlying9
 ·simp only[Value.slice.injEq]at b;obtain⟨rfl,_,rfl⟩:=b;refine run_convert_bytes_arg w 22 5 underlying22 underlying5 g 0 _ _ ys rfl (fun i n=>?_) 9 underlying9;rw[Wa,cell_of_row w g i a _ _ m];have j:(a.toList.take (ys.length*1))[i]?=(ys.map (Value.int .u8))[i]?:=by rw[c]
  rw[Mb (by omega)]at j;rw[<-Zd,j];simp[List.getD,Va n]
theorem aC (n:Nat) (v:Int) (w:World) (hn:n<=8) (G : -9223372036854775808<=v) (H:v<=9223372036854775807):
 Calls prog 26 #[.int .i64 n,.int .i64 v] w fun e T=>e=.returned (.string (fA n v))/\Below w.heap.size w T:=by
 obtain⟨L,p,B,C,D⟩:=IQ;have M:Hid (prog.info? 5=some L):=p;clear p;have V:Hid (-9223372036854775808<=v/\v<=9223372036854775807):=⟨G,H⟩
 clear G H;go_enter func26,ntmps26;go_wp2;go_loopw [5,6,7,8] (fun E i _ _ wr=>∃(m:Nat) (a:List Int) (s:Option Addr) (t:Nat),a.length+m=n/\Hid (a++bV v m=bV v n)/\i=.int .i64 ((m:Int)-1)/\E=.slice s a.length t/\Hid (wr.ownsRow w.heap.size 5 1 (.slice s a.length t) a.length (a.map (Value.int .u8)))/\Below w.heap.size w wr) (fun _ i _ _ _=>((intOf i)+1).toNat)
 case atStart=>
  exact⟨n,[],_,_,by simp,by show _=_;simp,by simp,rfl,World.ownsRow_made w #[] 0 (Ka _) (by simp[maxLen]) (by simp),cA _ _⟩
 case round=>
  obtain⟨m,a,s,t,Z,h,rfl,rfl,d,b⟩:=hrel;by_cases hp:0<m
  ·obtain⟨r,rfl⟩:∃r,m=r+1:=⟨m-1,by omega⟩
   have F:((r+1:Nat):Int)-1=(r:Int):=by omega
   rw[F];clear F;go_wp2;go_loop [7,8] (fun x k=>∃(j:Nat) (X:Int),j<=r/\k=.int .i64 j/\x=.int .i64 X/\Hid (X=vZ v j)) (fun _ k=>r-(intOf k).toNat)
   case atStart=>exact⟨0,v,La _,rfl,rfl,rfl⟩
   case round=>
    obtain⟨j,X,Y,rfl,rfl,I⟩:=hrel;by_cases R:j<r
    ·go_wp2;exact⟨⟨j+1,X / 256,by omega,by go_num,rfl,by show _=_;rw[vZ,I.out]⟩,by simp[intOf];omega⟩
    ·have e:j=r:=by omega
     subst e;have S:=b.size;go_wp2_with(at_builtin;refine wpList_append_lies _ rfl _ _ _ rfl w.heap.size 5 L _ 1 1 underlying22 M.out B C D rfl (by omega) (.slice s a.length t) a.length (a.map (Value.int .u8)) rfl (by exact vA d.out (cA _ _)) ⟨wr.heap.size,0,none⟩ 1 1 [.int .u8 (X % 256)] rfl rfl (by exact World.news_of_block (heap_alloc_new _ _)) (by simp[Value.oneCell']) (by omega) (by simp[maxLen];omega) (by omega) (by simp;omega) (wr.heap.size+1) (by simp) ?_;intro P o U c f J K);have y:Below w.heap.size w U:=(nA b (cA _ _)).grown f (by simp;omega) (fun q u=>by
      rcases d.out.2 with⟨z,_⟩|⟨g,N,O,z,W,_⟩
      ·rw[z]at u;simp[Value.ownBlock]at u
      ·rw[z]at u;simp[Value.ownBlock]at u;omega)
     have A:a.map (Value.int .u8)++[Value.int .u8 (X % 256)]=(a++[X % 256]).map (Value.int .u8):=by simp
     have l:(a++[X % 256]).length=a.length+1:=by simp
     rw[A,<-l]at c;refine⟨⟨j,a++[X % 256],some ⟨P,0,none⟩,o,by rw[l];omega,?_,rfl,by rw[l],c,y⟩,by simp[intOf]⟩;show _=_;rw[<-h.out,bV,I.out];simp
  ·have e:m=0:=by omega
   subst e;have Q:=AN d.out;go_wp2;go_ret;refine⟨Fd (fun x=>Ending.returned (.string x)) ?_,b⟩;rw[fA,<-h.out,bV,Id]
def xA (x b a:Int):Bool:=decide (b<=x) &&decide (x<=a)
theorem hC (x b a:Int) (w:World):Calls prog 25 #[.int .i64 x,.int .i64 b,.int .i64 a] w fun e f=>e=.returned (.bool (xA x b a))/\f=w:=by
 by_cases c:b<=x
 ·by_cases d:x<=a
  ·have e:xA x b a=true:=by simp[xA,c,d]
   rw[e];go_enter func25,ntmps25;go_wp2;go_ret;exact⟨rfl,rfl⟩
  ·have e:xA x b a=false:=by simp[xA,d]
   rw[e];go_enter func25,ntmps25;go_wp2;go_ret;exact⟨rfl,rfl⟩
 ·have e:xA x b a=false:=by simp[xA,c]
  rw[e];go_enter func25,ntmps25;go_wp2;go_ret;exact⟨rfl,rfl⟩
theorem lP (s:ByteArray) (k:Nat) (h:k<s.size):s.data.toList.take (k+1)=s.data.toList.take k++[s[k]]:=by
 rw[Ma (by simpa using h)];rfl
theorem nC {x c a:Int} {b:Bool} (h:xA x c a=b) (w:World):Calls prog 25 #[.int .i64 x,.int .i64 c,.int .i64 a] w fun e d=>e=.returned (.bool b)/\d=w:=h ▸ hC x c a w
def cL (a x:Nat):Nat:=if (a+x) % 2=1 then(a / 2) ^^^ 2197175160 else a / 2
def xF (a b:Nat):Nat->Nat
 |0=>a
 |k+1=>cL (xF a b k) (b / 2 ^ k)
def yI (a:Nat) (c:UInt8):Nat:=xF a c.toNat 8
def JV (l:List UInt8):Nat:=l.foldl yI 4294967295
def bG (s:ByteArray):Nat:=4294967295-JV s.data.toList
theorem mc {a x:Nat} (h:a<4294967296):cL a x<4294967296:=by
 unfold cL;split
 ·exact Gd (n:=32) (by omega) (by omega)
 ·omega
theorem sF {a b:Nat} (h:a<4294967296):∀k,xF a b k<4294967296
 |0=>h
 |k+1=>mc (sF h k)
theorem vW (l:List UInt8):JV l<4294967296:=by
 have a:∀(l:List UInt8) (r:Nat),r<4294967296->l.foldl yI r<4294967296:=fun l=>by
  induction l with
  |nil=>exact fun r h=>h
  |cons c l b=>exact fun r h=>b _ (sF h 8)
 exact a l _ (by omega)
theorem OQ (l:List UInt8) (c:UInt8):JV (l++[c])=yI (JV l) c:=by simp[JV]
theorem IL (s:ByteArray):bG s<4294967296:=by unfold bG;omega
theorem aCm (a b:Nat) (c:a<4611686018427387904) (d:b<4611686018427387904):bits .xor .i64 (a:Int) (b:Int)=((a ^^^ b:Nat):Int):=by
 have e:a ^^^ b<2 ^ 62:=Gd (by omega) (by omega);show IntKind.i64.wrap ((BitVec.ofInt 64 (a:Int) ^^^ BitVec.ofInt 64 (b:Int)).toNat:Int)=_;rw[Vf,Jc,Jc,Ec,Ec,Kc (by omega),Kc (by omega)];simp only[IntKind.wrap,IntKind.bits,IntKind.signed];simp;omega
