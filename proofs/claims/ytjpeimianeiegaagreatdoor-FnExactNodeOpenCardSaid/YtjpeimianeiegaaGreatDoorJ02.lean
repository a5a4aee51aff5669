import Derived.BigQuiet
import Derived.WalkLawsBesides
import Derived.WalkSpells
import Derived.Test.YtjpeimianeiegaaGreatDoorJ01
import Derived.Test.YtjpeimianeiegaaGreatDoorProg
import Derived.Deep.AppendLies
import Derived.Lib.LazyBuf
set_option maxRecDepth 100000
set_option maxHeartbeats 1000000
namespace Go.Proofs.YtjpeimianeiegaaGreatDoor
open Go.RowKit Tryz
theorem bA {p:Prop} (h:p):Hid p:=h
structure dA where
 name:ByteArray
 data:ByteArray
 y9:Int
def xR (w:World) (b o:Nat) (a:List dA):Prop:=
 ∀i (h:i<a.length),w.cell? ⟨b,o+i*3,none⟩=some (.string a[i].name)/\
  w.cell? ⟨b,o+i*3+1,none⟩=some (.string a[i].data)/\w.cell? ⟨b,o+i*3+2,none⟩=some (.int .i64 a[i].y9)
theorem aNc {B:Nat} {W a:World} (c:Below B W a):(∀b o,b<B->a.cell? ⟨b,o,none⟩=W.cell? ⟨b,o,none⟩)/\(∀b o,b<B->a.frozen? ⟨b,o,none⟩=W.frozen? ⟨b,o,none⟩):=
 ⟨fun b o h=>c.cell (p:=⟨b,o,none⟩) h,fun b o h=>c.frozen (p:=⟨b,o,none⟩) h⟩
theorem iC {k:IntKind} {a b:Int} (h:a=b):Ending.returned (.int k a)=.returned (.int k b):=by rw[h]
theorem kA {a b:Bool} (h:a=b):Ending.returned (.bool a)=.returned (.bool b):=by rw[h]
structure oA (w:World) where
 w':World
 h:Below w.heap.size w w'
theorem oA.there (w:World):Nonempty (oA w):=⟨⟨w,Below.refl _ _⟩⟩
theorem oA.cell {w:World} (x:oA w) {b o:Nat} {v:Value} (h:w.cell? ⟨b,o,none⟩=some v):x.w'.cell? ⟨b,o,none⟩=some v:=by
 have d:b<w.heap.size:=by
  rcases Ac b w.heap.size with c|a
  ·exact c
  ·simp[World.cell?,Tc a]at h
 rw[<-h];exact x.h.cell d
theorem oA.cells {w:World} {b o:Nat} {v:Value} (h:w.cell? ⟨b,o,none⟩=some v):∀x:oA w,x.w'.cell? ⟨b,o,none⟩=some v:=fun x=>x.cell h
theorem jA {P:Program} {id:Nat} {Q:Exit->Act->World->Prop} {a:Act} {w:World} {l:List Oper} (e:P.follows .mixedOrders=true) (d:Region.lexB .any l.toArray=true)
 (h:wpQuiet P l.toArray (fun b=>∃x:oA w,b=x.w') (fun c=>∀b,(∃x:oA w,b=x.w')->Q .normal c b) l a):(Code.region id l.toArray true).wp P Q a w:=
 wp_region_quiet (C:=fun b=>∃x:oA w,b=x.w') e d ⟨⟨w.drew,(Below.refl _ _).drew⟩,rfl⟩ (by simpa using h)
theorem tA {P:Program} {f:FuncId} {args:Array Value} {w:World} {x:oA w} {v:Value}
 (h:Calls P f args x.w' fun e a=>e=.returned v/\Below x.w'.heap.size x.w' a):Calls P f args x.w' fun e a=>e=.returned v/\∃y:oA w,a=y.w':=
 h.mono fun _ a ⟨c,b⟩=>⟨c,⟨a,x.h.trans (b.mono x.h.size)⟩,rfl⟩
theorem jB {P:Program} {f:FuncId} {args:Array Value} {w:World} {x:oA w} {v:Value}
 (h:Calls P f args x.w' fun e a=>e=.returned v/\a=x.w'):Calls P f args x.w' fun e a=>e=.returned v/\∃y:oA w,a=y.w':=
 h.mono fun _ _ ⟨c,b⟩=>⟨c,x,b⟩
def szF (left:Int) (f:dA):Int:=if (f.name.size+f.data.size:Int)<=left then left-f.name.size-f.data.size else -1
def iA (w:World) (a:Option Addr) (c:List dA):Prop:=c=[]\/∃b o,a=some ⟨b,o,none⟩/\b<w.heap.size/\xR w b o c
theorem iA.later {w f:World} {a:Option Addr} {e:List dA} (h:iA w a e) (d:Below w.heap.size w f):iA f a e:=by
 rcases h with h|⟨b,o,rfl,c,h⟩
 ·exact Ba h
 ·refine Ea ⟨b,o,rfl,Ab c d.size,fun i l=>?_⟩;obtain⟨g,j,k⟩:=h i l;exact⟨by rw[<-g];exact d.cell c,by rw[<-j];exact d.cell c,by rw[<-k];exact d.cell c⟩
theorem iA.at {w:World} {a:Option Addr} {c:List dA} (h:iA w a c) {i:Nat} (e:i<c.length):
 ∃b o,a=some ⟨b,o,none⟩/\b<w.heap.size/\w.cell? ⟨b,o+i*3,none⟩=some (.string c[i].name)/\
  w.cell? ⟨b,o+i*3+1,none⟩=some (.string c[i].data)/\w.cell? ⟨b,o+i*3+2,none⟩=some (.int .i64 c[i].y9):=by
 rcases h with rfl|⟨b,o,rfl,d,h⟩
 ·exact absurd e (by simp)
 ·exact⟨b,o,rfl,d,h i e⟩
theorem iA.setCell {w:World} {g o:Nat} {c:List dA} (h:iA w (some ⟨g,o,none⟩) c) {p:Addr} (k:p.block≠g) (v:Value):iA (w.setCell p v) (some ⟨g,o,none⟩) c:=by
 rcases h with h|⟨b,l,e,a,h⟩
 ·exact Ba h
 ·simp only[Ja,Addr.mk.injEq,Ub]at e;obtain⟨rfl,rfl⟩:=e;have f:∀j,(w.setCell p v).cell? ⟨g,j,none⟩=w.cell? ⟨g,j,none⟩:=fun j=>World.cell?_of_block (Below.heap_setCell w p v g (Ne.symm k));refine Ea ⟨g,o,rfl,by simpa[World.setCell]using a,fun i d=>?_⟩;simp only[f];exact h i d
def bulk:List dA->Nat
 |[]=>0
 |f::r=>f.name.size+f.data.size+bulk r
theorem JL (a b:List dA):bulk (a++b)=bulk a+bulk b:=by
 induction a with
 |nil=>simp[bulk]
 |cons f r c=>simp[bulk,c];omega
theorem NJ (a:List dA) (k:Nat) (h:k<a.length):bulk (a.take (k+1))=bulk (a.take k)+(a[k].name.size+a[k].data.size):=by
 rw[La h,JL];simp[bulk]
theorem YH (a:List dA) (k:Nat):bulk (a.take k)<=bulk a:=by
 have:=JL (a.take k) (a.drop k);rw[Xa]at this;omega
def xA:List dA->Nat
 |[]=>0
 |f::r=>f.data.size+xA r
theorem lO (a b:List dA):xA (a++b)=xA a+xA b:=by
 induction a with
 |nil=>simp[xA]
 |cons f r c=>simp[xA,c];omega
theorem eG (a:List dA) (k:Nat) (h:k<a.length):xA (a.take (k+1))=xA (a.take k)+a[k].data.size:=by
 rw[La h,lO];simp[xA]
theorem oF (a:List dA) (k:Nat):xA (a.take k)<=xA a:=by
 have:=lO (a.take k) (a.drop k);rw[Xa]at this;omega
theorem RK (a:List dA):xA a<=bulk a:=by
 induction a with
 |nil=>exact Da _
 |cons f r b=>simp[xA,bulk];omega
def FP (left:Int) (a:List dA):Int:=if (a.length+bulk a:Int)<=left then left-a.length-bulk a else -1
def mK (a:List dA):Prop:=∀i (h:i<a.length),a[i].name.size<=maxLen/\a[i].data.size<=maxLen
def bN (w:World) (b:Nat) (a c d e f g:Value):Prop:=
 w.cell? ⟨b,0,none⟩=some a/\w.cell? ⟨b,1,none⟩=some c/\w.cell? ⟨b,2,none⟩=some d/\w.cell? ⟨b,3,none⟩=some e/\w.cell? ⟨b,4,none⟩=some f/\w.cell? ⟨b,5,none⟩=some g
theorem bN.new (w:World) (a b c d e f:Value) (t:TypeId):bN (w.alloc (.cells #[a,b,c,d,e,f] t)) w.heap.size a b c d e f:=by
 simp[bN,go_sem]
theorem bN.lt {w:World} {b:Nat} {d e f g i j:Value} (h:bN w b d e f g i j):b<w.heap.size:=by
 rcases Ac b w.heap.size with c|a
 ·exact c
 ·have:=h.1;simp[World.cell?,Tc a]at this
theorem bN.later {w k:World} {b:Nat} {d e f g i j:Value} (h:bN w b d e f g i j) (a:Below w.heap.size w k):bN k b d e f g i j:=by
 have c:=h.lt;obtain⟨l,m,n,o,p,q⟩:=h;exact⟨(a.cell c).trans l,(a.cell c).trans m,(a.cell c).trans n,(a.cell c).trans o,(a.cell c).trans p,(a.cell c).trans q⟩
theorem pA {a b c:World} (h:Below a.heap.size a b) (k:Below b.heap.size b c):Below a.heap.size a c:=h.trans (k.mono h.size)
theorem cA (w:World) (o:Obj):Below w.heap.size w (w.alloc o):=(Below.refl _ _).alloc (Da _) _
structure eD (g:Nat) (w w':World):Prop where
 os:w'.os=w.os
 tape:w'.tape=w.tape
 output:w'.output=w.output
 size:w.heap.size≤w'.heap.size
 block:∀k,k<w.heap.size→k≠g→w'.heap[k]?=w.heap[k]?
theorem eD.refl (g:Nat) (w:World):eD g w w:=⟨rfl,rfl,rfl,Da _,fun _ _ _=>rfl⟩
theorem eD.trans {g:Nat} {a b c:World} (h:eD g a b) (k:eD g b c):eD g a c:=
 ⟨k.os.trans h.os,k.tape.trans h.tape,k.output.trans h.output,Ma h.size k.size,fun i e d=>(k.block i (Ab e h.size) d).trans (h.block i e d)⟩
theorem eD.of {g:Nat} {w a:World} (h:Below w.heap.size w a):eD g w a:=⟨h.os,h.tape,h.output,h.size,fun k b _=>h.block k b⟩
theorem eD.setCell {g:Nat} {a w:World} (h:eD g a w) (o:Nat) (v:Value):eD g a (w.setCell ⟨g,o,none⟩ v):=
 h.trans ⟨rfl,rfl,rfl,by simp[World.setCell],fun k _ b=>Below.heap_setCell _ _ _ _ b⟩
theorem eD.below {g B:Nat} {w a:World} (h:eD g w a) (b:B<=g) (d:B<=w.heap.size):Below B w a:=
 ⟨h.os,h.tape,h.output,h.size,fun k c=>h.block k (by omega) (by omega)⟩
theorem iA.but {g b o:Nat} {w c:World} {d:List dA} (h:iA w (some ⟨b,o,none⟩) d) (f:eD g w c) (k:b≠g):iA c (some ⟨b,o,none⟩) d:=by
 rcases h with h|⟨n,p,e,a,h⟩
 ·exact Ba h
 ·simp only[Ja,Addr.mk.injEq,Ub]at e;obtain⟨rfl,rfl⟩:=e;have m:∀j,c.cell? ⟨b,j,none⟩=w.cell? ⟨b,j,none⟩:=fun j=>World.cell?_of_block (f.block b a k);exact Ea ⟨b,o,rfl,Ab a f.size,fun i l=>by simp only[m];exact h i l⟩
def nO (w:World) (B:Nat) (a:Option Addr) (c:List dA):Prop:=
 c=[]\/∃g o b t,a=some ⟨g,o,none⟩/\B<=g/\w.heap[g]?=some (.cells b t (0,0))/\xR w g o c
theorem aA {w:World} {g:Nat} {x:Obj} (h:w.heap[g]?=some x):g<w.heap.size:=by
 rcases Ac g w.heap.size with b|a
 ·exact b
 ·rw[Tc a]at h;exact absurd h (by simp)
theorem nO.files {w:World} {B:Nat} {a:Option Addr} {b:List dA} (h:nO w B a b):iA w a b:=by
 rcases h with h|⟨g,o,c,t,rfl,_,d,h⟩
 ·exact Ba h
 ·exact Ea ⟨g,o,rfl,aA d,h⟩
theorem nO.later {w d:World} {B:Nat} {a:Option Addr} {e:List dA} (h:nO w B a e) (f:Below w.heap.size w d):nO d B a e:=by
 rcases h with h|⟨g,o,c,t,rfl,l,k,h⟩
 ·exact Ba h
 ·have b:=aA k;have n:∀j,d.cell? ⟨g,j,none⟩=w.cell? ⟨g,j,none⟩:=fun j=>World.cell?_of_block (f.block g b);exact Ea ⟨g,o,c,t,rfl,l,(f.block g b).trans k,fun i m=>by simp only[n];exact h i m⟩
def rK:Nat->Nat->List UInt8->List UInt8
 |0,_,a=>a
 |b+1,k,a=>if k=0 then a else rK b (k / 10) ((48+UInt8.ofNat (k % 10)):: a)
def mt (k:Nat):ByteArray:=⟨(109::rK k k []).toArray⟩
theorem JS:∀(f b k:Nat) (a:List UInt8),k<=f->k<=b->rK f k a=rK b k a
 |0,0,_,_,_,_=>rfl
 |0,b+1,k,a,h,_=>by have:k=0:=by omega
                    subst this;simp[rK]
 |f+1,0,k,a,_,h=>by have:k=0:=by omega
                    subst this;simp[rK]
 |f+1,b+1,k,a,h,c=>by
  rw[rK,rK];split
  ·rfl
  ·exact JS f b (k / 10) _ (by omega) (by omega)
def ku (k:Nat) (i:Nat):dA:=⟨mt (k+3*i),mt (k+3*i+1),((k+3*i+2:Nat):Int)⟩
def nP (k n:Nat):List dA:=(List.range n).map (ku k)
theorem DO (k n:Nat):(nP k n).length=n:=by simp[nP]
theorem VX (k n i:Nat) (h:i<(nP k n).length):(nP k n)[i]=ku k i:=by simp[nP]
def GG (w b:World) (B:Nat) (a:Option Addr) (n:Nat):Prop:=
 (n=0/\Below w.heap.size w b)\/0<n/\∃g o,a=some ⟨g,o,none⟩/\B<=g/\eD g w b
def lA (w:World) (g:Nat) (a:Array Value) (t:TypeId):Prop:=w.heap[g]?=some (.cells a t (0,0))
theorem lA.set {w:World} {g:Nat} {a:Array Value} {t:TypeId} (h:lA w g a t) (j:Nat) (v:Value):lA (w.setCell ⟨g,j,none⟩ v) g (a.setIfInBounds j v) t:=heap_setCell_same w g j a t v h
theorem lA.later {w b:World} {g:Nat} {a:Array Value} {t:TypeId} (h:lA w g a t) (c:Below w.heap.size w b):lA b g a t:=(c.block g (aA h)).trans h
theorem lA.cell {w:World} {g:Nat} {a:Array Value} {t:TypeId} (h:lA w g a t) (j:Nat):w.cell? ⟨g,j,none⟩=a[j]?:=cell_of_row w g j a t _ h
theorem lA.free {w:World} {g:Nat} {a:Array Value} {t:TypeId} (h:lA w g a t) (j:Nat):w.frozen? ⟨g,j,none⟩=false:=frozen_of_row w g j a t h
theorem lA.c2 {w:World} {g:Nat} {a b:Value} {t:TypeId} (h:lA w g #[a,b] t):w.cell? ⟨g,0,none⟩=some a/\w.cell? ⟨g,1,none⟩=some b:=⟨h.cell 0,h.cell 1⟩
theorem lA.c3 {w:World} {g:Nat} {a b c:Value} {t:TypeId} (h:lA w g #[a,b,c] t):w.cell? ⟨g,0,none⟩=some a/\w.cell? ⟨g,1,none⟩=some b/\w.cell? ⟨g,2,none⟩=some c:=⟨h.cell 0,h.cell 1,h.cell 2⟩
theorem lA.c4 {w:World} {g:Nat} {a b c d:Value} {t:TypeId} (h:lA w g #[a,b,c,d] t):w.cell? ⟨g,0,none⟩=some a/\w.cell? ⟨g,1,none⟩=some b/\w.cell? ⟨g,2,none⟩=some c/\w.cell? ⟨g,3,none⟩=some d:=⟨h.cell 0,h.cell 1,h.cell 2,h.cell 3⟩
theorem lA.c5 {w:World} {g:Nat} {a b c d e:Value} {t:TypeId} (h:lA w g #[a,b,c,d,e] t):w.cell? ⟨g,0,none⟩=some a/\w.cell? ⟨g,1,none⟩=some b/\w.cell? ⟨g,2,none⟩=some c/\w.cell? ⟨g,3,none⟩=some d/\w.cell? ⟨g,4,none⟩=some e:=⟨h.cell 0,h.cell 1,h.cell 2,h.cell 3,h.cell 4⟩
theorem lA.c6 {w:World} {g:Nat} {a b c d e f:Value} {t:TypeId} (h:lA w g #[a,b,c,d,e,f] t):w.cell? ⟨g,0,none⟩=some a/\w.cell? ⟨g,1,none⟩=some b/\w.cell? ⟨g,2,none⟩=some c/\w.cell? ⟨g,3,none⟩=some d/\w.cell? ⟨g,4,none⟩=some e/\w.cell? ⟨g,5,none⟩=some f:=⟨h.cell 0,h.cell 1,h.cell 2,h.cell 3,h.cell 4,h.cell 5⟩
theorem lA.there {w:World} {g:Nat} {a:Array Value} {t:TypeId} (h:lA w g a t) {j:Nat} (b:j<a.size):∃v,w.cell? ⟨g,j,none⟩=some v:=⟨a[j],by rw[h.cell];exact Fc b⟩
def bF (a:Array Value) (o j:Nat) (f:dA):Prop:=a[o+j*3]?=some (.string f.name)/\a[o+j*3+1]?=some (.string f.data)/\a[o+j*3+2]?=some (.int .i64 f.y9)
theorem bF.set {a:Array Value} {o j:Nat} {f:dA} (h:bF a o j f) {p:Nat} (e:p<o+j*3\/o+j*3+2<p) (v:Value):bF (a.setIfInBounds p v) o j f:=by
 obtain⟨b,c,d⟩:=h;refine⟨?_,?_,?_⟩
 ·rw[Aa (by omega)];exact b
 ·rw[Aa (by omega)];exact c
 ·rw[Aa (by omega)];exact d
theorem bF.made (a:Array Value) (o j:Nat) (f:dA) (h:o+j*3+2<a.size):
 bF (((a.setIfInBounds (o+j*3) (.string f.name)).setIfInBounds (o+j*3+1) (.string f.data)).setIfInBounds (o+j*3+2) (.int .i64 f.y9)) o j f:=by
 refine⟨?_,?_,?_⟩<;>simp[Wa]<;>omega
theorem fP {w:World} {g o:Nat} {a:Array Value} {t:TypeId} {b:List dA} (h:lA w g a t) (d:∀j (c:j<b.length),bF a o j b[j]):xR w g o b:=by
 intro j c;simp only[h.cell];exact d j c
theorem MA {w:World} {g o:Nat} {a:Array Value} {t:TypeId} {b:List dA} (h:lA w g a t) (d:xR w g o b):∀j (c:j<b.length),bF a o j b[j]:=by
 intro j c;have:=d j c;simp only[h.cell]at this;exact this
theorem aDi {b:Array Value} {o:Nat} {a:List dA} (c:∀j (d:j<a.length),bF b o j a[j]):a=[]\/o+a.length*3<=b.size:=by
 by_cases h:a.length=0
 ·exact Ba (Fb.1 h)
 ·right;have:=(c (a.length-1) (by omega)).2.2;have:=(Bb.1 this).1;omega
def flat (a:List dA):List Value:=a.flatMap fun f=>[.string f.name,.string f.data,.int .i64 f.y9]
theorem uG (a b:List dA):flat (a++b)=flat a++flat b:=by simp[flat]
theorem eX (f:dA):flat [f]=[.string f.name,.string f.data,.int .i64 f.y9]:=rfl
theorem pD (a:List dA):(flat a).length=a.length*3:=by
 induction a with
 |nil=>rfl
 |cons f r b=>simp[flat]at *;omega
theorem CX:∀(a:List dA) (j:Nat) (h:j<a.length),(flat a)[j*3]?=some (.string a[j].name)/\(flat a)[j*3+1]?=some (.string a[j].data)/\(flat a)[j*3+2]?=some (.int .i64 a[j].y9)
 |[],_,h=>absurd h (by simp)
 |f::r,0,_=>by simp[flat]
 |f::r,j+1,h=>by
  have i:=CX r j (by simpa using h);have e:flat (f::r)=[.string f.name,.string f.data,.int .i64 f.y9]++flat r:=rfl;rw[e];have c:(j+1)*3=3+j*3:=by omega
  have d:(j+1)*3+1=3+(j*3+1):=by omega
  have g:(j+1)*3+2=3+(j*3+2):=by omega
  have b:∀p,([.string f.name,.string f.data,.int .i64 f.y9]++flat r)[3+p]?=(flat r)[p]?:=fun p=>by
   rw[Rc (by simp)];simp
  rw[g,d,c,b,b,b];exact i
theorem vE (b:List dA):∀u∈flat b,u.oneCell'=true:=by
 intro u a;simp only[flat,Eg,Cb,List.not_mem_nil,or_false]at a;obtain⟨f,_,rfl|rfl|rfl⟩:=a<;>rfl
theorem fK {w:World} {B:Nat} {e:TypeId} {v:Value} {c:List dA} (h:w.ownsRow B e 3 v c.length (flat c)):∃a b,v=.slice a c.length b/\nO w B a c:=by
 rcases h.2 with⟨rfl,o⟩|⟨g,b,d,rfl,q,k,_,_,_,s⟩
 ·have:c=[]:=Fb.1 o;subst this;exact⟨none,0,rfl,Ba rfl⟩
 ·refine⟨_,b,rfl,Ea ⟨g,0,d,e,rfl,q,k,fP k fun j r=>?_⟩⟩;have key:∀p v,(flat c)[p]?=some v->d[p]?=some v:=fun p v f=>by
   rw[<-s]at f;have i:=(Va.1 f).1;rw[Ta]at i;rw[Eb (by omega)]at f;simpa using f
  obtain⟨l,m,n⟩:=CX c j r;refine⟨?_,?_,?_⟩
  ·rw[Oa];exact key _ _ l
  ·rw[Oa];exact key _ _ m
  ·rw[Oa];exact key _ _ n
theorem cB {w i:World} {B:Nat} {e:TypeId} {a:Nat} {v:Value} {n:Nat} {j:List Value} (h:w.ownsRow B e a v n j) (m:Below w.heap.size w i):i.ownsRow B e a v n j:=by
 obtain⟨k,d⟩:=h;refine⟨k,?_⟩;rcases d with d|⟨g,b,c,o,l,f,r⟩
 ·exact Ba d
 ·exact Ea ⟨g,b,c,o,l,(m.block g (aA f)).trans f,r⟩
theorem gO {w:World} {B:Nat} {e:TypeId} {a:Nat} {v:Value} {n:Nat} {f:List Value} (h:w.ownsRow B e a v n f) {p:Addr} (m:p.block<B) (u:Value):(w.setCell p u).ownsRow B e a v n f:=by
 obtain⟨i,d⟩:=h;refine⟨i,?_⟩;rcases d with d|⟨g,b,c,l,j,k,r⟩
 ·exact Ba d
 ·exact Ea ⟨g,b,c,l,j,(Below.heap_setCell w p u g (by omega)).trans k,r⟩
theorem jM {w:World} {b o:Nat} {d:List dA} (h:xR w b o d):∀j u,(flat d)[j]?=some u->w.cell? ((⟨b,o,none⟩:Addr).add j)=some u:=by
 intro j u a;have g:=(Va.1 a).1;rw[pD]at g;have i:j / 3<d.length:=by omega
 obtain⟨k,l,m⟩:=CX d (j / 3) i;obtain⟨n,p,q⟩:=h (j / 3) i;have c:(⟨b,o,none⟩:Addr).add j=⟨b,o+j,none⟩:=by unfold Addr.add;split<;>simp_all
 rw[c];have f:j % 3=0\/j % 3=1\/j % 3=2:=by omega
 rcases f with f|f|f
 ·have e:j=j / 3*3:=by omega
  rw[e]at a;rw[k]at a;rw[show o+j=o+j / 3*3 by omega,n];exact a
 ·have e:j=j / 3*3+1:=by omega
  rw[e]at a;rw[l]at a;rw[show o+j=o+j / 3*3+1 by omega,p];exact a
 ·have e:j=j / 3*3+2:=by omega
  rw[e]at a;rw[m]at a;rw[show o+j=o+j / 3*3+2 by omega,q];exact a
theorem tJ:∃i,prog.info? 98=some i/\i.zero=some (.agg #[.string ByteArray.empty,.string ByteArray.empty,.int .i64 0])/\i.size=3/\i.bytes=40:=by
 have h:(prog.info? 98).map (fun i=>(i.zero,i.size,i.bytes))=some (some (.agg #[.string ByteArray.empty,.string ByteArray.empty,.int .i64 0]),3,40):=by kernel_rfl
 obtain⟨i,b,a⟩:=Ib.1 h;simp only[Hb]at a;exact⟨i,b,a⟩
theorem zk (a:Option Addr) (g:Nat) (c:List dA) (w:World) (q:iA w a c) (A:c.length<=1048576):
 Calls prog 62 #[.slice a c.length g] w fun e n=>∃v,e=.returned v/\n.ownsRow w.heap.size 98 3 v c.length (flat c)/\Below w.heap.size w n:=by
 have p:=fun n=>Lib.run_eql_slice_nil (P:=prog) n 28 98 a c.length g 0 0 underlying28;cases a with
 |none=>
  have D:c=[]:=by
   rcases q with h|⟨b,o,e,_⟩
   ·exact h
   ·exact absurd e (by simp)
  subst D;have y:=fun n=>Lib.run_eql_slice_nil (P:=prog) n 28 98 none 0 g 0 0 underlying28;clear p;go_enter func62,ntmps62;go_wp2;go_ret;exact⟨_,rfl,⟨rfl,Ba ⟨rfl,rfl⟩⟩,Below.refl _ _⟩
 |some x=>
  obtain⟨i,z,r,s,t⟩:=tJ;have l:(w.alloc (.cells #[] 98)).ownsRow w.heap.size 98 3 (.slice (some ⟨w.heap.size,0,none⟩) 0 0) 0 []:=
   ⟨rfl,Ea ⟨w.heap.size,0,#[],rfl,Da _,heap_alloc_new _ _,Da _,Ha _,rfl,rfl⟩⟩
  have C:Hid ((w.alloc (.cells #[] 98)).ownsRow w.heap.size 98 3 (.slice (some ⟨w.heap.size,0,none⟩) 0 0) 0 []):=l;have d:∀j u,(flat c)[j]?=some u->(w.alloc (.cells #[] 98)).cell? (x.add j)=some u:=by
   rcases q.later (cA w (.cells #[] 98)) with rfl|⟨b,o,e,_,h⟩
   ·intro j u h;simp[flat]at h
   ·simp only[Ja]at e;subst e;exact jM h
  have HN:Hid _:=d;have B:Hid _:=z;clear q l d z;go_enter func62,ntmps62;go_wp2_with(at_builtin;refine wpList_append_own_at _ rfl _ _ _ rfl w.heap.size 98 i _ 3 40 underlying28 B.out r s t rfl (by omega) (.slice (some ⟨w.heap.size,0,none⟩) 0 0) 0 [] rfl C.out x c.length g (flat c) rfl (pD c) HN.out (vE c) (by simp[maxLen];omega) (by omega) (by simp) ?_;intro F G f m _ _);go_ret;simp only[Oa,Jb]at f;refine⟨F,rfl,f,(cA _ _).grown m (by simp) (fun k E=>?_)⟩;simp[Value.ownBlock]at E;omega
