import Derived.WalkLawsBesides
import Derived.WalkSpells
import Derived.Test.YtflbidbilgndeaaGreatDoorJ01
import Derived.Deep.AppendLies
import Derived.Lib.RuneCountTail
import Derived.Test.YtflbidbilgndeaaGreatDoorJ02
import Derived.Lib.LazyBuf
import Derived.ProofKit
import Derived.OpenShut
import Derived.Deep.Strs
set_option maxRecDepth 100000
set_option maxHeartbeats 2000000
set_option linter.defProp false
namespace Go.Proofs.YtflbidbilgndeaaGreatDoor
open Go.RowKit Tryz
def bB{p:Prop}(h:p):cB p:=h
structure iB where
 N:jB
 data:jB
 Y:Int
def BF(w:World)(b o:Nat)(a:List iB):Prop:=
 ∀i(h:i<a.length),w.cell? ⟨b,o+i*3,none⟩=some (.string a[i].N)/\
  w.cell? ⟨b,o+i*3+1,none⟩=some (.string a[i].data)/\w.cell? ⟨b,o+i*3+2,none⟩=some (.int .i64 a[i].Y)
def uF{k:IntKind}{a b:Int}(h:a=b):Ending.returned (.int k a)=.returned (.int k b):=by rw[h]
def oB{a b:Bool}(h:a=b):Ending.returned (.bool a)=.returned (.bool b):=by rw[h]
structure kC(w:World) where
 w':World
 h:Below w.1.size w w'
theorem kC.there(w:World):Nonempty (kC w):=⟨⟨w,iD⟩⟩
def kC.cell{w:World}(x:kC w){b o:Nat}{v:Value}(h:w.cell? ⟨b,o,none⟩=some v):x.w'.cell? ⟨b,o,none⟩=some v:=by
 have d:b<w.1.size:=by
  rcases Gc b w.1.size with c|a;exact c;simp[World.cell?,Mc a]at h
 rw[<-h];exact x.h.cell d
def kC.cells{w:World}{b o:Nat}{v:Value}(h:w.cell? ⟨b,o,none⟩=some v):∀x:kC w,x.w'.cell? ⟨b,o,none⟩=some v:=λx=>x.cell h
def wB{P:Program}{id:Nat}{Q:Exit->Act->World->Prop}{a:Act}{w:World}{l:List Oper}(e:P.follows .mixedOrders=true)(d:Region.lexB .any l.toArray=true)
(h:wpQuiet P l.toArray (λb=>∃x:kC w,b=x.w') (λc=>∀b,(∃x:kC w,b=x.w')->Q .normal c b) l a):(Code.region id l.toArray true).wp P Q a w:=
 wp_region_quiet (C:=λb=>∃x:kC w,b=x.w') e d ⟨⟨w.drew,iD.drew⟩,rfl⟩ (by simpa using h)
def oC{P:Program}{f:FuncId}{args:Array Value}{w:World}{x:kC w}{v:Value}
(h:Calls P f args x.w' λe a=>e=.returned v/\Below x.w'.1.size x.w' a):Calls P f args x.w' λe a=>e=.returned v/\∃y:kC w,a=y.w':=
 h.mono λ_ a ⟨c,b⟩=>⟨c,⟨a,x.h.trans (b.mono x.h.size)⟩,rfl⟩
def uC{P:Program}{f:FuncId}{args:Array Value}{w:World}{x:kC w}{v:Value}
(h:Calls P f args x.w' λe a=>e=.returned v/\a=x.w'):Calls P f args x.w' λe a=>e=.returned v/\∃y:kC w,a=y.w':=
 h.mono λ_ _ ⟨c,b⟩=>⟨c,x,b⟩
def tB(w:World)(a:mC)(c:List iB):Prop:=c=[]\/∃b o,a=some ⟨b,o,none⟩/\b<w.1.size/\BF w b o c
def tB.z{w f:World}{a:mC}{e:List iB}(h:tB w a e)(d:Below w.1.size w f):tB f a e:=by
 obtain h|⟨b,o,rfl,c,h⟩:=h;exact Ca h;refine La ⟨b,o,rfl,Bb c d.size,λi l=>?_⟩;obtain⟨g,j,k⟩:=h i l;exact⟨by rw[<-g];exact d.cell c,by rw[<-j];exact d.cell c,by rw[<-k];exact d.cell c⟩
def tB.at{w:World}{a:mC}{c:List iB}(h:tB w a c){i:Nat}(e:i<c.length):
 ∃b o,a=some ⟨b,o,none⟩/\b<w.1.size/\w.cell? ⟨b,o+i*3,none⟩=some (.string c[i].N)/\
  w.cell? ⟨b,o+i*3+1,none⟩=some (.string c[i].data)/\w.cell? ⟨b,o+i*3+2,none⟩=some (.int .i64 c[i].Y):=by
 obtain rfl|⟨b,o,rfl,d,h⟩:=h;exact absurd e (by simp);exact ⟨b,o,rfl,d,h i e⟩
def tB.setCell{w:World}{g o:Nat}{c:List iB}(h:tB w (some ⟨g,o,none⟩) c){p:Addr}(k:p.block≠g)(v:Value):tB (w.setCell p v) (some ⟨g,o,none⟩) c:=by
 obtain h|⟨b,l,e,a,h⟩:=h;exact Ca h;simp only[Qa,Addr.mk.injEq,Cc]at e;obtain⟨rfl,rfl⟩:=e;have f:∀j,(w.setCell p v).cell? ⟨g,j,none⟩=w.cell? ⟨g,j,none⟩:=λj=>World.cell?_of_block (Below.heap_setCell w p v g (Ne.symm k));refine La ⟨g,o,rfl,by simpa[World.setCell]using a,λi d=>?_⟩;simp only[f];exact h i d
def bulk:List iB->Nat
 |[]=>0
 |f::r=>f.N.size+f.data.size+bulk r
def pC:List iB->Nat
 |[]=>0
 |f::r=>f.data.size+pC r
def zQ(a b:List iB):pC (a++b)=pC a+pC b:=by induction a<;>grind [pC]
def bK(a:List iB)(k:Nat)(h:k<a.length):pC (a.take (k+1))=pC (a.take k)+a[k].data.size:=by
 rw[Pa h,zQ];simp[pC]
def yI(a:List iB)(k:Nat):pC (a.take k)<=pC a:=by
 have:=zQ (a.take k) (a.drop k);rw[Za]at this;omega
def xO(a:List iB):Prop:=∀i(h:i<a.length),a[i].N.size<=maxLen/\a[i].data.size<=maxLen
def rP(w:World)(b:Nat)(a c d e f g:Value):Prop:=
 w.cell? ⟨b,0,none⟩=some a/\w.cell? ⟨b,1,none⟩=some c/\w.cell? ⟨b,2,none⟩=some d/\w.cell? ⟨b,3,none⟩=some e/\w.cell? ⟨b,4,none⟩=some f/\w.cell? ⟨b,5,none⟩=some g
def rP.new(w:World)(a b c d e f:Value)(t:TypeId):rP (w.alloc (.cells #[a,b,c,d,e,f] t)) w.1.size a b c d e f:=by
 simp[rP,go_sem]
def rP.lt{w:World}{b:Nat}{d e f g i j:Value}(h:rP w b d e f g i j):b<w.1.size:=by
 rcases Gc b w.1.size with c|a;exact c;have:=h.1;simp[World.cell?,Mc a]at this
def rP.z{w k:World}{b:Nat}{d e f g i j:Value}(h:rP w b d e f g i j)(a:Below w.1.size w k):rP k b d e f g i j:=by
 have c:=h.lt;obtain⟨l,m,n,o,p,q⟩:=h;exact⟨(a.cell c).trans l,(a.cell c).trans m,(a.cell c).trans n,(a.cell c).trans o,(a.cell c).trans p,(a.cell c).trans q⟩
def vB{a b c:World}(h:Below a.1.size a b)(k:Below b.1.size b c):Below a.1.size a c:=h.trans (k.mono h.size)
def wF(w:World)(o:Obj):Below w.1.size w (w.alloc o):=iD.alloc (Ia _) _
structure qD(g:Nat)(w w':World):Prop where
 os:w'.os=w.os
 tape:w'.tape=w.tape
 output:w'.output=w.output
 size:w.1.size≤w'.1.size
 block:∀k,k<w.1.size→k≠g→w'.heap[k]?=w.heap[k]?
def qD.refl(g:Nat)(w:World):qD g w w:=⟨rfl,rfl,rfl,Ia _,λ_ _ _=>rfl⟩
def qD.trans{g:Nat}{a b c:World}(h:qD g a b)(k:qD g b c):qD g a c:=
 ⟨k.os.trans h.os,k.tape.trans h.tape,k.output.trans h.output,Ua h.size k.size,λi e d=>(k.block i (Bb e h.size) d).trans (h.block i e d)⟩
def qD.of{g:Nat}{w a:World}(h:Below w.1.size w a):qD g w a:=⟨h.os,h.tape,h.output,h.size,λk b _=>h.block k b⟩
def qD.setCell{g:Nat}{a w:World}(h:qD g a w)(o:Nat)(v:Value):qD g a (w.setCell ⟨g,o,none⟩ v):=
 h.trans ⟨rfl,rfl,rfl,by simp[World.setCell],λk _ b=>Below.heap_setCell _ _ _ _ b⟩
def qD.below{g B:Nat}{w a:World}(h:qD g w a)(b:B<=g)(d:B<=w.1.size):Below B w a:=
 ⟨h.os,h.tape,h.output,h.size,λk c=>h.block k (by omega) (by omega)⟩
def tB.but{g b o:Nat}{w c:World}{d:List iB}(h:tB w (some ⟨b,o,none⟩) d)(f:qD g w c)(k:b≠g):tB c (some ⟨b,o,none⟩) d:=by
 obtain h|⟨n,p,e,a,h⟩:=h;exact Ca h;simp only[Qa,Addr.mk.injEq,Cc]at e;obtain⟨rfl,rfl⟩:=e;have m:∀j,c.cell? ⟨b,j,none⟩=w.cell? ⟨b,j,none⟩:=λj=>World.cell?_of_block (f.block b a k);exact La ⟨b,o,rfl,Bb a f.size,λi l=>by simp only[m];exact h i l⟩
def jO(w:World)(B:Nat)(a:mC)(c:List iB):Prop:=
 c=[]\/∃g o b t,a=some ⟨g,o,none⟩/\B<=g/\w.heap[g]?=some (.cells b t (0,0))/\BF w g o c
def aB{w:World}{g:Nat}{x:Obj}(h:w.heap[g]?=some x):g<w.1.size:=by grind
def jO.files{w:World}{B:Nat}{a:mC}{b:List iB}(h:jO w B a b):tB w a b:=by grind [jO,tB]
def jO.z{w d:World}{B:Nat}{a:mC}{e:List iB}(h:jO w B a e)(f:Below w.1.size w d):jO d B a e:=by
 obtain h|⟨g,o,c,t,rfl,l,k,h⟩:=h;exact Ca h;have b:=aB k;have n:∀j,d.cell? ⟨g,j,none⟩=w.cell? ⟨g,j,none⟩:=λj=>World.cell?_of_block (f.block g b);exact La ⟨g,o,c,t,rfl,l,(f.block g b).trans k,λi m=>by simp only[n];exact h i m⟩
def jO.mono{w:World}{B B':Nat}{a:mC}{b:List iB}(h:jO w B a b)(c:B'<=B):jO w B' a b:=by grind [jO]
def aEi:Nat->Nat->List UInt8->List UInt8
 |0,_,a=>a
 |b+1,k,a=>if k=0 then a else aEi b (k / 10) ((48+UInt8.ofNat (k % 10)):: a)
def mt(k:Nat):jB:=⟨(109::aEi k k []).toArray⟩
def nB(w:World)(g:Nat)(a:Array Value)(t:TypeId):Prop:=w.heap[g]?=some (.cells a t (0,0))
def nB.set{w:World}{g:Nat}{a:Array Value}{t:TypeId}(h:nB w g a t)(j:Nat)(v:Value):nB (w.setCell ⟨g,j,none⟩ v) g (a.setIfInBounds j v) t:=heap_setCell_same w g j a t v h
def nB.z{w b:World}{g:Nat}{a:Array Value}{t:TypeId}(h:nB w g a t)(c:Below w.1.size w b):nB b g a t:=(c.block g (aB h)).trans h
def nB.cell{w:World}{g:Nat}{a:Array Value}{t:TypeId}(h:nB w g a t)(j:Nat):w.cell? ⟨g,j,none⟩=a[j]?:=cell_of_row w g j a t _ h
def nB.free{w:World}{g:Nat}{a:Array Value}{t:TypeId}(h:nB w g a t)(j:Nat):w.frozen? ⟨g,j,none⟩=false:=frozen_of_row w g j a t h
def nB.c2{w:World}{g:Nat}{a b:Value}{t:TypeId}(h:nB w g #[a,b] t):w.cell? ⟨g,0,none⟩=some a/\w.cell? ⟨g,1,none⟩=some b:=⟨h.cell 0,h.cell 1⟩
def nB.c3{w:World}{g:Nat}{a b c:Value}{t:TypeId}(h:nB w g #[a,b,c] t):w.cell? ⟨g,0,none⟩=some a/\w.cell? ⟨g,1,none⟩=some b/\w.cell? ⟨g,2,none⟩=some c:=⟨h.cell 0,h.cell 1,h.cell 2⟩
def nB.c4{w:World}{g:Nat}{a b c d:Value}{t:TypeId}(h:nB w g #[a,b,c,d] t):w.cell? ⟨g,0,none⟩=some a/\w.cell? ⟨g,1,none⟩=some b/\w.cell? ⟨g,2,none⟩=some c/\w.cell? ⟨g,3,none⟩=some d:=⟨h.cell 0,h.cell 1,h.cell 2,h.cell 3⟩
def nB.c5{w:World}{g:Nat}{a b c d e:Value}{t:TypeId}(h:nB w g #[a,b,c,d,e] t):w.cell? ⟨g,0,none⟩=some a/\w.cell? ⟨g,1,none⟩=some b/\w.cell? ⟨g,2,none⟩=some c/\w.cell? ⟨g,3,none⟩=some d/\w.cell? ⟨g,4,none⟩=some e:=⟨h.cell 0,h.cell 1,h.cell 2,h.cell 3,h.cell 4⟩
def nB.c6{w:World}{g:Nat}{a b c d e f:Value}{t:TypeId}(h:nB w g #[a,b,c,d,e,f] t):w.cell? ⟨g,0,none⟩=some a/\w.cell? ⟨g,1,none⟩=some b/\w.cell? ⟨g,2,none⟩=some c/\w.cell? ⟨g,3,none⟩=some d/\w.cell? ⟨g,4,none⟩=some e/\w.cell? ⟨g,5,none⟩=some f:=⟨h.cell 0,h.cell 1,h.cell 2,h.cell 3,h.cell 4,h.cell 5⟩
def nB.there{w:World}{g:Nat}{a:Array Value}{t:TypeId}(h:nB w g a t){j:Nat}(b:j<a.size):∃v,w.cell? ⟨g,j,none⟩=some v:=⟨a[j],by rw[h.cell];exact Qc b⟩
def bI(a:Array Value)(o j:Nat)(f:iB):Prop:=a[o+j*3]?=some (.string f.N)/\a[o+j*3+1]?=some (.string f.data)/\a[o+j*3+2]?=some (.int .i64 f.Y)
def bI.set{a:Array Value}{o j:Nat}{f:iB}(h:bI a o j f){p:Nat}(b:p<o+j*3\/o+j*3+2<p)(v:Value):bI (a.setIfInBounds p v) o j f:=by grind [bI]
def vR{w:World}{g o:Nat}{a:Array Value}{t:TypeId}{b:List iB}(h:nB w g a t)(d:∀j(c:j<b.length),bI a o j b[j]):BF w g o b:=by
 intro j c;simp only[h.cell];exact d j c
def NM{w:World}{g o:Nat}{a:Array Value}{t:TypeId}{b:List iB}(h:nB w g a t)(d:BF w g o b):∀j(c:j<b.length),bI a o j b[j]:=by
 intro j c;have:=d j c;simp only[h.cell]at this;exact this
def tF{W:World}{B:Nat}{e:TypeId}{b:Nat}{v:Value}{n:Nat}{i:List Value}(h:W.ownsRow B e b v n i):∃a c,v=.slice a n c:=by
 obtain⟨rfl,rfl⟩|⟨g,d,f,rfl,_⟩:=h.2;exact ⟨none,0,rfl⟩;exact ⟨_,_,rfl⟩
def qI{w:World}{B d:Nat}{e:TypeId}{a:Nat}{v:Value}{n:Nat}{f:List Value}(h:w.ownsRow B e a v n f)(j:d<=B):w.ownsRow d e a v n f:=by
 refine⟨h.1,?_⟩;obtain i|⟨g,b,c,l,k,r⟩:=h.2;exact Ca i;exact La ⟨g,b,c,l,Ua j k,r⟩
def jP{w:World}{B:Nat}{e:TypeId}{a:Nat}{v:Value}{n:Nat}{i:List Value}(h:w.ownsRow B e a v n i):∀g,v.ownBlock=some g->g<w.1.size:=by
 intro g b;obtain⟨rfl,_⟩|⟨j,c,d,rfl,_,f,_⟩:=h.2
 .cases b
 simp only[Value.ownBlock,Qa]at b;subst b;exact aB f
def qD.upToD{g:Nat}{w c d:World}(h:qD g w c)(a:Below w.1.size c d):qD g w d:=
 ⟨a.os.trans h.os,a.tape.trans h.tape,a.output.trans h.output,Ua h.size a.size,λk b e=>(a.block k b).trans (h.block k b e)⟩
def bR{P:Program}{c:Array Oper}{C:World->Prop}{Q:Act->Prop}{a:Act}{o:Oper}{b:List Oper}{f:FuncId}{args:Array Value}{v:Value}(hw:Region.wanted o (yielded c a.tmps)=true)
(j:∀w,(execOp a.eval o).run P w=.ok (.enter f args) w)(i:∀w,C w->Calls P f args w (λe d=>e=.returned v/\C d))(h:wpQuiet P c C Q b (a.put o.dst v)):wpQuiet P c C Q (o::b) a:=
 BigFrame.wpQuiet_want hw λK g=>⟨v,λw hw=>by unfold Oper.quietAt;rw[j];exact⟨rfl,i w hw⟩,g _ h⟩
def eE{P:Program}{w:World}{b:Array Oper}{o:Oper}{a:Act}{K:Act->World->Prop}{Q:Exit->Act->World->Prop}{E:Prop}{f:FuncId}{args:Array Value}(c:o.guard=none)(i:(execOp a.eval o).run P w=.ok (.enter f args) w)
(h:Calls P f args w (λe d=>∃v,e=.returned v/\K (a.put o.dst v) d)):if Region.wanted o (yielded b a.tmps)=true then Oper.wp P o a w K Q else E:=by
 have hw:Region.wanted o (yielded b a.tmps)=true:=by simp[Region.wanted,c]
 rw[Ma hw];unfold Oper.wp;rw[i];refine h.mono ?_;rintro e d ⟨v,rfl,g⟩;exact g
theorem DU{x y:jB}(h:x.data.toList=y.data.toList):x=y:=by
 cases x;cases y
 simp only[ByteArray.mk.injEq];exact Array.toList_inj.1 h
theorem qM(x y:jB):(x++y).data.toList=x.data.toList++y.data.toList:=by simp
def qD.drew{g:Nat}{a w:World}(h:qD g a w):qD g a w.drew:=⟨h.os,h.tape,h.output,h.size,h.block⟩
def wU(v:Int):Prop:=-9223372036854775808<=v/\v<=9223372036854775807
def ZF(g i:Nat):(⟨g,0,none⟩:Addr).add i=⟨g,i,none⟩:=by unfold Addr.add;split<;>simp_all
theorem FR(b o j:Nat):(⟨b,o,none⟩:Addr).add j=⟨b,o+j,none⟩:=by unfold Addr.add;split<;>simp_all
def tW{P:Program}{w:World}(base:Nat)(t p e:TypeId)(i:TypeInfo)(b:Nat)(k:P.underlying t=some (.slice e))(h:P.info? e=some i)
(v:Value)(n:Nat)(q:List Value)(a:w.ownsRow base e b v n q)(c:mC)(l:Nat):
 (Builtin.append_ #[t,t] p #[v,.slice c 0 l]).run P w=.ok v w:=by
 have j:∀f:Addr,(loadCells f 0).run P w=.ok #[] w:=λf=>by
  simp[loadCells,loadCellsFrom]
 obtain⟨rfl,rfl⟩|⟨g,m,o,rfl,_,_,d,_⟩:=a.2
 .cases c<;>simp[Builtin.append_,run_underlying k,sizeOf,typeInfo,h,Builtin.lenOf,Builtin.firstCells,j]
 cases c<;>simp[Builtin.append_,run_underlying k,sizeOf,typeInfo,h,Builtin.lenOf,Builtin.firstCells,d,storeCells,j]
def CL{P:Program}{w:World}{g:Array Oper}{b:List Oper}{o:Oper}{a:Act}{Q:Exit->Act->World->Prop}(j:o.guard=none)(s x:Operand)(t:TypeId)
(r:o.op=.call { callee:=.builtin .append,args:=#[s,x],argTypes:=#[t,t] })
(base:Nat)(e:TypeId)(i:TypeInfo)(c:Nat)(y:P.underlying t=some (.slice e))(q:P.info? e=some i)
(v:Value)(n:Nat)(m:List Value)(u:a.eval s=v)(d:w.ownsRow base e c v n m)(k:mC)(l:Nat)(z:a.eval x=.slice k 0 l)
(h:wpList P g Q b (a.put o.dst v) w):wpList P g Q (o::b) a w:=by
 refine wpList_plain j λK p=>?_;have f:=tW (P:=P) (w:=w) base t o.type e i c y q v n m d k l;unfold Oper.wp;simp[execOp,r,resolve,invoke,builtin,u,z,f,Result.andThen];exact p _ _ h
def zH{w:World}{B:Nat}{e:TypeId}{a:Nat}{v:Value}{n:Nat}{i:List Value}(h:w.ownsRow B e a v n i):∀g,v.ownBlock=some g->B<=g:=by
 intro g b;obtain⟨rfl,_⟩|⟨j,c,d,rfl,f,_⟩:=h.2;simp[Value.ownBlock]at b;simp[Value.ownBlock]at b;subst b;exact f
def eT(w:World)(b:mC)(m:Nat)(a:List Value):Prop:=m=0\/∃A,b=some A/\∀j u,a[j]?=some u->w.cell? (A.add j)=some u
def KU(W:World)(x:Obj):uB W (W.alloc x).drew:=zB.drew
def KV(W:World)(x y:Obj):uB W ((W.alloc x).alloc y).drew:=(vB zB zB).drew
def iJ{P:Program}(w:World){ops:Array Oper}{o:Oper}{a:Act}{K:Act->World->Prop}{Q:Exit->Act->World->Prop}{E:Prop}(G:o.guard=none)(s x:Operand)(t:TypeId)
(Z:o.op=.call { callee:=.builtin .append,args:=#[s,x],argTypes:=#[t,t] })
(base:Nat)(e:TypeId)(i:TypeInfo)(z:Value)(b j:Nat)(W:P.underlying t=some (.slice e))(Y:P.info? e=some i)(hz:i.zero=some z)
(B:i.size=b)(S:i.bytes=j)(U:z.cells.size=b)(T:0<b)
(v n O:Nat)(M:List Value)(hs:a.eval s=.slice (yB v) n O)(d:w.ownsRow base e b (.slice (yB v) n O) n M)
(N:mC)(m c:Nat)(f:List Value)(hx:a.eval x=.slice N m c)(hl:f.length=m*b)(J:eT w N m f)(h1:∀u∈f,u.oneCell'=true)
(R:n+m<=maxLen)(r:(n+m)*j<=140737488355328)(l:base<=w.1.size)
(h:∀g p C,C.ownsRow base e b (.slice (yB g) (n+m) p) (n+m) (M++f)->Below base w C->(∀k,k<w.1.size->k≠v->C.heap[k]?=w.heap[k]?)->base<=g->(g=v\/g=w.1.size)->g<C.1.size->K (a.put o.dst (.slice (yB g) (n+m) p)) C):
 if Region.wanted o (yielded ops a.tmps)=true then Oper.wp P o a w K Q else E:=by
 have F:base<=v:=zH d v rfl;rcases Nat.eq_zero_or_pos m with rfl|hm
 .have hw:Region.wanted o (yielded ops a.tmps)=true:=by simp[Region.wanted,G]
  rw[Ma hw];have H:f=[]:=Nb.1 (by omega);subst H;have I:=tW (P:=P) (w:=w) base t o.type e i b W Y _ n M d N c;have hK:=h v O w (by rw[Cd];exact d) iD (λ_ _ _=>rfl) F (Ca rfl) (by
   obtain⟨L,_⟩|⟨O,V,O,L,_,O,_⟩:=d.2;simp at L;simp only[Value.slice.injEq,Qa,Addr.mk.injEq,Cc]at L;rw[L.1];exact aB O)
  unfold Oper.wp execOp;simp only[Z,resolve,invoke,builtin,Sem.run_bind,Sem.run_pure,Result.andThen_ok,Hg,Fc,Ag,hs,hx,I];exact hK
 obtain I|⟨A,rfl,y⟩:=J;omega;refine step_append_lies w G s x t Z base e i z b j W Y hz B S U T _ n M hs d A m c f hx hl y h1 hm R r l w.1.size rfl λg p C G W D I=>?_;have X:g=v\/g=w.1.size:=by
  obtain D|D:=D;left;simpa[Value.ownBlock]using D.symm;exact La D
 refine h g p C G ((Below.refl base w).grown W l (λq h=>zH d q h)) (λk h G=>W.block k h (by simp[Value.ownBlock];omega)) ?_ X I;obtain rfl|rfl:=X;exact F;exact l
def aK(s:jB):Nat->Nat->Option (List Nat)
 |0,_=>some []
 |b+1,p=>if p<s.size then(if Utf8.decode s p=(65533,1) then none else(aK s b (p+(Utf8.decode s p).2)).map ((Utf8.decode s p).1 :: ·)) else some []
def DY(r:Nat):Bool:=decide (r<32) ||(decide (127<=r) &&decide (r<=159))
def UJ(l:List Nat):Nat:=if 128<l.length then 43 else if l.any DY=true then 44 else 0
def qP(s:jB):Nat:=match aK s s.size 0 with
 |none=>42
 |some l=>UJ l
def CK(s:jB)(p:Nat)(a:List Nat):Prop:=a.length<=p/\∃b,s.size<=p+b/\aK s s.size 0=(aK s b p).map (a++·)
def CK.start(s:jB):CK s 0 []:=⟨Ia _,s.size,by omega,by simp⟩
def nX(s:jB)(p:Nat):1<=(Utf8.decode s p).2:=by
 simp only[Utf8.decode];repeat' split
 all_goals simp_all
def CK.step{s:jB}{p:Nat}{a:List Nat}(h:CK s p a)(d:p<s.size)(c:Utf8.decode s p≠(65533,1)):CK s (p+(Utf8.decode s p).2) (a++[(Utf8.decode s p).1]):=by
 obtain⟨i,b,g,e⟩:=h;have f:=nX s p;cases b with
 |zero=>omega
 |succ b=>
  refine⟨by simp;omega,b,by omega,?_⟩;rw[e,aK,Ma d,Ja c];cases aK s b (p+(Utf8.decode s p).2)<;>simp
def CK.bad{s:jB}{p:Nat}{a:List Nat}(h:CK s p a)(d:p<s.size)(c:Utf8.decode s p=(65533,1)):qP s=42:=by
 obtain⟨g,b,f,e⟩:=h;cases b with
 |zero=>omega
 |succ b=>
  rw[aK,Ma d,Ma c]at e;rw[qP,e];rfl
def CK.done{s:jB}{p:Nat}{a:List Nat}(h:CK s p a)(f:s.size<=p):qP s=UJ a:=by
 obtain⟨d,b,c,e⟩:=h;have:aK s b p=some []:=by
  cases b with
  |zero=>rfl
  |succ b=>rw[aK,Ja (by omega)]
 rw[this]at e;rw[qP,e];simp
def VZ(s:jB)(p:Nat):Utf8.decode (s.extract p s.size) 0=Utf8.decode s p:=Lib.tail_decode s p 0
def LW(t:jB):Nat×Nat:=if Utf8.decode t 0=(65533,1) then(0,0) else Utf8.decode t 0
def aD(t:jB)(k:Nat):Nat:=(t.get! k).toNat
def fW(t:jB)(k:Nat)(h:k<t.size):t[k].toNat=aD t k:=by
 have:=get_at t k h;rw[Bg]at this;rw[aD,this]
def sZ(a b c d:Nat)(e f g:Bool):Nat×Nat:=
 if a<128 then(a,1)
 else if (a / 32==6&&e)=true then(if 128<=a % 32*64+b % 64 then(a % 32*64+b % 64,2) else(65533,1))
 else if (a / 16==14&&e&&f)=true then(if (decide (2048<=a % 16*4096+b % 64*64+c % 64) &&Utf8.valid ((a % 16*4096+b % 64*64+c % 64:Nat):Int))=true then(a % 16*4096+b % 64*64+c % 64,3) else(65533,1))
 else if (a / 8==30&&e&&f&&g)=true then(if (decide (65536<=a % 8*262144+b % 64*4096+c % 64*64+d % 64) &&Utf8.valid ((a % 8*262144+b % 64*4096+c % 64*64+d % 64:Nat):Int))=true then(a % 8*262144+b % 64*4096+c % 64*64+d % 64,4) else(65533,1))
 else(65533,1)
def aDy(t:jB)(k:Nat):Bool:=decide (k<t.size) &&aD t k / 64==2
theorem lT(t:jB)(k:Nat):aDy t k=true ↔ k<t.size/\aD t k / 64=2:=by simp[aDy]
theorem mT(t:jB)(p:Nat):Utf8.decode t p=sZ (aD t p) (aD t (p+1)) (aD t (p+2)) (aD t (p+3)) (aDy t (p+1)) (aDy t (p+2)) (aDy t (p+3)):=rfl
def aNs(v:Nat):Bool:=decide (v<=1114111/\¬(55296<=v/\v<=57343))
abbrev okR(v:Nat):Prop:=aNs v=true
def aNr{v:Nat}(h:v<=1114111/\¬(55296<=v/\v<=57343)):okR v:=Ac h
def bt{v:Nat}(h:okR v):v<=1114111/\¬(55296<=v/\v<=57343):=Wd h
def YV(v:Nat):Utf8.valid (v:Int)=decide (okR v):=by
 unfold Utf8.valid okR aNs;rw[Qb];simp;omega
def gb{a b d e:Nat}{c f g:Bool}(h:a / 32=6):sZ a b d e c f g=if c=true/\128<=a % 32*64+b % 64 then(a % 32*64+b % 64,2) else(65533,1):=by grind [sZ]
def PK{a b c g:Nat}{d f i:Bool}(h:a / 16=14):
 sZ a b c g d f i=if d=true/\f=true/\2048<=(a % 16*64+b % 64)*64+c % 64/\okR ((a % 16*64+b % 64)*64+c % 64) then((a % 16*64+b % 64)*64+c % 64,3) else(65533,1):=by
 have j:(a / 32==6)=false:=by simp;omega
 have k:(a / 8==30)=false:=by simp;omega
 have e:a % 16*4096+b % 64*64+c % 64=(a % 16*64+b % 64)*64+c % 64:=by omega
 unfold sZ;rw[Ja (by omega),j,h,k,e,YV];cases d<;>cases f<;>simp[okR]
def VW{a b c d:Nat}{f g i:Bool}(h:a / 8=30):
 sZ a b c d f g i=if f=true/\g=true/\i=true/\65536<=((a % 8*64+b % 64)*64+c % 64)*64+d % 64/\okR (((a % 8*64+b % 64)*64+c % 64)*64+d % 64) then(((a % 8*64+b % 64)*64+c % 64)*64+d % 64,4) else(65533,1):=by
 have j:(a / 32==6)=false:=by simp;omega
 have k:(a / 16==14)=false:=by simp;omega
 have e:a % 8*262144+b % 64*4096+c % 64*64+d % 64=((a % 8*64+b % 64)*64+c % 64)*64+d % 64:=by omega
 unfold sZ;rw[Ja (by omega),j,k,h,e];simp only[YV];cases f<;>cases g<;>cases i<;>simp[okR]
theorem ga{a b c d:Nat}{e f g:Bool}(h:a<128):sZ a b c d e f g=(a,1):=by unfold sZ;rw[Ma h]
def VX{a b c d:Nat}{e f g:Bool}(h:128<=a)(i:a / 32≠6)(j:a / 16≠14)(k:a / 8≠30):sZ a b c d e f g=(65533,1):=by grind [sZ]
theorem VY{a e f g:Nat}{b c d:Bool}:sZ a e f g b c d=(65533,1)\/((sZ a e f g b c d).1<=1114111/\((sZ a e f g b c d).2=1\/(sZ a e f g b c d).2=2/\b=true\/(sZ a e f g b c d).2=3/\c=true\/(sZ a e f g b c d).2=4/\d=true)):=by
 by_cases l:a<128
 .rw[ga l];right;exact⟨by simp;omega,Ca rfl⟩
 by_cases i:a / 32=6
 .rw[gb i];split
  .rename_i h;right;exact⟨by simp;omega,La (Ca ⟨rfl,h.1⟩)⟩
  exact Ca rfl
 by_cases j:a / 16=14
 .rw[PK j];split
  .rename_i h;right;exact⟨(bt h.2.2.2).1,La (La (Ca ⟨rfl,h.2.1⟩))⟩
  exact Ca rfl
 by_cases k:a / 8=30
 .rw[VW k];split
  .rename_i h;right;exact⟨(bt h.2.2.2.2).1,La (La (La ⟨rfl,h.2.2.1⟩))⟩
  exact Ca rfl
 rw[VX (by omega) i j k];exact Ca rfl
def LD(s:jB)(p:Nat)(a:p<s.size)(h:Utf8.decode s p≠(65533,1)):p+(Utf8.decode s p).2<=s.size:=by grind [mT,VY,lT]
def tZ(s:jB)(p:Nat):(Utf8.decode s p).1<=1114111/\(Utf8.decode s p).2<=4:=by grind [mT,VY]
def aJl(t:jB)(h:aD t 0<128):LW t=(aD t 0,1):=by grind [aD,LW,mT,ga]
def qv{t:jB}{C D:Prop}[Decidable C][Decidable D]{v n:Nat}(h:Utf8.decode t 0=if C then(v,n) else(65533,1))(b:n≠1)(a:C ↔ D):LW t=if D then(v,n) else(0,0):=by grind [LW]
def aJm(t:jB)(h:aD t 0 / 32=6):
 LW t=if 2<=t.size/\aD t 1 / 64=2/\128<=aD t 0 % 32*64+aD t 1 % 64 then(aD t 0 % 32*64+aD t 1 % 64,2) else(0,0):=by
 refine qv ((mT t 0).trans (gb h)) (by omega) ?_;rw[Ya,lT];constructor;rintro ⟨⟨a,b⟩,c⟩;exact⟨a,b,c⟩;rintro ⟨a,b,c⟩;exact⟨⟨a,b⟩,c⟩
def aAx(t:jB)(h:aD t 0 / 16=14):
 LW t=if 3<=t.size/\aD t 1 / 64=2/\aD t 2 / 64=2/\2048<=(aD t 0 % 16*64+aD t 1 % 64)*64+aD t 2 % 64/\okR ((aD t 0 % 16*64+aD t 1 % 64)*64+aD t 2 % 64) then((aD t 0 % 16*64+aD t 1 % 64)*64+aD t 2 % 64,3) else(0,0):=by
 refine qv ((mT t 0).trans (PK h)) (by omega) ?_;rw[Ya,Ya,lT,lT];constructor;rintro ⟨⟨_,b⟩,⟨a,c⟩,d⟩;exact⟨a,b,c,d⟩;rintro ⟨a,b,c,d⟩;exact⟨⟨by omega,b⟩,⟨a,c⟩,d⟩
def aFm(t:jB)(h:aD t 0 / 8=30):
 LW t=if 4<=t.size/\aD t 1 / 64=2/\aD t 2 / 64=2/\aD t 3 / 64=2/\65536<=((aD t 0 % 8*64+aD t 1 % 64)*64+aD t 2 % 64)*64+aD t 3 % 64/\okR (((aD t 0 % 8*64+aD t 1 % 64)*64+aD t 2 % 64)*64+aD t 3 % 64) then(((aD t 0 % 8*64+aD t 1 % 64)*64+aD t 2 % 64)*64+aD t 3 % 64,4) else(0,0):=by
 refine qv ((mT t 0).trans (VW h)) (by omega) ?_;rw[Ya,Ya,Ya,lT,lT,lT];constructor;rintro ⟨⟨_,b⟩,⟨_,c⟩,⟨a,d⟩,e⟩;exact⟨a,b,c,d,e⟩;rintro ⟨a,b,c,d,e⟩;exact⟨⟨by omega,b⟩,⟨by omega,c⟩,⟨a,d⟩,e⟩
def aFn(t:jB)(a:128<=aD t 0)(b:aD t 0 / 32≠6)(c:aD t 0 / 16≠14)(d:aD t 0 / 8≠30):LW t=(0,0):=by
 rw[LW,mT,VX a b c d,Ma rfl]
def aNc(s:jB)(p:Nat):LW (s.extract p s.size)=if Utf8.decode s p=(65533,1) then(0,0) else Utf8.decode s p:=by rw[LW,VZ]
def flat(a:List iB):List Value:=a.flatMap λf=>[.string f.N,.string f.data,zA f.Y]
def flat_append(a b:List iB):flat (a++b)=flat a++flat b:=by simp[flat]
def zZ(f:iB):flat [f]=[.string f.N,.string f.data,zA f.Y]:=rfl
theorem wE(a:List iB):(flat a).length=a.length*3:=by
 induction a with
 |nil=>rfl
 |cons f r b=>simp[flat]at *;omega
def flat_get:∀(a:List iB)(j:Nat)(h:j<a.length),(flat a)[j*3]?=some (.string a[j].N)/\(flat a)[j*3+1]?=some (.string a[j].data)/\(flat a)[j*3+2]?=some (zA a[j].Y)
 |[],_,h=>absurd h (by simp)
 |f::r,0,_=>by simp[flat]
 |f::r,j+1,h=>by
  have i:=flat_get r j (by simpa using h);have e:flat (f::r)=[.string f.N,.string f.data,zA f.Y]++flat r:=rfl;rw[e];have c:(j+1)*3=3+j*3:=by omega
  have d:(j+1)*3+1=3+(j*3+1):=by omega
  have g:(j+1)*3+2=3+(j*3+2):=by omega
  have b:∀p,([.string f.N,.string f.data,zA f.Y]++flat r)[3+p]?=(flat r)[p]?:=λp=>by
   rw[Uc (by simp)];simp
  rw[g,d,c,b,b,b];exact i
def sG(b:List iB):∀u∈flat b,u.oneCell'=true:=by
 intro u a;simp only[flat,Ig,Lb,Ed,Bf]at a;obtain⟨f,_,rfl|rfl|rfl⟩:=a<;>rfl
def mH{w:World}{B:Nat}{e:TypeId}{v:Value}{c:List iB}(h:w.ownsRow B e 3 v c.length (flat c)):∃a b,v=.slice a c.length b/\jO w B a c:=by
 obtain⟨rfl,o⟩|⟨g,b,d,rfl,q,k,_,_,_,s⟩:=h.2;have:c=[]:=Nb.1 o;subst this;exact⟨none,0,rfl,Ca rfl⟩;refine ⟨_,b,rfl,La ⟨g,0,d,e,rfl,q,k,vR k λj r=>?_⟩⟩;have key:∀p v,(flat c)[p]?=some v->d[p]?=some v:=λp v f=>by
  rw[<-s]at f;have i:=(Pb.1 f).1;rw[Hb]at i;rw[Jb (by omega)]at f;simpa using f
 obtain⟨l,m,n⟩:=flat_get c j r;refine⟨?_,?_,?_⟩;rw[Ya];exact key _ _ l;rw[Ya];exact key _ _ m;rw[Ya];exact key _ _ n
def hC{w i:World}{B:Nat}{e:TypeId}{a:Nat}{v:Value}{n:Nat}{j:List Value}(h:w.ownsRow B e a v n j)(m:uB w i):i.ownsRow B e a v n j:=by
 obtain⟨k,d⟩:=h;refine⟨k,?_⟩;obtain d|⟨g,b,c,o,l,f,r⟩:=d;exact Ca d;exact La ⟨g,b,c,o,l,(m.block g (aB f)).trans f,r⟩
def wQ{w:World}{B:Nat}{e:TypeId}{a:Nat}{v:Value}{n:Nat}{f:List Value}(h:w.ownsRow B e a v n f){p:Addr}(m:p.block<B)(u:Value):(w.setCell p u).ownsRow B e a v n f:=by
 obtain⟨i,d⟩:=h;refine⟨i,?_⟩;obtain d|⟨g,b,c,l,j,k,r⟩:=d;exact Ca d;exact La ⟨g,b,c,l,j,(Below.heap_setCell w p u g (by omega)).trans k,r⟩
def aP{w:World}{b o:Nat}{d:List iB}(h:BF w b o d):∀j u,(flat d)[j]?=some u->w.cell? (((dB b o):Addr).add j)=some u:=by
 intro j u a;have g:=(Pb.1 a).1;rw[wE]at g;have i:j / 3<d.length:=by omega
 obtain⟨k,l,m⟩:=flat_get d (j / 3) i;obtain⟨n,p,q⟩:=h (j / 3) i;have c:((dB b o):Addr).add j=(dB b (o+j)):=by unfold Addr.add;split<;>simp_all
 rw[c];have f:j % 3=0\/j % 3=1\/j % 3=2:=by omega
 obtain f|f|f:=f
 .have e:j=j / 3*3:=by omega
  rw[e]at a;rw[k]at a;rw[show o+j=o+j / 3*3 by omega,n];exact a
 .have e:j=j / 3*3+1:=by omega
  rw[e]at a;rw[l]at a;rw[show o+j=o+j / 3*3+1 by omega,p];exact a
 have e:j=j / 3*3+2:=by omega
 rw[e]at a;rw[m]at a;rw[show o+j=o+j / 3*3+2 by omega,q];exact a
def bC(x b a:Int):Bool:=decide (b<=x) &&decide (x<=a)
def dE(x b a:Int)(w:World):rL 91 #[zA x,zA b,zA a] w (.bool (bC x b a)):=by
 by_cases c:b<=x
 .by_cases d:x<=a
  .have e:bC x b a=true:=by simp[bC,c,d]
   rw[e];go_enter func91,ntmps91;go_wp2;go_ret;exact⟨rfl,rfl⟩
  have e:bC x b a=false:=by simp[bC,d]
  rw[e];go_enter func91,ntmps91;go_wp2;go_ret;exact⟨rfl,rfl⟩
 have e:bC x b a=false:=by simp[bC,c]
 rw[e];go_enter func91,ntmps91;go_wp2;go_ret;exact⟨rfl,rfl⟩
def zW(s:jB)(k:Nat)(h:k<s.size):s.data.toList.take (k+1)=s.data.toList.take k++[s[k]]:=by
 rw[Pa (by simpa using h)];rfl
def rD{x c a:Int}{b:Bool}(h:bC x c a=b)(w:World):rL 91 #[zA x,zA c,zA a] w (.bool b):=h ▸ dE x c a w
def OV(x b a:Int):bC x b a=decide (b<=x/\x<=a):=by
 unfold bC;by_cases c:b<=x<;>by_cases d:x<=a<;>simp[c,d]
def CX(r:Nat)(w:World)(f:r<=1114111):rL 295 #[.int .i32 (r:Nat)] w (.bool (DY r)):=by
 by_cases a:r<32
 .have E:cB (DY r=true):=by show _=_;simp[DY,a]
  go_enter func295,ntmps295;go_wp2;go_ret;exact⟨oB (by rw[E.o]),rfl⟩
 by_cases b:127<=r
 .by_cases c:r<=159
  .have E:cB (DY r=true):=by show _=_;simp[DY,b,c]
   go_enter func295,ntmps295;go_wp2;go_ret;exact⟨oB (by rw[E.o];simp;omega),rfl⟩
  have E:cB (DY r=false):=by show _=_;simp[DY,a,c]
  go_enter func295,ntmps295;go_wp2;go_ret;exact⟨oB (by rw[E.o];simp;omega),rfl⟩
 have E:cB (DY r=false):=by show _=_;simp[DY,a,b]
 go_enter func295,ntmps295;go_wp2;go_ret;exact⟨oB (by rw[E.o];simp;omega),rfl⟩
abbrev uG(w:World):Prop:=Lib.Utf8Tabs 6 7 w
def uG.z{w a:World}(h:uG w)(b:uB w a):uG a:=Utf8Tabs_below h b
def nt(s:jB)(p:Nat)(w:World)(k:p<s.size)(c:uG w):
 dF 294 #[.string s,zA (p:Nat)] w (zA ((Utf8.decode s p).2:Nat)):=by
 have j:(s.extract p s.size).size=s.size-p:=by simp
 have e:Lib.decodeGo (s.extract p s.size)=Utf8.decode s p:=by
  rw[Lib.decodeGo,Ja (by omega),VZ]
 have d:∀W,uG W->dF 323 #[.string (s.extract p s.size)] W (.tuple #[.int .i32 (Utf8.decode s p).1,zA (Utf8.decode s p).2]):=λW i=>by
  have:=utf8_DecodeRuneInString (s.extract p s.size) W i;rw[e]at this;exact this
 generalize (Utf8.decode s p).1=R at *;generalize (Utf8.decode s p).2=N at *;have g:cB _:=d;have h:cB (uG w):=c;clear d c e j;go_enter func294,ntmps294;go_wp2_with fail;apply lC (g.o _ h.o);intro l a;have f:cB _:=a;clear a;go_wp2;go_ret;exact⟨rfl,f.o⟩
def RS{w:World}{g:Nat}{x:Obj}(h:w.heap[g]?=some x):g<w.1.size:=by grind
def gN(W:World)(B:Nat)(s:jB)(p:Nat):Prop:=W.heap[B]?=some (.stringIter s p)
def uN(W:World)(B:Nat)(s:jB)(p:Nat):World:={ W with heap:=W.heap.setIfInBounds B (.stringIter s p) }
def aGc{P:Program}(W:World)(B:Nat)(s:jB)(c:Nat)(b:TypeId)(a:gN W B s c)(h:c<s.size):
 (Instr.next (.pointer (yB B)) true b).run P W=.ok (.tuple #[.bool true,zA c,.int .i32 (Utf8.decode s c).1]) (uN W B s (c+(Utf8.decode s c).2)):=by
 unfold gN at a;simp only[Instr.next,getObj,setObj,Sem.run_bind,Sem.run,a,Result.andThen,h,Td];simp[goInt,uN]
def aGd{P:Program}(W:World)(B:Nat)(s:jB)(c:Nat)(b:TypeId)(a:gN W B s c)(h:¬c<s.size):
 (Instr.next (.pointer (yB B)) true b).run P W=.ok (.tuple #[.bool false]) W:=by
 unfold gN at a;simp[Instr.next,getObj,Sem.run,a,h]
def gN.set{W:World}{B:Nat}{s:jB}{p:Nat}(h:gN W B s p)(q:Nat):gN (uN W B s q) B s q:=by
 have:=RS h;unfold gN uN;simp[this]
def gN.z{W a:World}{B:Nat}{s:jB}{p:Nat}(h:gN W B s p)(b:uB W a):gN a B s p:=(b.block B (RS h)).trans h
def UO{w W:World}{B C:Nat}(h:Below C w W)(a:C<=B)(s:jB)(q:Nat):Below C w (uN W B s q):=
 h.trans ⟨rfl,rfl,rfl,by simp[uN],λk b=>by simp only[uN];rw[Ea (by omega)]⟩
def LS(s:jB)(w:World)(hs:s.size<=1000000000)(e:uG w):
 dF 260 #[.string s] w (zA (qP s:Nat)):=by
 have X:cB (uG w):=e;clear e;have e:=run_range_string w 9 s underlying9;have G:cB (gN (w.iter s 0) w.1.size s 0/\uB w (w.iter s 0)):=⟨World.iter_heap _ _ _,zB⟩
 generalize w.iter s 0=h at *;go_enter func260,ntmps260;go_wp2;clear e;go_loopw [3,4,5,6] (λe Y _ _ wr=>∃(p:Nat)(a:List Nat)(v:Bool),p<=s.size/\a.length<=p/\cB (CK s p a/\v=a.any DY)/\e=zA (a.length:Nat)/\Y=.bool v/\cB (gN wr w.1.size s p/\uB w wr)) (λ_ _ _ _ wr=>s.size-wr.iterPos w.1.size)
 case atStart=>
  exact⟨0,[],false,Oa _,Ia _,⟨CK.start s,rfl⟩,rfl,rfl,G.o⟩
 case round=>
  obtain⟨p,a,v,e,e,D,rfl,rfl,y⟩:=hrel;have e:cB (wr.iterPos w.1.size=p):=by show _=_;unfold World.iterPos;rw[y.o.1]
  clear G;by_cases j:p<s.size
  .have B:∀C,(Instr.next (.pointer (yB w.1.size)) true C).run prog wr=_:=λC=>aGc wr w.1.size s p C y.o.1 j;have M:=nX s p;have u:=tZ s p;have K:cB _:=λW h=>nt s p W j h;have x:cB _:=LD s p j;have H:cB _:=λE=>D.o.1.step j E;have F:cB _:=λE=>D.o.1.bad j E;have U:cB (∀r,(a++[r]).any DY=(v||DY r)):=λr=>by rw[Tf,<-D.o.2];simp
   have J:cB (gN (uN wr w.1.size s (p+(Utf8.decode s p).2)) w.1.size s (p+(Utf8.decode s p).2)/\uB w (uN wr w.1.size s (p+(Utf8.decode s p).2))):=⟨y.o.1.set _,UO y.o.2 (Ia _) _ _⟩
   obtain⟨R,Q⟩:∃R,(Utf8.decode s p).1=R:=⟨_,rfl⟩
   obtain⟨N,A⟩:∃N,(Utf8.decode s p).2=N:=⟨_,rfl⟩
   have G:cB (Utf8.decode s p=(R,N)):=by show _=_;rw[<-Q,<-A]
   rw[Q]at u B;rw[A]at u B M;have o:cB (∀W,uG W->dF 294 #[.string s,zA (p:Nat)] W (zA (N:Nat))):=by show ∀_,_;rw[<-A];exact K.o
   have n:cB ((R,N)≠(65533,1)->CK s (p+N) (a++[R])/\p+N<=s.size):=λh=>by
    have E:Utf8.decode s p≠(65533,1):=by rw[G.o];exact h
    have z:=H.o E;have h:=x.o E;rw[Q,A]at z;rw[A]at h;exact⟨z,h⟩
   have f:cB (gN (uN wr w.1.size s (p+N)) w.1.size s (p+N)/\uB w (uN wr w.1.size s (p+N))):=by show _/\_;rw[<-A];exact J.o
   clear K H x J Q A y;obtain⟨O,h⟩:=u;generalize uN wr w.1.size s (p+N)=P at *;have l:cB (∀W,(R,N)≠(65533,1)->uB P W->∃(T:Nat)(i:List Nat)(L:Bool),T<=s.size/\i.length<=T/\cB (CK s T i/\L=i.any DY)/\Value.int .i64 ((a.length:Int)+1)=zA (i.length:Nat)/\Value.bool (v||DY R)=.bool L/\cB (gN W w.1.size s T/\uB w W)):=λW g S=>
    ⟨p+N,a++[R],v||DY R,(n.o g).2,(n.o g).1.1,⟨(n.o g).1,(U.o R).symm⟩,by simp,rfl,f.o.1.z S,vB f.o.2 S⟩
   have m:cB (∀W,(R,N)≠(65533,1)->uB P W->s.size-W.iterPos w.1.size<s.size-wr.iterPos w.1.size):=λW g S=>by
    have z:W.iterPos w.1.size=p+N:=by unfold World.iterPos;rw[f.o.1.z S]
    rw[z,e.o];omega
   by_cases h:R=65533
   .have Z:((R:Int)==65533)=true:=by simp;omega
    by_cases z:N=1
    .have J:((N:Int)==1)=true:=by simp;omega
     have I:cB _:=F.o (by rw[G.o,h,z]);clear l m;go_wp2_with fail;apply lC (o.o _ (X.o.z f.o.2));intro w2 c;have d:cB _:=vB f.o.2 c;clear c;go_wp2;go_ret;exact⟨uF (by rw[I.o];rfl),d.o⟩
    have J:((N:Int)==1)=false:=by simp;omega
    have g:(R,N)≠(65533,1):=by simp;omega
    have b:cB ((R,N)≠(65533,1)):=g;clear g h z;cases v with
    |true=>
     go_wp2_with fail;apply lC (o.o _ (X.o.z f.o.2));intro w2 c;have d:cB _:=c;clear c;go_wp2;have t:=l.o _ b.o d.o;rw[Bool.true_or]at t;exact⟨t,m.o _ b.o d.o⟩
    |false=>
     go_wp2_with fail;apply lC (o.o _ (X.o.z f.o.2));intro w2 c;have d:cB _:=c;clear c;go_wp2_with fail;apply dR (CX R _ O);go_wp2;have t:=l.o _ b.o d.o;rw[Rf]at t;exact⟨t,m.o _ b.o d.o⟩
   have Z:((R:Int)==65533)=false:=by simp;omega
   have b:cB ((R,N)≠(65533,1)):=by show _≠_;simp;omega
   cases v with
   |true=>
    go_wp2;have t:=l.o _ b.o iD;rw[Bool.true_or]at t;exact⟨t,m.o _ b.o iD⟩
   |false=>
    go_wp2_with fail;apply dR (CX R _ O);go_wp2;have t:=l.o _ b.o iD;rw[Rf]at t;exact⟨t,m.o _ b.o iD⟩
  have B:∀C,(Instr.next (.pointer (yB w.1.size)) true C).run prog wr=_:=λC=>aGd wr w.1.size s p C y.o.1 j;have I:cB _:=D.o.1.done (by omega);have h:cB _:=D.o.2;have V:cB _:=y.o.2;clear D y e;by_cases q:128<a.length
  .have k:cB (qP s=43):=by show _=_;rw[I.o,UJ,Ma q]
   go_wp2;go_ret;exact⟨uF (by rw[k.o];rfl),V.o⟩
  cases v with
  |true=>
   have k:cB (qP s=44):=by show _=_;rw[I.o,UJ,Ja q,<-h.o];rfl
   go_wp2;go_ret;exact⟨uF (by rw[k.o];rfl),V.o⟩
  |false=>
   have k:cB (qP s=0):=by show _=_;rw[I.o,UJ,Ja q,<-h.o];rfl
   go_wp2;go_ret;exact⟨uF (by rw[k.o];rfl),V.o⟩
def qZ(x y:jB):Int:=if Op.bytesLess x.toList y.toList=true then -1 else if (x.toList==y.toList)=true then 0 else 1
def JY(s:jB)(w:World):rL 233 #[.string s] w (.bool false):=by
 go_enter func233,ntmps233;go_wp2;go_ret;exact⟨rfl,rfl⟩
def KW(x y:jB)(w:World):rL 184 #[.string x,.string y] w (zA (qZ x y)):=by
 by_cases b:Op.bytesLess x.toList y.toList=true
 .have E:cB (qZ x y = -1):=by show _=_;simp[qZ,b]
  go_enter func184,ntmps184;go_wp2_with(first|(go_at_call 233;apply lC (JY _ _);rintro c rfl));go_ret;exact⟨uF E.o.symm,rfl⟩
 have a:Op.bytesLess x.toList y.toList=false:=by simpa using b
 by_cases d:(x.toList==y.toList)=true
 .have E:cB (qZ x y=0):=by show _=_;simp[qZ,a,d]
  clear b;go_enter func184,ntmps184;go_wp2_with(first|(go_at_call 233;apply lC (JY _ _);rintro c rfl));go_ret;exact⟨uF E.o.symm,rfl⟩
 have f:(x.toList==y.toList)=false:=by simpa using d
 have E:cB (qZ x y=1):=by show _=_;simp only[qZ,a,f];rfl
 clear b d;go_enter func184,ntmps184;go_wp2_with(first|(go_at_call 233;apply lC (JY _ _);rintro c rfl));go_ret;exact⟨uF E.o.symm,rfl⟩
def aEb(w:World)(n:Int):(convert 22 9 (.slice (yB w.1.size) 1 1)).run prog (w.alloc (.cells #[.int .u8 n] 5))=.ok (.string ⟨#[UInt8.ofNat n.toNat]⟩) (w.alloc (.cells #[.int .u8 n] 5)):=by
 rw[run_convert_bytes_string _ 22 9 5 _ 1 1 underlying22 underlying5 underlying9,run_bytesToString _ _ 1 1 [n] (by simp[go_sem,loadCells])];rfl
def aLd(c:UInt8)(s:jB):((⟨#[c]⟩:jB)++s).data.toList=c::s.data.toList:=by
 simp
def dw(c:UInt8)(s:jB):((⟨#[c]⟩:jB)++s).size=s.size+1:=by
 rw[Ka];show 1+s.size=_;omega
def aBk(s:jB)(l:List UInt8)(h:s.data.toList=l):s=⟨l.toArray⟩:=by
 subst h;simp
def EA(a c:jB)(d:Int)(t:jB)(w:World):dF 183 #[.agg #[.string a,.string c,zA d],.string t] w (zA (qZ a t)):=by
 go_enter func183,ntmps183;go_wp2_with(first|(go_at_call 184;apply lC (KW _ _ _);rintro b rfl));go_ret;exact⟨rfl,zB⟩
def xL:∃i,prog.info? 104=some i/\i.zero=some (.agg #[.string ByteArray.empty,.string ByteArray.empty,zA 0])/\i.size=3/\i.bytes=40:=by
 have h:(prog.info? 104).map (λi=>(i.zero,i.size,i.bytes))=some (some (.agg #[.string ByteArray.empty,.string ByteArray.empty,zA 0]),3,40):=by kernel_rfl
 obtain⟨i,b,a⟩:=Wb.1 h;simp only[Dc]at a;exact⟨i,b,a⟩
def VP(a:mC)(g:Nat)(c:List iB)(w:World)(q:tB w a c)(A:c.length<=1048576):
 Calls prog 67 #[.slice a c.length g] w λe n=>∃v,e=.returned v/\n.ownsRow w.1.size 104 3 v c.length (flat c)/\uB w n:=by
 have p:=λn=>Lib.run_eql_slice_nil (P:=prog) n 33 104 a c.length g 0 0 underlying33;cases a with
 |none=>
  have E:c=[]:=by
   obtain h|⟨b,o,e,_⟩:=q;exact h;exact absurd e (by simp)
  subst E;have y:=λn=>Lib.run_eql_slice_nil (P:=prog) n 33 104 none 0 g 0 0 underlying33;clear p;go_enter func67,ntmps67;go_wp2;go_ret;exact⟨_,rfl,⟨rfl,Ca ⟨rfl,rfl⟩⟩,iD⟩
 |some x=>
  obtain⟨i,z,r,s,t⟩:=xL;have l:(w.alloc (.cells #[] 104)).ownsRow w.1.size 104 3 (.slice (yB w.1.size) 0 0) 0 []:=
   ⟨rfl,La ⟨w.1.size,0,#[],rfl,Ia _,heap_alloc_new _ _,Ia _,Oa _,rfl,rfl⟩⟩
  have D:cB ((w.alloc (.cells #[] 104)).ownsRow w.1.size 104 3 (.slice (yB w.1.size) 0 0) 0 []):=l;have d:∀j u,(flat c)[j]?=some u->(w.alloc (.cells #[] 104)).cell? (x.add j)=some u:=by
   rcases q.z (wF w (.cells #[] 104)) with rfl|⟨b,o,e,_,h⟩;intro j u h;simp[flat]at h;simp only[Qa]at e;subst e;exact aP h
  have C:cB _:=d;have B:cB _:=z;clear q l d z;go_enter func67,ntmps67;go_wp2_with(at_builtin;refine wpList_append_own_at _ rfl _ _ _ rfl w.1.size 104 i _ 3 40 underlying33 B.o r s t rfl (by omega) (.slice (yB w.1.size) 0 0) 0 [] rfl D.o x c.length g (flat c) rfl (wE c) C.o (sG c) (by simp[maxLen];omega) (by omega) (by simp) ?_;intro G H f m _ _);go_ret;simp only[Ya,Mb]at f;refine⟨G,rfl,f,zB.grown m (by simp) (λk F=>?_)⟩;simp[Value.ownBlock]at F;omega
def tL(a:mC)(j:Nat)(c:List iB)(w:World)(l:tB w a c)(f:c.length<=maxLen)(m:pC c<=1000000000):
 dF 66 #[.slice a c.length j] w (zA (pC c)):=by
 unfold maxLen at f;have n:cB (tB w a c):=l;clear l;go_enter func66,ntmps66;go_wp2;go_loopw [3,8,5] (λs i _ wr=>∃k:Nat,k<=c.length/\i=zA k/\s=zA (pC (c.take k))/\uB w wr) (λ_ i _ _=>c.length-(intOf i).toNat)
 case atStart=>exact⟨0,Oa _,rfl,rfl,iD⟩
 case round=>
  obtain⟨k,A,rfl,rfl,d⟩:=hrel;have q:=yI c k;by_cases g:k<c.length
  .obtain ⟨b,o,rfl,y,u,v,x⟩:=(n.o.z d).at g;have h:=bK c k g;have r:=yI c (k+1);have z:c[k].data.size<=1000000000:=by omega
   have p:cB _:=h;clear h;go_wp2;exact⟨⟨k+1,by omega,by go_num,by rw[p.o];go_num,d.alloc d.size _⟩,by simp[intOf];omega⟩
  go_wp2;go_ret;have e:c.take k=c:=Ra (by omega);exact⟨uF (by rw[e]),d⟩
def AE(a:mC)(l:Nat)(d:List iB)(c y r u:Int)(t:Bool)(w:World)(m:tB w a d)(g:d.length<=maxLen)(n:pC d<=1000000000):
 dF 97 #[.agg #[.slice a d.length l,zA c,zA y,zA r,zA u,.bool t]] w (zA (pC d)):=by
 unfold maxLen at g;have p:cB (tB w a d):=m;clear m;go_enter func97,ntmps97;go_wp2;go_loopw [3,9,5] (λs i _ wr=>∃k:Nat,k<=d.length/\i=zA k/\s=zA (pC (d.take k))/\uB w wr) (λ_ i _ _=>d.length-(intOf i).toNat)
 case atStart=>exact⟨0,Oa _,rfl,rfl,iD.alloc (Ia _) _⟩
 case round=>
  obtain⟨k,F,rfl,rfl,f⟩:=hrel;have v:=yI d k;by_cases h:k<d.length
  .obtain ⟨b,o,rfl,D,A,B,C⟩:=(p.o.z f).at h;have j:=bK d k h;have x:=yI d (k+1);have E:d[k].data.size<=1000000000:=by omega
   have q:cB _:=j;clear j;go_wp2;exact⟨⟨k+1,by omega,by go_num,by rw[q.o];go_num,f.alloc f.size _⟩,by simp[intOf];omega⟩
  go_wp2;go_ret;have e:d.take k=d:=Ra (by omega);exact⟨uF (by rw[e]),f⟩
def rZ(a x:Nat):Nat:=if (a+x) % 2=1 then(a / 2) ^^^ 2197175160 else a / 2
def sQ(a b:Nat):Nat->Nat
 |0=>a
 |k+1=>rZ (sQ a b k) (b / 2 ^ k)
def GB(a:Nat)(c:UInt8):Nat:=sQ a c.toNat 8
def fy(l:List UInt8):Nat:=l.foldl GB 4294967295
def cJ(s:jB):Nat:=4294967295-fy s.data.toList
def yw{a x:Nat}(h:a<4294967296):rZ a x<4294967296:=by
 unfold rZ;split;exact Qd (n:=32) (by omega) (by omega);omega
def DX{a b:Nat}(h:a<4294967296):∀k,sQ a b k<4294967296
 |0=>h
 |k+1=>yw (DX h k)
def aIt(l:List UInt8):fy l<4294967296:=by
 have a:∀(l:List UInt8)(r:Nat),r<4294967296->l.foldl GB r<4294967296:=λl=>by
  induction l with
  |nil=>exact λr h=>h
  |cons c l b=>exact λr h=>b _ (DX h 8)
 exact a l _ (by omega)
def VT(l:List UInt8)(c:UInt8):fy (l++[c])=GB (fy l) c:=by simp[fy]
def ZQ(s:jB):cJ s<4294967296:=by unfold cJ;omega
def aLm(a b:Nat)(c:a<4611686018427387904)(d:b<4611686018427387904):bits .xor .i64 (a:Int) (b:Int)=((a ^^^ b:Nat):Int):=by
 have e:a ^^^ b<2 ^ 62:=Qd (by omega) (by omega);show IntKind.i64.wrap ((BitVec.ofInt 64 (a:Int) ^^^ BitVec.ofInt 64 (b:Int)).toNat:Int)=_;rw[Jg,Nc,Nc,Hc,Hc,Ic (by omega),Ic (by omega)];simp only[IntKind.wrap,IntKind.bits,IntKind.signed];simp;omega
def lW:∃i,prog.info? 9=some i/\i.zero=some (.string ByteArray.empty)/\i.size=1/\i.bytes=16:=by
 have h:(prog.info? 9).map (λi=>(i.zero,i.size,i.bytes))=some (some (.string ByteArray.empty),1,16):=by kernel_rfl
 obtain⟨i,b,a⟩:=Wb.1 h;simp only[Dc]at a;exact⟨i,b,a.1,a.2.1,a.2.2⟩
def bH{w:World}{B:Nat}{e:TypeId}{g i:Nat}{a:List jB}(h:w.ownsRow B e 1 (.slice (yB g) a.length i) a.length (a.map Value.string)):
 a.length<=i/\g<w.1.size/\∀(j:Nat) x,a[j]?=some x->w.cell? (dB g (0+j))=some (.string x):=by
 obtain⟨c,_⟩|⟨p,f,d,c,q,k,l,_,_,n⟩:=h.2;simp at c;simp only[Value.slice.injEq,Qa,Addr.mk.injEq,Cc]at c;obtain⟨rfl,_,rfl⟩:=c;refine⟨l,aB k,λj x o=>?_⟩;rw[cell_of_row w g _ d _ _ k,Ya,<-Yd];have b:(a.map Value.string)[j]?=some (.string x):=by rw[Se,o];rfl
 rw[<-n]at b;have m:=(Pb.1 b).1;rw[Hb]at m;rw[Jb (by omega)]at b;exact b
def MQ(s:jB)(w:World)(u:s.size<=maxLen):
 rL 172 #[.string s] w (zA (cJ s:Nat)):=by
 unfold maxLen at u;go_enter func172,ntmps172;go_wp2;go_loop [3,4,5,6,7,8] (λr i _ _ _ _=>∃(j R:Nat),j<=s.size/\i=zA j/\r=zA R/\cB (R=fy (s.data.toList.take j))) (λ_ i _ _ _ _=>s.size-(intOf i).toNat)
 case atStart=>exact⟨0,4294967295,Oa _,rfl,rfl,rfl⟩
 case round=>
  obtain⟨j,R,A,rfl,rfl,f⟩:=hrel;have b:R<4294967296:=by rw[f.o];exact aIt _
  by_cases g:j<s.size
  .have z:s[j].toNat<256:=s[j].toNat_lt;go_wp2;go_loop [3,5,6,7,8] (λr k _ _ _=>∃(m S:Nat),m<=8/\k=zA m/\r=zA S/\cB (S=sQ R s[j].toNat m)) (λ_ k _ _ _=>8-(intOf k).toNat)
   case atStart=>exact⟨0,R,by omega,rfl,rfl,rfl⟩
   case round=>
    obtain⟨m,S,B,rfl,rfl,c⟩:=hrel;have h:S<4294967296:=by rw[c.o];exact DX b _
    by_cases p:m<8
    .go_wp2;go_loop [6,7] (λx q=>∃(t X:Nat),t<=m/\q=zA t/\x=zA X/\cB (X=s[j].toNat / 2 ^ t)) (λ_ q=>m-(intOf q).toNat)
     case atStart=>exact⟨0,s[j].toNat,by omega,rfl,rfl,by show _=_;simp⟩
     case round=>
      obtain⟨t,X,C,rfl,rfl,d⟩:=hrel;have n:X<256:=by
       have:X<=s[j].toNat:=by rw[d.o];exact Nat.div_le_self _ _
       omega
      by_cases v:t<m
      .go_wp2;exact⟨⟨t+1,X / 2,by omega,by go_num,by go_num,by show _=_;rw[d.o,Fg,Od]⟩,by simp[intOf];omega⟩
      have e:t=m:=by omega
      subst e;by_cases a:(S+X) % 2=1
      .go_wp2;have o:bits BinOp.xor IntKind.i64 ((S:Int) / 2) 2197175160=(((S / 2) ^^^ 2197175160:Nat):Int):=aLm (S / 2) 2197175160 (by omega) (by omega);rw[o];exact⟨⟨t+1,_,by omega,by go_num,rfl,by show _=_;rw[sQ,rZ,<-c.o,<-d.o,Ma a]⟩,by simp[intOf];omega⟩
      go_wp2;exact⟨⟨t+1,S / 2,by omega,by go_num,by go_num,by show _=_;rw[sQ,rZ,<-c.o,<-d.o,Ja a]⟩,by simp[intOf];omega⟩
    go_wp2;have e:m=8:=by omega
    subst e;exact⟨⟨j+1,S,by omega,by go_num,rfl,by show _=_;rw[zW s j g,VT,<-f.o,GB,c.o]⟩,by simp[intOf];omega⟩
  go_wp2;go_ret;refine⟨uF ?_,rfl⟩;rw[cJ,<-Ra (l:=s.data.toList) (i:=j) (by simp;omega),<-f.o];omega
def UC(w:World)(B P:Nat)(a:mC)(n:Nat):Prop:=n=0\/∃b o,a=some (dB b o)/\b≠B/\b<P/\∀i,i<n->∃v:Nat,v<256/\w.cell? (dB b (o+i))=some (.int .u8 (v:Nat))
def UC.but{w f:World}{B P n:Nat}{a:mC}(h:UC w B P a n)(m:P<=w.1.size)(g:qD B w f):UC f B P a n:=by
 obtain h|⟨b,o,e,c,d,h⟩:=h;exact Ca h;exact La ⟨b,o,e,c,d,λi k=>by
  obtain⟨v,l,j⟩:=h i k;exact⟨v,l,by rw[World.cell?_of_block (g.block b (by omega) c)];exact j⟩⟩
def UC.below{w f:World}{B P n:Nat}{a:mC}(h:UC w B P a n)(g:Below P w f):UC f B P a n:=by
 obtain h|⟨b,o,e,d,c,h⟩:=h;exact Ca h;exact La ⟨b,o,e,d,c,λi k=>by
  obtain⟨v,l,j⟩:=h i k;exact⟨v,l,by rw[World.cell?_of_block (g.block b c)];exact j⟩⟩
def qD.z{B:Nat}{w b a:World}(h:qD B w b)(c:uB b a):qD B w a:=h.trans (qD.of c)
section
open Go.ChangeShapes Go.WideShapes Go.ChangeAt Go.Deep
def aDw:prog.cellsOf 5=1:=by kernel_rfl
def aKh{H:Type}{m:TypeId×Value->H}{W:World}{g:Nat}{v:Value}{x:DataW H×List MemPlace}(h:DataW.trod m prog W 0 (λ_=>true) true g 22 [v]=some x):
 ∃(a:mC)(n d:Nat),v=.slice a n d/\n<=maxLen/\UC W W.1.size W.1.size a n:=by
 rcases open_ints underlying22 underlying5 aDw h with⟨p,_⟩|⟨a,h,d,w,p,_,z,A,u,_,c,r⟩;exact ⟨none,0,0,by simpa using p,Oa _,Ca rfl⟩;simp only[Td]at u;refine⟨some a,h,d,by simpa using p,by omega,?_⟩;by_cases s:h=0
 .exact Ca s
 obtain ⟨b,o,l⟩:=a;have f:l=none:=by simpa[Addr.add]using World.cell?_spot (c 0 (by omega))
 subst f;have e:b<W.1.size:=by
  have j:=c 0 (by omega);rcases Gc b W.1.size with e|q;exact e;rw[Addr.add_lit]at j;simp[World.cell?,Mc q]at j
 refine La ⟨b,o,rfl,by omega,e,λi y=>?_⟩;have k:=c i (by omega);rw[Addr.add_lit,List.getD_eq_getElem?_getD]at k;have t:=range_u8 r i;refine⟨(w[i]?.getD 0).toNat,by omega,?_⟩;rw[Int.toNat_of_nonneg t.1];exact k
end
