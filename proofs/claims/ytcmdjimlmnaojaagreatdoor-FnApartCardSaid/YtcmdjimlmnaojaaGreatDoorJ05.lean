import Derived.WalkLawsBesides
import Derived.WalkSpells
import Derived.Test.YtcmdjimlmnaojaaGreatDoorJ01
import Derived.Deep.AppendLies
import Derived.Lib.RuneCountTail
import Derived.Test.YtcmdjimlmnaojaaGreatDoorJ02
import Derived.Lib.LazyBuf
import Derived.ProofKit
import Derived.OpenShut
import Derived.Deep.Strs
set_option maxRecDepth 100000
set_option maxHeartbeats 2000000
set_option linter.defProp false
namespace Go.Proofs.YtcmdjimlmnaojaaGreatDoor
open Go.RowKit Tryz
def dB{p:Prop}(h:p):cB p:=h
structure iB where
 N:pB
 data:pB
 Y:Int
def DN(w:World)(b o:Nat)(a:List iB):Prop:=
 ∀i(h:i<a.length),w.cell? ⟨b,o+i*3,none⟩=some (.string a[i].N)/\
  w.cell? ⟨b,o+i*3+1,none⟩=some (.string a[i].data)/\w.cell? ⟨b,o+i*3+2,none⟩=some (.int .i64 a[i].Y)
def uF{k:IntKind}{a b:Int}(h:a=b):Ending.returned (.int k a)=.returned (.int k b):=by rw[h]
def oB{a b:Bool}(h:a=b):Ending.returned (.bool a)=.returned (.bool b):=by rw[h]
structure kC(w:World) where
 w':World
 h:Below w.1.size w w'
theorem kC.there(w:World):Nonempty (kC w):=⟨⟨w,gD⟩⟩
def kC.cell{w:World}(x:kC w){b o:Nat}{v:Value}(h:w.cell? ⟨b,o,none⟩=some v):x.w'.cell? ⟨b,o,none⟩=some v:=by
 have d:b<w.1.size:=by
  rcases Gc b w.1.size with c|a;exact c;simp[World.cell?,Mc a]at h
 rw[<-h];exact x.h.cell d
def kC.cells{w:World}{b o:Nat}{v:Value}(h:w.cell? ⟨b,o,none⟩=some v):∀x:kC w,x.w'.cell? ⟨b,o,none⟩=some v:=λx=>x.cell h
def zB{P:Program}{id:Nat}{Q:Exit->Act->World->Prop}{a:Act}{w:World}{l:List Oper}(e:P.follows .mixedOrders=true)(d:Region.lexB .any l.toArray=true)
(h:wpQuiet P l.toArray (λb=>∃x:kC w,b=x.w') (λc=>∀b,(∃x:kC w,b=x.w')->Q .normal c b) l a):(Code.region id l.toArray true).wp P Q a w:=
 wp_region_quiet (C:=λb=>∃x:kC w,b=x.w') e d ⟨⟨w.drew,gD.drew⟩,rfl⟩ (by simpa using h)
def oC{P:Program}{f:FuncId}{args:Array Value}{w:World}{x:kC w}{v:Value}
(h:Calls P f args x.w' λe a=>e=.returned v/\Below x.w'.1.size x.w' a):Calls P f args x.w' λe a=>e=.returned v/\∃y:kC w,a=y.w':=
 h.mono λ_ a ⟨c,b⟩=>⟨c,⟨a,x.h.trans (b.mono x.h.size)⟩,rfl⟩
def bD{P:Program}{f:FuncId}{args:Array Value}{w:World}{x:kC w}{v:Value}
(h:Calls P f args x.w' λe a=>e=.returned v/\a=x.w'):Calls P f args x.w' λe a=>e=.returned v/\∃y:kC w,a=y.w':=
 h.mono λ_ _ ⟨c,b⟩=>⟨c,x,b⟩
def uB(w:World)(a:nC)(c:List iB):Prop:=c=[]\/∃b o,a=some ⟨b,o,none⟩/\b<w.1.size/\DN w b o c
def uB.z{w f:World}{a:nC}{e:List iB}(h:uB w a e)(d:Below w.1.size w f):uB f a e:=by
 obtain h|⟨b,o,rfl,c,h⟩:=h;exact Ca h;refine La ⟨b,o,rfl,Bb c d.size,λi l=>?_⟩;obtain⟨g,j,k⟩:=h i l;exact⟨by rw[<-g];exact d.cell c,by rw[<-j];exact d.cell c,by rw[<-k];exact d.cell c⟩
def uB.at{w:World}{a:nC}{c:List iB}(h:uB w a c){i:Nat}(e:i<c.length):
 ∃b o,a=some ⟨b,o,none⟩/\b<w.1.size/\w.cell? ⟨b,o+i*3,none⟩=some (.string c[i].N)/\
  w.cell? ⟨b,o+i*3+1,none⟩=some (.string c[i].data)/\w.cell? ⟨b,o+i*3+2,none⟩=some (.int .i64 c[i].Y):=by
 obtain rfl|⟨b,o,rfl,d,h⟩:=h;exact absurd e (by simp);exact ⟨b,o,rfl,d,h i e⟩
def uB.setCell{w:World}{g o:Nat}{c:List iB}(h:uB w (some ⟨g,o,none⟩) c){p:Addr}(k:p.block≠g)(v:Value):uB (w.setCell p v) (some ⟨g,o,none⟩) c:=by
 obtain h|⟨b,l,e,a,h⟩:=h;exact Ca h;simp only[Qa,Addr.mk.injEq,Cc]at e;obtain⟨rfl,rfl⟩:=e;have f:∀j,(w.setCell p v).cell? ⟨g,j,none⟩=w.cell? ⟨g,j,none⟩:=λj=>World.cell?_of_block (Below.heap_setCell w p v g (Ne.symm k));refine La ⟨g,o,rfl,by simpa[World.setCell]using a,λi d=>?_⟩;simp only[f];exact h i d
def bulk:List iB->Nat
 |[]=>0
 |f::r=>f.N.size+f.data.size+bulk r
def pC:List iB->Nat
 |[]=>0
 |f::r=>f.data.size+pC r
def pQ(a b:List iB):pC (a++b)=pC a+pC b:=by induction a<;>grind [pC]
def kI(a:List iB)(k:Nat)(h:k<a.length):pC (a.take (k+1))=pC (a.take k)+a[k].data.size:=by
 rw[Pa h,pQ];simp[pC]
def xH(a:List iB)(k:Nat):pC (a.take k)<=pC a:=by
 have:=pQ (a.take k) (a.drop k);rw[Za]at this;omega
def iP(a:List iB):Prop:=∀i(h:i<a.length),a[i].N.size<=maxLen/\a[i].data.size<=maxLen
def gP(w:World)(b:Nat)(a c d e f g:Value):Prop:=
 w.cell? ⟨b,0,none⟩=some a/\w.cell? ⟨b,1,none⟩=some c/\w.cell? ⟨b,2,none⟩=some d/\w.cell? ⟨b,3,none⟩=some e/\w.cell? ⟨b,4,none⟩=some f/\w.cell? ⟨b,5,none⟩=some g
def gP.new(w:World)(a b c d e f:Value)(t:TypeId):gP (w.alloc (.cells #[a,b,c,d,e,f] t)) w.1.size a b c d e f:=by
 simp[gP,go_sem]
def gP.lt{w:World}{b:Nat}{d e f g i j:Value}(h:gP w b d e f g i j):b<w.1.size:=by
 rcases Gc b w.1.size with c|a;exact c;have:=h.1;simp[World.cell?,Mc a]at this
def gP.z{w k:World}{b:Nat}{d e f g i j:Value}(h:gP w b d e f g i j)(a:Below w.1.size w k):gP k b d e f g i j:=by
 have c:=h.lt;obtain⟨l,m,n,o,p,q⟩:=h;exact⟨(a.cell c).trans l,(a.cell c).trans m,(a.cell c).trans n,(a.cell c).trans o,(a.cell c).trans p,(a.cell c).trans q⟩
def aC{a b c:World}(h:Below a.1.size a b)(k:Below b.1.size b c):Below a.1.size a c:=h.trans (k.mono h.size)
def zF(w:World)(o:Obj):Below w.1.size w (w.alloc o):=gD.alloc (Ia _) _
structure sD(g:Nat)(w w':World):Prop where
 os:w'.os=w.os
 tape:w'.tape=w.tape
 output:w'.output=w.output
 size:w.1.size≤w'.1.size
 block:∀k,k<w.1.size→k≠g→w'.heap[k]?=w.heap[k]?
def sD.refl(g:Nat)(w:World):sD g w w:=⟨rfl,rfl,rfl,Ia _,λ_ _ _=>rfl⟩
def sD.trans{g:Nat}{a b c:World}(h:sD g a b)(k:sD g b c):sD g a c:=
 ⟨k.os.trans h.os,k.tape.trans h.tape,k.output.trans h.output,Ua h.size k.size,λi e d=>(k.block i (Bb e h.size) d).trans (h.block i e d)⟩
def sD.of{g:Nat}{w a:World}(h:Below w.1.size w a):sD g w a:=⟨h.os,h.tape,h.output,h.size,λk b _=>h.block k b⟩
def sD.setCell{g:Nat}{a w:World}(h:sD g a w)(o:Nat)(v:Value):sD g a (w.setCell ⟨g,o,none⟩ v):=
 h.trans ⟨rfl,rfl,rfl,by simp[World.setCell],λk _ b=>Below.heap_setCell _ _ _ _ b⟩
def sD.below{g B:Nat}{w a:World}(h:sD g w a)(b:B<=g)(d:B<=w.1.size):Below B w a:=
 ⟨h.os,h.tape,h.output,h.size,λk c=>h.block k (by omega) (by omega)⟩
def uB.but{g b o:Nat}{w c:World}{d:List iB}(h:uB w (some ⟨b,o,none⟩) d)(f:sD g w c)(k:b≠g):uB c (some ⟨b,o,none⟩) d:=by
 obtain h|⟨n,p,e,a,h⟩:=h;exact Ca h;simp only[Qa,Addr.mk.injEq,Cc]at e;obtain⟨rfl,rfl⟩:=e;have m:∀j,c.cell? ⟨b,j,none⟩=w.cell? ⟨b,j,none⟩:=λj=>World.cell?_of_block (f.block b a k);exact La ⟨b,o,rfl,Bb a f.size,λi l=>by simp only[m];exact h i l⟩
def eJ(w:World)(B:Nat)(a:nC)(c:List iB):Prop:=
 c=[]\/∃g o b t,a=some ⟨g,o,none⟩/\B<=g/\w.heap[g]?=some (.cells b t (0,0))/\DN w g o c
def bB{w:World}{g:Nat}{x:Obj}(h:w.heap[g]?=some x):g<w.1.size:=by grind
def eJ.files{w:World}{B:Nat}{a:nC}{b:List iB}(h:eJ w B a b):uB w a b:=by grind [eJ,uB]
def eJ.z{w d:World}{B:Nat}{a:nC}{e:List iB}(h:eJ w B a e)(f:Below w.1.size w d):eJ d B a e:=by
 obtain h|⟨g,o,c,t,rfl,l,k,h⟩:=h;exact Ca h;have b:=bB k;have n:∀j,d.cell? ⟨g,j,none⟩=w.cell? ⟨g,j,none⟩:=λj=>World.cell?_of_block (f.block g b);exact La ⟨g,o,c,t,rfl,l,(f.block g b).trans k,λi m=>by simp only[n];exact h i m⟩
def eJ.mono{w:World}{B B':Nat}{a:nC}{b:List iB}(h:eJ w B a b)(c:B'<=B):eJ w B' a b:=by grind [eJ]
def jB(w:World)(g:Nat)(a:Array Value)(t:TypeId):Prop:=w.heap[g]?=some (.cells a t (0,0))
def jB.set{w:World}{g:Nat}{a:Array Value}{t:TypeId}(h:jB w g a t)(j:Nat)(v:Value):jB (w.setCell ⟨g,j,none⟩ v) g (a.setIfInBounds j v) t:=heap_setCell_same w g j a t v h
def jB.z{w b:World}{g:Nat}{a:Array Value}{t:TypeId}(h:jB w g a t)(c:Below w.1.size w b):jB b g a t:=(c.block g (bB h)).trans h
def jB.cell{w:World}{g:Nat}{a:Array Value}{t:TypeId}(h:jB w g a t)(j:Nat):w.cell? ⟨g,j,none⟩=a[j]?:=cell_of_row w g j a t _ h
def jB.free{w:World}{g:Nat}{a:Array Value}{t:TypeId}(h:jB w g a t)(j:Nat):w.frozen? ⟨g,j,none⟩=false:=frozen_of_row w g j a t h
def jB.c2{w:World}{g:Nat}{a b:Value}{t:TypeId}(h:jB w g #[a,b] t):w.cell? ⟨g,0,none⟩=some a/\w.cell? ⟨g,1,none⟩=some b:=⟨h.cell 0,h.cell 1⟩
def jB.c3{w:World}{g:Nat}{a b c:Value}{t:TypeId}(h:jB w g #[a,b,c] t):w.cell? ⟨g,0,none⟩=some a/\w.cell? ⟨g,1,none⟩=some b/\w.cell? ⟨g,2,none⟩=some c:=⟨h.cell 0,h.cell 1,h.cell 2⟩
def jB.c4{w:World}{g:Nat}{a b c d:Value}{t:TypeId}(h:jB w g #[a,b,c,d] t):w.cell? ⟨g,0,none⟩=some a/\w.cell? ⟨g,1,none⟩=some b/\w.cell? ⟨g,2,none⟩=some c/\w.cell? ⟨g,3,none⟩=some d:=⟨h.cell 0,h.cell 1,h.cell 2,h.cell 3⟩
def jB.c5{w:World}{g:Nat}{a b c d e:Value}{t:TypeId}(h:jB w g #[a,b,c,d,e] t):w.cell? ⟨g,0,none⟩=some a/\w.cell? ⟨g,1,none⟩=some b/\w.cell? ⟨g,2,none⟩=some c/\w.cell? ⟨g,3,none⟩=some d/\w.cell? ⟨g,4,none⟩=some e:=⟨h.cell 0,h.cell 1,h.cell 2,h.cell 3,h.cell 4⟩
def jB.c6{w:World}{g:Nat}{a b c d e f:Value}{t:TypeId}(h:jB w g #[a,b,c,d,e,f] t):w.cell? ⟨g,0,none⟩=some a/\w.cell? ⟨g,1,none⟩=some b/\w.cell? ⟨g,2,none⟩=some c/\w.cell? ⟨g,3,none⟩=some d/\w.cell? ⟨g,4,none⟩=some e/\w.cell? ⟨g,5,none⟩=some f:=⟨h.cell 0,h.cell 1,h.cell 2,h.cell 3,h.cell 4,h.cell 5⟩
def jB.there{w:World}{g:Nat}{a:Array Value}{t:TypeId}(h:jB w g a t){j:Nat}(b:j<a.size):∃v,w.cell? ⟨g,j,none⟩=some v:=⟨a[j],by rw[h.cell];exact Qc b⟩
def cI(a:Array Value)(o j:Nat)(f:iB):Prop:=a[o+j*3]?=some (.string f.N)/\a[o+j*3+1]?=some (.string f.data)/\a[o+j*3+2]?=some (.int .i64 f.Y)
def cI.set{a:Array Value}{o j:Nat}{f:iB}(h:cI a o j f){p:Nat}(b:p<o+j*3\/o+j*3+2<p)(v:Value):cI (a.setIfInBounds p v) o j f:=by grind [cI]
def kX{w:World}{g o:Nat}{a:Array Value}{t:TypeId}{b:List iB}(h:jB w g a t)(d:∀j(c:j<b.length),cI a o j b[j]):DN w g o b:=by
 intro j c;simp only[h.cell];exact d j c
def IY{P:Program}{w:World}(base:Nat)(t p e:TypeId)(i:TypeInfo)(b:Nat)(k:P.underlying t=some (.slice e))(h:P.info? e=some i)
(v:Value)(n:Nat)(q:List Value)(a:w.ownsRow base e b v n q)(c:nC)(l:Nat):
 (Builtin.append_ #[t,t] p #[v,.slice c 0 l]).run P w=.ok v w:=by
 have j:∀f:Addr,(loadCells f 0).run P w=.ok #[] w:=λf=>by
  simp[loadCells,loadCellsFrom]
 obtain⟨rfl,rfl⟩|⟨g,m,o,rfl,_,_,d,_⟩:=a.2
 .cases c<;>simp[Builtin.append_,run_underlying k,sizeOf,typeInfo,h,Builtin.lenOf,Builtin.firstCells,j]
 cases c<;>simp[Builtin.append_,run_underlying k,sizeOf,typeInfo,h,Builtin.lenOf,Builtin.firstCells,d,storeCells,j]
def uH{w:World}{B:Nat}{e:TypeId}{a:Nat}{v:Value}{n:Nat}{i:List Value}(h:w.ownsRow B e a v n i):∀g,v.ownBlock=some g->B<=g:=by
 intro g b;obtain⟨rfl,_⟩|⟨j,c,d,rfl,f,_⟩:=h.2;simp[Value.ownBlock]at b;simp[Value.ownBlock]at b;subst b;exact f
def jS(w:World)(b:nC)(m:Nat)(a:List Value):Prop:=m=0\/∃A,b=some A/\∀j u,a[j]?=some u->w.cell? (A.add j)=some u
theorem MZ(b o j:Nat):((eB b o):Addr).add j=(eB b (o+j)):=by unfold Addr.add;split<;>simp_all
def JN(W:World)(x:Obj):xB W (W.alloc x).drew:=bC.drew
def JO(W:World)(x y:Obj):xB W ((W.alloc x).alloc y).drew:=(aC bC bC).drew
def dJ{P:Program}(w:World){ops:Array Oper}{o:Oper}{a:Act}{K:Act->World->Prop}{Q:Exit->Act->World->Prop}{E:Prop}(G:o.guard=none)(s x:Operand)(t:TypeId)
(Z:o.op=.call { callee:=.builtin .append,args:=#[s,x],argTypes:=#[t,t] })
(base:Nat)(e:TypeId)(i:TypeInfo)(z:Value)(b j:Nat)(W:P.underlying t=some (.slice e))(Y:P.info? e=some i)(hz:i.zero=some z)
(B:i.size=b)(S:i.bytes=j)(U:z.cells.size=b)(T:0<b)
(v n O:Nat)(M:List Value)(hs:a.eval s=.slice (vB v) n O)(d:w.ownsRow base e b (.slice (vB v) n O) n M)
(N:nC)(m c:Nat)(f:List Value)(hx:a.eval x=.slice N m c)(hl:f.length=m*b)(J:jS w N m f)(h1:∀u∈f,u.oneCell'=true)
(R:n+m<=maxLen)(r:(n+m)*j<=140737488355328)(l:base<=w.1.size)
(h:∀g p C,C.ownsRow base e b (.slice (vB g) (n+m) p) (n+m) (M++f)->Below base w C->(∀k,k<w.1.size->k≠v->C.heap[k]?=w.heap[k]?)->base<=g->(g=v\/g=w.1.size)->g<C.1.size->K (a.put o.dst (.slice (vB g) (n+m) p)) C):
 if Region.wanted o (yielded ops a.tmps)=true then Oper.wp P o a w K Q else E:=by
 have F:base<=v:=uH d v rfl;rcases Nat.eq_zero_or_pos m with rfl|hm
 .have hw:Region.wanted o (yielded ops a.tmps)=true:=by simp[Region.wanted,G]
  rw[Ma hw];have H:f=[]:=Nb.1 (by omega);subst H;have I:=IY (P:=P) (w:=w) base t o.type e i b W Y _ n M d N c;have o:=h v O w (by rw[Cd];exact d) gD (λ_ _ _=>rfl) F (Ca rfl) (by
   obtain⟨L,_⟩|⟨O,V,O,L,_,O,_⟩:=d.2;simp at L;simp only[Value.slice.injEq,Qa,Addr.mk.injEq,Cc]at L;rw[L.1];exact bB O)
  unfold Oper.wp execOp;simp only[Z,resolve,invoke,builtin,Sem.run_bind,Sem.run_pure,Result.andThen_ok,Hg,Fc,Ag,hs,hx,I];exact o
 obtain o|⟨A,rfl,y⟩:=J;omega;refine step_append_lies w G s x t Z base e i z b j W Y hz B S U T _ n M hs d A m c f hx hl y h1 hm R r l w.1.size rfl λg p C m W D o=>?_;have X:g=v\/g=w.1.size:=by
  obtain D|D:=D;left;simpa[Value.ownBlock]using D.symm;exact La D
 refine h g p C m ((Below.refl base w).grown W l (λq h=>uH d q h)) (λk h m=>W.block k h (by simp[Value.ownBlock];omega)) ?_ X o;obtain rfl|rfl:=X;exact F;exact l
def zJ(s:pB):Nat->Nat->Option (List Nat)
 |0,_=>some []
 |b+1,p=>if p<s.size then(if Utf8.decode s p=(65533,1) then none else(zJ s b (p+(Utf8.decode s p).2)).map ((Utf8.decode s p).1 :: ·)) else some []
def BS(r:Nat):Bool:=decide (r<32) ||(decide (127<=r) &&decide (r<=159))
def SA(l:List Nat):Nat:=if 128<l.length then 43 else if l.any BS=true then 44 else 0
def fP(s:pB):Nat:=match zJ s s.size 0 with
 |none=>42
 |some l=>SA l
def AM(s:pB)(p:Nat)(a:List Nat):Prop:=a.length<=p/\∃b,s.size<=p+b/\zJ s s.size 0=(zJ s b p).map (a++·)
def AM.start(s:pB):AM s 0 []:=⟨Ia _,s.size,by omega,by simp⟩
def fW(s:pB)(p:Nat):1<=(Utf8.decode s p).2:=by
 simp only[Utf8.decode];repeat' split
 all_goals simp_all
def AM.step{s:pB}{p:Nat}{a:List Nat}(h:AM s p a)(d:p<s.size)(c:Utf8.decode s p≠(65533,1)):AM s (p+(Utf8.decode s p).2) (a++[(Utf8.decode s p).1]):=by
 obtain⟨i,b,g,e⟩:=h;have f:=fW s p;cases b with
 |zero=>omega
 |succ b=>
  refine⟨by simp;omega,b,by omega,?_⟩;rw[e,zJ,Ma d,Ja c];cases zJ s b (p+(Utf8.decode s p).2)<;>simp
def AM.bad{s:pB}{p:Nat}{a:List Nat}(h:AM s p a)(d:p<s.size)(c:Utf8.decode s p=(65533,1)):fP s=42:=by
 obtain⟨g,b,f,e⟩:=h;cases b with
 |zero=>omega
 |succ b=>
  rw[zJ,Ma d,Ma c]at e;rw[fP,e];rfl
def AM.done{s:pB}{p:Nat}{a:List Nat}(h:AM s p a)(f:s.size<=p):fP s=SA a:=by
 obtain⟨d,b,c,e⟩:=h;have:zJ s b p=some []:=by
  cases b with
  |zero=>rfl
  |succ b=>rw[zJ,Ja (by omega)]
 rw[this]at e;rw[fP,e];simp
def UJ(s:pB)(p:Nat):Utf8.decode (s.extract p s.size) 0=Utf8.decode s p:=Lib.tail_decode s p 0
def KI(t:pB):Nat×Nat:=if Utf8.decode t 0=(65533,1) then(0,0) else Utf8.decode t 0
def zC(t:pB)(k:Nat):Nat:=(t.get! k).toNat
def bV(t:pB)(k:Nat)(h:k<t.size):t[k].toNat=zC t k:=by
 have:=get_at t k h;rw[Bg]at this;rw[zC,this]
def nY(a b c d:Nat)(e f g:Bool):Nat×Nat:=
 if a<128 then(a,1)
 else if (a / 32==6&&e)=true then(if 128<=a % 32*64+b % 64 then(a % 32*64+b % 64,2) else(65533,1))
 else if (a / 16==14&&e&&f)=true then(if (decide (2048<=a % 16*4096+b % 64*64+c % 64) &&Utf8.valid ((a % 16*4096+b % 64*64+c % 64:Nat):Int))=true then(a % 16*4096+b % 64*64+c % 64,3) else(65533,1))
 else if (a / 8==30&&e&&f&&g)=true then(if (decide (65536<=a % 8*262144+b % 64*4096+c % 64*64+d % 64) &&Utf8.valid ((a % 8*262144+b % 64*4096+c % 64*64+d % 64:Nat):Int))=true then(a % 8*262144+b % 64*4096+c % 64*64+d % 64,4) else(65533,1))
 else(65533,1)
def aBq(t:pB)(k:Nat):Bool:=decide (k<t.size) &&zC t k / 64==2
theorem mS(t:pB)(k:Nat):aBq t k=true ↔ k<t.size/\zC t k / 64=2:=by simp[aBq]
theorem nS(t:pB)(p:Nat):Utf8.decode t p=nY (zC t p) (zC t (p+1)) (zC t (p+2)) (zC t (p+3)) (aBq t (p+1)) (aBq t (p+2)) (aBq t (p+3)):=rfl
def aLs(v:Nat):Bool:=decide (v<=1114111/\¬(55296<=v/\v<=57343))
abbrev okR(v:Nat):Prop:=aLs v=true
def aLr{v:Nat}(h:v<=1114111/\¬(55296<=v/\v<=57343)):okR v:=Ac h
def ZC{v:Nat}(h:okR v):v<=1114111/\¬(55296<=v/\v<=57343):=Wd h
def WN(v:Nat):Utf8.valid (v:Int)=decide (okR v):=by
 unfold Utf8.valid okR aLs;rw[Qb];simp;omega
def cz{a b d e:Nat}{c f g:Bool}(h:a / 32=6):nY a b d e c f g=if c=true/\128<=a % 32*64+b % 64 then(a % 32*64+b % 64,2) else(65533,1):=by grind [nY]
def NT{a b c g:Nat}{d f i:Bool}(h:a / 16=14):
 nY a b c g d f i=if d=true/\f=true/\2048<=(a % 16*64+b % 64)*64+c % 64/\okR ((a % 16*64+b % 64)*64+c % 64) then((a % 16*64+b % 64)*64+c % 64,3) else(65533,1):=by
 have j:(a / 32==6)=false:=by simp;omega
 have k:(a / 8==30)=false:=by simp;omega
 have e:a % 16*4096+b % 64*64+c % 64=(a % 16*64+b % 64)*64+c % 64:=by omega
 unfold nY;rw[Ja (by omega),j,h,k,e,WN];cases d<;>cases f<;>simp[okR]
def UG{a b c d:Nat}{f g i:Bool}(h:a / 8=30):
 nY a b c d f g i=if f=true/\g=true/\i=true/\65536<=((a % 8*64+b % 64)*64+c % 64)*64+d % 64/\okR (((a % 8*64+b % 64)*64+c % 64)*64+d % 64) then(((a % 8*64+b % 64)*64+c % 64)*64+d % 64,4) else(65533,1):=by
 have j:(a / 32==6)=false:=by simp;omega
 have k:(a / 16==14)=false:=by simp;omega
 have e:a % 8*262144+b % 64*4096+c % 64*64+d % 64=((a % 8*64+b % 64)*64+c % 64)*64+d % 64:=by omega
 unfold nY;rw[Ja (by omega),j,k,h,e];simp only[WN];cases f<;>cases g<;>cases i<;>simp[okR]
theorem cy{a b c d:Nat}{e f g:Bool}(h:a<128):nY a b c d e f g=(a,1):=by unfold nY;rw[Ma h]
def UH{a b c d:Nat}{e f g:Bool}(h:128<=a)(i:a / 32≠6)(j:a / 16≠14)(k:a / 8≠30):nY a b c d e f g=(65533,1):=by grind [nY]
theorem UI{a e f g:Nat}{b c d:Bool}:nY a e f g b c d=(65533,1)\/((nY a e f g b c d).1<=1114111/\((nY a e f g b c d).2=1\/(nY a e f g b c d).2=2/\b=true\/(nY a e f g b c d).2=3/\c=true\/(nY a e f g b c d).2=4/\d=true)):=by
 by_cases l:a<128
 .rw[cy l];right;exact⟨by simp;omega,Ca rfl⟩
 by_cases i:a / 32=6
 .rw[cz i];split
  .rename_i h;right;exact⟨by simp;omega,La (Ca ⟨rfl,h.1⟩)⟩
  exact Ca rfl
 by_cases j:a / 16=14
 .rw[NT j];split
  .rename_i h;right;exact⟨(ZC h.2.2.2).1,La (La (Ca ⟨rfl,h.2.1⟩))⟩
  exact Ca rfl
 by_cases k:a / 8=30
 .rw[UG k];split
  .rename_i h;right;exact⟨(ZC h.2.2.2.2).1,La (La (La ⟨rfl,h.2.2.1⟩))⟩
  exact Ca rfl
 rw[UH (by omega) i j k];exact Ca rfl
def JU(s:pB)(p:Nat)(a:p<s.size)(h:Utf8.decode s p≠(65533,1)):p+(Utf8.decode s p).2<=s.size:=by grind [nS,UI,mS]
def oY(s:pB)(p:Nat):(Utf8.decode s p).1<=1114111/\(Utf8.decode s p).2<=4:=by grind [nS,UI]
def aHl(t:pB)(h:zC t 0<128):KI t=(zC t 0,1):=by grind [zC,KI,nS,cy]
def og{t:pB}{C D:Prop}[Decidable C][Decidable D]{v n:Nat}(h:Utf8.decode t 0=if C then(v,n) else(65533,1))(b:n≠1)(a:C ↔ D):KI t=if D then(v,n) else(0,0):=by grind [KI]
def aHm(t:pB)(h:zC t 0 / 32=6):
 KI t=if 2<=t.size/\zC t 1 / 64=2/\128<=zC t 0 % 32*64+zC t 1 % 64 then(zC t 0 % 32*64+zC t 1 % 64,2) else(0,0):=by
 refine og ((nS t 0).trans (cz h)) (by omega) ?_;rw[Ya,mS];constructor;rintro ⟨⟨a,b⟩,c⟩;exact⟨a,b,c⟩;rintro ⟨a,b,c⟩;exact⟨⟨a,b⟩,c⟩
def xz(t:pB)(h:zC t 0 / 16=14):
 KI t=if 3<=t.size/\zC t 1 / 64=2/\zC t 2 / 64=2/\2048<=(zC t 0 % 16*64+zC t 1 % 64)*64+zC t 2 % 64/\okR ((zC t 0 % 16*64+zC t 1 % 64)*64+zC t 2 % 64) then((zC t 0 % 16*64+zC t 1 % 64)*64+zC t 2 % 64,3) else(0,0):=by
 refine og ((nS t 0).trans (NT h)) (by omega) ?_;rw[Ya,Ya,mS,mS];constructor;rintro ⟨⟨_,b⟩,⟨a,c⟩,d⟩;exact⟨a,b,c,d⟩;rintro ⟨a,b,c,d⟩;exact⟨⟨by omega,b⟩,⟨a,c⟩,d⟩
def aDh(t:pB)(h:zC t 0 / 8=30):
 KI t=if 4<=t.size/\zC t 1 / 64=2/\zC t 2 / 64=2/\zC t 3 / 64=2/\65536<=((zC t 0 % 8*64+zC t 1 % 64)*64+zC t 2 % 64)*64+zC t 3 % 64/\okR (((zC t 0 % 8*64+zC t 1 % 64)*64+zC t 2 % 64)*64+zC t 3 % 64) then(((zC t 0 % 8*64+zC t 1 % 64)*64+zC t 2 % 64)*64+zC t 3 % 64,4) else(0,0):=by
 refine og ((nS t 0).trans (UG h)) (by omega) ?_;rw[Ya,Ya,Ya,mS,mS,mS];constructor;rintro ⟨⟨_,b⟩,⟨_,c⟩,⟨a,d⟩,e⟩;exact⟨a,b,c,d,e⟩;rintro ⟨a,b,c,d,e⟩;exact⟨⟨by omega,b⟩,⟨by omega,c⟩,⟨a,d⟩,e⟩
def aDi(t:pB)(a:128<=zC t 0)(b:zC t 0 / 32≠6)(c:zC t 0 / 16≠14)(d:zC t 0 / 8≠30):KI t=(0,0):=by
 rw[KI,nS,UH a b c d,Ma rfl]
def aLe(s:pB)(p:Nat):KI (s.extract p s.size)=if Utf8.decode s p=(65533,1) then(0,0) else Utf8.decode s p:=by rw[KI,UJ]
def flat(a:List iB):List Value:=a.flatMap λf=>[.string f.N,.string f.data,aB f.Y]
def flat_append(a b:List iB):flat (a++b)=flat a++flat b:=by simp[flat]
def sY(f:iB):flat [f]=[.string f.N,.string f.data,aB f.Y]:=rfl
theorem yE(a:List iB):(flat a).length=a.length*3:=by
 induction a with
 |nil=>rfl
 |cons f r b=>simp[flat]at *;omega
def flat_get:∀(a:List iB)(j:Nat)(h:j<a.length),(flat a)[j*3]?=some (.string a[j].N)/\(flat a)[j*3+1]?=some (.string a[j].data)/\(flat a)[j*3+2]?=some (aB a[j].Y)
 |[],_,h=>absurd h (by simp)
 |f::r,0,_=>by simp[flat]
 |f::r,j+1,h=>by
  have i:=flat_get r j (by simpa using h);have e:flat (f::r)=[.string f.N,.string f.data,aB f.Y]++flat r:=rfl;rw[e];have c:(j+1)*3=3+j*3:=by omega
  have d:(j+1)*3+1=3+(j*3+1):=by omega
  have g:(j+1)*3+2=3+(j*3+2):=by omega
  have b:∀p,([.string f.N,.string f.data,aB f.Y]++flat r)[3+p]?=(flat r)[p]?:=λp=>by
   rw[Uc (by simp)];simp
  rw[g,d,c,b,b,b];exact i
def zG(b:List iB):∀u∈flat b,u.oneCell'=true:=by
 intro u a;simp only[flat,Ig,Lb,Ed,Bf]at a;obtain⟨f,_,rfl|rfl|rfl⟩:=a<;>rfl
def qH{w:World}{B:Nat}{e:TypeId}{v:Value}{c:List iB}(h:w.ownsRow B e 3 v c.length (flat c)):∃a b,v=.slice a c.length b/\eJ w B a c:=by
 obtain⟨rfl,o⟩|⟨g,b,d,rfl,q,k,_,_,_,s⟩:=h.2;have:c=[]:=Nb.1 o;subst this;exact⟨none,0,rfl,Ca rfl⟩;refine ⟨_,b,rfl,La ⟨g,0,d,e,rfl,q,k,kX k λj r=>?_⟩⟩;have key:∀p v,(flat c)[p]?=some v->d[p]?=some v:=λp v f=>by
  rw[<-s]at f;have i:=(Pb.1 f).1;rw[Hb]at i;rw[Jb (by omega)]at f;simpa using f
 obtain⟨l,m,n⟩:=flat_get c j r;refine⟨?_,?_,?_⟩;rw[Ya];exact key _ _ l;rw[Ya];exact key _ _ m;rw[Ya];exact key _ _ n
def hC{w i:World}{B:Nat}{e:TypeId}{a:Nat}{v:Value}{n:Nat}{j:List Value}(h:w.ownsRow B e a v n j)(m:xB w i):i.ownsRow B e a v n j:=by
 obtain⟨k,d⟩:=h;refine⟨k,?_⟩;obtain d|⟨g,b,c,o,l,f,r⟩:=d;exact Ca d;exact La ⟨g,b,c,o,l,(m.block g (bB f)).trans f,r⟩
def BE{w:World}{B:Nat}{e:TypeId}{a:Nat}{v:Value}{n:Nat}{f:List Value}(h:w.ownsRow B e a v n f){p:Addr}(m:p.block<B)(u:Value):(w.setCell p u).ownsRow B e a v n f:=by
 obtain⟨i,d⟩:=h;refine⟨i,?_⟩;obtain d|⟨g,b,c,l,j,k,r⟩:=d;exact Ca d;exact La ⟨g,b,c,l,j,(Below.heap_setCell w p u g (by omega)).trans k,r⟩
def qO{w:World}{b o:Nat}{d:List iB}(h:DN w b o d):∀j u,(flat d)[j]?=some u->w.cell? (((eB b o):Addr).add j)=some u:=by
 intro j u a;have g:=(Pb.1 a).1;rw[yE]at g;have i:j / 3<d.length:=by omega
 obtain⟨k,l,m⟩:=flat_get d (j / 3) i;obtain⟨n,p,q⟩:=h (j / 3) i;have c:((eB b o):Addr).add j=(eB b (o+j)):=by unfold Addr.add;split<;>simp_all
 rw[c];have f:j % 3=0\/j % 3=1\/j % 3=2:=by omega
 obtain f|f|f:=f
 .have e:j=j / 3*3:=by omega
  rw[e]at a;rw[k]at a;rw[show o+j=o+j / 3*3 by omega,n];exact a
 .have e:j=j / 3*3+1:=by omega
  rw[e]at a;rw[l]at a;rw[show o+j=o+j / 3*3+1 by omega,p];exact a
 have e:j=j / 3*3+2:=by omega
 rw[e]at a;rw[m]at a;rw[show o+j=o+j / 3*3+2 by omega,q];exact a
def yB(x b a:Int):Bool:=decide (b<=x) &&decide (x<=a)
def uD(x b a:Int)(w:World):rI 86 #[aB x,aB b,aB a] w (.bool (yB x b a)):=by
 by_cases c:b<=x
 .by_cases d:x<=a
  .have e:yB x b a=true:=by simp[yB,c,d]
   rw[e];go_enter func86,ntmps86;go_wp2;go_ret;exact⟨rfl,rfl⟩
  have e:yB x b a=false:=by simp[yB,d]
  rw[e];go_enter func86,ntmps86;go_wp2;go_ret;exact⟨rfl,rfl⟩
 have e:yB x b a=false:=by simp[yB,c]
 rw[e];go_enter func86,ntmps86;go_wp2;go_ret;exact⟨rfl,rfl⟩
def sV(s:pB)(k:Nat)(h:k<s.size):s.data.toList.take (k+1)=s.data.toList.take k++[s[k]]:=by
 rw[Pa (by simpa using h)];rfl
def eE{x c a:Int}{b:Bool}(h:yB x c a=b)(w:World):rI 86 #[aB x,aB c,aB a] w (.bool b):=h ▸ uD x c a w
def AY(r:Nat)(w:World)(f:r<=1114111):rI 290 #[.int .i32 (r:Nat)] w (.bool (BS r)):=by
 by_cases a:r<32
 .have E:cB (BS r=true):=by show _=_;simp[BS,a]
  go_enter func290,ntmps290;go_wp2;go_ret;exact⟨oB (by rw[E.o]),rfl⟩
 by_cases b:127<=r
 .by_cases c:r<=159
  .have E:cB (BS r=true):=by show _=_;simp[BS,b,c]
   go_enter func290,ntmps290;go_wp2;go_ret;exact⟨oB (by rw[E.o];simp;omega),rfl⟩
  have E:cB (BS r=false):=by show _=_;simp[BS,a,c]
  go_enter func290,ntmps290;go_wp2;go_ret;exact⟨oB (by rw[E.o];simp;omega),rfl⟩
 have E:cB (BS r=false):=by show _=_;simp[BS,a,b]
 go_enter func290,ntmps290;go_wp2;go_ret;exact⟨oB (by rw[E.o];simp;omega),rfl⟩
abbrev kH(w:World):Prop:=Lib.Utf8Tabs 6 7 w
def kH.z{w a:World}(h:kH w)(b:xB w a):kH a:=Utf8Tabs_below h b
def ku(s:pB)(p:Nat)(w:World)(k:p<s.size)(c:kH w):
 cF 289 #[.string s,aB (p:Nat)] w (aB ((Utf8.decode s p).2:Nat)):=by
 have j:(s.extract p s.size).size=s.size-p:=by simp
 have e:Lib.decodeGo (s.extract p s.size)=Utf8.decode s p:=by
  rw[Lib.decodeGo,Ja (by omega),UJ]
 have d:∀W,kH W->cF 318 #[.string (s.extract p s.size)] W (.tuple #[.int .i32 (Utf8.decode s p).1,aB (Utf8.decode s p).2]):=λW i=>by
  have:=utf8_DecodeRuneInString (s.extract p s.size) W i;rw[e]at this;exact this
 generalize (Utf8.decode s p).1=R at *;generalize (Utf8.decode s p).2=N at *;have g:cB _:=d;have h:cB (kH w):=c;clear d c e j;go_enter func289,ntmps289;go_wp2_with fail;apply jC (g.o _ h.o);intro l a;have f:cB _:=a;clear a;go_wp2;go_ret;exact⟨rfl,f.o⟩
def PZ{w:World}{g:Nat}{x:Obj}(h:w.heap[g]?=some x):g<w.1.size:=by grind
def cN(W:World)(B:Nat)(s:pB)(p:Nat):Prop:=W.heap[B]?=some (.stringIter s p)
def nN(W:World)(B:Nat)(s:pB)(p:Nat):World:={ W with heap:=W.heap.setIfInBounds B (.stringIter s p) }
def aDy{P:Program}(W:World)(B:Nat)(s:pB)(c:Nat)(b:TypeId)(a:cN W B s c)(h:c<s.size):
 (Instr.next (.pointer (vB B)) true b).run P W=.ok (.tuple #[.bool true,aB c,.int .i32 (Utf8.decode s c).1]) (nN W B s (c+(Utf8.decode s c).2)):=by
 unfold cN at a;simp only[Instr.next,getObj,setObj,Sem.run_bind,Sem.run,a,Result.andThen,h,Td];simp[goInt,nN]
def aDz{P:Program}(W:World)(B:Nat)(s:pB)(c:Nat)(b:TypeId)(a:cN W B s c)(h:¬c<s.size):
 (Instr.next (.pointer (vB B)) true b).run P W=.ok (.tuple #[.bool false]) W:=by
 unfold cN at a;simp[Instr.next,getObj,Sem.run,a,h]
def cN.set{W:World}{B:Nat}{s:pB}{p:Nat}(h:cN W B s p)(q:Nat):cN (nN W B s q) B s q:=by
 have:=PZ h;unfold cN nN;simp[this]
def cN.z{W a:World}{B:Nat}{s:pB}{p:Nat}(h:cN W B s p)(b:xB W a):cN a B s p:=(b.block B (PZ h)).trans h
def SF{w W:World}{B C:Nat}(h:Below C w W)(a:C<=B)(s:pB)(q:Nat):Below C w (nN W B s q):=
 h.trans ⟨rfl,rfl,rfl,by simp[nN],λk b=>by simp only[nN];rw[Ea (by omega)]⟩
def KG(s:pB)(w:World)(hs:s.size<=1000000000)(e:kH w):
 cF 255 #[.string s] w (aB (fP s:Nat)):=by
 have X:cB (kH w):=e;clear e;have e:=run_range_string w 9 s underlying9;have G:cB (cN (w.iter s 0) w.1.size s 0/\xB w (w.iter s 0)):=⟨World.iter_heap _ _ _,bC⟩
 generalize w.iter s 0=h at *;go_enter func255,ntmps255;go_wp2;clear e;go_loopw [3,4,5,6] (λe Y _ _ wr=>∃(p:Nat)(a:List Nat)(v:Bool),p<=s.size/\a.length<=p/\cB (AM s p a/\v=a.any BS)/\e=aB (a.length:Nat)/\Y=.bool v/\cB (cN wr w.1.size s p/\xB w wr)) (λ_ _ _ _ wr=>s.size-wr.iterPos w.1.size)
 case atStart=>
  exact⟨0,[],false,Oa _,Ia _,⟨AM.start s,rfl⟩,rfl,rfl,G.o⟩
 case round=>
  obtain⟨p,a,v,e,e,D,rfl,rfl,y⟩:=hrel;have e:cB (wr.iterPos w.1.size=p):=by show _=_;unfold World.iterPos;rw[y.o.1]
  clear G;by_cases j:p<s.size
  .have B:∀C,(Instr.next (.pointer (vB w.1.size)) true C).run prog wr=_:=λC=>aDy wr w.1.size s p C y.o.1 j;have M:=fW s p;have u:=oY s p;have K:cB _:=λW h=>ku s p W j h;have x:cB _:=JU s p j;have H:cB _:=λE=>D.o.1.step j E;have F:cB _:=λE=>D.o.1.bad j E;have U:cB (∀r,(a++[r]).any BS=(v||BS r)):=λr=>by rw[Tf,<-D.o.2];simp
   have J:cB (cN (nN wr w.1.size s (p+(Utf8.decode s p).2)) w.1.size s (p+(Utf8.decode s p).2)/\xB w (nN wr w.1.size s (p+(Utf8.decode s p).2))):=⟨y.o.1.set _,SF y.o.2 (Ia _) _ _⟩
   obtain⟨R,Q⟩:∃R,(Utf8.decode s p).1=R:=⟨_,rfl⟩
   obtain⟨N,A⟩:∃N,(Utf8.decode s p).2=N:=⟨_,rfl⟩
   have G:cB (Utf8.decode s p=(R,N)):=by show _=_;rw[<-Q,<-A]
   rw[Q]at u B;rw[A]at u B M;have o:cB (∀W,kH W->cF 289 #[.string s,aB (p:Nat)] W (aB (N:Nat))):=by show ∀_,_;rw[<-A];exact K.o
   have n:cB ((R,N)≠(65533,1)->AM s (p+N) (a++[R])/\p+N<=s.size):=λh=>by
    have E:Utf8.decode s p≠(65533,1):=by rw[G.o];exact h
    have z:=H.o E;have h:=x.o E;rw[Q,A]at z;rw[A]at h;exact⟨z,h⟩
   have f:cB (cN (nN wr w.1.size s (p+N)) w.1.size s (p+N)/\xB w (nN wr w.1.size s (p+N))):=by show _/\_;rw[<-A];exact J.o
   clear K H x J Q A y;obtain⟨O,h⟩:=u;generalize nN wr w.1.size s (p+N)=P at *;have l:cB (∀W,(R,N)≠(65533,1)->xB P W->∃(T:Nat)(i:List Nat)(L:Bool),T<=s.size/\i.length<=T/\cB (AM s T i/\L=i.any BS)/\Value.int .i64 ((a.length:Int)+1)=aB (i.length:Nat)/\Value.bool (v||BS R)=.bool L/\cB (cN W w.1.size s T/\xB w W)):=λW g S=>
    ⟨p+N,a++[R],v||BS R,(n.o g).2,(n.o g).1.1,⟨(n.o g).1,(U.o R).symm⟩,by simp,rfl,f.o.1.z S,aC f.o.2 S⟩
   have m:cB (∀W,(R,N)≠(65533,1)->xB P W->s.size-W.iterPos w.1.size<s.size-wr.iterPos w.1.size):=λW g S=>by
    have z:W.iterPos w.1.size=p+N:=by unfold World.iterPos;rw[f.o.1.z S]
    rw[z,e.o];omega
   by_cases h:R=65533
   .have Z:((R:Int)==65533)=true:=by simp;omega
    by_cases z:N=1
    .have J:((N:Int)==1)=true:=by simp;omega
     have I:cB _:=F.o (by rw[G.o,h,z]);clear l m;go_wp2_with fail;apply jC (o.o _ (X.o.z f.o.2));intro w2 c;have d:cB _:=aC f.o.2 c;clear c;go_wp2;go_ret;exact⟨uF (by rw[I.o];rfl),d.o⟩
    have J:((N:Int)==1)=false:=by simp;omega
    have g:(R,N)≠(65533,1):=by simp;omega
    have b:cB ((R,N)≠(65533,1)):=g;clear g h z;cases v with
    |true=>
     go_wp2_with fail;apply jC (o.o _ (X.o.z f.o.2));intro w2 c;have d:cB _:=c;clear c;go_wp2;have t:=l.o _ b.o d.o;rw[Bool.true_or]at t;exact⟨t,m.o _ b.o d.o⟩
    |false=>
     go_wp2_with fail;apply jC (o.o _ (X.o.z f.o.2));intro w2 c;have d:cB _:=c;clear c;go_wp2_with fail;apply kO (AY R _ O);go_wp2;have t:=l.o _ b.o d.o;rw[Rf]at t;exact⟨t,m.o _ b.o d.o⟩
   have Z:((R:Int)==65533)=false:=by simp;omega
   have b:cB ((R,N)≠(65533,1)):=by show _≠_;simp;omega
   cases v with
   |true=>
    go_wp2;have t:=l.o _ b.o gD;rw[Bool.true_or]at t;exact⟨t,m.o _ b.o gD⟩
   |false=>
    go_wp2_with fail;apply kO (AY R _ O);go_wp2;have t:=l.o _ b.o gD;rw[Rf]at t;exact⟨t,m.o _ b.o gD⟩
  have B:∀C,(Instr.next (.pointer (vB w.1.size)) true C).run prog wr=_:=λC=>aDz wr w.1.size s p C y.o.1 j;have I:cB _:=D.o.1.done (by omega);have h:cB _:=D.o.2;have V:cB _:=y.o.2;clear D y e;by_cases q:128<a.length
  .have k:cB (fP s=43):=by show _=_;rw[I.o,SA,Ma q]
   go_wp2;go_ret;exact⟨uF (by rw[k.o];rfl),V.o⟩
  cases v with
  |true=>
   have k:cB (fP s=44):=by show _=_;rw[I.o,SA,Ja q,<-h.o];rfl
   go_wp2;go_ret;exact⟨uF (by rw[k.o];rfl),V.o⟩
  |false=>
   have k:cB (fP s=0):=by show _=_;rw[I.o,SA,Ja q,<-h.o];rfl
   go_wp2;go_ret;exact⟨uF (by rw[k.o];rfl),V.o⟩
def lY(x y:pB):Int:=if Op.bytesLess x.toList y.toList=true then -1 else if (x.toList==y.toList)=true then 0 else 1
def IK(s:pB)(w:World):rI 228 #[.string s] w (.bool false):=by
 go_enter func228,ntmps228;go_wp2;go_ret;exact⟨rfl,rfl⟩
def JQ(x y:pB)(w:World):rI 178 #[.string x,.string y] w (aB (lY x y)):=by
 by_cases b:Op.bytesLess x.toList y.toList=true
 .have E:cB (lY x y = -1):=by show _=_;simp[lY,b]
  go_enter func178,ntmps178;go_wp2_with(first|(go_at_call 228;apply jC (IK _ _);rintro c rfl));go_ret;exact⟨uF E.o.symm,rfl⟩
 have a:Op.bytesLess x.toList y.toList=false:=by simpa using b
 by_cases d:(x.toList==y.toList)=true
 .have E:cB (lY x y=0):=by show _=_;simp[lY,a,d]
  clear b;go_enter func178,ntmps178;go_wp2_with(first|(go_at_call 228;apply jC (IK _ _);rintro c rfl));go_ret;exact⟨uF E.o.symm,rfl⟩
 have f:(x.toList==y.toList)=false:=by simpa using d
 have E:cB (lY x y=1):=by show _=_;simp only[lY,a,f];rfl
 clear b d;go_enter func178,ntmps178;go_wp2_with(first|(go_at_call 228;apply jC (IK _ _);rintro c rfl));go_ret;exact⟨uF E.o.symm,rfl⟩
def aBt(w:World)(n:Int):(convert 22 9 (.slice (vB w.1.size) 1 1)).run prog (w.alloc (.cells #[.int .u8 n] 5))=.ok (.string ⟨#[UInt8.ofNat n.toNat]⟩) (w.alloc (.cells #[.int .u8 n] 5)):=by
 rw[run_convert_bytes_string _ 22 9 5 _ 1 1 underlying22 underlying5 underlying9,run_bytesToString _ _ 1 1 [n] (by simp[go_sem,loadCells])];rfl
def aIw(c:UInt8)(s:pB):((⟨#[c]⟩:pB)++s).data.toList=c::s.data.toList:=by
 simp
def ZZ(c:UInt8)(s:pB):((⟨#[c]⟩:pB)++s).size=s.size+1:=by
 rw[Ka];show 1+s.size=_;omega
def yq(s:pB)(l:List UInt8)(h:s.data.toList=l):s=⟨l.toArray⟩:=by
 subst h;simp
def CC(a c:pB)(d:Int)(t:pB)(w:World):cF 177 #[.agg #[.string a,.string c,aB d],.string t] w (aB (lY a t)):=by
 go_enter func177,ntmps177;go_wp2_with(first|(go_at_call 178;apply jC (JQ _ _ _);rintro b rfl));go_ret;exact⟨rfl,bC⟩
def sL:∃i,prog.info? 144=some i/\i.zero=some (.agg #[.string ByteArray.empty,.string ByteArray.empty,aB 0])/\i.size=3/\i.bytes=40:=by
 have h:(prog.info? 144).map (λi=>(i.zero,i.size,i.bytes))=some (some (.agg #[.string ByteArray.empty,.string ByteArray.empty,aB 0]),3,40):=by kernel_rfl
 obtain⟨i,b,a⟩:=Wb.1 h;simp only[Dc]at a;exact⟨i,b,a⟩
def UA(a:nC)(g:Nat)(c:List iB)(w:World)(q:uB w a c)(A:c.length<=1048576):
 Calls prog 62 #[.slice a c.length g] w λe n=>∃v,e=.returned v/\n.ownsRow w.1.size 144 3 v c.length (flat c)/\xB w n:=by
 have p:=λn=>Lib.run_eql_slice_nil (P:=prog) n 33 144 a c.length g 0 0 underlying33;cases a with
 |none=>
  have E:c=[]:=by
   obtain h|⟨b,o,e,_⟩:=q;exact h;exact absurd e (by simp)
  subst E;have y:=λn=>Lib.run_eql_slice_nil (P:=prog) n 33 144 none 0 g 0 0 underlying33;clear p;go_enter func62,ntmps62;go_wp2;go_ret;exact⟨_,rfl,⟨rfl,Ca ⟨rfl,rfl⟩⟩,gD⟩
 |some x=>
  obtain⟨i,z,r,s,t⟩:=sL;have l:(w.alloc (.cells #[] 144)).ownsRow w.1.size 144 3 (.slice (vB w.1.size) 0 0) 0 []:=
   ⟨rfl,La ⟨w.1.size,0,#[],rfl,Ia _,heap_alloc_new _ _,Ia _,Oa _,rfl,rfl⟩⟩
  have D:cB ((w.alloc (.cells #[] 144)).ownsRow w.1.size 144 3 (.slice (vB w.1.size) 0 0) 0 []):=l;have d:∀j u,(flat c)[j]?=some u->(w.alloc (.cells #[] 144)).cell? (x.add j)=some u:=by
   rcases q.z (zF w (.cells #[] 144)) with rfl|⟨b,o,e,_,h⟩;intro j u h;simp[flat]at h;simp only[Qa]at e;subst e;exact qO h
  have C:cB _:=d;have B:cB _:=z;clear q l d z;go_enter func62,ntmps62;go_wp2_with(at_builtin;refine wpList_append_own_at _ rfl _ _ _ rfl w.1.size 144 i _ 3 40 underlying33 B.o r s t rfl (by omega) (.slice (vB w.1.size) 0 0) 0 [] rfl D.o x c.length g (flat c) rfl (yE c) C.o (zG c) (by simp[maxLen];omega) (by omega) (by simp) ?_;intro G H f m _ _);go_ret;simp only[Ya,Mb]at f;refine⟨G,rfl,f,bC.grown m (by simp) (λk F=>?_)⟩;simp[Value.ownBlock]at F;omega
def dK(a:nC)(j:Nat)(c:List iB)(w:World)(l:uB w a c)(f:c.length<=maxLen)(m:pC c<=1000000000):
 cF 61 #[.slice a c.length j] w (aB (pC c)):=by
 unfold maxLen at f;have n:cB (uB w a c):=l;clear l;go_enter func61,ntmps61;go_wp2;go_loopw [3,8,5] (λs i _ wr=>∃k:Nat,k<=c.length/\i=aB k/\s=aB (pC (c.take k))/\xB w wr) (λ_ i _ _=>c.length-(intOf i).toNat)
 case atStart=>exact⟨0,Oa _,rfl,rfl,gD⟩
 case round=>
  obtain⟨k,A,rfl,rfl,d⟩:=hrel;have q:=xH c k;by_cases g:k<c.length
  .obtain ⟨b,o,rfl,y,u,v,x⟩:=(n.o.z d).at g;have h:=kI c k g;have r:=xH c (k+1);have z:c[k].data.size<=1000000000:=by omega
   have p:cB _:=h;clear h;go_wp2;exact⟨⟨k+1,by omega,by go_num,by rw[p.o];go_num,d.alloc d.size _⟩,by simp[intOf];omega⟩
  go_wp2;go_ret;have e:c.take k=c:=Ra (by omega);exact⟨uF (by rw[e]),d⟩
def xY(a:nC)(l:Nat)(d:List iB)(c y r u:Int)(t:Bool)(w:World)(m:uB w a d)(g:d.length<=maxLen)(n:pC d<=1000000000):
 cF 91 #[.agg #[.slice a d.length l,aB c,aB y,aB r,aB u,.bool t]] w (aB (pC d)):=by
 unfold maxLen at g;have p:cB (uB w a d):=m;clear m;go_enter func91,ntmps91;go_wp2;go_loopw [3,9,5] (λs i _ wr=>∃k:Nat,k<=d.length/\i=aB k/\s=aB (pC (d.take k))/\xB w wr) (λ_ i _ _=>d.length-(intOf i).toNat)
 case atStart=>exact⟨0,Oa _,rfl,rfl,gD.alloc (Ia _) _⟩
 case round=>
  obtain⟨k,F,rfl,rfl,f⟩:=hrel;have v:=xH d k;by_cases h:k<d.length
  .obtain ⟨b,o,rfl,D,A,B,C⟩:=(p.o.z f).at h;have j:=kI d k h;have x:=xH d (k+1);have E:d[k].data.size<=1000000000:=by omega
   have q:cB _:=j;clear j;go_wp2;exact⟨⟨k+1,by omega,by go_num,by rw[q.o];go_num,f.alloc f.size _⟩,by simp[intOf];omega⟩
  go_wp2;go_ret;have e:d.take k=d:=Ra (by omega);exact⟨uF (by rw[e]),f⟩
def mY(a x:Nat):Nat:=if (a+x) % 2=1 then(a / 2) ^^^ 2197175160 else a / 2
def lQ(a b:Nat):Nat->Nat
 |0=>a
 |k+1=>mY (lQ a b k) (b / 2 ^ k)
def EB(a:Nat)(c:UInt8):Nat:=lQ a c.toNat 8
def cu(l:List UInt8):Nat:=l.foldl EB 4294967295
def pL(s:pB):Nat:=4294967295-cu s.data.toList
def vp{a x:Nat}(h:a<4294967296):mY a x<4294967296:=by
 unfold mY;split;exact Qd (n:=32) (by omega) (by omega);omega
def BR{a b:Nat}(h:a<4294967296):∀k,lQ a b k<4294967296
 |0=>h
 |k+1=>vp (BR h k)
def aGp(l:List UInt8):cu l<4294967296:=by
 have a:∀(l:List UInt8)(r:Nat),r<4294967296->l.foldl EB r<4294967296:=λl=>by
  induction l with
  |nil=>exact λr h=>h
  |cons c l b=>exact λr h=>b _ (BR h 8)
 exact a l _ (by omega)
def UE(l:List UInt8)(c:UInt8):cu (l++[c])=EB (cu l) c:=by simp[cu]
def ro(s:pB):pL s<4294967296:=by unfold pL;omega
def aJe(a b:Nat)(c:a<4611686018427387904)(d:b<4611686018427387904):bits .xor .i64 (a:Int) (b:Int)=((a ^^^ b:Nat):Int):=by
 have e:a ^^^ b<2 ^ 62:=Qd (by omega) (by omega);show IntKind.i64.wrap ((BitVec.ofInt 64 (a:Int) ^^^ BitVec.ofInt 64 (b:Int)).toNat:Int)=_;rw[Jg,Nc,Nc,Hc,Hc,Ic (by omega),Ic (by omega)];simp only[IntKind.wrap,IntKind.bits,IntKind.signed];simp;omega
def xZ:∃i,prog.info? 9=some i/\i.zero=some (.string ByteArray.empty)/\i.size=1/\i.bytes=16:=by
 have h:(prog.info? 9).map (λi=>(i.zero,i.size,i.bytes))=some (some (.string ByteArray.empty),1,16):=by kernel_rfl
 obtain⟨i,b,a⟩:=Wb.1 h;simp only[Dc]at a;exact⟨i,b,a.1,a.2.1,a.2.2⟩
def fH{w:World}{B:Nat}{e:TypeId}{g i:Nat}{a:List pB}(h:w.ownsRow B e 1 (.slice (vB g) a.length i) a.length (a.map Value.string)):
 a.length<=i/\g<w.1.size/\∀(j:Nat) x,a[j]?=some x->w.cell? (eB g (0+j))=some (.string x):=by
 obtain⟨c,_⟩|⟨p,f,d,c,q,k,l,_,_,n⟩:=h.2;simp at c;simp only[Value.slice.injEq,Qa,Addr.mk.injEq,Cc]at c;obtain⟨rfl,_,rfl⟩:=c;refine⟨l,bB k,λj x o=>?_⟩;rw[cell_of_row w g _ d _ _ k,Ya,<-Yd];have b:(a.map Value.string)[j]?=some (.string x):=by rw[Se,o];rfl
 rw[<-n]at b;have m:=(Pb.1 b).1;rw[Hb]at m;rw[Jb (by omega)]at b;exact b
def LC(s:pB)(w:World)(u:s.size<=maxLen):
 rI 166 #[.string s] w (aB (pL s:Nat)):=by
 unfold maxLen at u;go_enter func166,ntmps166;go_wp2;go_loop [3,4,5,6,7,8] (λr i _ _ _ _=>∃(j R:Nat),j<=s.size/\i=aB j/\r=aB R/\cB (R=cu (s.data.toList.take j))) (λ_ i _ _ _ _=>s.size-(intOf i).toNat)
 case atStart=>exact⟨0,4294967295,Oa _,rfl,rfl,rfl⟩
 case round=>
  obtain⟨j,R,A,rfl,rfl,f⟩:=hrel;have b:R<4294967296:=by rw[f.o];exact aGp _
  by_cases g:j<s.size
  .have z:s[j].toNat<256:=s[j].toNat_lt;go_wp2;go_loop [3,5,6,7,8] (λr k _ _ _=>∃(m S:Nat),m<=8/\k=aB m/\r=aB S/\cB (S=lQ R s[j].toNat m)) (λ_ k _ _ _=>8-(intOf k).toNat)
   case atStart=>exact⟨0,R,by omega,rfl,rfl,rfl⟩
   case round=>
    obtain⟨m,S,B,rfl,rfl,c⟩:=hrel;have h:S<4294967296:=by rw[c.o];exact BR b _
    by_cases p:m<8
    .go_wp2;go_loop [6,7] (λx q=>∃(t X:Nat),t<=m/\q=aB t/\x=aB X/\cB (X=s[j].toNat / 2 ^ t)) (λ_ q=>m-(intOf q).toNat)
     case atStart=>exact⟨0,s[j].toNat,by omega,rfl,rfl,by show _=_;simp⟩
     case round=>
      obtain⟨t,X,C,rfl,rfl,d⟩:=hrel;have n:X<256:=by
       have:X<=s[j].toNat:=by rw[d.o];exact Nat.div_le_self _ _
       omega
      by_cases v:t<m
      .go_wp2;exact⟨⟨t+1,X / 2,by omega,by go_num,by go_num,by show _=_;rw[d.o,Fg,Od]⟩,by simp[intOf];omega⟩
      have e:t=m:=by omega
      subst e;by_cases a:(S+X) % 2=1
      .go_wp2;have o:bits BinOp.xor IntKind.i64 ((S:Int) / 2) 2197175160=(((S / 2) ^^^ 2197175160:Nat):Int):=aJe (S / 2) 2197175160 (by omega) (by omega);rw[o];exact⟨⟨t+1,_,by omega,by go_num,rfl,by show _=_;rw[lQ,mY,<-c.o,<-d.o,Ma a]⟩,by simp[intOf];omega⟩
      go_wp2;exact⟨⟨t+1,S / 2,by omega,by go_num,by go_num,by show _=_;rw[lQ,mY,<-c.o,<-d.o,Ja a]⟩,by simp[intOf];omega⟩
    go_wp2;have e:m=8:=by omega
    subst e;exact⟨⟨j+1,S,by omega,by go_num,rfl,by show _=_;rw[sV s j g,UE,<-f.o,EB,c.o]⟩,by simp[intOf];omega⟩
  go_wp2;go_ret;refine⟨uF ?_,rfl⟩;rw[pL,<-Ra (l:=s.data.toList) (i:=j) (by simp;omega),<-f.o];omega
def uX(w:World)(B P:Nat)(a:nC)(n:Nat):Prop:=n=0\/∃b o,a=some (eB b o)/\b≠B/\b<P/\∀i,i<n->∃v:Nat,v<256/\w.cell? (eB b (o+i))=some (.int .u8 (v:Nat))
def uX.but{w f:World}{B P n:Nat}{a:nC}(h:uX w B P a n)(m:P<=w.1.size)(g:sD B w f):uX f B P a n:=by
 obtain h|⟨b,o,e,c,d,h⟩:=h;exact Ca h;exact La ⟨b,o,e,c,d,λi k=>by
  obtain⟨v,l,j⟩:=h i k;exact⟨v,l,by rw[World.cell?_of_block (g.block b (by omega) c)];exact j⟩⟩
def uX.below{w f:World}{B P n:Nat}{a:nC}(h:uX w B P a n)(g:Below P w f):uX f B P a n:=by
 obtain h|⟨b,o,e,d,c,h⟩:=h;exact Ca h;exact La ⟨b,o,e,d,c,λi k=>by
  obtain⟨v,l,j⟩:=h i k;exact⟨v,l,by rw[World.cell?_of_block (g.block b c)];exact j⟩⟩
def wD(w:World)(B P N:Nat):Prop:=∃(a:nC)(n b k:Nat)(c:Int),jB w B #[.slice a n b,aB (k:Nat),aB c] 54/\k<=N/\(0<=c/\c<2147483648)/\n<=1048576/\uX w B P a n/\B<P/\P<=w.1.size
def wD.below{w e:World}{B P N:Nat}(h:wD w B P N)(c:Below P w e):wD e B P N:=by
 obtain⟨a,n,b,k,o,f,g,i,j,l,d,m⟩:=h;exact⟨a,n,b,k,o,(c.block B d).trans f,g,i,j,l.below c,d,Ua m c.size⟩
def wD.up{w:World}{B P N:Nat}(h:wD w B P N):B<P/\P<=w.1.size:=by
 obtain⟨a,n,b,k,l,e,f,g,i,j,c,d⟩:=h;exact⟨c,d⟩
def wD.z{w a:World}{B P N:Nat}(h:wD w B P N)(b:xB w a):wD a B P N:=h.below (b.mono h.up.2)
def wD.mono{w:World}{B P N M:Nat}(h:wD w B P N)(f:N<=M):wD w B P M:=by
 obtain⟨a,n,b,k,g,c,d,e⟩:=h;exact⟨a,n,b,k,g,c,Ua d f,e⟩
def sD.drewC{B:Nat}{w a:World}(h:sD B w a):sD B w a.drew:=⟨h.os,h.tape,h.output,h.size,h.block⟩
def wD.drew{w:World}{B P N:Nat}(h:wD w B P N):wD w.drew B P N:=h
def aBv(B P N:Nat)(w:World)(a:nC)(n c k:Nat)(g:Int)(d:jB w B #[.slice a n c,aB (k:Nat),aB g] 54)(m:k<=N)(f:0<=g)(i:g<2147483648)(y:n<=1048576)(l:uX w B P a n)(j:B<P/\P<=w.1.size)(u:N<=100000000)(r:200+40*n<k+1):
 Calls prog 27 #[.pointer (vB B)] w λe o=>∃v:Nat,v<256/\e=.returned (aB (v:Nat))/\wD o B P (N+1)/\sD B w o:=by
 have p:cB (jB w B #[.slice a n c,aB (k:Nat),aB g] 54):=d;have z:=jB.cell d 0;have A:=jB.cell d 1;have C:=jB.cell d 2;simp only[Xb,Ob,Ga]at z A C;have b:=jB.free d 1;clear d;have h:cB (uX w B P a n/\B<P/\P<=w.1.size):=⟨l,j⟩
 clear j;have x:(k:Int)<=100000000:=by omega
 have q:cB (k<=N):=m;clear m u;clear l;have s:(200+40*(n:Int))<(k:Int)+1:=by omega
 clear r;go_enter func27,ntmps27;go_wp2;go_region
 go_wp2;have t:((k:Int)+1)=((k+1:Nat):Int):=by omega
 go_ret;refine⟨0,by omega,rfl,?_,?_⟩
 .refine wD.drew ⟨a,n,c,k+1,g,?_,Nat.succ_le_succ q.o,⟨f,i⟩,y,h.o.1.but h.o.2.2 ((sD.refl _ _).setCell _ _),h.o.2.1,by simpa using h.o.2.2⟩;have:=jB.set p.o 1 (aB ((k:Int)+1));rw[t]at this |-
  exact this
 exact sD.drewC ((sD.refl _ _).setCell _ _)
def aBw(B P N:Nat)(w:World)(a:nC)(n d k:Nat)(g:Int)(f:jB w B #[.slice a n d,aB (k:Nat),aB g] 54)(l:k<=N)(m:0<=g)(C:g<2147483648)(A:n<=1048576)(j:uX w B P a n)(i:B<P/\P<=w.1.size)(y:N<=100000000)(r:¬200+40*n<k+1)(t:n<k+1):
 Calls prog 27 #[.pointer (vB B)] w λe o=>∃v:Nat,v<256/\e=.returned (aB (v:Nat))/\wD o B P (N+1)/\sD B w o:=by
 have p:cB (jB w B #[.slice a n d,aB (k:Nat),aB g] 54):=f;have D:=jB.cell f 0;have E:=jB.cell f 1;have F:=jB.cell f 2;simp only[Xb,Ob,Ga]at D E F;have b:=jB.free f 1;have c:=jB.free f 2;clear f;have h:cB (uX w B P a n/\B<P/\P<=w.1.size):=⟨j,i⟩
 clear i;have z:(k:Int)<=100000000:=by omega
 have q:cB (k<=N):=l;clear l y;clear j;have s:¬((200+40*(n:Int))<(k:Int)+1):=by omega
 have u:((n:Int))<(k:Int)+1:=by omega
 clear r t;go_enter func27,ntmps27;go_wp2;go_region
 go_wp2;go_region
 go_wp2;have x:((k:Int)+1)=((k+1:Nat):Int):=by omega
 refine bodyPost_ret (v:=aB ((g*1103515245+12345) % 2147483648 / 65536 % 256)) (by simp[results,results27,go_sem]) rfl ?_;generalize g*1103515245+12345=X;refine⟨(X % 2147483648 / 65536 % 256).toNat,by omega,by rw[Int.toNat_of_nonneg (by omega)],?_,?_⟩
 .refine wD.drew (wD.drew ⟨a,n,d,k+1,X % 2147483648,?_,Nat.succ_le_succ q.o,⟨by omega,by omega⟩,A,h.o.1.but h.o.2.2 (((sD.refl _ _).setCell _ _).setCell _ _),h.o.2.1,by simpa using h.o.2.2⟩);have:=jB.set (jB.set p.o 1 (aB ((k:Int)+1))) 2 (aB (X % 2147483648));rw[x]at this |-
  exact this
 exact sD.drewC (sD.drewC (((sD.refl _ _).setCell _ _).setCell _ _))
def aBx(B P N:Nat)(w:World)(a:nC)(n f k:Nat)(h:Int)(g:jB w B #[.slice a n f,aB (k:Nat),aB h] 54)(p:k<=N)(q:0<=h)(H:h<2147483648)(F:n<=1048576)(l:uX w B P a n)(j:B<P/\P<=w.1.size)(A:N<=100000000)(x:¬n<k+1):
 Calls prog 27 #[.pointer (vB B)] w λe r=>∃v:Nat,v<256/\e=.returned (aB (v:Nat))/\wD r B P (N+1)/\sD B w r:=by
 have s:cB (jB w B #[.slice a n f,aB (k:Nat),aB h] 54):=g;have I:=jB.cell g 0;have J:=jB.cell g 1;have K:=jB.cell g 2;simp only[Xb,Ob,Ga]at I J K;have c:=jB.free g 1;have d:=jB.free g 2;clear g;have i:cB (uX w B P a n/\B<P/\P<=w.1.size):=⟨l,j⟩
 clear j;have D:(k:Int)<=100000000:=by omega
 have t:cB (k<=N):=p;clear p A;obtain L|⟨b,o,rfl,G,E,m⟩:=l;omega;obtain⟨v,M,C⟩:=m k (by omega);clear m;have u:¬((200+40*(n:Int))<(k:Int)+1):=by omega
 have y:¬((n:Int)<(k:Int)+1):=by omega
 clear x;go_enter func27,ntmps27;go_wp2;go_region
 go_wp2;go_region
 go_wp2;go_region
 go_wp2;go_region
 go_wp2;have z:((k:Int)+1)=((k+1:Nat):Int):=by omega
 refine bodyPost_ret (v:=aB (v:Nat)) (by simp[results,results27,go_sem]) rfl ?_;generalize h*31+v+7=X;refine⟨v,by omega,rfl,?_,?_⟩
 .refine wD.drew (wD.drew (wD.drew (wD.drew ⟨some (eB b o),n,f,k+1,X % 2147483648,?_,Nat.succ_le_succ t.o,⟨by omega,by omega⟩,F,i.o.1.but i.o.2.2 (((sD.refl _ _).setCell _ _).setCell _ _),i.o.2.1,by simpa using i.o.2.2⟩)));have:=jB.set (jB.set s.o 1 (aB ((k:Int)+1))) 2 (aB (X % 2147483648));rw[z]at this |-
  exact this
 exact sD.drewC (sD.drewC (sD.drewC (sD.drewC (((sD.refl _ _).setCell _ _).setCell _ _))))
def cw(B P N:Nat)(w:World)(h:wD w B P N)(g:N<=100000000):
 Calls prog 27 #[.pointer (vB B)] w λe r=>∃v:Nat,v<256/\e=.returned (aB (v:Nat))/\wD r B P (N+1)/\sD B w r:=by
 obtain⟨a,n,b,k,o,f,l,⟨c,d⟩,m,j,i⟩:=h;by_cases p:200+40*n<k+1
 .exact aBv B P N w a n b k o f l c d m j i g p
 by_cases q:n<k+1
 .exact aBw B P N w a n b k o f l c d m j i g p q
 exact aBx B P N w a n b k o f l c d m j i g q
def iD(B P N n:Nat)(w:World)(h:wD w B P N)(i:N<=10000000)(k:2<=n)(m:n<=256):
 Calls prog 10 #[.pointer (vB B),aB (n:Nat)] w λe c=>∃v:Nat,v<n/\e=.returned (aB (v:Nat))/\wD c B P (N+1)/\sD B w c:=by
 have g:cB (Calls prog 27 #[.pointer (vB B)] w λe c=>∃v:Nat,v<256/\e=.returned (aB (v:Nat))/\wD c B P (N+1)/\sD B w c):=cw B P N w h (by omega);clear h i;have j:¬((n:Int)<=1):=by omega
 have l:(n:Int)<=256:=by omega
 go_enter func10,ntmps10;go_wp2_with fail;refine g.o.mono ?_;rintro e d ⟨v,o,rfl,b,a⟩;have f:cB (wD d B P (N+1)/\sD B w d):=⟨b,a⟩
 clear b a;go_wp2;go_ret;exact⟨v % n,Nat.mod_lt _ (by omega),rfl,f.o⟩
def XO(B n:Nat)(w:World)(c:n<=1):
 rI 10 #[.pointer (vB B),aB (n:Nat)] w (aB 0):=by
 have b:(n:Int)<=1:=by omega
 go_enter func10,ntmps10;go_wp2;go_ret;exact⟨rfl,rfl⟩
def nP(w:World)(g m k:Nat):Prop:=∃(a:Array Value)(t:TypeId),jB w g a t/\∀j,j<m->∃s:pB,a[j]?=some (.string s)/\s.size<=k
def nP.but{w d:World}{g m k B:Nat}(h:nP w g m k)(f:sD B w d)(b:g≠B):nP d g m k:=by
 obtain⟨a,t,c,e⟩:=h;exact⟨a,t,(f.block g (bB c) b).trans c,e⟩
def nP.z{w b:World}{g m k:Nat}(h:nP w g m k)(e:xB w b):nP b g m k:=by
 obtain⟨a,t,c,d⟩:=h;exact⟨a,t,c.z e,d⟩
def nP.at{w:World}{g m k:Nat}(h:nP w g m k){j:Nat}(d:j<m):∃s:pB,w.cell? (eB g j)=some (.string s)/\s.size<=k:=by
 obtain⟨a,t,b,c⟩:=h;obtain⟨s,e,f⟩:=c j d;exact⟨s,by rw[b.cell];exact e,f⟩
def cT(w:World)(L:List pB)(k:Nat)(t:TypeId)(m:Nat)(b:m=L.length)(h:(L.all λs=>decide (s.size<=k))=true):nP (w.alloc (.cells (L.map .string).toArray t)) w.1.size m k:=by
 subst b;refine⟨_,t,heap_alloc_new _ _,λj a=>⟨L[j],by simp[a],?_⟩⟩;have:=Ke.1 h L[j] (Gb a);simpa using this
def wD.lt{w:World}{B P N:Nat}(h:wD w B P N):B<w.1.size:=Bb h.up.1 h.up.2
def sD.z{B:Nat}{w b a:World}(h:sD B w b)(c:xB b a):sD B w a:=h.trans (sD.of c)
def RZ(B P N:Nat)(w:World)(h:wD w B P N)(G:N<=1000000):
 Calls prog 88 #[.pointer (vB B)] w λe x=>∃s:pB,s.size<=16/\e=.returned (.string s)/\wD x B P (N+10)/\sD B w x:=by
 have u:cB (wD w B P N):=h;have p:=h.lt;clear h;go_enter func88,ntmps88;go_wp2_with fail;have a:cB (nP (w.alloc (.cells ([⟨#[97]⟩,⟨#[98]⟩,⟨#[119,101,98]⟩,⟨#[120,32,121]⟩,⟨#[195,169]⟩,⟨#[226,130,172]⟩,⟨#[240,159,152,128]⟩,⟨#[49]⟩,⟨#[45]⟩,⟨#[122]⟩].map Value.string).toArray 9)) w.1.size 10 4):=cT w _ 4 _ 10 rfl (by decide);simp only[Fc,Ag]at a;have f:=u.o.z (zF w (.cells #[.string ⟨#[97]⟩,.string ⟨#[98]⟩,.string ⟨#[119,101,98]⟩,.string ⟨#[120,32,121]⟩,.string ⟨#[195,169]⟩,.string ⟨#[226,130,172]⟩,.string ⟨#[240,159,152,128]⟩,.string ⟨#[49]⟩,.string ⟨#[45]⟩,.string ⟨#[122]⟩] 9));refine(iD B P N 4 _ f (by omega) (by omega) (by omega)).mono ?_;rintro e q ⟨n,I,rfl,j,c⟩;have y:cB (wD q B P (N+1)/\sD B w q/\nP q w.1.size 10 4):=⟨j,(sD.of bC).trans c,a.o.but c (by omega)⟩
 clear j c f a u;generalize C:w.1.size=g at *;have A:cB (g≠B):=by show g≠B;omega
 clear C p;go_wp2;go_loopw [4,6] (λs i wr=>∃(k:Nat)(t:pB),k<=n/\i=aB (k:Nat)/\s=.string t/\t.size<=4*k/\cB (wD wr B P (N+1+k)/\sD B w wr/\nP wr g 10 4)) (λ_ i _=>n-(intOf i).toNat)
 case atStart=>exact⟨0,⟨#[]⟩,by omega,rfl,rfl,by decide,y.o⟩
 case round=>
  obtain⟨k,t,H,rfl,rfl,K,a⟩:=hrel;by_cases D:k<n
  .have m:(k:Int)<(n:Int):=by omega
   go_wp2_with fail;refine(iD B P (N+1+k) 10 _ a.o.1 (by omega) (by omega) (by omega)).mono ?_;rintro e r ⟨v,E,rfl,l,d⟩;have b:=a.o.2.2.but d A.o;obtain⟨s,o,J⟩:=b.at E;have z:cB (wD r B P (N+1+(k+1))/\sD B w r/\nP r g 10 4):=⟨l,a.o.2.1.trans d,b⟩
   clear l d b;have F:(v:Int)<10:=by omega
   go_wp2;exact⟨⟨k+1,t++s,by omega,by go_num,rfl,by rw[Ka];omega,z.o⟩,by simp[intOf];omega⟩
  have m:¬((k:Int)<(n:Int)):=by omega
  go_wp2;go_ret;exact⟨t,by omega,rfl,a.o.1.mono (by omega),a.o.2.1⟩
section
open Go.ChangeShapes Go.WideShapes Go.ChangeAt Go.Deep
def aBn:prog.cellsOf 5=1:=by kernel_rfl
def aIe{H:Type}{m:TypeId×Value->H}{W:World}{g:Nat}{v:Value}{x:DataW H×List MemPlace}(h:DataW.trod m prog W 0 (λ_=>true) true g 22 [v]=some x):
 ∃(a:nC)(n d:Nat),v=.slice a n d/\n<=maxLen/\uX W W.1.size W.1.size a n:=by
 rcases open_ints underlying22 underlying5 aBn h with⟨p,_⟩|⟨a,h,d,w,p,_,z,A,u,_,c,r⟩;exact ⟨none,0,0,by simpa using p,Oa _,Ca rfl⟩;simp only[Td]at u;refine⟨some a,h,d,by simpa using p,by omega,?_⟩;by_cases s:h=0
 .exact Ca s
 obtain ⟨b,o,l⟩:=a;have f:l=none:=by simpa[Addr.add]using World.cell?_spot (c 0 (by omega))
 subst f;have e:b<W.1.size:=by
  have j:=c 0 (by omega);rcases Gc b W.1.size with e|q;exact e;rw[Addr.add_lit]at j;simp[World.cell?,Mc q]at j
 refine La ⟨b,o,rfl,by omega,e,λi y=>?_⟩;have k:=c i (by omega);rw[Addr.add_lit,List.getD_eq_getElem?_getD]at k;have t:=range_u8 r i;refine⟨(w[i]?.getD 0).toNat,by omega,?_⟩;rw[Int.toNat_of_nonneg t.1];exact k
end
