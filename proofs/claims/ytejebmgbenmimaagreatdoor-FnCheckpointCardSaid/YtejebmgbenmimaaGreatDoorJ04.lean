import Derived.WalkLawsBesides
import Derived.WalkSpells
import Derived.Test.YtejebmgbenmimaaGreatDoorJ01
import Derived.Deep.AppendLies
import Derived.Lib.RuneCountTail
import Derived.Test.YtejebmgbenmimaaGreatDoorJ02
import Derived.Lib.LazyBuf
import Derived.ProofKit
import Derived.OpenShut
import Derived.Deep.Strs
set_option maxRecDepth 100000
set_option maxHeartbeats 2000000
set_option linter.defProp false
namespace Go.Proofs.YtejebmgbenmimaaGreatDoor
open Go.RowKit Tryz
def gB{p:Prop}(h:p):fB p:=h
structure nB where
 N:vB
 data:vB
 Y:Int
def rZ(w:World)(b o:Nat)(a:List nB):Prop:=
 ∀i(h:i<a.length),w.cell? ⟨b,o+i*3,none⟩=some (.string a[i].N)/\
  w.cell? ⟨b,o+i*3+1,none⟩=some (.string a[i].data)/\w.cell? ⟨b,o+i*3+2,none⟩=some (.int .i64 a[i].Y)
def vF{k:IntKind}{a b:Int}(h:a=b):Ending.returned (.int k a)=.returned (.int k b):=by rw[h]
def tB{a b:Bool}(h:a=b):Ending.returned (.bool a)=.returned (.bool b):=by rw[h]
structure mC(w:World) where
 w':World
 h:Below w.1.size w w'
theorem mC.there(w:World):Nonempty (mC w):=⟨⟨w,jD⟩⟩
def mC.cell{w:World}(x:mC w){b o:Nat}{v:Value}(h:w.cell? ⟨b,o,none⟩=some v):x.w'.cell? ⟨b,o,none⟩=some v:=by
 have d:b<w.1.size:=by
  rcases Gc b w.1.size with c|a;exact c;simp[World.cell?,Mc a]at h
 rw[<-h];exact x.h.cell d
def mC.cells{w:World}{b o:Nat}{v:Value}(h:w.cell? ⟨b,o,none⟩=some v):∀x:mC w,x.w'.cell? ⟨b,o,none⟩=some v:=λx=>x.cell h
def bC{P:Program}{id:Nat}{Q:Exit->Act->World->Prop}{a:Act}{w:World}{l:List Oper}(e:P.follows .mixedOrders=true)(d:Region.lexB .any l.toArray=true)
(h:wpQuiet P l.toArray (λb=>∃x:mC w,b=x.w') (λc=>∀b,(∃x:mC w,b=x.w')->Q .normal c b) l a):(Code.region id l.toArray true).wp P Q a w:=
 wp_region_quiet (C:=λb=>∃x:mC w,b=x.w') e d ⟨⟨w.drew,jD.drew⟩,rfl⟩ (by simpa using h)
def rC{P:Program}{f:FuncId}{args:Array Value}{w:World}{x:mC w}{v:Value}
(h:Calls P f args x.w' λe a=>e=.returned v/\Below x.w'.1.size x.w' a):Calls P f args x.w' λe a=>e=.returned v/\∃y:mC w,a=y.w':=
 h.mono λ_ a ⟨c,b⟩=>⟨c,⟨a,x.h.trans (b.mono x.h.size)⟩,rfl⟩
def dD{P:Program}{f:FuncId}{args:Array Value}{w:World}{x:mC w}{v:Value}
(h:Calls P f args x.w' λe a=>e=.returned v/\a=x.w'):Calls P f args x.w' λe a=>e=.returned v/\∃y:mC w,a=y.w':=
 h.mono λ_ _ ⟨c,b⟩=>⟨c,x,b⟩
def wB(w:World)(a:nC)(c:List nB):Prop:=c=[]\/∃b o,a=some ⟨b,o,none⟩/\b<w.1.size/\rZ w b o c
def wB.z{w f:World}{a:nC}{e:List nB}(h:wB w a e)(d:Below w.1.size w f):wB f a e:=by
 obtain h|⟨b,o,rfl,c,h⟩:=h;exact Ca h;refine La ⟨b,o,rfl,Bb c d.size,λi l=>?_⟩;obtain⟨g,j,k⟩:=h i l;exact⟨by rw[<-g];exact d.cell c,by rw[<-j];exact d.cell c,by rw[<-k];exact d.cell c⟩
def wB.at{w:World}{a:nC}{c:List nB}(h:wB w a c){i:Nat}(e:i<c.length):
 ∃b o,a=some ⟨b,o,none⟩/\b<w.1.size/\w.cell? ⟨b,o+i*3,none⟩=some (.string c[i].N)/\
  w.cell? ⟨b,o+i*3+1,none⟩=some (.string c[i].data)/\w.cell? ⟨b,o+i*3+2,none⟩=some (.int .i64 c[i].Y):=by
 obtain rfl|⟨b,o,rfl,d,h⟩:=h;exact absurd e (by simp);exact ⟨b,o,rfl,d,h i e⟩
def wB.setCell{w:World}{g o:Nat}{c:List nB}(h:wB w (some ⟨g,o,none⟩) c){p:Addr}(k:p.block≠g)(v:Value):wB (w.setCell p v) (some ⟨g,o,none⟩) c:=by
 obtain h|⟨b,l,e,a,h⟩:=h;exact Ca h;simp only[Qa,Addr.mk.injEq,Cc]at e;obtain⟨rfl,rfl⟩:=e;have f:∀j,(w.setCell p v).cell? ⟨g,j,none⟩=w.cell? ⟨g,j,none⟩:=λj=>World.cell?_of_block (Below.heap_setCell w p v g (Ne.symm k));refine La ⟨g,o,rfl,by simpa[World.setCell]using a,λi d=>?_⟩;simp only[f];exact h i d
def bulk:List nB->Nat
 |[]=>0
 |f::r=>f.N.size+f.data.size+bulk r
def tC:List nB->Nat
 |[]=>0
 |f::r=>f.data.size+tC r
def fQ(a b:List nB):tC (a++b)=tC a+tC b:=by induction a<;>grind [tC]
def jI(a:List nB)(k:Nat)(h:k<a.length):tC (a.take (k+1))=tC (a.take k)+a[k].data.size:=by
 rw[Pa h,fQ];simp[tC]
def wH(a:List nB)(k:Nat):tC (a.take k)<=tC a:=by
 have:=fQ (a.take k) (a.drop k);rw[Za]at this;omega
def gO(a:List nB):Prop:=∀i(h:i<a.length),a[i].N.size<=maxLen/\a[i].data.size<=maxLen
def aP(w:World)(b:Nat)(a c d e f g:Value):Prop:=
 w.cell? ⟨b,0,none⟩=some a/\w.cell? ⟨b,1,none⟩=some c/\w.cell? ⟨b,2,none⟩=some d/\w.cell? ⟨b,3,none⟩=some e/\w.cell? ⟨b,4,none⟩=some f/\w.cell? ⟨b,5,none⟩=some g
def aP.new(w:World)(a b c d e f:Value)(t:TypeId):aP (w.alloc (.cells #[a,b,c,d,e,f] t)) w.1.size a b c d e f:=by
 simp[aP,go_sem]
def aP.lt{w:World}{b:Nat}{d e f g i j:Value}(h:aP w b d e f g i j):b<w.1.size:=by
 rcases Gc b w.1.size with c|a;exact c;have:=h.1;simp[World.cell?,Mc a]at this
def aP.z{w k:World}{b:Nat}{d e f g i j:Value}(h:aP w b d e f g i j)(a:Below w.1.size w k):aP k b d e f g i j:=by
 have c:=h.lt;obtain⟨l,m,n,o,p,q⟩:=h;exact⟨(a.cell c).trans l,(a.cell c).trans m,(a.cell c).trans n,(a.cell c).trans o,(a.cell c).trans p,(a.cell c).trans q⟩
def xB{a b c:World}(h:Below a.1.size a b)(k:Below b.1.size b c):Below a.1.size a c:=h.trans (k.mono h.size)
def uF(w:World)(o:Obj):Below w.1.size w (w.alloc o):=jD.alloc (Ia _) _
structure uD(g:Nat)(w w':World):Prop where
 os:w'.os=w.os
 tape:w'.tape=w.tape
 output:w'.output=w.output
 size:w.1.size≤w'.1.size
 block:∀k,k<w.1.size→k≠g→w'.heap[k]?=w.heap[k]?
def uD.refl(g:Nat)(w:World):uD g w w:=⟨rfl,rfl,rfl,Ia _,λ_ _ _=>rfl⟩
def uD.trans{g:Nat}{a b c:World}(h:uD g a b)(k:uD g b c):uD g a c:=
 ⟨k.os.trans h.os,k.tape.trans h.tape,k.output.trans h.output,Ua h.size k.size,λi e d=>(k.block i (Bb e h.size) d).trans (h.block i e d)⟩
def uD.of{g:Nat}{w a:World}(h:Below w.1.size w a):uD g w a:=⟨h.os,h.tape,h.output,h.size,λk b _=>h.block k b⟩
def uD.setCell{g:Nat}{a w:World}(h:uD g a w)(o:Nat)(v:Value):uD g a (w.setCell ⟨g,o,none⟩ v):=
 h.trans ⟨rfl,rfl,rfl,by simp[World.setCell],λk _ b=>Below.heap_setCell _ _ _ _ b⟩
def uD.below{g B:Nat}{w a:World}(h:uD g w a)(b:B<=g)(d:B<=w.1.size):Below B w a:=
 ⟨h.os,h.tape,h.output,h.size,λk c=>h.block k (by omega) (by omega)⟩
def wB.but{g b o:Nat}{w c:World}{d:List nB}(h:wB w (some ⟨b,o,none⟩) d)(f:uD g w c)(k:b≠g):wB c (some ⟨b,o,none⟩) d:=by
 obtain h|⟨n,p,e,a,h⟩:=h;exact Ca h;simp only[Qa,Addr.mk.injEq,Cc]at e;obtain⟨rfl,rfl⟩:=e;have m:∀j,c.cell? ⟨b,j,none⟩=w.cell? ⟨b,j,none⟩:=λj=>World.cell?_of_block (f.block b a k);exact La ⟨b,o,rfl,Bb a f.size,λi l=>by simp only[m];exact h i l⟩
def tN(w:World)(B:Nat)(a:nC)(c:List nB):Prop:=
 c=[]\/∃g o b t,a=some ⟨g,o,none⟩/\B<=g/\w.heap[g]?=some (.cells b t (0,0))/\rZ w g o c
def eB{w:World}{g:Nat}{x:Obj}(h:w.heap[g]?=some x):g<w.1.size:=by grind
def tN.files{w:World}{B:Nat}{a:nC}{b:List nB}(h:tN w B a b):wB w a b:=by grind [tN,wB]
def tN.z{w d:World}{B:Nat}{a:nC}{e:List nB}(h:tN w B a e)(f:Below w.1.size w d):tN d B a e:=by
 obtain h|⟨g,o,c,t,rfl,l,k,h⟩:=h;exact Ca h;have b:=eB k;have n:∀j,d.cell? ⟨g,j,none⟩=w.cell? ⟨g,j,none⟩:=λj=>World.cell?_of_block (f.block g b);exact La ⟨g,o,c,t,rfl,l,(f.block g b).trans k,λi m=>by simp only[n];exact h i m⟩
def tN.mono{w:World}{B B':Nat}{a:nC}{b:List nB}(h:tN w B a b)(c:B'<=B):tN w B' a b:=by grind [tN]
def aAc:Nat->Nat->List UInt8->List UInt8
 |0,_,a=>a
 |b+1,k,a=>if k=0 then a else aAc b (k / 10) ((48+UInt8.ofNat (k % 10)):: a)
def mt(k:Nat):vB:=⟨(109::aAc k k []).toArray⟩
def rB(w:World)(g:Nat)(a:Array Value)(t:TypeId):Prop:=w.heap[g]?=some (.cells a t (0,0))
def rB.set{w:World}{g:Nat}{a:Array Value}{t:TypeId}(h:rB w g a t)(j:Nat)(v:Value):rB (w.setCell ⟨g,j,none⟩ v) g (a.setIfInBounds j v) t:=heap_setCell_same w g j a t v h
def rB.z{w b:World}{g:Nat}{a:Array Value}{t:TypeId}(h:rB w g a t)(c:Below w.1.size w b):rB b g a t:=(c.block g (eB h)).trans h
def rB.cell{w:World}{g:Nat}{a:Array Value}{t:TypeId}(h:rB w g a t)(j:Nat):w.cell? ⟨g,j,none⟩=a[j]?:=cell_of_row w g j a t _ h
def rB.free{w:World}{g:Nat}{a:Array Value}{t:TypeId}(h:rB w g a t)(j:Nat):w.frozen? ⟨g,j,none⟩=false:=frozen_of_row w g j a t h
def rB.c2{w:World}{g:Nat}{a b:Value}{t:TypeId}(h:rB w g #[a,b] t):w.cell? ⟨g,0,none⟩=some a/\w.cell? ⟨g,1,none⟩=some b:=⟨h.cell 0,h.cell 1⟩
def rB.c3{w:World}{g:Nat}{a b c:Value}{t:TypeId}(h:rB w g #[a,b,c] t):w.cell? ⟨g,0,none⟩=some a/\w.cell? ⟨g,1,none⟩=some b/\w.cell? ⟨g,2,none⟩=some c:=⟨h.cell 0,h.cell 1,h.cell 2⟩
def rB.c4{w:World}{g:Nat}{a b c d:Value}{t:TypeId}(h:rB w g #[a,b,c,d] t):w.cell? ⟨g,0,none⟩=some a/\w.cell? ⟨g,1,none⟩=some b/\w.cell? ⟨g,2,none⟩=some c/\w.cell? ⟨g,3,none⟩=some d:=⟨h.cell 0,h.cell 1,h.cell 2,h.cell 3⟩
def rB.c5{w:World}{g:Nat}{a b c d e:Value}{t:TypeId}(h:rB w g #[a,b,c,d,e] t):w.cell? ⟨g,0,none⟩=some a/\w.cell? ⟨g,1,none⟩=some b/\w.cell? ⟨g,2,none⟩=some c/\w.cell? ⟨g,3,none⟩=some d/\w.cell? ⟨g,4,none⟩=some e:=⟨h.cell 0,h.cell 1,h.cell 2,h.cell 3,h.cell 4⟩
def rB.c6{w:World}{g:Nat}{a b c d e f:Value}{t:TypeId}(h:rB w g #[a,b,c,d,e,f] t):w.cell? ⟨g,0,none⟩=some a/\w.cell? ⟨g,1,none⟩=some b/\w.cell? ⟨g,2,none⟩=some c/\w.cell? ⟨g,3,none⟩=some d/\w.cell? ⟨g,4,none⟩=some e/\w.cell? ⟨g,5,none⟩=some f:=⟨h.cell 0,h.cell 1,h.cell 2,h.cell 3,h.cell 4,h.cell 5⟩
def rB.there{w:World}{g:Nat}{a:Array Value}{t:TypeId}(h:rB w g a t){j:Nat}(b:j<a.size):∃v,w.cell? ⟨g,j,none⟩=some v:=⟨a[j],by rw[h.cell];exact Qc b⟩
def lH(a:Array Value)(o j:Nat)(f:nB):Prop:=a[o+j*3]?=some (.string f.N)/\a[o+j*3+1]?=some (.string f.data)/\a[o+j*3+2]?=some (.int .i64 f.Y)
def lH.set{a:Array Value}{o j:Nat}{f:nB}(h:lH a o j f){p:Nat}(b:p<o+j*3\/o+j*3+2<p)(v:Value):lH (a.setIfInBounds p v) o j f:=by grind [lH]
def wQ{w:World}{g o:Nat}{a:Array Value}{t:TypeId}{b:List nB}(h:rB w g a t)(d:∀j(c:j<b.length),lH a o j b[j]):rZ w g o b:=by
 intro j c;simp only[h.cell];exact d j c
def LD{w:World}{g o:Nat}{a:Array Value}{t:TypeId}{b:List nB}(h:rB w g a t)(d:rZ w g o b):∀j(c:j<b.length),lH a o j b[j]:=by
 intro j c;have:=d j c;simp only[h.cell]at this;exact this
def IH{P:Program}{w:World}(base:Nat)(t p e:TypeId)(i:TypeInfo)(b:Nat)(k:P.underlying t=some (.slice e))(h:P.info? e=some i)
(v:Value)(n:Nat)(q:List Value)(a:w.ownsRow base e b v n q)(c:nC)(l:Nat):
 (Builtin.append_ #[t,t] p #[v,.slice c 0 l]).run P w=.ok v w:=by
 have j:∀f:Addr,(loadCells f 0).run P w=.ok #[] w:=λf=>by
  simp[loadCells,loadCellsFrom]
 obtain⟨rfl,rfl⟩|⟨g,m,o,rfl,_,_,d,_⟩:=a.2
 .cases c<;>simp[Builtin.append_,run_underlying k,sizeOf,typeInfo,h,Builtin.lenOf,Builtin.firstCells,j]
 cases c<;>simp[Builtin.append_,run_underlying k,sizeOf,typeInfo,h,Builtin.lenOf,Builtin.firstCells,d,storeCells,j]
def qI{w:World}{B:Nat}{e:TypeId}{a:Nat}{v:Value}{n:Nat}{i:List Value}(h:w.ownsRow B e a v n i):∀g,v.ownBlock=some g->B<=g:=by
 intro g b;obtain⟨rfl,_⟩|⟨j,c,d,rfl,f,_⟩:=h.2;simp[Value.ownBlock]at b;simp[Value.ownBlock]at b;subst b;exact f
def gS(w:World)(b:nC)(m:Nat)(a:List Value):Prop:=m=0\/∃A,b=some A/\∀j u,a[j]?=some u->w.cell? (A.add j)=some u
theorem MK(b o j:Nat):((iB b o):Addr).add j=(iB b (o+j)):=by unfold Addr.add;split<;>simp_all
def IT(W:World)(x:Obj):zB W (W.alloc x).drew:=aC.drew
def IU(W:World)(x y:Obj):zB W ((W.alloc x).alloc y).drew:=(xB aC aC).drew
def yI{P:Program}(w:World){ops:Array Oper}{o:Oper}{a:Act}{K:Act->World->Prop}{Q:Exit->Act->World->Prop}{E:Prop}(G:o.guard=none)(s x:Operand)(t:TypeId)
(Z:o.op=.call { callee:=.builtin .append,args:=#[s,x],argTypes:=#[t,t] })
(base:Nat)(e:TypeId)(i:TypeInfo)(z:Value)(b j:Nat)(W:P.underlying t=some (.slice e))(Y:P.info? e=some i)(hz:i.zero=some z)
(B:i.size=b)(S:i.bytes=j)(U:z.cells.size=b)(T:0<b)
(v n O:Nat)(M:List Value)(hs:a.eval s=.slice (cC v) n O)(d:w.ownsRow base e b (.slice (cC v) n O) n M)
(N:nC)(m c:Nat)(f:List Value)(hx:a.eval x=.slice N m c)(hl:f.length=m*b)(J:gS w N m f)(h1:∀u∈f,u.oneCell'=true)
(R:n+m<=maxLen)(r:(n+m)*j<=140737488355328)(l:base<=w.1.size)
(h:∀g p C,C.ownsRow base e b (.slice (cC g) (n+m) p) (n+m) (M++f)->Below base w C->(∀k,k<w.1.size->k≠v->C.heap[k]?=w.heap[k]?)->base<=g->(g=v\/g=w.1.size)->g<C.1.size->K (a.put o.dst (.slice (cC g) (n+m) p)) C):
 if Region.wanted o (yielded ops a.tmps)=true then Oper.wp P o a w K Q else E:=by
 have F:base<=v:=qI d v rfl;rcases Nat.eq_zero_or_pos m with rfl|hm
 .have hw:Region.wanted o (yielded ops a.tmps)=true:=by simp[Region.wanted,G]
  rw[Ma hw];have H:f=[]:=Nb.1 (by omega);subst H;have I:=IH (P:=P) (w:=w) base t o.type e i b W Y _ n M d N c;have o:=h v O w (by rw[Cd];exact d) jD (λ_ _ _=>rfl) F (Ca rfl) (by
   obtain⟨L,_⟩|⟨O,V,O,L,_,O,_⟩:=d.2;simp at L;simp only[Value.slice.injEq,Qa,Addr.mk.injEq,Cc]at L;rw[L.1];exact eB O)
  unfold Oper.wp execOp;simp only[Z,resolve,invoke,builtin,Sem.run_bind,Sem.run_pure,Result.andThen_ok,Hg,Fc,Ag,hs,hx,I];exact o
 obtain o|⟨A,rfl,y⟩:=J;omega;refine step_append_lies w G s x t Z base e i z b j W Y hz B S U T _ n M hs d A m c f hx hl y h1 hm R r l w.1.size rfl λg p C m W D o=>?_;have X:g=v\/g=w.1.size:=by
  obtain D|D:=D;left;simpa[Value.ownBlock]using D.symm;exact La D
 refine h g p C m ((Below.refl base w).grown W l (λq h=>qI d q h)) (λk h m=>W.block k h (by simp[Value.ownBlock];omega)) ?_ X o;obtain rfl|rfl:=X;exact F;exact l
def rJ(s:vB):Nat->Nat->Option (List Nat)
 |0,_=>some []
 |b+1,p=>if p<s.size then(if Utf8.decode s p=(65533,1) then none else(rJ s b (p+(Utf8.decode s p).2)).map ((Utf8.decode s p).1 :: ·)) else some []
def BT(r:Nat):Bool:=decide (r<32) ||(decide (127<=r) &&decide (r<=159))
def QT(l:List Nat):Nat:=if 128<l.length then 43 else if l.any BT=true then 44 else 0
def zO(s:vB):Nat:=match rJ s s.size 0 with
 |none=>42
 |some l=>QT l
def AO(s:vB)(p:Nat)(a:List Nat):Prop:=a.length<=p/\∃b,s.size<=p+b/\rJ s s.size 0=(rJ s b p).map (a++·)
def AO.start(s:vB):AO s 0 []:=⟨Ia _,s.size,by omega,by simp⟩
def gW(s:vB)(p:Nat):1<=(Utf8.decode s p).2:=by
 simp only[Utf8.decode];repeat' split
 all_goals simp_all
def AO.step{s:vB}{p:Nat}{a:List Nat}(h:AO s p a)(d:p<s.size)(c:Utf8.decode s p≠(65533,1)):AO s (p+(Utf8.decode s p).2) (a++[(Utf8.decode s p).1]):=by
 obtain⟨i,b,g,e⟩:=h;have f:=gW s p;cases b with
 |zero=>omega
 |succ b=>
  refine⟨by simp;omega,b,by omega,?_⟩;rw[e,rJ,Ma d,Ja c];cases rJ s b (p+(Utf8.decode s p).2)<;>simp
def AO.bad{s:vB}{p:Nat}{a:List Nat}(h:AO s p a)(d:p<s.size)(c:Utf8.decode s p=(65533,1)):zO s=42:=by
 obtain⟨g,b,f,e⟩:=h;cases b with
 |zero=>omega
 |succ b=>
  rw[rJ,Ma d,Ma c]at e;rw[zO,e];rfl
def AO.done{s:vB}{p:Nat}{a:List Nat}(h:AO s p a)(f:s.size<=p):zO s=QT a:=by
 obtain⟨d,b,c,e⟩:=h;have:rJ s b p=some []:=by
  cases b with
  |zero=>rfl
  |succ b=>rw[rJ,Ja (by omega)]
 rw[this]at e;rw[zO,e];simp
def SS(s:vB)(p:Nat):Utf8.decode (s.extract p s.size) 0=Utf8.decode s p:=Lib.tail_decode s p 0
def JT(t:vB):Nat×Nat:=if Utf8.decode t 0=(65533,1) then(0,0) else Utf8.decode t 0
def aD(t:vB)(k:Nat):Nat:=(t.get! k).toNat
def zU(t:vB)(k:Nat)(h:k<t.size):t[k].toNat=aD t k:=by
 have:=get_at t k h;rw[Bg]at this;rw[aD,this]
def nY(a b c d:Nat)(e f g:Bool):Nat×Nat:=
 if a<128 then(a,1)
 else if (a / 32==6&&e)=true then(if 128<=a % 32*64+b % 64 then(a % 32*64+b % 64,2) else(65533,1))
 else if (a / 16==14&&e&&f)=true then(if (decide (2048<=a % 16*4096+b % 64*64+c % 64) &&Utf8.valid ((a % 16*4096+b % 64*64+c % 64:Nat):Int))=true then(a % 16*4096+b % 64*64+c % 64,3) else(65533,1))
 else if (a / 8==30&&e&&f&&g)=true then(if (decide (65536<=a % 8*262144+b % 64*4096+c % 64*64+d % 64) &&Utf8.valid ((a % 8*262144+b % 64*4096+c % 64*64+d % 64:Nat):Int))=true then(a % 8*262144+b % 64*4096+c % 64*64+d % 64,4) else(65533,1))
 else(65533,1)
def zm(t:vB)(k:Nat):Bool:=decide (k<t.size) &&aD t k / 64==2
theorem mS(t:vB)(k:Nat):zm t k=true ↔ k<t.size/\aD t k / 64=2:=by simp[zm]
theorem nS(t:vB)(p:Nat):Utf8.decode t p=nY (aD t p) (aD t (p+1)) (aD t (p+2)) (aD t (p+3)) (zm t (p+1)) (zm t (p+2)) (zm t (p+3)):=rfl
def aJt(v:Nat):Bool:=decide (v<=1114111/\¬(55296<=v/\v<=57343))
abbrev yc(v:Nat):Prop:=aJt v=true
def aJs{v:Nat}(h:v<=1114111/\¬(55296<=v/\v<=57343)):yc v:=Ac h
def YF{v:Nat}(h:yc v):v<=1114111/\¬(55296<=v/\v<=57343):=Wd h
def VK(v:Nat):Utf8.valid (v:Int)=decide (yc v):=by
 unfold Utf8.valid yc aJt;rw[Qb];simp;omega
def az{a b d e:Nat}{c f g:Bool}(h:a / 32=6):nY a b d e c f g=if c=true/\128<=a % 32*64+b % 64 then(a % 32*64+b % 64,2) else(65533,1):=by grind [nY]
def MZ{a b c g:Nat}{d f i:Bool}(h:a / 16=14):
 nY a b c g d f i=if d=true/\f=true/\2048<=(a % 16*64+b % 64)*64+c % 64/\yc ((a % 16*64+b % 64)*64+c % 64) then((a % 16*64+b % 64)*64+c % 64,3) else(65533,1):=by
 have j:(a / 32==6)=false:=by simp;omega
 have k:(a / 8==30)=false:=by simp;omega
 have e:a % 16*4096+b % 64*64+c % 64=(a % 16*64+b % 64)*64+c % 64:=by omega
 unfold nY;rw[Ja (by omega),j,h,k,e,VK];cases d<;>cases f<;>simp[yc]
def SP{a b c d:Nat}{f g i:Bool}(h:a / 8=30):
 nY a b c d f g i=if f=true/\g=true/\i=true/\65536<=((a % 8*64+b % 64)*64+c % 64)*64+d % 64/\yc (((a % 8*64+b % 64)*64+c % 64)*64+d % 64) then(((a % 8*64+b % 64)*64+c % 64)*64+d % 64,4) else(65533,1):=by
 have j:(a / 32==6)=false:=by simp;omega
 have k:(a / 16==14)=false:=by simp;omega
 have e:a % 8*262144+b % 64*4096+c % 64*64+d % 64=((a % 8*64+b % 64)*64+c % 64)*64+d % 64:=by omega
 unfold nY;rw[Ja (by omega),j,k,h,e];simp only[VK];cases f<;>cases g<;>cases i<;>simp[yc]
theorem ay{a b c d:Nat}{e f g:Bool}(h:a<128):nY a b c d e f g=(a,1):=by unfold nY;rw[Ma h]
def SQ{a b c d:Nat}{e f g:Bool}(h:128<=a)(i:a / 32≠6)(j:a / 16≠14)(k:a / 8≠30):nY a b c d e f g=(65533,1):=by grind [nY]
theorem SR{a e f g:Nat}{b c d:Bool}:nY a e f g b c d=(65533,1)\/((nY a e f g b c d).1<=1114111/\((nY a e f g b c d).2=1\/(nY a e f g b c d).2=2/\b=true\/(nY a e f g b c d).2=3/\c=true\/(nY a e f g b c d).2=4/\d=true)):=by
 by_cases l:a<128
 .rw[ay l];right;exact⟨by simp;omega,Ca rfl⟩
 by_cases i:a / 32=6
 .rw[az i];split
  .rename_i h;right;exact⟨by simp;omega,La (Ca ⟨rfl,h.1⟩)⟩
  exact Ca rfl
 by_cases j:a / 16=14
 .rw[MZ j];split
  .rename_i h;right;exact⟨(YF h.2.2.2).1,La (La (Ca ⟨rfl,h.2.1⟩))⟩
  exact Ca rfl
 by_cases k:a / 8=30
 .rw[SP k];split
  .rename_i h;right;exact⟨(YF h.2.2.2.2).1,La (La (La ⟨rfl,h.2.2.1⟩))⟩
  exact Ca rfl
 rw[SQ (by omega) i j k];exact Ca rfl
def JA(s:vB)(p:Nat)(a:p<s.size)(h:Utf8.decode s p≠(65533,1)):p+(Utf8.decode s p).2<=s.size:=by grind [nS,SR,mS]
def oY(s:vB)(p:Nat):(Utf8.decode s p).1<=1114111/\(Utf8.decode s p).2<=4:=by grind [nS,SR]
def aFi(t:vB)(h:aD t 0<128):JT t=(aD t 0,1):=by grind [aD,JT,nS,ay]
def lv{t:vB}{C D:Prop}[Decidable C][Decidable D]{v n:Nat}(h:Utf8.decode t 0=if C then(v,n) else(65533,1))(b:n≠1)(a:C ↔ D):JT t=if D then(v,n) else(0,0):=by grind [JT]
def aFj(t:vB)(h:aD t 0 / 32=6):
 JT t=if 2<=t.size/\aD t 1 / 64=2/\128<=aD t 0 % 32*64+aD t 1 % 64 then(aD t 0 % 32*64+aD t 1 % 64,2) else(0,0):=by
 refine lv ((nS t 0).trans (az h)) (by omega) ?_;rw[Ya,mS];constructor;rintro ⟨⟨a,b⟩,c⟩;exact⟨a,b,c⟩;rintro ⟨a,b,c⟩;exact⟨⟨a,b⟩,c⟩
def vf(t:vB)(h:aD t 0 / 16=14):
 JT t=if 3<=t.size/\aD t 1 / 64=2/\aD t 2 / 64=2/\2048<=(aD t 0 % 16*64+aD t 1 % 64)*64+aD t 2 % 64/\yc ((aD t 0 % 16*64+aD t 1 % 64)*64+aD t 2 % 64) then((aD t 0 % 16*64+aD t 1 % 64)*64+aD t 2 % 64,3) else(0,0):=by
 refine lv ((nS t 0).trans (MZ h)) (by omega) ?_;rw[Ya,Ya,mS,mS];constructor;rintro ⟨⟨_,b⟩,⟨a,c⟩,d⟩;exact⟨a,b,c,d⟩;rintro ⟨a,b,c,d⟩;exact⟨⟨by omega,b⟩,⟨a,c⟩,d⟩
def aBh(t:vB)(h:aD t 0 / 8=30):
 JT t=if 4<=t.size/\aD t 1 / 64=2/\aD t 2 / 64=2/\aD t 3 / 64=2/\65536<=((aD t 0 % 8*64+aD t 1 % 64)*64+aD t 2 % 64)*64+aD t 3 % 64/\yc (((aD t 0 % 8*64+aD t 1 % 64)*64+aD t 2 % 64)*64+aD t 3 % 64) then(((aD t 0 % 8*64+aD t 1 % 64)*64+aD t 2 % 64)*64+aD t 3 % 64,4) else(0,0):=by
 refine lv ((nS t 0).trans (SP h)) (by omega) ?_;rw[Ya,Ya,Ya,mS,mS,mS];constructor;rintro ⟨⟨_,b⟩,⟨_,c⟩,⟨a,d⟩,e⟩;exact⟨a,b,c,d,e⟩;rintro ⟨a,b,c,d,e⟩;exact⟨⟨by omega,b⟩,⟨by omega,c⟩,⟨a,d⟩,e⟩
def aBi(t:vB)(a:128<=aD t 0)(b:aD t 0 / 32≠6)(c:aD t 0 / 16≠14)(d:aD t 0 / 8≠30):JT t=(0,0):=by
 rw[JT,nS,SQ a b c d,Ma rfl]
def aJd(s:vB)(p:Nat):JT (s.extract p s.size)=if Utf8.decode s p=(65533,1) then(0,0) else Utf8.decode s p:=by rw[JT,SS]
def flat(a:List nB):List Value:=a.flatMap λf=>[.string f.N,.string f.data,dB f.Y]
def flat_append(a b:List nB):flat (a++b)=flat a++flat b:=by simp[flat]
def tY(f:nB):flat [f]=[.string f.N,.string f.data,dB f.Y]:=rfl
theorem zE(a:List nB):(flat a).length=a.length*3:=by
 induction a with
 |nil=>rfl
 |cons f r b=>simp[flat]at *;omega
def flat_get:∀(a:List nB)(j:Nat)(h:j<a.length),(flat a)[j*3]?=some (.string a[j].N)/\(flat a)[j*3+1]?=some (.string a[j].data)/\(flat a)[j*3+2]?=some (dB a[j].Y)
 |[],_,h=>absurd h (by simp)
 |f::r,0,_=>by simp[flat]
 |f::r,j+1,h=>by
  have i:=flat_get r j (by simpa using h);have e:flat (f::r)=[.string f.N,.string f.data,dB f.Y]++flat r:=rfl;rw[e];have c:(j+1)*3=3+j*3:=by omega
  have d:(j+1)*3+1=3+(j*3+1):=by omega
  have g:(j+1)*3+2=3+(j*3+2):=by omega
  have b:∀p,([.string f.N,.string f.data,dB f.Y]++flat r)[3+p]?=(flat r)[p]?:=λp=>by
   rw[Uc (by simp)];simp
  rw[g,d,c,b,b,b];exact i
def uG(b:List nB):∀u∈flat b,u.oneCell'=true:=by
 intro u a;simp only[flat,Ig,Lb,Ed,Bf]at a;obtain⟨f,_,rfl|rfl|rfl⟩:=a<;>rfl
def pH{w:World}{B:Nat}{e:TypeId}{v:Value}{c:List nB}(h:w.ownsRow B e 3 v c.length (flat c)):∃a b,v=.slice a c.length b/\tN w B a c:=by
 obtain⟨rfl,o⟩|⟨g,b,d,rfl,q,k,_,_,_,s⟩:=h.2;have:c=[]:=Nb.1 o;subst this;exact⟨none,0,rfl,Ca rfl⟩;refine ⟨_,b,rfl,La ⟨g,0,d,e,rfl,q,k,wQ k λj r=>?_⟩⟩;have key:∀p v,(flat c)[p]?=some v->d[p]?=some v:=λp v f=>by
  rw[<-s]at f;have i:=(Pb.1 f).1;rw[Hb]at i;rw[Jb (by omega)]at f;simpa using f
 obtain⟨l,m,n⟩:=flat_get c j r;refine⟨?_,?_,?_⟩;rw[Ya];exact key _ _ l;rw[Ya];exact key _ _ m;rw[Ya];exact key _ _ n
def lC{w i:World}{B:Nat}{e:TypeId}{a:Nat}{v:Value}{n:Nat}{j:List Value}(h:w.ownsRow B e a v n j)(m:zB w i):i.ownsRow B e a v n j:=by
 obtain⟨k,d⟩:=h;refine⟨k,?_⟩;obtain d|⟨g,b,c,o,l,f,r⟩:=d;exact Ca d;exact La ⟨g,b,c,o,l,(m.block g (eB f)).trans f,r⟩
def BF{w:World}{B:Nat}{e:TypeId}{a:Nat}{v:Value}{n:Nat}{f:List Value}(h:w.ownsRow B e a v n f){p:Addr}(m:p.block<B)(u:Value):(w.setCell p u).ownsRow B e a v n f:=by
 obtain⟨i,d⟩:=h;refine⟨i,?_⟩;obtain d|⟨g,b,c,l,j,k,r⟩:=d;exact Ca d;exact La ⟨g,b,c,l,j,(Below.heap_setCell w p u g (by omega)).trans k,r⟩
def jO{w:World}{b o:Nat}{d:List nB}(h:rZ w b o d):∀j u,(flat d)[j]?=some u->w.cell? (((iB b o):Addr).add j)=some u:=by
 intro j u a;have g:=(Pb.1 a).1;rw[zE]at g;have i:j / 3<d.length:=by omega
 obtain⟨k,l,m⟩:=flat_get d (j / 3) i;obtain⟨n,p,q⟩:=h (j / 3) i;have c:((iB b o):Addr).add j=(iB b (o+j)):=by unfold Addr.add;split<;>simp_all
 rw[c];have f:j % 3=0\/j % 3=1\/j % 3=2:=by omega
 obtain f|f|f:=f
 .have e:j=j / 3*3:=by omega
  rw[e]at a;rw[k]at a;rw[show o+j=o+j / 3*3 by omega,n];exact a
 .have e:j=j / 3*3+1:=by omega
  rw[e]at a;rw[l]at a;rw[show o+j=o+j / 3*3+1 by omega,p];exact a
 have e:j=j / 3*3+2:=by omega
 rw[e]at a;rw[m]at a;rw[show o+j=o+j / 3*3+2 by omega,q];exact a
def dC(x b a:Int):Bool:=decide (b<=x) &&decide (x<=a)
def zD(x b a:Int)(w:World):bM 103 #[dB x,dB b,dB a] w (.bool (dC x b a)):=by
 by_cases c:b<=x
 .by_cases d:x<=a
  .have e:dC x b a=true:=by simp[dC,c,d]
   rw[e];go_enter func103,ntmps103;go_wp2;go_ret;exact⟨rfl,rfl⟩
  have e:dC x b a=false:=by simp[dC,d]
  rw[e];go_enter func103,ntmps103;go_wp2;go_ret;exact⟨rfl,rfl⟩
 have e:dC x b a=false:=by simp[dC,c]
 rw[e];go_enter func103,ntmps103;go_wp2;go_ret;exact⟨rfl,rfl⟩
def rV(s:vB)(k:Nat)(h:k<s.size):s.data.toList.take (k+1)=s.data.toList.take k++[s[k]]:=by
 rw[Pa (by simpa using h)];rfl
def gE{x c a:Int}{b:Bool}(h:dC x c a=b)(w:World):bM 103 #[dB x,dB c,dB a] w (.bool b):=h ▸ zD x c a w
def AZ(r:Nat)(w:World)(f:r<=1114111):bM 301 #[.int .i32 (r:Nat)] w (.bool (BT r)):=by
 by_cases a:r<32
 .have E:fB (BT r=true):=by show _=_;simp[BT,a]
  go_enter func301,ntmps301;go_wp2;go_ret;exact⟨tB (by rw[E.o]),rfl⟩
 by_cases b:127<=r
 .by_cases c:r<=159
  .have E:fB (BT r=true):=by show _=_;simp[BT,b,c]
   go_enter func301,ntmps301;go_wp2;go_ret;exact⟨tB (by rw[E.o];simp;omega),rfl⟩
  have E:fB (BT r=false):=by show _=_;simp[BT,a,c]
  go_enter func301,ntmps301;go_wp2;go_ret;exact⟨tB (by rw[E.o];simp;omega),rfl⟩
 have E:fB (BT r=false):=by show _=_;simp[BT,a,b]
 go_enter func301,ntmps301;go_wp2;go_ret;exact⟨tB (by rw[E.o];simp;omega),rfl⟩
abbrev iH(w:World):Prop:=Lib.Utf8Tabs 6 7 w
def iH.z{w a:World}(h:iH w)(b:zB w a):iH a:=Utf8Tabs_below h b
def ik(s:vB)(p:Nat)(w:World)(k:p<s.size)(c:iH w):
 gF 300 #[.string s,dB (p:Nat)] w (dB ((Utf8.decode s p).2:Nat)):=by
 have j:(s.extract p s.size).size=s.size-p:=by simp
 have e:Lib.decodeGo (s.extract p s.size)=Utf8.decode s p:=by
  rw[Lib.decodeGo,Ja (by omega),SS]
 have d:∀W,iH W->gF 325 #[.string (s.extract p s.size)] W (.tuple #[.int .i32 (Utf8.decode s p).1,dB (Utf8.decode s p).2]):=λW i=>by
  have:=utf8_DecodeRuneInString (s.extract p s.size) W i;rw[e]at this;exact this
 generalize (Utf8.decode s p).1=R at *;generalize (Utf8.decode s p).2=N at *;have g:fB _:=d;have h:fB (iH w):=c;clear d c e j;go_enter func300,ntmps300;go_wp2_with fail;apply oC (g.o _ h.o);intro l a;have f:fB _:=a;clear a;go_wp2;go_ret;exact⟨rfl,f.o⟩
def OX{w:World}{g:Nat}{x:Obj}(h:w.heap[g]?=some x):g<w.1.size:=by grind
def xM(W:World)(B:Nat)(s:vB)(p:Nat):Prop:=W.heap[B]?=some (.stringIter s p)
def jN(W:World)(B:Nat)(s:vB)(p:Nat):World:={ W with heap:=W.heap.setIfInBounds B (.stringIter s p) }
def aBy{P:Program}(W:World)(B:Nat)(s:vB)(c:Nat)(b:TypeId)(a:xM W B s c)(h:c<s.size):
 (Instr.next (.pointer (cC B)) true b).run P W=.ok (.tuple #[.bool true,dB c,.int .i32 (Utf8.decode s c).1]) (jN W B s (c+(Utf8.decode s c).2)):=by
 unfold xM at a;simp only[Instr.next,getObj,setObj,Sem.run_bind,Sem.run,a,Result.andThen,h,Td];simp[goInt,jN]
def aBz{P:Program}(W:World)(B:Nat)(s:vB)(c:Nat)(b:TypeId)(a:xM W B s c)(h:¬c<s.size):
 (Instr.next (.pointer (cC B)) true b).run P W=.ok (.tuple #[.bool false]) W:=by
 unfold xM at a;simp[Instr.next,getObj,Sem.run,a,h]
def xM.set{W:World}{B:Nat}{s:vB}{p:Nat}(h:xM W B s p)(q:Nat):xM (jN W B s q) B s q:=by
 have:=OX h;unfold xM jN;simp[this]
def xM.z{W a:World}{B:Nat}{s:vB}{p:Nat}(h:xM W B s p)(b:zB W a):xM a B s p:=(b.block B (OX h)).trans h
def QY{w W:World}{B C:Nat}(h:Below C w W)(a:C<=B)(s:vB)(q:Nat):Below C w (jN W B s q):=
 h.trans ⟨rfl,rfl,rfl,by simp[jN],λk b=>by simp only[jN];rw[Ea (by omega)]⟩
def JR(s:vB)(w:World)(hs:s.size<=1000000000)(e:iH w):
 gF 271 #[.string s] w (dB (zO s:Nat)):=by
 have X:fB (iH w):=e;clear e;have e:=run_range_string w 9 s underlying9;have G:fB (xM (w.iter s 0) w.1.size s 0/\zB w (w.iter s 0)):=⟨World.iter_heap _ _ _,aC⟩
 generalize w.iter s 0=h at *;go_enter func271,ntmps271;go_wp2;clear e;go_loopw [3,4,5,6] (λe Y _ _ wr=>∃(p:Nat)(a:List Nat)(v:Bool),p<=s.size/\a.length<=p/\fB (AO s p a/\v=a.any BT)/\e=dB (a.length:Nat)/\Y=.bool v/\fB (xM wr w.1.size s p/\zB w wr)) (λ_ _ _ _ wr=>s.size-wr.iterPos w.1.size)
 case atStart=>
  exact⟨0,[],false,Oa _,Ia _,⟨AO.start s,rfl⟩,rfl,rfl,G.o⟩
 case round=>
  obtain⟨p,a,v,e,e,D,rfl,rfl,y⟩:=hrel;have e:fB (wr.iterPos w.1.size=p):=by show _=_;unfold World.iterPos;rw[y.o.1]
  clear G;by_cases j:p<s.size
  .have B:∀C,(Instr.next (.pointer (cC w.1.size)) true C).run prog wr=_:=λC=>aBy wr w.1.size s p C y.o.1 j;have M:=gW s p;have u:=oY s p;have K:fB _:=λW h=>ik s p W j h;have x:fB _:=JA s p j;have H:fB _:=λE=>D.o.1.step j E;have F:fB _:=λE=>D.o.1.bad j E;have U:fB (∀r,(a++[r]).any BT=(v||BT r)):=λr=>by rw[Tf,<-D.o.2];simp
   have J:fB (xM (jN wr w.1.size s (p+(Utf8.decode s p).2)) w.1.size s (p+(Utf8.decode s p).2)/\zB w (jN wr w.1.size s (p+(Utf8.decode s p).2))):=⟨y.o.1.set _,QY y.o.2 (Ia _) _ _⟩
   obtain⟨R,Q⟩:∃R,(Utf8.decode s p).1=R:=⟨_,rfl⟩
   obtain⟨N,A⟩:∃N,(Utf8.decode s p).2=N:=⟨_,rfl⟩
   have G:fB (Utf8.decode s p=(R,N)):=by show _=_;rw[<-Q,<-A]
   rw[Q]at u B;rw[A]at u B M;have o:fB (∀W,iH W->gF 300 #[.string s,dB (p:Nat)] W (dB (N:Nat))):=by show ∀_,_;rw[<-A];exact K.o
   have n:fB ((R,N)≠(65533,1)->AO s (p+N) (a++[R])/\p+N<=s.size):=λh=>by
    have E:Utf8.decode s p≠(65533,1):=by rw[G.o];exact h
    have z:=H.o E;have h:=x.o E;rw[Q,A]at z;rw[A]at h;exact⟨z,h⟩
   have f:fB (xM (jN wr w.1.size s (p+N)) w.1.size s (p+N)/\zB w (jN wr w.1.size s (p+N))):=by show _/\_;rw[<-A];exact J.o
   clear K H x J Q A y;obtain⟨O,h⟩:=u;generalize jN wr w.1.size s (p+N)=P at *;have l:fB (∀W,(R,N)≠(65533,1)->zB P W->∃(T:Nat)(i:List Nat)(L:Bool),T<=s.size/\i.length<=T/\fB (AO s T i/\L=i.any BT)/\Value.int .i64 ((a.length:Int)+1)=dB (i.length:Nat)/\Value.bool (v||BT R)=.bool L/\fB (xM W w.1.size s T/\zB w W)):=λW g S=>
    ⟨p+N,a++[R],v||BT R,(n.o g).2,(n.o g).1.1,⟨(n.o g).1,(U.o R).symm⟩,by simp,rfl,f.o.1.z S,xB f.o.2 S⟩
   have m:fB (∀W,(R,N)≠(65533,1)->zB P W->s.size-W.iterPos w.1.size<s.size-wr.iterPos w.1.size):=λW g S=>by
    have z:W.iterPos w.1.size=p+N:=by unfold World.iterPos;rw[f.o.1.z S]
    rw[z,e.o];omega
   by_cases h:R=65533
   .have Z:((R:Int)==65533)=true:=by simp;omega
    by_cases z:N=1
    .have J:((N:Int)==1)=true:=by simp;omega
     have I:fB _:=F.o (by rw[G.o,h,z]);clear l m;go_wp2_with fail;apply oC (o.o _ (X.o.z f.o.2));intro w2 c;have d:fB _:=xB f.o.2 c;clear c;go_wp2;go_ret;exact⟨vF (by rw[I.o];rfl),d.o⟩
    have J:((N:Int)==1)=false:=by simp;omega
    have g:(R,N)≠(65533,1):=by simp;omega
    have b:fB ((R,N)≠(65533,1)):=g;clear g h z;cases v with
    |true=>
     go_wp2_with fail;apply oC (o.o _ (X.o.z f.o.2));intro w2 c;have d:fB _:=c;clear c;go_wp2;have t:=l.o _ b.o d.o;rw[Bool.true_or]at t;exact⟨t,m.o _ b.o d.o⟩
    |false=>
     go_wp2_with fail;apply oC (o.o _ (X.o.z f.o.2));intro w2 c;have d:fB _:=c;clear c;go_wp2_with fail;apply dR (AZ R _ O);go_wp2;have t:=l.o _ b.o d.o;rw[Rf]at t;exact⟨t,m.o _ b.o d.o⟩
   have Z:((R:Int)==65533)=false:=by simp;omega
   have b:fB ((R,N)≠(65533,1)):=by show _≠_;simp;omega
   cases v with
   |true=>
    go_wp2;have t:=l.o _ b.o jD;rw[Bool.true_or]at t;exact⟨t,m.o _ b.o jD⟩
   |false=>
    go_wp2_with fail;apply dR (AZ R _ O);go_wp2;have t:=l.o _ b.o jD;rw[Rf]at t;exact⟨t,m.o _ b.o jD⟩
  have B:∀C,(Instr.next (.pointer (cC w.1.size)) true C).run prog wr=_:=λC=>aBz wr w.1.size s p C y.o.1 j;have I:fB _:=D.o.1.done (by omega);have h:fB _:=D.o.2;have V:fB _:=y.o.2;clear D y e;by_cases q:128<a.length
  .have k:fB (zO s=43):=by show _=_;rw[I.o,QT,Ma q]
   go_wp2;go_ret;exact⟨vF (by rw[k.o];rfl),V.o⟩
  cases v with
  |true=>
   have k:fB (zO s=44):=by show _=_;rw[I.o,QT,Ja q,<-h.o];rfl
   go_wp2;go_ret;exact⟨vF (by rw[k.o];rfl),V.o⟩
  |false=>
   have k:fB (zO s=0):=by show _=_;rw[I.o,QT,Ja q,<-h.o];rfl
   go_wp2;go_ret;exact⟨vF (by rw[k.o];rfl),V.o⟩
def lY(x y:vB):Int:=if Op.bytesLess x.toList y.toList=true then -1 else if (x.toList==y.toList)=true then 0 else 1
def GU(s:vB)(w:World):bM 253 #[.string s] w (.bool false):=by
 go_enter func253,ntmps253;go_wp2;go_ret;exact⟨rfl,rfl⟩
def IW(x y:vB)(w:World):bM 213 #[.string x,.string y] w (dB (lY x y)):=by
 by_cases b:Op.bytesLess x.toList y.toList=true
 .have E:fB (lY x y = -1):=by show _=_;simp[lY,b]
  go_enter func213,ntmps213;go_wp2_with(first|(go_at_call 253;apply oC (GU _ _);rintro c rfl));go_ret;exact⟨vF E.o.symm,rfl⟩
 have a:Op.bytesLess x.toList y.toList=false:=by simpa using b
 by_cases d:(x.toList==y.toList)=true
 .have E:fB (lY x y=0):=by show _=_;simp[lY,a,d]
  clear b;go_enter func213,ntmps213;go_wp2_with(first|(go_at_call 253;apply oC (GU _ _);rintro c rfl));go_ret;exact⟨vF E.o.symm,rfl⟩
 have f:(x.toList==y.toList)=false:=by simpa using d
 have E:fB (lY x y=1):=by show _=_;simp only[lY,a,f];rfl
 clear b d;go_enter func213,ntmps213;go_wp2_with(first|(go_at_call 253;apply oC (GU _ _);rintro c rfl));go_ret;exact⟨vF E.o.symm,rfl⟩
def zq(w:World)(n:Int):(convert 22 9 (.slice (cC w.1.size) 1 1)).run prog (w.alloc (.cells #[.int .u8 n] 5))=.ok (.string ⟨#[UInt8.ofNat n.toNat]⟩) (w.alloc (.cells #[.int .u8 n] 5)):=by
 rw[run_convert_bytes_string _ 22 9 5 _ 1 1 underlying22 underlying5 underlying9,run_bytesToString _ _ 1 1 [n] (by simp[go_sem,loadCells])];rfl
def aGw(c:UInt8)(s:vB):((⟨#[c]⟩:vB)++s).data.toList=c::s.data.toList:=by
 simp
def ZI(c:UInt8)(s:vB):((⟨#[c]⟩:vB)++s).size=s.size+1:=by
 rw[Ka];show 1+s.size=_;omega
def vs(s:vB)(l:List UInt8)(h:s.data.toList=l):s=⟨l.toArray⟩:=by
 subst h;simp
def BV(a c:vB)(d:Int)(t:vB)(w:World):gF 212 #[.agg #[.string a,.string c,dB d],.string t] w (dB (lY a t)):=by
 go_enter func212,ntmps212;go_wp2_with(first|(go_at_call 213;apply oC (IW _ _ _);rintro b rfl));go_ret;exact⟨rfl,aC⟩
def mL:∃i,prog.info? 115=some i/\i.zero=some (.agg #[.string ByteArray.empty,.string ByteArray.empty,dB 0])/\i.size=3/\i.bytes=40:=by
 have h:(prog.info? 115).map (λi=>(i.zero,i.size,i.bytes))=some (some (.agg #[.string ByteArray.empty,.string ByteArray.empty,dB 0]),3,40):=by kernel_rfl
 obtain⟨i,b,a⟩:=Wb.1 h;simp only[Dc]at a;exact⟨i,b,a⟩
def SH(a:nC)(g:Nat)(c:List nB)(w:World)(q:wB w a c)(A:c.length<=1048576):
 Calls prog 79 #[.slice a c.length g] w λe n=>∃v,e=.returned v/\n.ownsRow w.1.size 115 3 v c.length (flat c)/\zB w n:=by
 have p:=λn=>Lib.run_eql_slice_nil (P:=prog) n 33 115 a c.length g 0 0 underlying33;cases a with
 |none=>
  have E:c=[]:=by
   obtain h|⟨b,o,e,_⟩:=q;exact h;exact absurd e (by simp)
  subst E;have y:=λn=>Lib.run_eql_slice_nil (P:=prog) n 33 115 none 0 g 0 0 underlying33;clear p;go_enter func79,ntmps79;go_wp2;go_ret;exact⟨_,rfl,⟨rfl,Ca ⟨rfl,rfl⟩⟩,jD⟩
 |some x=>
  obtain⟨i,z,r,s,t⟩:=mL;have l:(w.alloc (.cells #[] 115)).ownsRow w.1.size 115 3 (.slice (cC w.1.size) 0 0) 0 []:=
   ⟨rfl,La ⟨w.1.size,0,#[],rfl,Ia _,heap_alloc_new _ _,Ia _,Oa _,rfl,rfl⟩⟩
  have D:fB ((w.alloc (.cells #[] 115)).ownsRow w.1.size 115 3 (.slice (cC w.1.size) 0 0) 0 []):=l;have d:∀j u,(flat c)[j]?=some u->(w.alloc (.cells #[] 115)).cell? (x.add j)=some u:=by
   rcases q.z (uF w (.cells #[] 115)) with rfl|⟨b,o,e,_,h⟩;intro j u h;simp[flat]at h;simp only[Qa]at e;subst e;exact jO h
  have C:fB _:=d;have B:fB _:=z;clear q l d z;go_enter func79,ntmps79;go_wp2_with(at_builtin;refine wpList_append_own_at _ rfl _ _ _ rfl w.1.size 115 i _ 3 40 underlying33 B.o r s t rfl (by omega) (.slice (cC w.1.size) 0 0) 0 [] rfl D.o x c.length g (flat c) rfl (zE c) C.o (uG c) (by simp[maxLen];omega) (by omega) (by simp) ?_;intro G H f m _ _);go_ret;simp only[Ya,Mb]at f;refine⟨G,rfl,f,aC.grown m (by simp) (λk F=>?_)⟩;simp[Value.ownBlock]at F;omega
def yJ(a:nC)(j:Nat)(c:List nB)(w:World)(l:wB w a c)(f:c.length<=maxLen)(m:tC c<=1000000000):
 gF 78 #[.slice a c.length j] w (dB (tC c)):=by
 unfold maxLen at f;have n:fB (wB w a c):=l;clear l;go_enter func78,ntmps78;go_wp2;go_loopw [3,8,5] (λs i _ wr=>∃k:Nat,k<=c.length/\i=dB k/\s=dB (tC (c.take k))/\zB w wr) (λ_ i _ _=>c.length-(intOf i).toNat)
 case atStart=>exact⟨0,Oa _,rfl,rfl,jD⟩
 case round=>
  obtain⟨k,A,rfl,rfl,d⟩:=hrel;have q:=wH c k;by_cases g:k<c.length
  .obtain ⟨b,o,rfl,y,u,v,x⟩:=(n.o.z d).at g;have h:=jI c k g;have r:=wH c (k+1);have z:c[k].data.size<=1000000000:=by omega
   have p:fB _:=h;clear h;go_wp2;exact⟨⟨k+1,by omega,by go_num,by rw[p.o];go_num,d.alloc d.size _⟩,by simp[intOf];omega⟩
  go_wp2;go_ret;have e:c.take k=c:=Ra (by omega);exact⟨vF (by rw[e]),d⟩
def yY(a:nC)(l:Nat)(d:List nB)(c y r u:Int)(t:Bool)(w:World)(m:wB w a d)(g:d.length<=maxLen)(n:tC d<=1000000000):
 gF 128 #[.agg #[.slice a d.length l,dB c,dB y,dB r,dB u,.bool t]] w (dB (tC d)):=by
 unfold maxLen at g;have p:fB (wB w a d):=m;clear m;go_enter func128,ntmps128;go_wp2;go_loopw [3,9,5] (λs i _ wr=>∃k:Nat,k<=d.length/\i=dB k/\s=dB (tC (d.take k))/\zB w wr) (λ_ i _ _=>d.length-(intOf i).toNat)
 case atStart=>exact⟨0,Oa _,rfl,rfl,jD.alloc (Ia _) _⟩
 case round=>
  obtain⟨k,F,rfl,rfl,f⟩:=hrel;have v:=wH d k;by_cases h:k<d.length
  .obtain ⟨b,o,rfl,D,A,B,C⟩:=(p.o.z f).at h;have j:=jI d k h;have x:=wH d (k+1);have E:d[k].data.size<=1000000000:=by omega
   have q:fB _:=j;clear j;go_wp2;exact⟨⟨k+1,by omega,by go_num,by rw[q.o];go_num,f.alloc f.size _⟩,by simp[intOf];omega⟩
  go_wp2;go_ret;have e:d.take k=d:=Ra (by omega);exact⟨vF (by rw[e]),f⟩
def mY(a x:Nat):Nat:=if (a+x) % 2=1 then(a / 2) ^^^ 2197175160 else a / 2
def aQ(a b:Nat):Nat->Nat
 |0=>a
 |k+1=>mY (aQ a b k) (b / 2 ^ k)
def DV(a:Nat)(c:UInt8):Nat:=aQ a c.toNat 8
def aw(l:List UInt8):Nat:=l.foldl DV 4294967295
def qK(s:vB):Nat:=4294967295-aw s.data.toList
def sk{a x:Nat}(h:a<4294967296):mY a x<4294967296:=by
 unfold mY;split;exact Qd (n:=32) (by omega) (by omega);omega
def BS{a b:Nat}(h:a<4294967296):∀k,aQ a b k<4294967296
 |0=>h
 |k+1=>sk (BS h k)
def aEr(l:List UInt8):aw l<4294967296:=by
 have a:∀(l:List UInt8)(r:Nat),r<4294967296->l.foldl DV r<4294967296:=λl=>by
  induction l with
  |nil=>exact λr h=>h
  |cons c l b=>exact λr h=>b _ (BS h 8)
 exact a l _ (by omega)
def SN(l:List UInt8)(c:UInt8):aw (l++[c])=DV (aw l) c:=by simp[aw]
def pe(s:vB):qK s<4294967296:=by unfold qK;omega
def aHh(a b:Nat)(c:a<4611686018427387904)(d:b<4611686018427387904):bits .xor .i64 (a:Int) (b:Int)=((a ^^^ b:Nat):Int):=by
 have e:a ^^^ b<2 ^ 62:=Qd (by omega) (by omega);show IntKind.i64.wrap ((BitVec.ofInt 64 (a:Int) ^^^ BitVec.ofInt 64 (b:Int)).toNat:Int)=_;rw[Jg,Nc,Nc,Hc,Hc,Ic (by omega),Ic (by omega)];simp only[IntKind.wrap,IntKind.bits,IntKind.signed];simp;omega
def AC:∃i,prog.info? 9=some i/\i.zero=some (.string ByteArray.empty)/\i.size=1/\i.bytes=16:=by
 have h:(prog.info? 9).map (λi=>(i.zero,i.size,i.bytes))=some (some (.string ByteArray.empty),1,16):=by kernel_rfl
 obtain⟨i,b,a⟩:=Wb.1 h;simp only[Dc]at a;exact⟨i,b,a.1,a.2.1,a.2.2⟩
def cH{w:World}{B:Nat}{e:TypeId}{g i:Nat}{a:List vB}(h:w.ownsRow B e 1 (.slice (cC g) a.length i) a.length (a.map Value.string)):
 a.length<=i/\g<w.1.size/\∀(j:Nat) x,a[j]?=some x->w.cell? (iB g (0+j))=some (.string x):=by
 obtain⟨c,_⟩|⟨p,f,d,c,q,k,l,_,_,n⟩:=h.2;simp at c;simp only[Value.slice.injEq,Qa,Addr.mk.injEq,Cc]at c;obtain⟨rfl,_,rfl⟩:=c;refine⟨l,eB k,λj x o=>?_⟩;rw[cell_of_row w g _ d _ _ k,Ya,<-Yd];have b:(a.map Value.string)[j]?=some (.string x):=by rw[Se,o];rfl
 rw[<-n]at b;have m:=(Pb.1 b).1;rw[Hb]at m;rw[Jb (by omega)]at b;exact b
def KL(s:vB)(w:World)(u:s.size<=maxLen):
 bM 204 #[.string s] w (dB (qK s:Nat)):=by
 unfold maxLen at u;go_enter func204,ntmps204;go_wp2;go_loop [3,4,5,6,7,8] (λr i _ _ _ _=>∃(j R:Nat),j<=s.size/\i=dB j/\r=dB R/\fB (R=aw (s.data.toList.take j))) (λ_ i _ _ _ _=>s.size-(intOf i).toNat)
 case atStart=>exact⟨0,4294967295,Oa _,rfl,rfl,rfl⟩
 case round=>
  obtain⟨j,R,A,rfl,rfl,f⟩:=hrel;have b:R<4294967296:=by rw[f.o];exact aEr _
  by_cases g:j<s.size
  .have z:s[j].toNat<256:=s[j].toNat_lt;go_wp2;go_loop [3,5,6,7,8] (λr k _ _ _=>∃(m S:Nat),m<=8/\k=dB m/\r=dB S/\fB (S=aQ R s[j].toNat m)) (λ_ k _ _ _=>8-(intOf k).toNat)
   case atStart=>exact⟨0,R,by omega,rfl,rfl,rfl⟩
   case round=>
    obtain⟨m,S,B,rfl,rfl,c⟩:=hrel;have h:S<4294967296:=by rw[c.o];exact BS b _
    by_cases p:m<8
    .go_wp2;go_loop [6,7] (λx q=>∃(t X:Nat),t<=m/\q=dB t/\x=dB X/\fB (X=s[j].toNat / 2 ^ t)) (λ_ q=>m-(intOf q).toNat)
     case atStart=>exact⟨0,s[j].toNat,by omega,rfl,rfl,by show _=_;simp⟩
     case round=>
      obtain⟨t,X,C,rfl,rfl,d⟩:=hrel;have n:X<256:=by
       have:X<=s[j].toNat:=by rw[d.o];exact Nat.div_le_self _ _
       omega
      by_cases v:t<m
      .go_wp2;exact⟨⟨t+1,X / 2,by omega,by go_num,by go_num,by show _=_;rw[d.o,Fg,Od]⟩,by simp[intOf];omega⟩
      have e:t=m:=by omega
      subst e;by_cases a:(S+X) % 2=1
      .go_wp2;have o:bits BinOp.xor IntKind.i64 ((S:Int) / 2) 2197175160=(((S / 2) ^^^ 2197175160:Nat):Int):=aHh (S / 2) 2197175160 (by omega) (by omega);rw[o];exact⟨⟨t+1,_,by omega,by go_num,rfl,by show _=_;rw[aQ,mY,<-c.o,<-d.o,Ma a]⟩,by simp[intOf];omega⟩
      go_wp2;exact⟨⟨t+1,S / 2,by omega,by go_num,by go_num,by show _=_;rw[aQ,mY,<-c.o,<-d.o,Ja a]⟩,by simp[intOf];omega⟩
    go_wp2;have e:m=8:=by omega
    subst e;exact⟨⟨j+1,S,by omega,by go_num,rfl,by show _=_;rw[rV s j g,SN,<-f.o,DV,c.o]⟩,by simp[intOf];omega⟩
  go_wp2;go_ret;refine⟨vF ?_,rfl⟩;rw[qK,<-Ra (l:=s.data.toList) (i:=j) (by simp;omega),<-f.o];omega
def aY(w:World)(B P:Nat)(a:nC)(n:Nat):Prop:=n=0\/∃b o,a=some (iB b o)/\b≠B/\b<P/\∀i,i<n->∃v:Nat,v<256/\w.cell? (iB b (o+i))=some (.int .u8 (v:Nat))
def aY.but{w f:World}{B P n:Nat}{a:nC}(h:aY w B P a n)(m:P<=w.1.size)(g:uD B w f):aY f B P a n:=by
 obtain h|⟨b,o,e,c,d,h⟩:=h;exact Ca h;exact La ⟨b,o,e,c,d,λi k=>by
  obtain⟨v,l,j⟩:=h i k;exact⟨v,l,by rw[World.cell?_of_block (g.block b (by omega) c)];exact j⟩⟩
def aY.below{w f:World}{B P n:Nat}{a:nC}(h:aY w B P a n)(g:Below P w f):aY f B P a n:=by
 obtain h|⟨b,o,e,d,c,h⟩:=h;exact Ca h;exact La ⟨b,o,e,d,c,λi k=>by
  obtain⟨v,l,j⟩:=h i k;exact⟨v,l,by rw[World.cell?_of_block (g.block b c)];exact j⟩⟩
def bF(w:World)(B P N:Nat):Prop:=∃(a:nC)(n b k:Nat)(c:Int),rB w B #[.slice a n b,dB (k:Nat),dB c] 63/\k<=N/\(0<=c/\c<2147483648)/\n<=1048576/\aY w B P a n/\B<P/\P<=w.1.size
def bF.below{w e:World}{B P N:Nat}(h:bF w B P N)(c:Below P w e):bF e B P N:=by
 obtain⟨a,n,b,k,o,f,g,i,j,l,d,m⟩:=h;exact⟨a,n,b,k,o,(c.block B d).trans f,g,i,j,l.below c,d,Ua m c.size⟩
def bF.up{w:World}{B P N:Nat}(h:bF w B P N):B<P/\P<=w.1.size:=by
 obtain⟨a,n,b,k,l,e,f,g,i,j,c,d⟩:=h;exact⟨c,d⟩
def bF.z{w a:World}{B P N:Nat}(h:bF w B P N)(b:zB w a):bF a B P N:=h.below (b.mono h.up.2)
def bF.mono{w:World}{B P N M:Nat}(h:bF w B P N)(f:N<=M):bF w B P M:=by
 obtain⟨a,n,b,k,g,c,d,e⟩:=h;exact⟨a,n,b,k,g,c,Ua d f,e⟩
def uD.drewC{B:Nat}{w a:World}(h:uD B w a):uD B w a.drew:=⟨h.os,h.tape,h.output,h.size,h.block⟩
def bF.drew{w:World}{B P N:Nat}(h:bF w B P N):bF w.drew B P N:=h
def zu(B P N:Nat)(w:World)(a:nC)(n c k:Nat)(g:Int)(d:rB w B #[.slice a n c,dB (k:Nat),dB g] 63)(m:k<=N)(f:0<=g)(i:g<2147483648)(y:n<=1048576)(l:aY w B P a n)(j:B<P/\P<=w.1.size)(u:N<=100000000)(r:200+40*n<k+1):
 Calls prog 47 #[.pointer (cC B)] w λe o=>∃v:Nat,v<256/\e=.returned (dB (v:Nat))/\bF o B P (N+1)/\uD B w o:=by
 have p:fB (rB w B #[.slice a n c,dB (k:Nat),dB g] 63):=d;have z:=rB.cell d 0;have A:=rB.cell d 1;have C:=rB.cell d 2;simp only[Xb,Ob,Ga]at z A C;have b:=rB.free d 1;clear d;have h:fB (aY w B P a n/\B<P/\P<=w.1.size):=⟨l,j⟩
 clear j;have x:(k:Int)<=100000000:=by omega
 have q:fB (k<=N):=m;clear m u;clear l;have s:(200+40*(n:Int))<(k:Int)+1:=by omega
 clear r;go_enter func47,ntmps47;go_wp2;go_region
 go_wp2;have t:((k:Int)+1)=((k+1:Nat):Int):=by omega
 go_ret;refine⟨0,by omega,rfl,?_,?_⟩
 .refine bF.drew ⟨a,n,c,k+1,g,?_,Nat.succ_le_succ q.o,⟨f,i⟩,y,h.o.1.but h.o.2.2 ((uD.refl _ _).setCell _ _),h.o.2.1,by simpa using h.o.2.2⟩;have:=rB.set p.o 1 (dB ((k:Int)+1));rw[t]at this |-
  exact this
 exact uD.drewC ((uD.refl _ _).setCell _ _)
def zv(B P N:Nat)(w:World)(a:nC)(n d k:Nat)(g:Int)(f:rB w B #[.slice a n d,dB (k:Nat),dB g] 63)(l:k<=N)(m:0<=g)(C:g<2147483648)(A:n<=1048576)(j:aY w B P a n)(i:B<P/\P<=w.1.size)(y:N<=100000000)(r:¬200+40*n<k+1)(t:n<k+1):
 Calls prog 47 #[.pointer (cC B)] w λe o=>∃v:Nat,v<256/\e=.returned (dB (v:Nat))/\bF o B P (N+1)/\uD B w o:=by
 have p:fB (rB w B #[.slice a n d,dB (k:Nat),dB g] 63):=f;have D:=rB.cell f 0;have E:=rB.cell f 1;have F:=rB.cell f 2;simp only[Xb,Ob,Ga]at D E F;have b:=rB.free f 1;have c:=rB.free f 2;clear f;have h:fB (aY w B P a n/\B<P/\P<=w.1.size):=⟨j,i⟩
 clear i;have z:(k:Int)<=100000000:=by omega
 have q:fB (k<=N):=l;clear l y;clear j;have s:¬((200+40*(n:Int))<(k:Int)+1):=by omega
 have u:((n:Int))<(k:Int)+1:=by omega
 clear r t;go_enter func47,ntmps47;go_wp2;go_region
 go_wp2;go_region
 go_wp2;have x:((k:Int)+1)=((k+1:Nat):Int):=by omega
 refine bodyPost_ret (v:=dB ((g*1103515245+12345) % 2147483648 / 65536 % 256)) (by simp[results,results47,go_sem]) rfl ?_;generalize g*1103515245+12345=X;refine⟨(X % 2147483648 / 65536 % 256).toNat,by omega,by rw[Int.toNat_of_nonneg (by omega)],?_,?_⟩
 .refine bF.drew (bF.drew ⟨a,n,d,k+1,X % 2147483648,?_,Nat.succ_le_succ q.o,⟨by omega,by omega⟩,A,h.o.1.but h.o.2.2 (((uD.refl _ _).setCell _ _).setCell _ _),h.o.2.1,by simpa using h.o.2.2⟩);have:=rB.set (rB.set p.o 1 (dB ((k:Int)+1))) 2 (dB (X % 2147483648));rw[x]at this |-
  exact this
 exact uD.drewC (uD.drewC (((uD.refl _ _).setCell _ _).setCell _ _))
def zw(B P N:Nat)(w:World)(a:nC)(n f k:Nat)(h:Int)(g:rB w B #[.slice a n f,dB (k:Nat),dB h] 63)(p:k<=N)(q:0<=h)(H:h<2147483648)(F:n<=1048576)(l:aY w B P a n)(j:B<P/\P<=w.1.size)(A:N<=100000000)(x:¬n<k+1):
 Calls prog 47 #[.pointer (cC B)] w λe r=>∃v:Nat,v<256/\e=.returned (dB (v:Nat))/\bF r B P (N+1)/\uD B w r:=by
 have s:fB (rB w B #[.slice a n f,dB (k:Nat),dB h] 63):=g;have I:=rB.cell g 0;have J:=rB.cell g 1;have K:=rB.cell g 2;simp only[Xb,Ob,Ga]at I J K;have c:=rB.free g 1;have d:=rB.free g 2;clear g;have i:fB (aY w B P a n/\B<P/\P<=w.1.size):=⟨l,j⟩
 clear j;have D:(k:Int)<=100000000:=by omega
 have t:fB (k<=N):=p;clear p A;obtain L|⟨b,o,rfl,G,E,m⟩:=l;omega;obtain⟨v,M,C⟩:=m k (by omega);clear m;have u:¬((200+40*(n:Int))<(k:Int)+1):=by omega
 have y:¬((n:Int)<(k:Int)+1):=by omega
 clear x;go_enter func47,ntmps47;go_wp2;go_region
 go_wp2;go_region
 go_wp2;go_region
 go_wp2;go_region
 go_wp2;have z:((k:Int)+1)=((k+1:Nat):Int):=by omega
 refine bodyPost_ret (v:=dB (v:Nat)) (by simp[results,results47,go_sem]) rfl ?_;generalize h*31+v+7=X;refine⟨v,by omega,rfl,?_,?_⟩
 .refine bF.drew (bF.drew (bF.drew (bF.drew ⟨some (iB b o),n,f,k+1,X % 2147483648,?_,Nat.succ_le_succ t.o,⟨by omega,by omega⟩,F,i.o.1.but i.o.2.2 (((uD.refl _ _).setCell _ _).setCell _ _),i.o.2.1,by simpa using i.o.2.2⟩)));have:=rB.set (rB.set s.o 1 (dB ((k:Int)+1))) 2 (dB (X % 2147483648));rw[z]at this |-
  exact this
 exact uD.drewC (uD.drewC (uD.drewC (uD.drewC (((uD.refl _ _).setCell _ _).setCell _ _))))
def ax(B P N:Nat)(w:World)(h:bF w B P N)(g:N<=100000000):
 Calls prog 47 #[.pointer (cC B)] w λe r=>∃v:Nat,v<256/\e=.returned (dB (v:Nat))/\bF r B P (N+1)/\uD B w r:=by
 obtain⟨a,n,b,k,o,f,l,⟨c,d⟩,m,j,i⟩:=h;by_cases p:200+40*n<k+1
 .exact zu B P N w a n b k o f l c d m j i g p
 by_cases q:n<k+1
 .exact zv B P N w a n b k o f l c d m j i g p q
 exact zw B P N w a n b k o f l c d m j i g q
def nD(B P N n:Nat)(w:World)(h:bF w B P N)(i:N<=10000000)(k:2<=n)(m:n<=256):
 Calls prog 15 #[.pointer (cC B),dB (n:Nat)] w λe c=>∃v:Nat,v<n/\e=.returned (dB (v:Nat))/\bF c B P (N+1)/\uD B w c:=by
 have g:fB (Calls prog 47 #[.pointer (cC B)] w λe c=>∃v:Nat,v<256/\e=.returned (dB (v:Nat))/\bF c B P (N+1)/\uD B w c):=ax B P N w h (by omega);clear h i;have j:¬((n:Int)<=1):=by omega
 have l:(n:Int)<=256:=by omega
 go_enter func15,ntmps15;go_wp2_with fail;refine g.o.mono ?_;rintro e d ⟨v,o,rfl,b,a⟩;have f:fB (bF d B P (N+1)/\uD B w d):=⟨b,a⟩
 clear b a;go_wp2;go_ret;exact⟨v % n,Nat.mod_lt _ (by omega),rfl,f.o⟩
def WN(B n:Nat)(w:World)(c:n<=1):
 bM 15 #[.pointer (cC B),dB (n:Nat)] w (dB 0):=by
 have b:(n:Int)<=1:=by omega
 go_enter func15,ntmps15;go_wp2;go_ret;exact⟨rfl,rfl⟩
def eP(w:World)(g m k:Nat):Prop:=∃(a:Array Value)(t:TypeId),rB w g a t/\∀j,j<m->∃s:vB,a[j]?=some (.string s)/\s.size<=k
def eP.but{w d:World}{g m k B:Nat}(h:eP w g m k)(f:uD B w d)(b:g≠B):eP d g m k:=by
 obtain⟨a,t,c,e⟩:=h;exact⟨a,t,(f.block g (eB c) b).trans c,e⟩
def eP.z{w b:World}{g m k:Nat}(h:eP w g m k)(e:zB w b):eP b g m k:=by
 obtain⟨a,t,c,d⟩:=h;exact⟨a,t,c.z e,d⟩
def eP.at{w:World}{g m k:Nat}(h:eP w g m k){j:Nat}(d:j<m):∃s:vB,w.cell? (iB g j)=some (.string s)/\s.size<=k:=by
 obtain⟨a,t,b,c⟩:=h;obtain⟨s,e,f⟩:=c j d;exact⟨s,by rw[b.cell];exact e,f⟩
def gT(w:World)(L:List vB)(k:Nat)(t:TypeId)(m:Nat)(b:m=L.length)(h:(L.all λs=>decide (s.size<=k))=true):eP (w.alloc (.cells (L.map .string).toArray t)) w.1.size m k:=by
 subst b;refine⟨_,t,heap_alloc_new _ _,λj a=>⟨L[j],by simp[a],?_⟩⟩;have:=Ke.1 h L[j] (Gb a);simpa using this
def bF.lt{w:World}{B P N:Nat}(h:bF w B P N):B<w.1.size:=Bb h.up.1 h.up.2
def uD.z{B:Nat}{w b a:World}(h:uD B w b)(c:zB b a):uD B w a:=h.trans (uD.of c)
def QS(B P N:Nat)(w:World)(h:bF w B P N)(G:N<=1000000):
 Calls prog 125 #[.pointer (cC B)] w λe x=>∃s:vB,s.size<=16/\e=.returned (.string s)/\bF x B P (N+10)/\uD B w x:=by
 have u:fB (bF w B P N):=h;have p:=h.lt;clear h;go_enter func125,ntmps125;go_wp2_with fail;have a:fB (eP (w.alloc (.cells ([⟨#[97]⟩,⟨#[98]⟩,⟨#[119,101,98]⟩,⟨#[120,32,121]⟩,⟨#[195,169]⟩,⟨#[226,130,172]⟩,⟨#[240,159,152,128]⟩,⟨#[49]⟩,⟨#[45]⟩,⟨#[122]⟩].map Value.string).toArray 9)) w.1.size 10 4):=gT w _ 4 _ 10 rfl (by decide);simp only[Fc,Ag]at a;have f:=u.o.z (uF w (.cells #[.string ⟨#[97]⟩,.string ⟨#[98]⟩,.string ⟨#[119,101,98]⟩,.string ⟨#[120,32,121]⟩,.string ⟨#[195,169]⟩,.string ⟨#[226,130,172]⟩,.string ⟨#[240,159,152,128]⟩,.string ⟨#[49]⟩,.string ⟨#[45]⟩,.string ⟨#[122]⟩] 9));refine(nD B P N 4 _ f (by omega) (by omega) (by omega)).mono ?_;rintro e q ⟨n,I,rfl,j,c⟩;have y:fB (bF q B P (N+1)/\uD B w q/\eP q w.1.size 10 4):=⟨j,(uD.of aC).trans c,a.o.but c (by omega)⟩
 clear j c f a u;generalize C:w.1.size=g at *;have A:fB (g≠B):=by show g≠B;omega
 clear C p;go_wp2;go_loopw [4,6] (λs i wr=>∃(k:Nat)(t:vB),k<=n/\i=dB (k:Nat)/\s=.string t/\t.size<=4*k/\fB (bF wr B P (N+1+k)/\uD B w wr/\eP wr g 10 4)) (λ_ i _=>n-(intOf i).toNat)
 case atStart=>exact⟨0,⟨#[]⟩,by omega,rfl,rfl,by decide,y.o⟩
 case round=>
  obtain⟨k,t,H,rfl,rfl,K,a⟩:=hrel;by_cases D:k<n
  .have m:(k:Int)<(n:Int):=by omega
   go_wp2_with fail;refine(nD B P (N+1+k) 10 _ a.o.1 (by omega) (by omega) (by omega)).mono ?_;rintro e r ⟨v,E,rfl,l,d⟩;have b:=a.o.2.2.but d A.o;obtain⟨s,o,J⟩:=b.at E;have z:fB (bF r B P (N+1+(k+1))/\uD B w r/\eP r g 10 4):=⟨l,a.o.2.1.trans d,b⟩
   clear l d b;have F:(v:Int)<10:=by omega
   go_wp2;exact⟨⟨k+1,t++s,by omega,by go_num,rfl,by rw[Ka];omega,z.o⟩,by simp[intOf];omega⟩
  have m:¬((k:Int)<(n:Int)):=by omega
  go_wp2;go_ret;exact⟨t,by omega,rfl,a.o.1.mono (by omega),a.o.2.1⟩
section
open Go.ChangeShapes Go.WideShapes Go.ChangeAt Go.Deep
def zk:prog.cellsOf 5=1:=by kernel_rfl
def aGb{H:Type}{m:TypeId×Value->H}{W:World}{g:Nat}{v:Value}{x:DataW H×List MemPlace}(h:DataW.trod m prog W 0 (λ_=>true) true g 22 [v]=some x):
 ∃(a:nC)(n d:Nat),v=.slice a n d/\n<=maxLen/\aY W W.1.size W.1.size a n:=by
 rcases open_ints underlying22 underlying5 zk h with⟨p,_⟩|⟨a,h,d,w,p,_,z,A,u,_,c,r⟩;exact ⟨none,0,0,by simpa using p,Oa _,Ca rfl⟩;simp only[Td]at u;refine⟨some a,h,d,by simpa using p,by omega,?_⟩;by_cases s:h=0
 .exact Ca s
 obtain ⟨b,o,l⟩:=a;have f:l=none:=by simpa[Addr.add]using World.cell?_spot (c 0 (by omega))
 subst f;have e:b<W.1.size:=by
  have j:=c 0 (by omega);rcases Gc b W.1.size with e|q;exact e;rw[Addr.add_lit]at j;simp[World.cell?,Mc q]at j
 refine La ⟨b,o,rfl,by omega,e,λi y=>?_⟩;have k:=c i (by omega);rw[Addr.add_lit,List.getD_eq_getElem?_getD]at k;have t:=range_u8 r i;refine⟨(w[i]?.getD 0).toNat,by omega,?_⟩;rw[Int.toNat_of_nonneg t.1];exact k
end
