import Derived.BigQuiet
import Derived.WalkLawsBesides
import Derived.WalkSpells
import Derived.Test.YtbfnhppoecdnoaaGreatDoorJ01
import Derived.Deep.AppendLies
import Derived.Lib.RuneCountTail
import Derived.Deep.OwnRows
set_option linter.defProp false
namespace Go.Proofs.YtbfnhppoecdnoaaGreatDoor
open Go.RowKit Tryz
def yA{p:Prop}(h:p):xA p:=h
structure cB where
 N:gB
 data:gB
 Y:Int
def bX(w:World)(b o:Nat)(a:List cB):Prop:=
 ∀i(h:i<a.length),w.cell? ⟨b,o+i*3,none⟩=some (.string a[i].N)/\
  w.cell? ⟨b,o+i*3+1,none⟩=some (.string a[i].data)/\w.cell? ⟨b,o+i*3+2,none⟩=some (.int .i64 a[i].Y)
def aBe{B:Nat}{W a:World}(c:Below B W a):(∀b o,b<B->a.cell? ⟨b,o,none⟩=W.cell? ⟨b,o,none⟩)/\(∀b o,b<B->a.frozen? ⟨b,o,none⟩=W.frozen? ⟨b,o,none⟩):=
 ⟨fun b o h=>c.cell (p:=⟨b,o,none⟩) h,fun b o h=>c.frozen (p:=⟨b,o,none⟩) h⟩
def fD{k:IntKind}{a b:Int}(h:a=b):Ending.returned (.int k a)=.returned (.int k b):=by rw[h]
def fB{a b:Bool}(h:a=b):Ending.returned (.bool a)=.returned (.bool b):=by rw[h]
structure tB(w:World) where
 w':World
 h:Below w.1.size w w'
theorem tB.there(w:World):Nonempty (tB w):=⟨⟨w,eD⟩⟩
def tB.cell{w:World}(x:tB w){b o:Nat}{v:Value}(h:w.cell? ⟨b,o,none⟩=some v):x.w'.cell? ⟨b,o,none⟩=some v:=by
 have d:b<w.1.size:=by
  rcases Gc b w.1.size with c|a;exact c;simp[World.cell?,Mc a]at h
 rw[<-h];exact x.h.cell d
def tB.cells{w:World}{b o:Nat}{v:Value}(h:w.cell? ⟨b,o,none⟩=some v):∀x:tB w,x.w'.cell? ⟨b,o,none⟩=some v:=fun x=>x.cell h
def jB{P:Program}{id:Nat}{Q:Exit->Act->World->Prop}{a:Act}{w:World}{l:List Oper}(e:P.follows .mixedOrders=true)(d:Region.lexB .any l.toArray=true)
(h:wpQuiet P l.toArray (fun b=>∃x:tB w,b=x.w') (fun c=>∀b,(∃x:tB w,b=x.w')->Q .normal c b) l a):(Code.region id l.toArray true).wp P Q a w:=
 wp_region_quiet (C:=fun b=>∃x:tB w,b=x.w') e d ⟨⟨w.drew,eD.drew⟩,rfl⟩ (by simpa using h)
def xB{P:Program}{f:FuncId}{args:Array Value}{w:World}{x:tB w}{v:Value}
(h:Calls P f args x.w' fun e a=>e=.returned v/\Below x.w'.1.size x.w' a):Calls P f args x.w' fun e a=>e=.returned v/\∃y:tB w,a=y.w':=
 h.mono fun _ a ⟨c,b⟩=>⟨c,⟨a,x.h.trans (b.mono x.h.size)⟩,rfl⟩
def yC{P:Program}{f:FuncId}{args:Array Value}{w:World}{x:tB w}{v:Value}
(h:Calls P f args x.w' fun e a=>e=.returned v/\a=x.w'):Calls P f args x.w' fun e a=>e=.returned v/\∃y:tB w,a=y.w':=
 h.mono fun _ _ ⟨c,b⟩=>⟨c,x,b⟩
def szF(left:Int)(f:cB):Int:=if (f.N.size+f.data.size:Int)<=left then left-f.N.size-f.data.size else -1
def eB(w:World)(a:iC)(c:List cB):Prop:=c=[]\/∃b o,a=some ⟨b,o,none⟩/\b<w.1.size/\bX w b o c
def eB.z{w f:World}{a:iC}{e:List cB}(h:eB w a e)(d:Below w.1.size w f):eB f a e:=by
 rcases h with h|⟨b,o,rfl,c,h⟩;exact Ca h;refine La ⟨b,o,rfl,Bb c d.size,fun i l=>?_⟩;obtain⟨g,j,k⟩:=h i l;exact⟨by rw[<-g];exact d.cell c,by rw[<-j];exact d.cell c,by rw[<-k];exact d.cell c⟩
def eB.at{w:World}{a:iC}{c:List cB}(h:eB w a c){i:Nat}(e:i<c.length):
 ∃b o,a=some ⟨b,o,none⟩/\b<w.1.size/\w.cell? ⟨b,o+i*3,none⟩=some (.string c[i].N)/\
  w.cell? ⟨b,o+i*3+1,none⟩=some (.string c[i].data)/\w.cell? ⟨b,o+i*3+2,none⟩=some (.int .i64 c[i].Y):=by
 rcases h with rfl|⟨b,o,rfl,d,h⟩;exact absurd e (by simp);exact ⟨b,o,rfl,d,h i e⟩
def eB.setCell{w:World}{g o:Nat}{c:List cB}(h:eB w (some ⟨g,o,none⟩) c){p:Addr}(k:p.block≠g)(v:Value):eB (w.setCell p v) (some ⟨g,o,none⟩) c:=by
 rcases h with h|⟨b,l,e,a,h⟩;exact Ca h;simp only[Qa,Addr.mk.injEq,Cc]at e;obtain⟨rfl,rfl⟩:=e;have f:∀j,(w.setCell p v).cell? ⟨g,j,none⟩=w.cell? ⟨g,j,none⟩:=fun j=>World.cell?_of_block (Below.heap_setCell w p v g (Ne.symm k));refine La ⟨g,o,rfl,by simpa[World.setCell]using a,fun i d=>?_⟩;simp only[f];exact h i d
def bulk:List cB->Nat
 |[]=>0
 |f::r=>f.N.size+f.data.size+bulk r
def ME(a b:List cB):bulk (a++b)=bulk a+bulk b:=by
 induction a with
 |nil=>simp[bulk]
 |cons f r c=>simp[bulk,c];omega
def QO(a:List cB)(k:Nat)(h:k<a.length):bulk (a.take (k+1))=bulk (a.take k)+(a[k].N.size+a[k].data.size):=by
 rw[Pa h,ME];simp[bulk]
def cu(a:List cB)(k:Nat):bulk (a.take k)<=bulk a:=by
 have:=ME (a.take k) (a.drop k);rw[Za]at this;omega
def rC:List cB->Nat
 |[]=>0
 |f::r=>f.data.size+rC r
def cR(a b:List cB):rC (a++b)=rC a+rC b:=by induction a<;>grind [rC]
def gI(a:List cB)(k:Nat)(h:k<a.length):rC (a.take (k+1))=rC (a.take k)+a[k].data.size:=by
 rw[Pa h,cR];simp[rC]
def oH(a:List cB)(k:Nat):rC (a.take k)<=rC a:=by
 have:=cR (a.take k) (a.drop k);rw[Za]at this;omega
def VG(a:List cB):rC a<=bulk a:=by induction a<;>grind [rC,bulk]
def oR(left:Int)(a:List cB):Int:=if (a.length+bulk a:Int)<=left then left-a.length-bulk a else -1
def pL(a:List cB):Prop:=∀i(h:i<a.length),a[i].N.size<=maxLen/\a[i].data.size<=maxLen
def CX(w:World)(b:Nat)(a c d e f g:Value):Prop:=
 w.cell? ⟨b,0,none⟩=some a/\w.cell? ⟨b,1,none⟩=some c/\w.cell? ⟨b,2,none⟩=some d/\w.cell? ⟨b,3,none⟩=some e/\w.cell? ⟨b,4,none⟩=some f/\w.cell? ⟨b,5,none⟩=some g
def CX.new(w:World)(a b c d e f:Value)(t:TypeId):CX (w.alloc (.cells #[a,b,c,d,e,f] t)) w.1.size a b c d e f:=by
 simp[CX,go_sem]
def CX.lt{w:World}{b:Nat}{d e f g i j:Value}(h:CX w b d e f g i j):b<w.1.size:=by
 rcases Gc b w.1.size with c|a;exact c;have:=h.1;simp[World.cell?,Mc a]at this
def CX.z{w k:World}{b:Nat}{d e f g i j:Value}(h:CX w b d e f g i j)(a:Below w.1.size w k):CX k b d e f g i j:=by
 have c:=h.lt;obtain⟨l,m,n,o,p,q⟩:=h;exact⟨(a.cell c).trans l,(a.cell c).trans m,(a.cell c).trans n,(a.cell c).trans o,(a.cell c).trans p,(a.cell c).trans q⟩
def oB{a b c:World}(h:Below a.1.size a b)(k:Below b.1.size b c):Below a.1.size a c:=h.trans (k.mono h.size)
def yG(w:World)(o:Obj):Below w.1.size w (w.alloc o):=eD.alloc (Ia _) _
structure tD(g:Nat)(w w':World):Prop where
 os:w'.os=w.os
 tape:w'.tape=w.tape
 output:w'.output=w.output
 size:w.1.size≤w'.1.size
 block:∀k,k<w.1.size→k≠g→w'.heap[k]?=w.heap[k]?
def tD.refl(g:Nat)(w:World):tD g w w:=⟨rfl,rfl,rfl,Ia _,fun _ _ _=>rfl⟩
def tD.trans{g:Nat}{a b c:World}(h:tD g a b)(k:tD g b c):tD g a c:=
 ⟨k.os.trans h.os,k.tape.trans h.tape,k.output.trans h.output,Ua h.size k.size,fun i e d=>(k.block i (Bb e h.size) d).trans (h.block i e d)⟩
def tD.of{g:Nat}{w a:World}(h:Below w.1.size w a):tD g w a:=⟨h.os,h.tape,h.output,h.size,fun k b _=>h.block k b⟩
def tD.setCell{g:Nat}{a w:World}(h:tD g a w)(o:Nat)(v:Value):tD g a (w.setCell ⟨g,o,none⟩ v):=
 h.trans ⟨rfl,rfl,rfl,by simp[World.setCell],fun k _ b=>Below.heap_setCell _ _ _ _ b⟩
def tD.below{g B:Nat}{w a:World}(h:tD g w a)(b:B<=g)(d:B<=w.1.size):Below B w a:=
 ⟨h.os,h.tape,h.output,h.size,fun k c=>h.block k (by omega) (by omega)⟩
def eB.but{g b o:Nat}{w c:World}{d:List cB}(h:eB w (some ⟨b,o,none⟩) d)(f:tD g w c)(k:b≠g):eB c (some ⟨b,o,none⟩) d:=by
 rcases h with h|⟨n,p,e,a,h⟩;exact Ca h;simp only[Qa,Addr.mk.injEq,Cc]at e;obtain⟨rfl,rfl⟩:=e;have m:∀j,c.cell? ⟨b,j,none⟩=w.cell? ⟨b,j,none⟩:=fun j=>World.cell?_of_block (f.block b a k);exact La ⟨b,o,rfl,Bb a f.size,fun i l=>by simp only[m];exact h i l⟩
def pG(w:World)(B:Nat)(a:iC)(c:List cB):Prop:=
 c=[]\/∃g o b t,a=some ⟨g,o,none⟩/\B<=g/\w.heap[g]?=some (.cells b t (0,0))/\bX w g o c
def zA{w:World}{g:Nat}{x:Obj}(h:w.heap[g]?=some x):g<w.1.size:=by grind
def pG.files{w:World}{B:Nat}{a:iC}{b:List cB}(h:pG w B a b):eB w a b:=by grind [pG,eB]
def pG.z{w d:World}{B:Nat}{a:iC}{e:List cB}(h:pG w B a e)(f:Below w.1.size w d):pG d B a e:=by
 rcases h with h|⟨g,o,c,t,rfl,l,k,h⟩;exact Ca h;have b:=zA k;have n:∀j,d.cell? ⟨g,j,none⟩=w.cell? ⟨g,j,none⟩:=fun j=>World.cell?_of_block (f.block g b);exact La ⟨g,o,c,t,rfl,l,(f.block g b).trans k,fun i m=>by simp only[n];exact h i m⟩
def pG.mono{w:World}{B B':Nat}{a:iC}{b:List cB}(h:pG w B a b)(c:B'<=B):pG w B' a b:=by grind [pG]
def pN:Nat->Nat->List UInt8->List UInt8
 |0,_,a=>a
 |b+1,k,a=>if k=0 then a else pN b (k / 10) ((48+UInt8.ofNat (k % 10)):: a)
def mt(k:Nat):gB:=⟨(109::pN k k []).toArray⟩
def MM:∀(f b k:Nat)(a:List UInt8),k<=f->k<=b->pN f k a=pN b k a
 |0,0,_,_,_,_=>rfl
 |0,b+1,k,a,h,_=>by have:k=0:=by omega
                    subst this;simp[pN]
 |f+1,0,k,a,_,h=>by have:k=0:=by omega
                    subst this;simp[pN]
 |f+1,b+1,k,a,h,c=>by
  rw[pN,pN];split;rfl;exact MM f b (k / 10) _ (by omega) (by omega)
def qa(k:Nat)(i:Nat):cB:=⟨mt (k+3*i),mt (k+3*i+1),((k+3*i+2:Nat):Int)⟩
def zR(k n:Nat):List cB:=(List.range n).map (qa k)
def IU(k n:Nat):(zR k n).length=n:=by simp[zR]
def ZH(k n i:Nat)(h:i<(zR k n).length):(zR k n)[i]=qa k i:=by simp[zR]
def JZ(w b:World)(B:Nat)(a:iC)(n:Nat):Prop:=
 (n=0/\Below w.1.size w b)\/0<n/\∃g o,a=some ⟨g,o,none⟩/\B<=g/\tD g w b
def iB(w:World)(g:Nat)(a:Array Value)(t:TypeId):Prop:=w.heap[g]?=some (.cells a t (0,0))
def iB.set{w:World}{g:Nat}{a:Array Value}{t:TypeId}(h:iB w g a t)(j:Nat)(v:Value):iB (w.setCell ⟨g,j,none⟩ v) g (a.setIfInBounds j v) t:=heap_setCell_same w g j a t v h
def iB.z{w b:World}{g:Nat}{a:Array Value}{t:TypeId}(h:iB w g a t)(c:Below w.1.size w b):iB b g a t:=(c.block g (zA h)).trans h
def iB.cell{w:World}{g:Nat}{a:Array Value}{t:TypeId}(h:iB w g a t)(j:Nat):w.cell? ⟨g,j,none⟩=a[j]?:=cell_of_row w g j a t _ h
def iB.free{w:World}{g:Nat}{a:Array Value}{t:TypeId}(h:iB w g a t)(j:Nat):w.frozen? ⟨g,j,none⟩=false:=frozen_of_row w g j a t h
def iB.c2{w:World}{g:Nat}{a b:Value}{t:TypeId}(h:iB w g #[a,b] t):w.cell? ⟨g,0,none⟩=some a/\w.cell? ⟨g,1,none⟩=some b:=⟨h.cell 0,h.cell 1⟩
def iB.c3{w:World}{g:Nat}{a b c:Value}{t:TypeId}(h:iB w g #[a,b,c] t):w.cell? ⟨g,0,none⟩=some a/\w.cell? ⟨g,1,none⟩=some b/\w.cell? ⟨g,2,none⟩=some c:=⟨h.cell 0,h.cell 1,h.cell 2⟩
def iB.c4{w:World}{g:Nat}{a b c d:Value}{t:TypeId}(h:iB w g #[a,b,c,d] t):w.cell? ⟨g,0,none⟩=some a/\w.cell? ⟨g,1,none⟩=some b/\w.cell? ⟨g,2,none⟩=some c/\w.cell? ⟨g,3,none⟩=some d:=⟨h.cell 0,h.cell 1,h.cell 2,h.cell 3⟩
def iB.c5{w:World}{g:Nat}{a b c d e:Value}{t:TypeId}(h:iB w g #[a,b,c,d,e] t):w.cell? ⟨g,0,none⟩=some a/\w.cell? ⟨g,1,none⟩=some b/\w.cell? ⟨g,2,none⟩=some c/\w.cell? ⟨g,3,none⟩=some d/\w.cell? ⟨g,4,none⟩=some e:=⟨h.cell 0,h.cell 1,h.cell 2,h.cell 3,h.cell 4⟩
def iB.c6{w:World}{g:Nat}{a b c d e f:Value}{t:TypeId}(h:iB w g #[a,b,c,d,e,f] t):w.cell? ⟨g,0,none⟩=some a/\w.cell? ⟨g,1,none⟩=some b/\w.cell? ⟨g,2,none⟩=some c/\w.cell? ⟨g,3,none⟩=some d/\w.cell? ⟨g,4,none⟩=some e/\w.cell? ⟨g,5,none⟩=some f:=⟨h.cell 0,h.cell 1,h.cell 2,h.cell 3,h.cell 4,h.cell 5⟩
def iB.there{w:World}{g:Nat}{a:Array Value}{t:TypeId}(h:iB w g a t){j:Nat}(b:j<a.size):∃v,w.cell? ⟨g,j,none⟩=some v:=⟨a[j],by rw[h.cell];exact Qc b⟩
def xF(a:Array Value)(o j:Nat)(f:cB):Prop:=a[o+j*3]?=some (.string f.N)/\a[o+j*3+1]?=some (.string f.data)/\a[o+j*3+2]?=some (.int .i64 f.Y)
def xF.set{a:Array Value}{o j:Nat}{f:cB}(h:xF a o j f){p:Nat}(b:p<o+j*3\/o+j*3+2<p)(v:Value):xF (a.setIfInBounds p v) o j f:=by grind [xF]
def xF.made(a:Array Value)(o j:Nat)(f:cB)(h:o+j*3+2<a.size):
 xF (((a.setIfInBounds (o+j*3) (.string f.N)).setIfInBounds (o+j*3+1) (.string f.data)).setIfInBounds (o+j*3+2) (.int .i64 f.Y)) o j f:=by
 refine⟨?_,?_,?_⟩<;>simp[Eb]<;>omega
def sR{w:World}{g o:Nat}{a:Array Value}{t:TypeId}{b:List cB}(h:iB w g a t)(d:∀j(c:j<b.length),xF a o j b[j]):bX w g o b:=by
 intro j c;simp only[h.cell];exact d j c
def OS{w:World}{g o:Nat}{a:Array Value}{t:TypeId}{b:List cB}(h:iB w g a t)(d:bX w g o b):∀j(c:j<b.length),xF a o j b[j]:=by
 intro j c;have:=d j c;simp only[h.cell]at this;exact this
def aHi{b:Array Value}{o:Nat}{a:List cB}(c:∀j(d:j<a.length),xF b o j a[j]):a=[]\/o+a.length*3<=b.size:=by
 by_cases h:a.length=0
 .exact Ca (Nb.1 h)
 right;have:=(c (a.length-1) (by omega)).2.2;have:=(Vb.1 this).1;omega
structure vE where
 K:Int
 T:gB
 X:gB
 U:Int
def aIc(w:World)(b o:Nat)(a:List vE):Prop:=
 ∀i(h:i<a.length),w.cell? ⟨b,o+i*4,none⟩=some (.int .i64 a[i].K)/\w.cell? ⟨b,o+i*4+1,none⟩=some (.string a[i].T)/\w.cell? ⟨b,o+i*4+2,none⟩=some (.string a[i].X)/\w.cell? ⟨b,o+i*4+3,none⟩=some (.int .i64 a[i].U)
def wI(w:World)(a:iC)(c:List vE):Prop:=c=[]\/∃b o,a=some ⟨b,o,none⟩/\b<w.1.size/\aIc w b o c
def wI.z{w f:World}{a:iC}{e:List vE}(h:wI w a e)(d:kB w f):wI f a e:=by
 rcases h with h|⟨b,o,rfl,c,h⟩;exact Ca h;refine La ⟨b,o,rfl,Bb c d.size,fun i m=>?_⟩;obtain⟨g,j,k,l⟩:=h i m;exact⟨by rw[<-g];exact d.cell c,by rw[<-j];exact d.cell c,by rw[<-k];exact d.cell c,by rw[<-l];exact d.cell c⟩
def wI.at{w:World}{a:iC}{c:List vE}(h:wI w a c){i:Nat}(e:i<c.length):
 ∃b o,a=some ⟨b,o,none⟩/\b<w.1.size/\w.cell? ⟨b,o+i*4,none⟩=some (.int .i64 c[i].K)/\w.cell? ⟨b,o+i*4+1,none⟩=some (.string c[i].T)/\w.cell? ⟨b,o+i*4+2,none⟩=some (.string c[i].X)/\w.cell? ⟨b,o+i*4+3,none⟩=some (.int .i64 c[i].U):=by
 rcases h with rfl|⟨b,o,rfl,d,h⟩;exact absurd e (by simp);exact ⟨b,o,rfl,d,h i e⟩
def OY(w:World)(B:Nat)(a:iC)(c:List vE):Prop:=
 c=[]\/∃g o b t,a=some ⟨g,o,none⟩/\B<=g/\w.heap[g]?=some (.cells b t (0,0))/\aIc w g o c
def OY.recs{w:World}{B:Nat}{a:iC}{b:List vE}(h:OY w B a b):wI w a b:=by grind [OY,wI]
def NN{w:World}{B:Nat}{e:TypeId}{a:iC}{k:Nat}{l:List vE}
(h:w.ownsRow B e 4 (.slice a l.length k) l.length (l.flatMap fun x=>[.int .i64 x.K,.string x.T,.string x.X,.int .i64 x.U])):OY w B a l:=by
 rcases h.2 with⟨_,t⟩|⟨g,n,b,o,p,d,_,_,u,m⟩;exact Ca (Nb.1 t);simp only[Value.slice.injEq]at o;have q:∀(l:List vE) i(c:i<l.length),(l.flatMap fun x=>[Value.int .i64 x.K,.string x.T,.string x.X,.int .i64 x.U])[i*4]?=some (.int .i64 l[i].K)/\(l.flatMap fun x=>[Value.int .i64 x.K,.string x.T,.string x.X,.int .i64 x.U])[i*4+1]?=some (.string l[i].T)/\(l.flatMap fun x=>[Value.int .i64 x.K,.string x.T,.string x.X,.int .i64 x.U])[i*4+2]?=some (.string l[i].X)/\(l.flatMap fun x=>[Value.int .i64 x.K,.string x.T,.string x.X,.int .i64 x.U])[i*4+3]?=some (.int .i64 l[i].U):=by
  intro l;induction l with
  |nil=>intro i c;exact absurd c (by simp)
  |cons x r v=>
   intro i c;cases i with
   |zero=>simp
   |succ i=>
    have:=v i (by simpa using c);simp only[Xc,Sd,Mb,Ec];refine⟨?_,?_,?_,?_⟩;rw[show(i+1)*4=i*4+1+1+1+1 by omega,Ga,Ga,Ga,Ga];exact this.1;rw[show(i+1)*4+1=i*4+1+1+1+1+1 by omega,Ga,Ga,Ga,Ga];exact this.2.1;rw[show(i+1)*4+2=i*4+2+1+1+1+1 by omega,Ga,Ga,Ga,Ga];exact this.2.2.1;rw[show(i+1)*4+3=i*4+3+1+1+1+1 by omega,Ga,Ga,Ga,Ga];exact this.2.2.2
 refine La ⟨g,0,b,e,o.1,p,d,fun i c=>?_⟩;have f:∀j,j<l.length*4->b[j]?=(l.flatMap fun x=>[Value.int .i64 x.K,.string x.T,.string x.X,.int .i64 x.U])[j]?:=fun j s=>by
  rw[<-m,Jb s,Yd]
 rw[cell_of_row w g _ b _ _ d,cell_of_row w g _ b _ _ d,cell_of_row w g _ b _ _ d,cell_of_row w g _ b _ _ d,Ya,f _ (by omega),f _ (by omega),f _ (by omega),f _ (by omega)];exact q l i c
def sD:List vE->Nat
 |[]=>0
 |f::r=>f.T.size+f.X.size+sD r
def eU(a b:List vE):sD (a++b)=sD a+sD b:=by induction a<;>grind [sD]
def eV(a:List vE)(k:Nat)(h:k<a.length):sD (a.take (k+1))=sD (a.take k)+(a[k].T.size+a[k].X.size):=by
 rw[Pa h,eU];simp[sD]
def dZ(a:List vE)(k:Nat):sD (a.take k)<=sD a:=by
 have:=eU (a.take k) (a.drop k);rw[Za]at this;omega
def flat(a:List cB):List Value:=a.flatMap fun f=>[.string f.N,.string f.data,.int .i64 f.Y]
def xL(a b:List cB):flat (a++b)=flat a++flat b:=by simp[flat]
def AF(f:cB):flat [f]=[.string f.N,.string f.data,.int .i64 f.Y]:=rfl
theorem tE(a:List cB):(flat a).length=a.length*3:=by
 induction a with
 |nil=>rfl
 |cons f r b=>simp[flat]at *;omega
def IE:∀(a:List cB)(j:Nat)(h:j<a.length),(flat a)[j*3]?=some (.string a[j].N)/\(flat a)[j*3+1]?=some (.string a[j].data)/\(flat a)[j*3+2]?=some (.int .i64 a[j].Y)
 |[],_,h=>absurd h (by simp)
 |f::r,0,_=>by simp[flat]
 |f::r,j+1,h=>by
  have i:=IE r j (by simpa using h);have e:flat (f::r)=[.string f.N,.string f.data,.int .i64 f.Y]++flat r:=rfl;rw[e];have c:(j+1)*3=3+j*3:=by omega
  have d:(j+1)*3+1=3+(j*3+1):=by omega
  have g:(j+1)*3+2=3+(j*3+2):=by omega
  have b:∀p,([.string f.N,.string f.data,.int .i64 f.Y]++flat r)[3+p]?=(flat r)[p]?:=fun p=>by
   rw[Uc (by simp)];simp
  rw[g,d,c,b,b,b];exact i
def iG(b:List cB):∀u∈flat b,u.oneCell'=true:=by
 intro u a;simp only[flat,Ig,Lb,Ed,Bf]at a;obtain⟨f,_,rfl|rfl|rfl⟩:=a<;>rfl
def cH{w:World}{B:Nat}{e:TypeId}{v:Value}{c:List cB}(h:w.ownsRow B e 3 v c.length (flat c)):∃a b,v=.slice a c.length b/\pG w B a c:=by
 rcases h.2 with⟨rfl,o⟩|⟨g,b,d,rfl,q,k,_,_,_,s⟩;have:c=[]:=Nb.1 o;subst this;exact⟨none,0,rfl,Ca rfl⟩;refine ⟨_,b,rfl,La ⟨g,0,d,e,rfl,q,k,sR k fun j r=>?_⟩⟩;have key:∀p v,(flat c)[p]?=some v->d[p]?=some v:=fun p v f=>by
  rw[<-s]at f;have i:=(Pb.1 f).1;rw[Hb]at i;rw[Jb (by omega)]at f;simpa using f
 obtain⟨l,m,n⟩:=IE c j r;refine⟨?_,?_,?_⟩;rw[Ya];exact key _ _ l;rw[Ya];exact key _ _ m;rw[Ya];exact key _ _ n
def jC{w f:World}{B:Nat}{e:TypeId}{size:Nat}{v:Value}{n:Nat}{i:List Value}(h:w.ownsRow B e size v n i)(l:kB w f):f.ownsRow B e size v n i:=by
 obtain⟨j,c⟩:=h;refine⟨j,?_⟩;rcases c with c|⟨g,a,b,m,k,d,r⟩;exact Ca c;exact La ⟨g,a,b,m,k,(l.block g (zA d)).trans d,r⟩
def DP{w:World}{B:Nat}{e:TypeId}{size:Nat}{v:Value}{n:Nat}{d:List Value}(h:w.ownsRow B e size v n d){p:Addr}(l:p.block<B)(u:Value):(w.setCell p u).ownsRow B e size v n d:=by
 obtain⟨f,c⟩:=h;refine⟨f,?_⟩;rcases c with c|⟨g,a,b,k,i,j,r⟩;exact Ca c;exact La ⟨g,a,b,k,i,(Below.heap_setCell w p u g (by omega)).trans j,r⟩
def zO{w:World}{b o:Nat}{d:List cB}(h:bX w b o d):∀j u,(flat d)[j]?=some u->w.cell? ((⟨b,o,none⟩:Addr).add j)=some u:=by
 intro j u a;have g:=(Pb.1 a).1;rw[tE]at g;have i:j / 3<d.length:=by omega
 obtain⟨k,l,m⟩:=IE d (j / 3) i;obtain⟨n,p,q⟩:=h (j / 3) i;have c:(⟨b,o,none⟩:Addr).add j=⟨b,o+j,none⟩:=by unfold Addr.add;split<;>simp_all
 rw[c];have f:j % 3=0\/j % 3=1\/j % 3=2:=by omega
 rcases f with f|f|f
 .have e:j=j / 3*3:=by omega
  rw[e]at a;rw[k]at a;rw[show o+j=o+j / 3*3 by omega,n];exact a
 .have e:j=j / 3*3+1:=by omega
  rw[e]at a;rw[l]at a;rw[show o+j=o+j / 3*3+1 by omega,p];exact a
 have e:j=j / 3*3+2:=by omega
 rw[e]at a;rw[m]at a;rw[show o+j=o+j / 3*3+2 by omega,q];exact a
def wB(x b a:Int):Bool:=decide (b<=x) &&decide (x<=a)
def vD(x b a:Int)(w:World):dI 48 #[.int .i64 x,.int .i64 b,.int .i64 a] w (.bool (wB x b a)):=by
 by_cases c:b<=x
 .by_cases d:x<=a
  .have e:wB x b a=true:=by simp[wB,c,d]
   rw[e];go_enter func48,ntmps48;go_wp2;go_ret;exact⟨rfl,rfl⟩
  have e:wB x b a=false:=by simp[wB,d]
  rw[e];go_enter func48,ntmps48;go_wp2;go_ret;exact⟨rfl,rfl⟩
 have e:wB x b a=false:=by simp[wB,c]
 rw[e];go_enter func48,ntmps48;go_wp2;go_ret;exact⟨rfl,rfl⟩
def eT(s:gB)(k:Nat)(h:k<s.size):s.data.toList.take (k+1)=s.data.toList.take k++[s[k]]:=by
 rw[Pa (by simpa using h)];rfl
def bE{x c a:Int}{b:Bool}(h:wB x c a=b)(w:World):dI 48 #[.int .i64 x,.int .i64 c,.int .i64 a] w (.bool b):=h ▸ vD x c a w
def mF(x a:Int)(w:World):dI 77 #[.int .i64 x,.int .i64 a] w (.bool (wB x 0 a)):=by
 by_cases b:0<=x
 .by_cases c:x<=a
  .have e:wB x 0 a=true:=by simp[wB,b,c]
   rw[e];go_enter func77,ntmps77;go_wp2;go_ret;exact⟨rfl,rfl⟩
  have e:wB x 0 a=false:=by simp[wB,c]
  rw[e];go_enter func77,ntmps77;go_wp2;go_ret;exact⟨rfl,rfl⟩
 have e:wB x 0 a=false:=by simp[wB,b]
 rw[e];go_enter func77,ntmps77;go_wp2;go_ret;exact⟨rfl,rfl⟩
theorem iH:∀x:List UInt8,Op.bytesLess x x=false
 |[]=>rfl
 |a::x=>by simp[Op.bytesLess,iH x]
theorem gJ:∀x y z:List UInt8,Op.bytesLess x y=true->Op.bytesLess y z=true->Op.bytesLess x z=true
 |_,_,[],_,h=>by simp[Op.bytesLess]at h
 |_,[],_::_,h,_=>by simp[Op.bytesLess]at h
 |[],_::_,_::_,_,_=>by simp[Op.bytesLess]
 |a::x,b::y,c::z,e,d=>by
  simp only[Op.bytesLess,Fe,Sa,Ab,Lg]at e d |-
  rcases e with e|⟨rfl,e⟩
  .rcases d with d|⟨rfl,_⟩
   .exact Ca (UInt8.lt_trans e d)
   exact Ca e
  rcases d with d|⟨rfl,d⟩;exact Ca d;exact La ⟨rfl,gJ x y z e d⟩
theorem gM:∀x y:List UInt8,Op.bytesLess x y=false->x≠y->Op.bytesLess y x=true
 |[],[],_,h=>absurd rfl h
 |[],_::_,h,_=>by simp[Op.bytesLess]at h
 |_::_,[],_,_=>by simp[Op.bytesLess]
 |a::x,b::y,h,d=>by
  simp only[Op.bytesLess,Bool.or_eq_false_iff,Gg,Xe,Fe,Sa,Ab,Lg]at h |-
  obtain⟨f,c⟩:=h;by_cases e:a=b
  .subst e;rcases c with c|c
   .simp at c
   exact La ⟨rfl,gM x y c (fun e=>d (by rw[e]))⟩
  left;rcases UInt8.lt_or_lt_of_ne e with h|h;exact absurd h f;exact h
def mQ{x y:List UInt8}(h:Op.bytesLess x y=true):Op.bytesLess y x=false:=by grind [gJ,iH]
theorem toList_inj{x y:gB}(h:x.toList=y.toList):x=y:=by
 have a:x.data.toList=y.data.toList:=by rw[<-ByteArray.toList_eq x,<-ByteArray.toList_eq y];exact h
 cases x;cases y
 simp only[ByteArray.mk.injEq];exact Array.toList_inj.1 a
def wJ(s:gB):Nat->Nat->Option (List Nat)
 |0,_=>some []
 |b+1,p=>if p<s.size then(if Utf8.decode s p=(65533,1) then none else(wJ s b (p+(Utf8.decode s p).2)).map ((Utf8.decode s p).1 :: ·)) else some []
def ctl(r:Nat):Bool:=decide (r<32) ||(decide (127<=r) &&decide (r<=159))
def WB(l:List Nat):Nat:=if 128<l.length then 43 else if l.any ctl=true then 44 else 0
def zP(s:gB):Nat:=match wJ s s.size 0 with
 |none=>42
 |some l=>WB l
def CQ(s:gB)(p:Nat)(a:List Nat):Prop:=a.length<=p/\∃b,s.size<=p+b/\wJ s s.size 0=(wJ s b p).map (a++·)
def CQ.start(s:gB):CQ s 0 []:=⟨Ia _,s.size,by omega,by simp⟩
def sX(s:gB)(p:Nat):1<=(Utf8.decode s p).2:=by
 simp only[Utf8.decode];repeat' split
 all_goals simp_all
def CQ.step{s:gB}{p:Nat}{a:List Nat}(h:CQ s p a)(d:p<s.size)(c:Utf8.decode s p≠(65533,1)):CQ s (p+(Utf8.decode s p).2) (a++[(Utf8.decode s p).1]):=by
 obtain⟨i,b,g,e⟩:=h;have f:=sX s p;cases b with
 |zero=>omega
 |succ b=>
  refine⟨by simp;omega,b,by omega,?_⟩;rw[e,wJ,Ma d,Ja c];cases wJ s b (p+(Utf8.decode s p).2)<;>simp
def CQ.bad{s:gB}{p:Nat}{a:List Nat}(h:CQ s p a)(d:p<s.size)(c:Utf8.decode s p=(65533,1)):zP s=42:=by
 obtain⟨g,b,f,e⟩:=h;cases b with
 |zero=>omega
 |succ b=>
  rw[wJ,Ma d,Ma c]at e;rw[zP,e];rfl
def CQ.done{s:gB}{p:Nat}{a:List Nat}(h:CQ s p a)(f:s.size<=p):zP s=WB a:=by
 obtain⟨d,b,c,e⟩:=h;have:wJ s b p=some []:=by
  cases b with
  |zero=>rfl
  |succ b=>rw[wJ,Ja (by omega)]
 rw[this]at e;rw[zP,e];simp
def YF(s:gB)(p:Nat):Utf8.decode (s.extract p s.size) 0=Utf8.decode s p:=Lib.tail_decode s p 0
def MZ(t:gB):Nat×Nat:=if Utf8.decode t 0=(65533,1) then(0,0) else Utf8.decode t 0
def xC(t:gB)(k:Nat):Nat:=(t.get! k).toNat
def aTj(t:gB)(k:Nat):xC t k<256:=(t.get! k).toNat_lt
def iW(t:gB)(k:Nat)(h:k<t.size):t[k].toNat=xC t k:=by
 have:=get_at t k h;rw[Bg]at this;rw[xC,this]
def vZ(a b c d:Nat)(e f g:Bool):Nat×Nat:=
 if a<128 then(a,1)
 else if (a / 32==6&&e)=true then(if 128<=a % 32*64+b % 64 then(a % 32*64+b % 64,2) else(65533,1))
 else if (a / 16==14&&e&&f)=true then(if (decide (2048<=a % 16*4096+b % 64*64+c % 64) &&Utf8.valid ((a % 16*4096+b % 64*64+c % 64:Nat):Int))=true then(a % 16*4096+b % 64*64+c % 64,3) else(65533,1))
 else if (a / 8==30&&e&&f&&g)=true then(if (decide (65536<=a % 8*262144+b % 64*4096+c % 64*64+d % 64) &&Utf8.valid ((a % 8*262144+b % 64*4096+c % 64*64+d % 64:Nat):Int))=true then(a % 8*262144+b % 64*4096+c % 64*64+d % 64,4) else(65533,1))
 else(65533,1)
def aIu(t:gB)(k:Nat):Bool:=decide (k<t.size) &&xC t k / 64==2
theorem lT(t:gB)(k:Nat):aIu t k=true ↔ k<t.size/\xC t k / 64=2:=by simp[aIu]
theorem mT(t:gB)(p:Nat):Utf8.decode t p=vZ (xC t p) (xC t (p+1)) (xC t (p+2)) (xC t (p+3)) (aIu t (p+1)) (aIu t (p+2)) (aIu t (p+3)):=rfl
def aSi(v:Nat):Bool:=decide (v<=1114111/\¬(55296<=v/\v<=57343))
abbrev okR(v:Nat):Prop:=aSi v=true
def aSh{v:Nat}(h:v<=1114111/\¬(55296<=v/\v<=57343)):okR v:=Ac h
def gk{v:Nat}(h:okR v):v<=1114111/\¬(55296<=v/\v<=57343):=Wd h
def bh(v:Nat):Utf8.valid (v:Int)=decide (okR v):=by
 unfold Utf8.valid okR aSi;rw[Qb];simp;omega
def md{a b d e:Nat}{c f g:Bool}(h:a / 32=6):vZ a b d e c f g=if c=true/\128<=a % 32*64+b % 64 then(a % 32*64+b % 64,2) else(65533,1):=by grind [vZ]
def RA{a b c g:Nat}{d f i:Bool}(h:a / 16=14):
 vZ a b c g d f i=if d=true/\f=true/\2048<=(a % 16*64+b % 64)*64+c % 64/\okR ((a % 16*64+b % 64)*64+c % 64) then((a % 16*64+b % 64)*64+c % 64,3) else(65533,1):=by
 have j:(a / 32==6)=false:=by simp;omega
 have k:(a / 8==30)=false:=by simp;omega
 have e:a % 16*4096+b % 64*64+c % 64=(a % 16*64+b % 64)*64+c % 64:=by omega
 unfold vZ;rw[Ja (by omega),j,h,k,e,bh];cases d<;>cases f<;>simp[okR]
def YC{a b c d:Nat}{f g i:Bool}(h:a / 8=30):
 vZ a b c d f g i=if f=true/\g=true/\i=true/\65536<=((a % 8*64+b % 64)*64+c % 64)*64+d % 64/\okR (((a % 8*64+b % 64)*64+c % 64)*64+d % 64) then(((a % 8*64+b % 64)*64+c % 64)*64+d % 64,4) else(65533,1):=by
 have j:(a / 32==6)=false:=by simp;omega
 have k:(a / 16==14)=false:=by simp;omega
 have e:a % 8*262144+b % 64*4096+c % 64*64+d % 64=((a % 8*64+b % 64)*64+c % 64)*64+d % 64:=by omega
 unfold vZ;rw[Ja (by omega),j,k,h,e];simp only[bh];cases f<;>cases g<;>cases i<;>simp[okR]
theorem mc{a b c d:Nat}{e f g:Bool}(h:a<128):vZ a b c d e f g=(a,1):=by unfold vZ;rw[Ma h]
def YD{a b c d:Nat}{e f g:Bool}(h:128<=a)(i:a / 32≠6)(j:a / 16≠14)(k:a / 8≠30):vZ a b c d e f g=(65533,1):=by grind [vZ]
theorem YE{a e f g:Nat}{b c d:Bool}:vZ a e f g b c d=(65533,1)\/((vZ a e f g b c d).1<=1114111/\((vZ a e f g b c d).2=1\/(vZ a e f g b c d).2=2/\b=true\/(vZ a e f g b c d).2=3/\c=true\/(vZ a e f g b c d).2=4/\d=true)):=by
 by_cases l:a<128
 .rw[mc l];right;exact⟨by simp;omega,Ca rfl⟩
 by_cases i:a / 32=6
 .rw[md i];split
  .rename_i h;right;exact⟨by simp;omega,La (Ca ⟨rfl,h.1⟩)⟩
  exact Ca rfl
 by_cases j:a / 16=14
 .rw[RA j];split
  .rename_i h;right;exact⟨(gk h.2.2.2).1,La (La (Ca ⟨rfl,h.2.1⟩))⟩
  exact Ca rfl
 by_cases k:a / 8=30
 .rw[YC k];split
  .rename_i h;right;exact⟨(gk h.2.2.2.2).1,La (La (La ⟨rfl,h.2.2.1⟩))⟩
  exact Ca rfl
 rw[YD (by omega) i j k];exact Ca rfl
def MK(s:gB)(p:Nat)(a:p<s.size)(h:Utf8.decode s p≠(65533,1)):p+(Utf8.decode s p).2<=s.size:=by grind [mT,YE,lT]
def wZ(s:gB)(p:Nat):(Utf8.decode s p).1<=1114111/\(Utf8.decode s p).2<=4:=by grind [mT,YE]
def aOk(t:gB)(h:xC t 0<128):MZ t=(xC t 0,1):=by grind [xC,MZ,mT,mc]
def yb{t:gB}{C D:Prop}[Decidable C][Decidable D]{v n:Nat}(h:Utf8.decode t 0=if C then(v,n) else(65533,1))(b:n≠1)(a:C ↔ D):MZ t=if D then(v,n) else(0,0):=by grind [MZ]
def aOl(t:gB)(h:xC t 0 / 32=6):
 MZ t=if 2<=t.size/\xC t 1 / 64=2/\128<=xC t 0 % 32*64+xC t 1 % 64 then(xC t 0 % 32*64+xC t 1 % 64,2) else(0,0):=by
 refine yb ((mT t 0).trans (md h)) (by omega) ?_;rw[Ya,lT];constructor;rintro ⟨⟨a,b⟩,c⟩;exact⟨a,b,c⟩;rintro ⟨a,b,c⟩;exact⟨⟨a,b⟩,c⟩
def aFo(t:gB)(h:xC t 0 / 16=14):
 MZ t=if 3<=t.size/\xC t 1 / 64=2/\xC t 2 / 64=2/\2048<=(xC t 0 % 16*64+xC t 1 % 64)*64+xC t 2 % 64/\okR ((xC t 0 % 16*64+xC t 1 % 64)*64+xC t 2 % 64) then((xC t 0 % 16*64+xC t 1 % 64)*64+xC t 2 % 64,3) else(0,0):=by
 refine yb ((mT t 0).trans (RA h)) (by omega) ?_;rw[Ya,Ya,lT,lT];constructor;rintro ⟨⟨_,b⟩,⟨a,c⟩,d⟩;exact⟨a,b,c,d⟩;rintro ⟨a,b,c,d⟩;exact⟨⟨by omega,b⟩,⟨a,c⟩,d⟩
def aJy(t:gB)(h:xC t 0 / 8=30):
 MZ t=if 4<=t.size/\xC t 1 / 64=2/\xC t 2 / 64=2/\xC t 3 / 64=2/\65536<=((xC t 0 % 8*64+xC t 1 % 64)*64+xC t 2 % 64)*64+xC t 3 % 64/\okR (((xC t 0 % 8*64+xC t 1 % 64)*64+xC t 2 % 64)*64+xC t 3 % 64) then(((xC t 0 % 8*64+xC t 1 % 64)*64+xC t 2 % 64)*64+xC t 3 % 64,4) else(0,0):=by
 refine yb ((mT t 0).trans (YC h)) (by omega) ?_;rw[Ya,Ya,Ya,lT,lT,lT];constructor;rintro ⟨⟨_,b⟩,⟨_,c⟩,⟨a,d⟩,e⟩;exact⟨a,b,c,d,e⟩;rintro ⟨a,b,c,d,e⟩;exact⟨⟨by omega,b⟩,⟨by omega,c⟩,⟨a,d⟩,e⟩
def aJz(t:gB)(a:128<=xC t 0)(b:xC t 0 / 32≠6)(c:xC t 0 / 16≠14)(d:xC t 0 / 8≠30):MZ t=(0,0):=by
 rw[MZ,mT,YD a b c d,Ma rfl]
def aRu(s:gB)(p:Nat):MZ (s.extract p s.size)=if Utf8.decode s p=(65533,1) then(0,0) else Utf8.decode s p:=by rw[MZ,YF]
def QD(w:World)(a:iC)(l:List Int):Prop:=l=[]\/∃b o,a=some ⟨b,o,none⟩/\b<w.1.size/\∀i(h:i<l.length),w.cell? ⟨b,o+i,none⟩=some (.int .i64 l[i])
def QD.at{w:World}{a:iC}{l:List Int}(h:QD w a l){i:Nat}(c:i<l.length):∃b o,a=some ⟨b,o,none⟩/\b<w.1.size/\w.cell? ⟨b,o+i,none⟩=some (.int .i64 l[i]):=by grind [QD]
def qn{w:World}{B:Nat}{e:TypeId}{a:iC}{c:Nat}{l:List Int}(h:w.ownsRow B e 1 (.slice a l.length c) l.length (l.map (Value.int .i64))):QD w a l:=by
 rcases h.2 with⟨_,o⟩|⟨g,f,b,k,q,m,_,_,p,d⟩;exact Ca (Nb.1 o);simp only[Value.slice.injEq]at k;refine La ⟨g,0,k.1,zA m,fun i n=>?_⟩;rw[Ya,cell_of_row w g i b _ _ m];have j:(b.toList.take (l.length*1))[i]?=(l.map (Value.int .i64))[i]?:=by rw[d]
 rw[Jb (by omega)]at j;rw[<-Yd,j];simp[Va n]
def aJn:∃i,prog.info? 3=some i/\i.zero=some (.int .i64 0)/\i.size=1/\i.bytes=8:=by
 have h:(prog.info? 3).map (fun i=>(i.zero,i.size,i.bytes))=some (some (.int .i64 0),1,8):=by kernel_rfl
 obtain⟨i,b,a⟩:=Wb.1 h;simp only[Dc]at a;exact⟨i,b,a.1,a.2.1,a.2.2⟩
def og:(prog.info? 71).map (fun i=>(i.zero,i.size,i.bytes))=some (some (.agg #[.int .i64 0,.string ByteArray.empty,.string ByteArray.empty,.int .i64 0]),4,48):=by kernel_rfl
