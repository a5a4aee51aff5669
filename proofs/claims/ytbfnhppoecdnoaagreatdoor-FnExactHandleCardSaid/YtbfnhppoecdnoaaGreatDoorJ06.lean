import Derived.Test.YtbfnhppoecdnoaaGreatDoorJ02
import Derived.Lib.LazyBuf
import Derived.Deep.RegionHeld3
set_option maxRecDepth 100000
set_option maxHeartbeats 2000000
set_option linter.defProp false
open Option renaming none->aA,some->bA
open Bool renaming true->dA,false->cA
open ByteArray renaming empty->kA
open List renaming length->vA
namespace Go.Proofs.YtbfnhppoecdnoaaGreatDoor
open Go renaming World->eA,Value->iA,TypeId->jA
open Value renaming string->nA,int->lA,slice->oA,bool->pA
open IntKind renaming i64->mA
open Obj renaming cells->tA
open Go.RowKit Tryz
structure dB where
 s:gB
 n:Int
def dX(w:eA)(b o:Nat)(a:List dB):Prop:=
 ∀i(h:i<vA a),w.cell? ⟨b,o+i*2,aA⟩=bA (nA a[i].s)/\w.cell? ⟨b,o+i*2+1,aA⟩=bA (lA mA a[i].n)
def yB(w:eA)(a:iC)(c:List dB):Prop:=c=[]\/∃b o,a=bA ⟨b,o,aA⟩/\b<w.1.size/\dX w b o c
def yB.z{w f:eA}{a:iC}{e:List dB}(h:yB w a e)(d:kB w f):yB f a e:=by
 rcases h with h|⟨b,o,rfl,c,h⟩;exact Ca h;refine La ⟨b,o,rfl,Bb c d.size,fun i k=>?_⟩;obtain⟨g,j⟩:=h i k;exact⟨by rw[<-g];exact d.cell c,by rw[<-j];exact d.cell c⟩
def yB.at{w:eA}{a:iC}{c:List dB}(h:yB w a c){i:Nat}(e:i<vA c):
 ∃b o,a=bA ⟨b,o,aA⟩/\b<w.1.size/\w.cell? ⟨b,o+i*2,aA⟩=bA (nA c[i].s)/\w.cell? ⟨b,o+i*2+1,aA⟩=bA (lA mA c[i].n):=by
 rcases h with rfl|⟨b,o,rfl,d,h⟩;exact absurd e (by simp);exact ⟨b,o,rfl,d,h i e⟩
def mC(w:eA)(B:Nat)(a:iC)(c:List dB):Prop:=
 c=[]\/∃g o b t,a=bA ⟨g,o,aA⟩/\B<=g/\w.heap[g]?=bA (tA b t (0,0))/\dX w g o c
def mC.pairs{w:eA}{B:Nat}{a:iC}{b:List dB}(h:mC w B a b):yB w a b:=by grind [mC,yB]
def mC.z{w d:eA}{B:Nat}{a:iC}{k:List dB}(h:mC w B a k)(e:kB w d):mC d B a k:=by
 rcases h with h|⟨g,o,c,t,rfl,l,f,h⟩;exact Ca h;have b:=zA f;have n:∀j,d.cell? ⟨g,j,aA⟩=w.cell? ⟨g,j,aA⟩:=fun j=>eA.cell?_of_block (e.block g b);exact La ⟨g,o,c,t,rfl,l,(e.block g b).trans f,fun i m=>by simp only[n];exact h i m⟩
def mC.mono{w:eA}{B B':Nat}{a:iC}{b:List dB}(h:mC w B a b)(c:B'<=B):mC w B' a b:=by grind [mC]
def vO(a:Array iA)(o j:Nat)(f:dB):Prop:=a[o+j*2]?=bA (nA f.s)/\a[o+j*2+1]?=bA (lA mA f.n)
def vO.set{a:Array iA}{o j:Nat}{f:dB}(h:vO a o j f){p:Nat}(b:p<o+j*2\/o+j*2+1<p)(v:iA):vO (a.setIfInBounds p v) o j f:=by grind [vO]
def vO.made(a:Array iA)(o j:Nat)(f:dB)(h:o+j*2+1<a.size):
 vO ((a.setIfInBounds (o+j*2) (nA f.s)).setIfInBounds (o+j*2+1) (lA mA f.n)) o j f:=by
 refine⟨?_,?_⟩<;>simp[Eb]<;>omega
def OQ{w:eA}{g o:Nat}{a:Array iA}{t:jA}{b:List dB}(h:iB w g a t)(d:∀j(c:j<vA b),vO a o j b[j]):dX w g o b:=by
 intro j c;simp only[h.cell];exact d j c
def OT{w:eA}{g o:Nat}{a:Array iA}{t:jA}{b:List dB}(h:iB w g a t)(d:dX w g o b):∀j(c:j<vA b),vO a o j b[j]:=by
 intro j c;have:=d j c;simp only[h.cell]at this;exact this
def zh{b:Array iA}{o:Nat}{a:List dB}(c:∀j(d:j<vA a),vO b o j a[j]):vA a=0\/o+vA a*2<=b.size:=by
 by_cases h:vA a=0
 .exact Ca h
 right;have:=(c (vA a-1) (by omega)).2;have:=(Vb.1 this).1;omega
def zD{w:eA}{B:Nat}{e:jA}{a:iC}{d:Nat}{l:List dB}
(h:w.ownsRow B e 2 (oA a (vA l) d) (vA l) (l.flatMap fun x=>[nA x.s,lA mA x.n])):mC w B a l:=by
 rcases h.2 with⟨_,v⟩|⟨g,m,b,p,q,f,_,_,y,k⟩;exact Ca (Nb.1 v);simp only[iA.slice.injEq]at p;have t:∀(l:List dB) i(c:i<vA l),(l.flatMap fun x=>[iA.string x.s,lA mA x.n])[i*2]?=bA (nA l[i].s)/\(l.flatMap fun x=>[iA.string x.s,lA mA x.n])[i*2+1]?=bA (lA mA l[i].n):=by
  intro l;induction l with
  |nil=>intro i c;exact absurd c (by simp)
  |cons x r z=>
   intro i c;cases i with
   |zero=>simp
   |succ i=>
    have:=z i (by simpa using c);simp only[Xc,Sd,Mb,Ec];rw[show(i+1)*2=i*2+1+1 by omega,Ga,Ga,Ga,Ga];exact this
 refine La ⟨g,0,b,e,p.1,q,f,fun i c=>?_⟩;have o:∀j,j<vA l*2->b[j]?=(l.flatMap fun x=>[iA.string x.s,lA mA x.n])[j]?:=fun j u=>by
  rw[<-k,Jb u,Yd]
 rw[cell_of_row w g _ b _ _ f,cell_of_row w g _ b _ _ f,Ya,o _ (by omega),o _ (by omega)];exact t l i c
def pC:List dB->Nat
 |[]=>0
 |f::r=>f.s.size+pC r
def aZ(a b:List dB):pC (a++b)=pC a+pC b:=by induction a<;>grind [pC]
def iK(a:List dB)(k:Nat)(h:k<vA a):pC (a.take (k+1))=pC (a.take k)+a[k].s.size:=by
 rw[Pa h,aZ];simp[pC]
def uJ(a:List dB)(k:Nat):pC (a.take k)<=pC a:=by
 have:=aZ (a.take k) (a.drop k);rw[Za]at this;omega
def uY(left:Int)(f:dB):Int:=if (f.s.size:Int)<=left then left-f.s.size else -1
def jK(left:Int)(a:List dB):Int:=if (vA a+pC a:Int)<=left then left-vA a-pC a else -1
def KB(a:List dB):Prop:=∀i(h:i<vA a),a[i].s.size<=maxLen
def qb(k:Nat)(i:Nat):dB:=⟨mt (k+2*i),((k+2*i+1:Nat):Int)⟩
def rH(k n:Nat):List dB:=(List.range n).map (qb k)
def sJ(k n:Nat):vA (rH k n)=n:=by simp[rH]
def DL(k n i:Nat)(h:i<vA (rH k n)):(rH k n)[i]=qb k i:=by simp[rH]
def iB.new(w:eA)(cs:Array iA)(t:jA):iB (w.alloc (tA cs t)) w.1.size cs t:=heap_alloc_new _ _
def iB.alloc{w:eA}{g:Nat}{a:Array iA}{t:jA}(h:iB w g a t)(o:Obj):iB (w.alloc o) g a t:=h.z vB
def iB.but{w d:eA}{g c:Nat}{a:Array iA}{t:jA}(h:iB w g a t)(e:tD c w d)(b:g≠c):iB d g a t:=(e.block g (zA h) b).trans h
def iB.six{w:eA}{b:Nat}{a c d e f g:iA}{t:jA}(h:iB w b #[a,c,d,e,f,g] t):
 w.cell? ⟨b,0,aA⟩=bA a/\w.cell? ⟨b,1,aA⟩=bA c/\w.cell? ⟨b,2,aA⟩=bA d/\w.cell? ⟨b,3,aA⟩=bA e/\w.cell? ⟨b,4,aA⟩=bA f/\w.cell? ⟨b,5,aA⟩=bA g:=by
 simp[h.cell]
structure bB(S:Nat→Prop)(w w':World):Prop where
 os:w'.os=w.os
 tape:w'.tape=w.tape
 output:w'.output=w.output
 size:w.1.size≤w'.1.size
 block:∀k,k<w.1.size→¬S k→w'.heap[k]?=w.heap[k]?
def bB.refl(S:Nat->Prop)(w:eA):bB S w w:=⟨rfl,rfl,rfl,Ia _,fun _ _ _=>rfl⟩
def bB.trans{S:Nat->Prop}{a b c:eA}(h:bB S a b)(k:bB (fun i=>S i\/a.1.size<=i) b c):bB S a c:=
 ⟨k.os.trans h.os,k.tape.trans h.tape,k.output.trans h.output,Ua h.size k.size,fun i e f=>(k.block i (Bb e h.size) (fun d=>by rcases d with d|d;exact f d;omega)).trans (h.block i e f)⟩
def bB.trans'{S:Nat->Prop}{a b c:eA}(h:bB S a b)(k:bB S b c):bB S a c:=
 ⟨k.os.trans h.os,k.tape.trans h.tape,k.output.trans h.output,Ua h.size k.size,fun i d e=>(k.block i (Bb d h.size) e).trans (h.block i d e)⟩
def bB.mono{S S':Nat->Prop}{a b:eA}(h:bB S a b)(f:∀i,i<a.1.size->S i->S' i):bB S' a b:=
 ⟨h.os,h.tape,h.output,h.size,fun i c e=>h.block i c (fun d=>e (f i c d))⟩
def bB.of{S:Nat->Prop}{a b:eA}(h:kB a b):bB S a b:=⟨h.os,h.tape,h.output,h.size,fun k c _=>h.block k c⟩
def bB.but{g:Nat}{a b:eA}(h:tD g a b):bB (·=g) a b:=⟨h.os,h.tape,h.output,h.size,fun k c d=>h.block k c d⟩
def bB.grown{r:Option Nat}{a b:eA}(h:a.grownBy b r):bB (fun k=>r=bA k) a b:=⟨h.os,h.tape,h.output,h.size,fun k c d=>h.block k c (fun e=>d e.symm)⟩
def bB.below{S:Nat->Prop}{B:Nat}{a b:eA}(h:bB S a b)(e:B<=a.1.size)(d:∀k,k<B->¬S k):Below B a b:=
 ⟨h.os,h.tape,h.output,h.size,fun k c=>h.block k (by omega) (d k c)⟩
def bB.drew{S:Nat->Prop}{a b:eA}(h:bB S a b):bB S a b.drew:=⟨h.os,h.tape,h.output,h.size,h.block⟩
def bB.setCell{S:Nat->Prop}{a b:eA}(h:bB S a b){g:Nat}(c:S g\/a.1.size<=g)(o:Nat)(v:iA):bB S a (b.setCell ⟨g,o,aA⟩ v):=
 h.trans ((bB.but ((tD.refl g b).setCell o v)).mono fun i _ e=>by subst e;exact c)
def bB.blk{S:Nat->Prop}{a b:eA}(h:bB S a b){g:Nat}{c:Array iA}{t:jA}(d:iB a g c t)(e:¬S g):iB b g c t:=(h.block g (zA d) e).trans d
def bB.row{S:Nat->Prop}{a b:eA}(h:bB S a b){B:Nat}{e:jA}{size:Nat}{v:iA}{n:Nat}{j:List iA}(i:a.ownsRow B e size v n j)(m:∀g,v.ownBlock=bA g->¬S g):b.ownsRow B e size v n j:=by
 refine⟨i.1,?_⟩;rcases i.2 with k|⟨g,c,d,rfl,l,f,r⟩;exact Ca k;exact La ⟨g,c,d,rfl,l,(h.block g (zA f) (m g rfl)).trans f,r⟩
def bB.map{H:Type}{S:Nat->Prop}{a b:eA}(h:bB S a b){P:Program}{k:jA}{R:iA->Option (DataW H×List MemPlace)}{m n:Nat}{D:DataW H}(e:a.ownsMap P k R m n D)(i:¬S m):b.ownsMap P k R m n D:=by
 have d:=e.lt;obtain⟨f,c,g,r⟩:=e;exact⟨f,c,(h.block m d i).trans g,r⟩
def LO{P:Program}{w:eA}(base:Nat)(t o e:jA)(i:TypeInfo)(size:Nat)(j:P.underlying t=bA (.slice e))(f:P.info? e=bA i)
(v:iA)(n:Nat)(p:List iA)(a:w.ownsRow base e size v n p)(b:iC)(k:Nat):
 (Builtin.append_ #[t,t] o #[v,oA b 0 k]).run P w=.ok v w:=by
 have h:∀d:Addr,(loadCells d 0).run P w=.ok #[] w:=fun d=>by
  simp[loadCells,loadCellsFrom]
 rcases a.2 with⟨rfl,rfl⟩|⟨g,l,m,rfl,_,_,c,_⟩
 .cases b<;>simp[Builtin.append_,run_underlying j,sizeOf,typeInfo,f,Builtin.lenOf,Builtin.firstCells,h]
 cases b<;>simp[Builtin.append_,run_underlying j,sizeOf,typeInfo,f,Builtin.lenOf,Builtin.firstCells,c,storeCells,h]
def qI{w:eA}{B:Nat}{e:jA}{size:Nat}{v:iA}{n:Nat}{f:List iA}(h:w.ownsRow B e size v n f):∀g,v.ownBlock=bA g->B<=g:=by
 intro g a;rcases h.2 with⟨rfl,_⟩|⟨i,b,c,rfl,d,_⟩;simp[iA.ownBlock]at a;simp[iA.ownBlock]at a;subst a;exact d
def sU(w:eA)(b:iC)(m:Nat)(a:List iA):Prop:=m=0\/∃A,b=bA A/\∀j u,a[j]?=bA u->w.cell? (A.add j)=bA u
theorem QJ(b o j:Nat):(⟨b,o,aA⟩:Addr).add j=⟨b,o+j,aA⟩:=by unfold Addr.add;split<;>simp_all
def MC(W:eA)(x:Obj):kB W (W.alloc x).drew:=vB.drew
def MD(W:eA)(x y:Obj):kB W ((W.alloc x).alloc y).drew:=(oB vB vB).drew
def tK{P:Program}(w:eA){ops:Array Oper}{o:Oper}{a:Act}{K:Act->eA->Prop}{Q:Exit->Act->eA->Prop}{E:Prop}(F:o.guard=aA)(s x:Operand)(t:jA)
(Y:o.op=.call { callee:=.builtin .append,args:=#[s,x],argTypes:=#[t,t] })
(base:Nat)(e:jA)(i:TypeInfo)(z:iA)(size f:Nat)(ht:P.underlying t=bA (.slice e))(X:P.info? e=bA i)(hz:i.zero=bA z)
(y:i.size=size)(R:i.bytes=f)(T:z.cells.size=size)(S:0<size)
(r n N:Nat)(L:List iA)(Z:a.eval s=oA (bA ⟨r,0,aA⟩) n N)(b:w.ownsRow base e size (oA (bA ⟨r,0,aA⟩) n N) n L)
(M:iC)(m c:Nat)(d:List iA)(hx:a.eval x=oA M m c)(hl:vA d=m*size)(I:sU w M m d)(h1:∀u∈d,u.oneCell'=dA)
(O:n+m<=maxLen)(p:(n+m)*f<=140737488355328)(j:base<=w.1.size)
(h:∀g l B,B.ownsRow base e size (oA (bA ⟨g,0,aA⟩) (n+m) l) (n+m) (L++d)->Below base w B->(∀k,k<w.1.size->k≠r->B.heap[k]?=w.heap[k]?)->base<=g->(g=r\/g=w.1.size)->g<B.1.size->K (a.put o.dst (oA (bA ⟨g,0,aA⟩) (n+m) l)) B):
 if Region.wanted o (yielded ops a.tmps)=dA then Oper.wp P o a w K Q else E:=by
 have D:base<=r:=qI b r rfl;rcases Nat.eq_zero_or_pos m with rfl|hm
 .have hw:Region.wanted o (yielded ops a.tmps)=dA:=by simp[Region.wanted,F]
  rw[Ma hw];have G:d=[]:=Nb.1 (by omega);subst G;have H:=LO (P:=P) (w:=w) base t o.type e i size ht X _ n L b M c;have hK:=h r N w (by rw[Cd];exact b) eD (fun _ _ _=>rfl) D (Ca rfl) (by
   rcases b.2 with⟨J,_⟩|⟨g',U,cur,J,_,hb,_⟩;simp at J;simp only[iA.slice.injEq,Qa,Addr.mk.injEq,Cc]at J;rw[J.1];exact zA hb)
  unfold Oper.wp execOp;simp only[Y,resolve,invoke,builtin,Sem.run_bind,Sem.run_pure,Result.andThen_ok,Hg,Fc,Ag,Z,hx,H];exact hK
 rcases I with h0|⟨A,rfl,v⟩;omega;refine step_append_lies w F s x t Y base e i z size f ht X hz y R T S _ n L Z b A m c d hx hl v h1 hm O p j w.1.size rfl fun g l B h2 V C h5=>?_;have W:g=r\/g=w.1.size:=by
  rcases C with C|C;left;simpa[iA.ownBlock]using C.symm;exact La C
 refine h g l B h2 ((Below.refl base w).grown V j (fun q hq=>qI b q hq)) (fun k hk hne=>V.block k hk (by simp[iA.ownBlock];omega)) ?_ W h5;rcases W with rfl|rfl;exact D;exact j
def aM:∃i,prog.info? 149=bA i/\i.zero=bA (.agg #[nA kA,nA kA,lA mA 0])/\i.size=3/\i.bytes=40:=by
 have h:(prog.info? 149).map (fun i=>(i.zero,i.size,i.bytes))=bA (bA (.agg #[nA kA,nA kA,lA mA 0]),3,40):=by kernel_rfl
 obtain⟨i,b,a⟩:=Wb.1 h;simp only[Dc]at a;exact⟨i,b,a⟩
def XX(a:iC)(g:Nat)(c:List cB)(w:eA)(q:eB w a c)(A:vA c<=1048576):
 Calls prog 74 #[oA a (vA c) g] w fun e n=>∃v,e=.returned v/\n.ownsRow w.1.size 149 3 v (vA c) (flat c)/\kB w n:=by
 have p:=fun n=>Lib.run_eql_slice_nil (P:=prog) n 35 149 a (vA c) g 0 0 underlying35;cases a with
 |none=>
  have D:c=[]:=by
   rcases q with h|⟨b,o,e,_⟩;exact h;exact absurd e (by simp)
  subst D;have y:=fun n=>Lib.run_eql_slice_nil (P:=prog) n 35 149 aA 0 g 0 0 underlying35;clear p;go_enter func74,ntmps74;go_wp2;go_ret;exact⟨_,rfl,⟨rfl,Ca ⟨rfl,rfl⟩⟩,eD⟩
 |some x=>
  obtain⟨i,z,r,s,t⟩:=aM;have l:(w.alloc (tA #[] 149)).ownsRow w.1.size 149 3 (oA (bA ⟨w.1.size,0,aA⟩) 0 0) 0 []:=
   ⟨rfl,La ⟨w.1.size,0,#[],rfl,Ia _,heap_alloc_new _ _,Ia _,Oa _,rfl,rfl⟩⟩
  have C:xA ((w.alloc (tA #[] 149)).ownsRow w.1.size 149 3 (oA (bA ⟨w.1.size,0,aA⟩) 0 0) 0 []):=l;have d:∀j u,(flat c)[j]?=bA u->(w.alloc (tA #[] 149)).cell? (x.add j)=bA u:=by
   rcases q.z (yG w (tA #[] 149)) with rfl|⟨b,o,e,_,h⟩;intro j u h;simp[flat]at h;simp only[Qa]at e;subst e;exact zO h
  have HN:xA _:=d;have B:xA _:=z;clear q l d z;go_enter func74,ntmps74;go_wp2_with(at_builtin;refine wpList_append_own_at _ rfl _ _ _ rfl w.1.size 149 i _ 3 40 underlying35 B.o r s t rfl (by omega) (oA (bA ⟨w.1.size,0,aA⟩) 0 0) 0 [] rfl C.o x (vA c) g (flat c) rfl (tE c) HN.o (iG c) (by simp[maxLen];omega) (by omega) (by simp) ?_;intro F G f m _ _);go_ret;simp only[Ya,Mb]at f;refine⟨F,rfl,f,vB.grown m (by simp) (fun k E=>?_)⟩;simp[iA.ownBlock]at E;omega
def nG{w:eA}{B:Nat}{e:jA}{size:Nat}{v:iA}{n:Nat}{f:List iA}(h:w.ownsRow B e size v n f):∀g,v.ownBlock=bA g->g<w.1.size:=by
 intro g a;rcases h.2 with⟨rfl,_⟩|⟨i,b,c,rfl,_,d,_⟩;simp[iA.ownBlock]at a;simp[iA.ownBlock]at a;subst a;exact zA d
def AZ{w:eA}{B:Nat}{e:jA}{size:Nat}{v:iA}{n:Nat}{d:List iA}(h:w.ownsRow B e size v n d):∃a b,v=oA a n b:=by
 rcases h.2 with⟨rfl,rfl⟩|⟨f,b,c,rfl,_⟩;exact ⟨aA,0,rfl⟩;exact ⟨_,b,rfl⟩
def US{w:eA}{B B':Nat}{e:jA}{size:Nat}{v:iA}{n:Nat}{c:List iA}(h:w.ownsRow B e size v n c)(f:B'<=B):w.ownsRow B' e size v n c:=by
 refine⟨h.1,?_⟩;rcases h.2 with d|⟨g,a,b,j,i,r⟩;exact Ca d;exact La ⟨g,a,b,j,Ua f i,r⟩
structure uC(w:World)(B D:Nat)(fs:List cB)(c k cr fl:Int)(dn:Bool)(v:Value):Prop where
 from':B≤D
 blk:iB w D #[lA mA k,lA mA cr,lA mA fl,pA dn,v,lA mA c] 293
 row:w.ownsRow B 149 3 v (vA fs) (flat fs)
 apart:∀g,v.ownBlock=bA g→g≠D
def uC.z{w g:eA}{B D:Nat}{e:List cB}{c k a d:Int}{b:Bool}{v:iA}(h:uC w B D e c k a d b v)(f:kB w g):uC g B D e c k a d b v:=
 ⟨h.from',h.blk.z f,jC h.row f,h.apart⟩
def ZN(a:iC)(d:Nat)(f:List cB)(c k l n:Int)(m:Bool)(w:eA)(t:eB w a f)(o:vA f<=1048576):
 Calls prog 184 #[.agg #[oA a (vA f) d,lA mA c,lA mA k,lA mA l,lA mA n,pA m]] w fun e b=>
  ∃D v,e=.returned (.pointer (bA ⟨D,0,aA⟩))/\uC b w.1.size D f c k l n m v/\kB w b:=by
 have u:xA (eB w a f):=t;clear t;obtain⟨A,B,C,E,F,G⟩:=CX.new w (oA a (vA f) d) (lA mA c) (lA mA k) (lA mA l) (lA mA n) (pA m) 37;have p:xA (∀b,Below (w.alloc (tA #[oA a (vA f) d,lA mA c,lA mA k,lA mA l,lA mA n,pA m] 37)).1.size (w.alloc (tA #[oA a (vA f) d,lA mA c,lA mA k,lA mA l,lA mA n,pA m] 37)) b->cC b w.1.size 0 (oA a (vA f) d)/\cC b w.1.size 1 (lA mA c)/\cC b w.1.size 2 (lA mA k)/\cC b w.1.size 3 (lA mA l)/\cC b w.1.size 4 (lA mA n)/\cC b w.1.size 5 (pA m)):=fun b h=>
  (CX.new w (oA a (vA f) d) (lA mA c) (lA mA k) (lA mA l) (lA mA n) (pA m) 37).z h
 go_enter func184,ntmps184;go_wp2_with fail;go_region_held3 (fun b=>cC b w.1.size 0 (oA a (vA f) d)/\cC b w.1.size 1 (lA mA c)/\cC b w.1.size 2 (lA mA k)/\cC b w.1.size 3 (lA mA l)/\cC b w.1.size 4 (lA mA n)/\cC b w.1.size 5 (pA m))
  (first|(exact p.o _ (oB (oB eD.drew j) vB))|(exact p.o _ (oB eD.drew j))|(exact p.o _ eD.drew))
  (first
  |(go_at_call 74;refine(XX a d f _ ((u.o.z vB).z eD.drew) o).mono ?_;rintro e y ⟨v,rfl,i,j⟩;obtain⟨z,s,rfl⟩:=AZ i))
 go_wp2;go_ret;have q:=j.size;have r:=nG i;refine⟨y.1.size,_,rfl,⟨?_,heap_alloc_new _ _,US (jC i vB) (by simp),?_⟩,oB (oB vB (oB eD.drew j)) vB⟩
 .simp at q;omega
 intro g x;have:=r g x;omega
def tr(b o:Nat)(c:Array iA)(t:jA)(d:gB)(w:eA)(f:iB w b c t)(g:c[o+1]?=bA (nA d))(h:o+2<c.size):
 Calls prog 261 #[.pointer (bA ⟨b,o,aA⟩)] w fun e j=>e=.returned (.tuple #[])/\j=w.setCell ⟨b,o+2,aA⟩ (lA mA d.size):=by
 have i:=f.cell (o+1);rw[g]at i;obtain⟨l,k⟩:=f.there h;have a:=f.free (o+2);clear f g h;go_enter func261,ntmps261;go_wp2;go_end0;exact⟨rfl,rfl⟩
def BH(D:Nat)(t:jA)(a:iC)(n d:Nat)(c k f h:Int)(g:Bool)(w:eA)(i:iB w D #[lA mA k,lA mA f,lA mA h,pA g,oA a n d,lA mA c] t):
 qD 186 #[.pointer (bA ⟨D,0,aA⟩)] w (.agg #[oA a n d,lA mA c,lA mA k,lA mA f,lA mA h,pA g]):=by
 have b:=i.z (yG w (tA #[oA aA 0 0,lA mA 0,lA mA 0,lA mA 0,lA mA 0,pA cA] 37));have j:=b.cell 0;have l:=b.cell 1;have m:=b.cell 2;have o:=b.cell 3;have p:=b.cell 4;have q:=b.cell 5;simp only[Xb,Ob,Ga]at j l m o p q;clear i b;go_enter func186,ntmps186;go_wp2_with fail;go_region
 go_wp2;exact bodyPost_ret (v:=.agg #[oA a n d,lA mA c,lA mA k,lA mA f,lA mA h,pA g]) (by simp[results,results186,go_sem]) rfl ⟨rfl,vB.drew⟩
structure eC where
 N:gB
 V:gB
def rR(w:eA)(b o:Nat)(a:List eC):Prop:=
 ∀i(h:i<vA a),w.cell? ⟨b,o+i*2,aA⟩=bA (nA a[i].N)/\w.cell? ⟨b,o+i*2+1,aA⟩=bA (nA a[i].V)
def yD(w:eA)(a:iC)(c:List eC):Prop:=c=[]\/∃b o,a=bA ⟨b,o,aA⟩/\b<w.1.size/\rR w b o c
def yD.z{w f:eA}{a:iC}{e:List eC}(h:yD w a e)(d:kB w f):yD f a e:=by
 rcases h with h|⟨b,o,rfl,c,h⟩;exact Ca h;refine La ⟨b,o,rfl,Bb c d.size,fun i k=>?_⟩;obtain⟨g,j⟩:=h i k;exact⟨by rw[<-g];exact d.cell c,by rw[<-j];exact d.cell c⟩
def yD.at{w:eA}{a:iC}{c:List eC}(h:yD w a c){i:Nat}(e:i<vA c):
 ∃b o,a=bA ⟨b,o,aA⟩/\b<w.1.size/\w.cell? ⟨b,o+i*2,aA⟩=bA (nA c[i].N)/\w.cell? ⟨b,o+i*2+1,aA⟩=bA (nA c[i].V):=by
 rcases h with rfl|⟨b,o,rfl,d,h⟩;exact absurd e (by simp);exact ⟨b,o,rfl,d,h i e⟩
def uE(w:eA)(B:Nat)(a:iC)(c:List eC):Prop:=
 c=[]\/∃g o b t,a=bA ⟨g,o,aA⟩/\B<=g/\w.heap[g]?=bA (tA b t (0,0))/\rR w g o c
def uE.B{w:eA}{B:Nat}{a:iC}{b:List eC}(h:uE w B a b):yD w a b:=by grind [uE,yD]
def uE.z{w d:eA}{B:Nat}{a:iC}{k:List eC}(h:uE w B a k)(e:kB w d):uE d B a k:=by
 rcases h with h|⟨g,o,c,t,rfl,l,f,h⟩;exact Ca h;have b:=zA f;have n:∀j,d.cell? ⟨g,j,aA⟩=w.cell? ⟨g,j,aA⟩:=fun j=>eA.cell?_of_block (e.block g b);exact La ⟨g,o,c,t,rfl,l,(e.block g b).trans f,fun i m=>by simp only[n];exact h i m⟩
def uE.mono{w:eA}{B B':Nat}{a:iC}{b:List eC}(h:uE w B a b)(c:B'<=B):uE w B' a b:=by grind [uE]
def eM{w:eA}{B:Nat}{e:jA}{a:iC}{d:Nat}{l:List eC}
(h:w.ownsRow B e 2 (oA a (vA l) d) (vA l) (l.flatMap fun x=>[nA x.N,nA x.V])):uE w B a l:=by
 rcases h.2 with⟨_,t⟩|⟨g,m,b,o,p,f,_,_,u,k⟩;exact Ca (Nb.1 t);simp only[iA.slice.injEq]at o;have q:∀(l:List eC) i(c:i<vA l),(l.flatMap fun x=>[iA.string x.N,nA x.V])[i*2]?=bA (nA l[i].N)/\(l.flatMap fun x=>[iA.string x.N,nA x.V])[i*2+1]?=bA (nA l[i].V):=by
  intro l;induction l with
  |nil=>intro i c;exact absurd c (by simp)
  |cons x r v=>
   intro i c;cases i with
   |zero=>simp
   |succ i=>
    have:=v i (by simpa using c);simp only[Xc,Sd,Mb,Ec];rw[show(i+1)*2=i*2+1+1 by omega,Ga,Ga,Ga,Ga];exact this
 refine La ⟨g,0,b,e,o.1,p,f,fun i c=>?_⟩;have n:∀j,j<vA l*2->b[j]?=(l.flatMap fun x=>[iA.string x.N,nA x.V])[j]?:=fun j s=>by
  rw[<-k,Jb s,Yd]
 rw[cell_of_row w g _ b _ _ f,cell_of_row w g _ b _ _ f,Ya,n _ (by omega),n _ (by omega)];exact q l i c
def nD:List eC->Nat
 |[]=>0
 |f::r=>f.N.size+f.V.size+nD r
theorem iP(a b:List eC):nD (a++b)=nD a+nD b:=by induction a<;>grind [nD]
def xU(a:List eC)(k:Nat)(h:k<vA a):nD (a.take (k+1))=nD (a.take k)+(a[k].N.size+a[k].V.size):=by
 rw[Pa h,iP];simp[nD]
def tR(a:List eC)(k:Nat):nD (a.take k)<=nD a:=by
 have:=iP (a.take k) (a.drop k);rw[Za]at this;omega
abbrev mZ(c:Nat):Prop:=(65<=c/\c<=90)\/(97<=c/\c<=122)\/c=95
abbrev RH(c:Nat):Prop:=48<=c/\c<=57
abbrev DM(s:gB)(i:Nat):Prop:=mZ (xC s i)\/(RH (xC s i)/\0<i)
abbrev gb(s:gB):Prop:=1<=s.size/\s.size<=64/\∀i,i<s.size->DM s i
def TY(s:gB):Bool:=decide (gb s)
def iR(l:eC):Nat:=if TY l.N=dA then zP l.V else 41
def cD:List eC->Nat->Option (Nat×Nat)
 |[],_=>aA
 |l::r,i=>if iR l=0 then cD r (i+1) else bA (iR l,i)
def cS(x l:eC):Bool:=x.N.toList==l.N.toList
def gF:List eC->List eC->Nat->Option Nat
 |_,[],_=>aA
 |a,l::r,i=>if a.any (fun x=>cS x l)=dA then bA i else gF (a++[l]) r (i+1)
def UI:gB:=⟨#[95,95,110,97,109,101,95,95]⟩
def cQ(l:eC):Bool:=l.N.toList==UI.toList
def tT(l:eC):Bool:=l.V.toList==ByteArray.empty.toList
def dQ(x y:eC):Bool:=Op.bytesLess x.N.toList y.N.toList
def jL:List eC->gB
 |[]=>kA
 |l::r=>if cQ l=dA then l.V else jL r
def cM(a:List eC):List eC:=a.filter (fun l=>!tT l)
def kS(a:List eC):Bool:=a.any (fun l=>!tT l&&cQ l)
def kZ(l:eC):List eC->Nat
 |[]=>0
 |x::r=>if dQ x l=dA then kZ l r+1 else 0
def jR(l:eC)(a:List eC):List eC:=a.take (kZ l a)++l::a.drop (kZ l a)
def yF(a:List eC):List eC->List eC
 |[]=>a
 |l::r=>yF (if tT l=dA then a else jR l a) r
def uB(a:List eC):List eC×Nat×Nat:=
 if 16<vA a then([],40,0) else match cD a 0 with
 |some (c,i)=>([],c,i)
 |none=>match gF [] a 0 with
  |some i=>([],45,i)
  |none=>if kS a=dA then(yF [] a,0,0) else([],46,0)
def aCa(l:eC):∀a,kZ l a<=vA a
 |[]=>Ia _
 |x::r=>by
  have:=aCa l r;rw[kZ];split;simp;omega;simp
def aGv(l:eC)(a:List eC)(k:Nat)(b:k<vA a):kZ l (a.drop k)=if dQ a[k] l=dA then kZ l (a.drop (k+1))+1 else 0:=by
 rw[Cb b,kZ]
def fo(l:eC)(a:List eC):vA (jR l a)=vA a+1:=by
 have:=aCa l a;simp[jR];omega
def aFf(l:eC)(a:List eC):(jR l a).Perm (l::a):=by
 unfold jR;refine List.perm_middle.trans ?_;rw[Za]
theorem bM:∀(c b:List eC),(yF b c).Perm (b++cM c)
 |[],b=>by simp[yF,cM]
 |l::r,b=>by
  rw[yF,cM,List.filter_cons];by_cases h:tT l=dA
  .rw[Ma h,Ja (by simp[h])];exact bM r b
  rw[Ja h,Ma (by simpa using h)];refine(bM r _).trans ?_;refine((aFf l b).append_right _).trans ?_;exact(List.perm_middle (l₁:=b) (a:=l) (l₂:=cM r)).symm
theorem BS(a:List eC):vA (cM a)<=vA a:=Pc _ _
theorem EU(a:List eC):vA (yF [] a)=vA (cM a):=by
 have:=(bM a []).length_eq;simpa using this
def Le(x y:eC):Prop:=dQ y x=cA
def ZW (l:eC):∀(a:List eC),∀x∈a.take (kZ l a),dQ x l=dA
 |[],x,h=>by simp at h
 |y::r,x,h=>by
  rw[kZ]at h;split at h
  ·rename_i b
   rw[List.take_succ_cons,List.mem_cons]at h;rcases h with rfl|h
   ·exact b
   ·exact ZW l r x h
  ·simp at h
def ZX (l:eC):∀(a:List eC),a.Pairwise Le->∀x∈a.drop (kZ l a),dQ x l=cA
 |[],_,x,h=>by simp at h
 |y::r,d,x,h=>by
  rw[kZ]at h;rw[List.pairwise_cons]at d;split at h
  ·rw[List.drop_succ_cons]at h
   exact ZX l r d.2 x h
  ·rename_i i
   rw[List.drop_zero,List.mem_cons]at h;have c:dQ y l=cA:=by simpa using i
   rcases h with rfl|h
   ·exact c
   ·have b:=d.1 x h
    unfold Le at b
    cases hx:dQ x l
    ·rfl
    ·exfalso
     by_cases e:y.N.toList=l.N.toList
     ·unfold dQ at b hx;rw[e]at b;rw[b]at hx;exact absurd hx (by simp)
     ·have f:dQ l y=dA:=gM _ _ c e
      have g:dQ x y=dA:=gJ _ _ _ hx f;rw[g]at b;exact absurd b (by simp)
def TW{x y z:eC}(a:Le x y)(b:Le y z):Le x z:=by grind [Le,dQ,gM,gJ]
def ot (l:eC) (c:List eC) (h:c.Pairwise Le):(jR l c).Pairwise Le:=by
 unfold jR;have i:=ZW l c;have f:=ZX l c h;rw[List.pairwise_append];refine⟨h.sublist (List.take_sublist _ _),?_,?_⟩
 ·rw[List.pairwise_cons]
  exact⟨fun x j=>f x j,h.sublist (List.drop_sublist _ _)⟩
 ·intro a g b d
  have e:Le a l:=mQ (i a g);rw[List.mem_cons]at d;rcases d with rfl|d
  ·exact e
  ·exact TW e (f b d)
def uV:∀(b a:List eC),a.Pairwise Le->(yF a b).Pairwise Le
 |[],a,h=>h
 |l::r,a,h=>by
  rw[yF];refine uV r _ ?_;split;exact h;exact ot l a h
def pV(a:List eC):Prop:=a.Pairwise (fun x y=>x.N≠y.N)
def ak(x l:eC):cS x l=dA ↔ x.N=l.N:=by grind [cS,toList_inj]
def GY:∀(r c:List eC)(i:Nat),pV c->gF c r i=aA->pV (c++r)
 |[],c,_,h,_=>by simpa using h
 |l::r,c,i,h,d=>by
  rw[gF]at d;split at d;exact absurd d (by simp)
  rename_i j;have:pV (c++[l]):=by
   unfold pV;rw[Ae];refine⟨h,We _ _,fun a g b f=>?_⟩;rw[Uf]at f;subst f;intro e;apply j;rw[Zd];exact⟨a,g,(ak _ _).2 e⟩
  have:=GY r _ _ this d;simpa using this
theorem aBr(a:List eC)(h:gF [] a 0=aA):pV a:=by
 have:=GY a [] 0 (by exact Gd) h;simpa using this
def aOy{c:List eC}(h:pV c){x y:eC}(b:x∈c)(a:y∈c)(e:x.N=y.N):x=y:=by
 induction c with
 |nil=>exact absurd b (by simp)
 |cons l r d=>
  unfold pV at h;rw[Bc]at h;rw[Lb]at b a;rcases b with rfl|b
  .rcases a with rfl|a
   .rfl
   exact absurd e (h.1 y a)
  rcases a with rfl|a;exact absurd e.symm (h.1 x b);exact d h.2 b a
def aq{c d:List eC}(h:pV c)(k:d.Perm (cM c))(q:d.Pairwise Le):d=yF [] c:=by
 have f:=(bM c []).trans (by rw[Mb]);refine Qf (le:=Le) ?_ q (uV c [] Gd) (k.trans f.symm);intro a b o p g m;have i:a∈c:=(De.1 (k.mem_iff.1 o)).1;have j:b∈c:=(De.1 (f.mem_iff.1 p)).1;refine aOy h i j ?_;by_cases e:a.N=b.N
 .exact e
 have n:dQ b a=dA:=gM _ _ m (fun l=>e (toList_inj l));unfold Le at g;rw[n]at g;exact absurd g (by simp)
def qe:∀(c:List eC),pV c->((jL c).toList==ByteArray.empty.toList)=!kS c
 |[],_=>by simp[jL,kS]
 |l::r,h=>by
  unfold pV at h;rw[Bc]at h;rw[jL,kS,List.any_cons];by_cases a:cQ l=dA
  .rw[Ma a,a,Bool.and_true];have g:(r.any fun l=>!tT l&&cQ l)=cA:=by
    rw[List.any_eq_false];intro x i d;rw[Sa]at d;have e:l.N=UI:=toList_inj (by simpa[cQ]using a);have f:x.N=UI:=toList_inj (by simpa[cQ]using d.2);exact h.1 x i (by rw[e,f])
   rw[g,Bool.or_false,Bool.not_not];rfl
  .rw[Ja a];have b:cQ l=cA:=by simpa using a
   rw[b,Wg,Rf];exact qe r h.2
theorem EE{a:List eC}(h:16<vA a):uB a=([],40,0):=by unfold uB;rw[Ma h]
theorem BL{a:List eC}(h:¬16<vA a){c i:Nat}(b:cD a 0=bA (c,i)):uB a=([],c,i):=by unfold uB;rw[Ja h,b]
theorem qZ{a:List eC}(h:¬16<vA a)(b:cD a 0=aA){i:Nat}(c:gF [] a 0=bA i):uB a=([],45,i):=by unfold uB;rw[Ja h,b,c]
theorem KO{a:List eC}(h:¬16<vA a)(b:cD a 0=aA)(d:gF [] a 0=aA)(c:kS a=cA):uB a=([],46,0):=by
 unfold uB;rw[Ja h,b,d];simp[c]
theorem QT{a:List eC}(h:¬16<vA a)(b:cD a 0=aA)(d:gF [] a 0=aA)(c:kS a=dA):uB a=(yF [] a,0,0):=by
 unfold uB;rw[Ja h,b,d];simp[c]
def DF(a:List eC)(k:Nat)(b:k<vA a):cD (a.drop k) k=if iR a[k]=0 then cD (a.drop (k+1)) (k+1) else bA (iR a[k],k):=by
 rw[Cb b,cD]
def GZ(a:List eC)(k:Nat)(b:k<vA a):gF (a.take k) (a.drop k) k=if (a.take k).any (fun x=>cS x a[k])=dA then bA k else gF (a.take (k+1)) (a.drop (k+1)) (k+1):=by
 rw[Cb b,gF,Pa b]
def ZK(a:List eC)(k:Nat)(b:k<vA a):jL (a.drop k)=if cQ a[k]=dA then a[k].V else jL (a.drop (k+1)):=by
 rw[Cb b,jL]
def om(a b:List eC)(k:Nat)(c:k<vA b):yF a (b.drop k)=yF (if tT b[k]=dA then a else jR b[k] a) (b.drop (k+1)):=by
 rw[Cb c,yF]
def aGe(a:List eC)(k:Nat)(b:k<vA a):kS (a.take (k+1))=(kS (a.take k) ||(!tT a[k] &&cQ a[k])):=by
 rw[Pa b,kS,Tf];simp[kS]
def xu(a:List eC)(k:Nat)(b:k<vA a):cM (a.take (k+1))=cM (a.take k)++if tT a[k]=dA then [] else [a[k]]:=by
 rw[Pa b,cM,Vf,cM];congr 1;by_cases h:tT a[k]=dA<;>simp[h]
def cK(a:iC)(j:Nat)(c:List cB)(w:eA)(l:eB w a c)(f:vA c<=maxLen)(m:rC c<=1000000000):
 qD 222 #[oA a (vA c) j] w (lA mA (rC c)):=by
 unfold maxLen at f;have n:xA (eB w a c):=l;clear l;go_enter func222,ntmps222;go_wp2;go_loopw [3,8,5] (fun s i _ wr=>∃k:Nat,k<=vA c/\i=lA mA k/\s=lA mA (rC (c.take k))/\kB w wr) (fun _ i _ _=>vA c-(intOf i).toNat)
 case atStart=>exact⟨0,Oa _,rfl,rfl,eD⟩
 case round=>
  obtain⟨k,A,rfl,rfl,d⟩:=hrel;have q:=oH c k;by_cases g:k<vA c
  .obtain ⟨b,o,rfl,y,u,v,x⟩:=(n.o.z d).at g;have h:=gI c k g;have r:=oH c (k+1);have z:c[k].data.size<=1000000000:=by omega
   have p:xA _:=h;clear h;go_wp2;exact⟨⟨k+1,by omega,by go_num,by rw[p.o];go_num,d.alloc d.size _⟩,by simp[intOf];omega⟩
  go_wp2;go_ret;have e:c.take k=c:=Ra (by omega);exact⟨fD (by rw[e]),d⟩
def AM(a:iC)(l:Nat)(d:List cB)(c y r u:Int)(t:Bool)(w:eA)(m:eB w a d)(g:vA d<=maxLen)(n:rC d<=1000000000):
 qD 157 #[.agg #[oA a (vA d) l,lA mA c,lA mA y,lA mA r,lA mA u,pA t]] w (lA mA (rC d)):=by
 unfold maxLen at g;have p:xA (eB w a d):=m;clear m;go_enter func157,ntmps157;go_wp2;go_loopw [3,9,5] (fun s i _ wr=>∃k:Nat,k<=vA d/\i=lA mA k/\s=lA mA (rC (d.take k))/\kB w wr) (fun _ i _ _=>vA d-(intOf i).toNat)
 case atStart=>exact⟨0,Oa _,rfl,rfl,eD.alloc (Ia _) _⟩
 case round=>
  obtain⟨k,F,rfl,rfl,f⟩:=hrel;have v:=oH d k;by_cases h:k<vA d
  .obtain ⟨b,o,rfl,D,A,B,C⟩:=(p.o.z f).at h;have j:=gI d k h;have x:=oH d (k+1);have E:d[k].data.size<=1000000000:=by omega
   have q:xA _:=j;clear j;go_wp2;exact⟨⟨k+1,by omega,by go_num,by rw[q.o];go_num,f.alloc f.size _⟩,by simp[intOf];omega⟩
  go_wp2;go_ret;have e:d.take k=d:=Ra (by omega);exact⟨fD (by rw[e]),f⟩
def IA(a:List vE):List iA:=a.flatMap fun x=>[lA mA x.K,nA x.T,nA x.X,lA mA x.U]
