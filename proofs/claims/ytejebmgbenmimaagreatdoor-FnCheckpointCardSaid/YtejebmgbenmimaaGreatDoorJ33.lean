import Derived.Test.YtejebmgbenmimaaGreatDoorJ31
import Derived.Test.YtejebmgbenmimaaGreatDoorJ07
import Derived.Test.YtejebmgbenmimaaGreatDoorJ43
import Derived.Test.YtejebmgbenmimaaGreatDoorJ29
set_option maxRecDepth 100000
set_option maxHeartbeats 8000000
set_option linter.defProp false
open Bool renaming true->iA,false->gA
open Option renaming some->fA
open List renaming length->cB
namespace Go.Proofs.YtejebmgbenmimaaGreatDoor
open Go renaming World->jA,Value->mA
open RowKit renaming Below->kA
open Value renaming string->tA,slice->uA
open Ending renaming returned->zA
open Obj renaming cells->aB
open Go.RowKit Tryz
def oU(a:List pB)(k:Nat)(h:k<cB a):a[k].s.size<=dE a:=by
 have b:=pN a k h;have c:=lM a (k+1);omega
def bm:∀(a:List kB),(sE a).size<=17*cB a+10*fC a
 |[]=>by simp[sE,fC]
 |t::q=>by
  have c:=bm q;have b:=yZ t;show(mQ t++sE q).size<=17*(cB q+1)+10*(lF t+fC q);rw[Ka,b];unfold lF;omega
def WX{a:List kB}(h:cB a+fC a<=1048576):aHu a/\aHy a/\aKq a/\(sE a).size<=100000000:=by
 have g:∀i(b:i<cB a),lF a[i]<=1048576:=λi b=>by
  have c:=eK a i b;have d:=tM a (i+1);omega
 have c:∀i(b:i<cB a),a[i].N.size<=1048576/\cB a[i].M<=1048576/\cB a[i].Z<=1048576/\dE a[i].M<=1048576/\dE a[i].Z<=1048576:=λi b=>by have:=g i b;unfold lF at this;omega
 have d:∀i(b:i<cB a),(∀j(f:j<cB a[i].M),a[i].M[j].s.size<=1000000000)/\(∀j(f:j<cB a[i].Z),a[i].Z[j].s.size<=1000000000):=λi b=>
  ⟨λj e=>by have:=oU _ j e;have:=c i b;omega,λj e=>by have:=oU _ j e;have:=c i b;omega⟩
 refine⟨λi b=>⟨?_,?_,?_,(d i b).1,(d i b).2⟩,λi b=>⟨?_,?_⟩,λi b=>⟨?_,?_⟩,?_⟩;all_goals first|(have:=c i b;unfold maxLen at *;omega)|(have:=c i b;omega)|(have:=bm a;omega)
def mc(w:jA):bM 85 #[.nilIface] w (dB 0):=by
 go_enter func85,ntmps85;go_wp2_with(first
  |(go_at_call 84;apply dR (aIz _ _))
  |(go_at_call 37;apply dR (aEq _)))
 go_ret;exact⟨rfl,rfl⟩
def mn(k:Nat)(h:k<10):CP (48+UInt8.ofNat k)=iA:=by
 rcases(show k=0\/k=1\/k=2\/k=3\/k=4\/k=5\/k=6\/k=7\/k=8\/k=9 by omega) with rfl|rfl|rfl|rfl|rfl|rfl|rfl|rfl|rfl|rfl<;>decide
def JZ(n:Nat):∀i,sK (xX n i)=iA
 |0=>rfl
 |i+1=>by
  have a:=JZ n i;simp only[sK,xX,List.all_cons,Sa]at a |-
  exact⟨mn _ (by omega),a⟩
def LW(n:Int)(a:1<=n)(b:n<=999999):tF n=PN n.toNat:=Ma ⟨a,b⟩
theorem oP(n:Int)(b:1<=n)(c:n<=999999):gG (tF n)=iA:=by
 rw[LW n b c];have e:(PN n.toNat).size=10:=by
  show(119::97::108::45::xX n.toNat 6).toArray.size=10;simp[lZ]
 have d:(PN n.toNat).data.toList=119::97::108::45::xX n.toNat 6:=rfl;have a:=JZ n.toNat 6;unfold gG;rw[e,d];simp only[sK,List.all_cons]at a |-
 rw[a];decide
def YG{k:Int}{n:Int}{d:vB}{z:Int}(c:1<=k/\k<=4)(a:1<=n)(b:n<=999999):GZ ⟨k,tF n,⟨#[]⟩,d,z⟩=iA:=by grind [GZ,tF,dC,oP]
structure xO(w0 w:World)(B P D:Nat)(K:eE)(L:aI):Prop where
 pow:kI w0
 below:zB w0 w
 hB:w0.1.size≤B
 hP:w0.1.size≤P
 wr:bY w P D L
 drive:∃v,bD w B D K.fs K.c K.k K.cr K.fl K.dn v
 valid:rE K.fs K.c K.k K.cr K.fl=iA
section
variable {w0 w w':jA} {B P D:Nat} {K K':eE} {L L':aI}
theorem xO.z(h:xO w0 w B P D K L)(a:zB w w'):xO w0 w' B P D K L:=
 ⟨h.pow,xB h.below a,h.hB,h.hP,h.wr.z a,by obtain⟨v,b⟩:=h.drive;exact⟨v,b.z a⟩,h.valid⟩
theorem xO.tab(h:xO w0 w B P D K L):kI w:=h.pow.z h.below
theorem xO.set(h:xO w0 w B P D K L)(j:Nat)(x:mA)(m:#[mA.pointer (cC D),dB L'.first,dB L'.last,dB L'.size]=(#[mA.pointer (cC D),dB L.first,dB L.last,dB L.size]:Array mA).setIfInBounds j x):xO w0 (w.setCell (iB P j) x) B P D K L':=by
 refine⟨h.pow,h.below.setCell (by show w0.1.size<=P;exact h.hP) _,h.hB,h.hP,?_,?_,h.valid⟩;show rB _ _ _ _;rw[m];exact rB.set h.wr j x;obtain ⟨v,a⟩:=h.drive;refine⟨v,a.from',?_,?_,a.apart⟩;refine (kA.heap_setCell _ _ _ D (λe=>?_)).trans a.blk;have i:D=P:=e;have c:=a.blk;rw[i]at c;have b:=(show w.heap[P]?=_ from c).symm.trans h.wr;simp at b;refine IG (S:=λk=>k=P) a.row ((iE.refl (λk=>k=P) w).setCell (g:=P) rfl j x) (λg l e=>?_);obtain⟨f,d⟩:=PF a.row g l;rw[e]at d;have b:=(show w.heap[P]?=_ from d).symm.trans h.wr;simp at b
theorem gy{a:yK}(h:rE K.fs K.c K.k K.cr K.fl=iA)(b:GZ a=iA):
 fF K a=(⟨(tI K.fs K.c K.k K.cr K.fl K.dn a).2.1,K.c,(tI K.fs K.c K.k K.cr K.fl K.dn a).2.2.1,K.cr,K.fl,(tI K.fs K.c K.k K.cr K.fl K.dn a).2.2.2⟩,(tI K.fs K.c K.k K.cr K.fl K.dn a).1):=by
 unfold fF yQ;rw[Ma (by simp[h,b])]
theorem PV(l:yK)(h:xO w0 w B P D K L)(o:GZ l=iA)(E:fF K l=(K',0)):
 Calls prog 111 #[.pointer (cC D),.agg #[dB l.K,tA l.N,tA l.tq,tA l.data,dB l.size]] w λe w'=>e=zA .nilIface/\xO w0 w' B P D K' L/\oJ w w':=by
 obtain⟨v,t⟩:=h.drive;obtain⟨a,b,j,d,f,g,i,_⟩:=nH h.valid;have m:dC l.K 1 6=iA:=by simp only[GZ,Sa]at o;exact o.1.1
 have q:l.K<=6:=by simp only[dC,Sa,Ab]at m;exact m.2
 rw[gy h.valid o]at E;obtain⟨rfl,r⟩:=Prod.mk.inj E;apply oC (aDh w B D K.fs K.c K.k K.cr K.fl K.dn v l ⟨t,kS a,b,f,d,g,i⟩ m);rintro w' ⟨s,n,u,p,_⟩;exact⟨by rw[r];rfl,⟨h.pow,h.below.trans (s.mono h.hB),h.hB,h.hP,(n q).blk h.wr (by decide) (by decide),⟨u,p⟩,NG h.valid o⟩,n q⟩
end
def aZ{L:aI}(h:rL L=iA):0<=L.size/\L.size<=1000000000/\1<=L.first/\L.first<=L.last/\1<=L.last/\L.last<=999999:=by
 simp only[rL,dC,Sa,Ab]at h;omega
def wl(P D:Nat)(L:aI)(p:vB)(a:Int)(w:jA)(h:bY w P D L)(i:rL L=iA)(u:1<=a)(v:a<=1000000000)(j:dC p.size 1 60000=iA)(g:L.last=999999->kX L (8+p.size) a=gA):
 gF 118 #[.pointer (cC P),tA p,dB a] w .nilIface:=by
 obtain⟨q,r,o,s⟩:=h.cells;have k:=aZ i;have x:1<=p.size/\p.size<=60000:=by simp only[dC,Sa,Ab]at j;omega
 have n:=gB (λW=>TU L W);have m:=gB (λW=>bq (p.size:Int) W);have d:=gB (λW(t:bY W P D L)=>TH P D L (8+(p.size:Int)) a W t ⟨k.1,k.2.1⟩ (by omega));have f:=gB h;rw[i]at n;rw[j]at m;clear h q i j k;go_enter func118,ntmps118;go_wp2_with fail;apply oC (n.o _);intro y c;replace f:=gB (f.o.z c);have l:=gB c;clear c r o s;obtain⟨-,-,o,-⟩:=f.o.cells;go_wp2_with fail;apply dR (m.o _);by_cases b:L.last=999999
 .have c:(L.last==999999)=iA:=by simpa using b
  have d:=gB (d.o _ f.o);rw[g b]at d;clear b g;go_wp2_with fail;apply dR d.o;go_wp2;go_ret;exact⟨rfl,l.o⟩
 have c:(L.last==999999)=gA:=by simpa using b
 clear b g;go_wp2;go_ret;exact⟨rfl,l.o⟩
def aKr(K:eE)(L:aI)(z a:Int)(b:eE)(c:aI):Prop:=
 ((L.size≠0/\a<L.size+z)/\L.last<999999/\fF K (pI (L.last+1))=(b,0)/\c=⟨L.first,L.last+1,0⟩)\/¬(L.size≠0/\a<L.size+z)/\b=K/\c=L
def aId{w0 w:jA}{B P D:Nat}{K k v x:eE}{L b:aI}(f:vB)(c:Int)(h:xO w0 w B P D K L)(J:rL L=iA)(V:f.size<=60008)(z:aKr K L f.size c k b)(G:fF k (iK b.last f)=(v,0))(I:fF v (xW b.last)=(x,0)):
 Calls prog 119 #[.pointer (cC P),tA f,dB c] w λe w'=>e=zA .nilIface/\xO w0 w' B P D x ⟨b.first,b.last,b.size+f.size⟩:=by
 have s:=aZ J;have H:1<=b.last/\b.last<=999999/\0<=b.size/\b.size<=1000000000:=by
  obtain⟨-,h,-,rfl⟩|⟨-,-,rfl⟩:=z;dsimp only;omega;omega
 have t:=gB (TH P D L (f.size:Int) c w h.wr ⟨s.1,s.2.1⟩ (by omega));have C:=gB (λW(m:xO w0 W B P D k b)=>PV _ m (YG (by omega) H.1 H.2.1) G);have F:=gB (λW(m:xO w0 W B P D v b)=>PV _ m (YG (by omega) H.1 H.2.1) I);have a:=gB h;have q:=gB z;have A:IntKind.i64.wrap (b.size+(f.size:Int))=b.size+(f.size:Int):=by rw[IntKind.wrap_i64];omega
 clear h J z G I;go_enter func119,ntmps119;go_wp2_with fail;apply dR t.o;go_upto_if 15 with fail;go_cut [7] (λ_ T=>xO w0 T B P D k b)
 case first=>
  obtain⟨j,U,M,rfl⟩|⟨j,rfl,rfl⟩:=q.o
  .have E:=gB (λW(m:xO w0 W B P D K L)=>PV _ m (YG (by omega) (by omega) (by omega)) M);have o:kX L (f.size:Int) c=iA:=by simp[kX,j]
   have Q:IntKind.i64.wrap (L.last+1)=L.last+1:=by rw[IntKind.wrap_i64];omega
   rw[o];clear j o M s t C F H q A;obtain⟨i,O,r,y⟩:=a.o.wr.cells;go_wp2_with fail;go_region_held3 (λW=>W.cell? (iB P 0)=fA (.pointer (cC D))/\W.cell? (iB P 2)=fA (dB L.last))
    (first|exact⟨d.o.wr.cells.1,d.o.wr.cells.2.2.1⟩|exact⟨g.o.wr.cells.1,g.o.wr.cells.2.2.1⟩|exact⟨(a.o.z jD.drew).wr.cells.1,(a.o.z jD.drew).wr.cells.2.2.1⟩)
    (first
    |(go_at_call 110;apply oC (lL (L.last+1) _ (a.o.z jD.drew).tab);intro h n;have g:=gB ((a.o.z jD.drew).z n))
    |(go_at_call 111;refine(E.o _ g.o).mono ?_;rintro e N ⟨rfl,p,-⟩;have d:=gB p))
   clear i O r y E a g n p;obtain⟨-,-,r,y⟩:=d.o.wr.cells;have X:=rB.free d.o.wr 2;have l:fB (xO w0 (N.setCell (iB P 2) (dB (L.last+1))) B P D k ⟨L.first,L.last+1,L.size⟩):=d.o.set 2 _ (by simp);have R:=rB.free l.o.wr 3;have u:fB (xO w0 ((N.setCell (iB P 2) (dB (L.last+1))).setCell (iB P 3) (dB 0)) B P D k ⟨L.first,L.last+1,0⟩):=l.o.set 3 _ (by simp);go_wp2_with fail;go_meet;exact u.o
  have o:kX b (f.size:Int) c=gA:=by simp only[kX,Gg,Xe];omega
  rw[o];clear j o q;go_wp2_with fail;go_meet;exact a.o
 rename jA=>Y;replace a:=gB hcut;clear hcut s H q t;obtain⟨i,-,r,-⟩:=a.o.wr.cells;go_wp2_with fail;apply oC (lL b.last _ a.o.tab);intro Z j;replace a:=gB (a.o.z j);clear j i r;obtain⟨i,-,-,-⟩:=a.o.wr.cells;go_wp2_with fail;refine(C.o _ a.o).mono ?_;rintro e w4 ⟨rfl,h,-⟩;replace a:=gB h;clear h i;obtain⟨i,-,-,-⟩:=a.o.wr.cells;go_wp2_with fail;refine(F.o _ a.o).mono ?_;rintro e S ⟨rfl,h,-⟩;replace a:=gB h;clear h i;obtain⟨-,-,-,y⟩:=a.o.wr.cells;have R:=rB.free a.o.wr 3;replace a:fB (xO w0 (S.setCell (iB P 3) (dB (b.size+(f.size:Int)))) B P D x ⟨b.first,b.last,b.size+f.size⟩):=a.o.set 3 _ (by simp);go_wp2;go_ret;exact⟨rfl,a.o⟩
def VE{K K':eE}{a:yK}(h:fF K a=(K',0)):rE K.fs K.c K.k K.cr K.fl=iA:=by
 cases hd:rE K.fs K.c K.k K.cr K.fl with
 |true=>rfl
 |false=>
  unfold fF yQ at h;rw[Ja (by simp[hd])]at h;cases (Prod.mk.inj h).2
def tN.turn{S:Nat->Prop}{w w':jA}{B:Nat}{a:nC}{c:List nB}(h:tN w B a c)(p:jB S w w')(k:∀g,B<=g->¬S g):tN w' B a c:=by
 obtain h|⟨g,o,b,t,rfl,d,f,l⟩:=h;exact Ca h;have e:=p.block g (eB f) (k g d);have n:∀j,w'.cell? (iB g j)=w.cell? (iB g j):=λj=>jA.cell?_of_block e;exact La ⟨g,o,b,t,rfl,d,e.trans f,λi m=>by simp only[n];exact l i m⟩
def rB.four{w:jA}{b:Nat}{a c d e:mA}{t:TypeId}(h:rB w b #[a,c,d,e] t):w.cell? (iB b 0)=fA a/\w.cell? (iB b 1)=fA c/\w.cell? (iB b 2)=fA d/\w.cell? (iB b 3)=fA e:=by
 simp[h.cell]
def rn{w:jA}{b g j:Nat}{a:Array mA}{t:TypeId}{x:mA}(h:rB w b a t)(c:b≠g):rB (w.setCell (iB g j) x) b a t:=(kA.heap_setCell _ _ _ b (λe=>c e)).trans h
def bY.other{w:jA}{P D g j:Nat}{L:aI}{x:mA}(h:bY w P D L)(a:P≠g):bY (w.setCell (iB g j) x) P D L:=rn h a
def bD.set_low{w:jA}{B D:Nat}{f:List nB}{c k a d:Int}{b:Bool}{v:mA}(h:bD w B D f c k a d b v){P:Nat}(n:P<B)(j:Nat)(x:mA):bD (w.setCell (iB P j) x) B D f c k a d b v:=by
 have i:=(iE.refl (λk=>k=P) w).setCell (g:=P) rfl j x;have m:=h.from';refine⟨h.from',h.blk.keeps i (by omega),IG h.row i (λg l e=>?_),h.apart⟩;have:=qI h.row g l;omega
def aLn{C:jA->Prop}{w:jA}{a:nC}{b:Nat}{K:eE}{L:aI}(h:wB w a K.fs)(k:∀W,LA w W w.1.size a b K L->W.1.size=w.1.size+4->C W):
 C ((((w.alloc (aB (dkC a b K) 35)).alloc (aB #[dB L.first,dB L.last,dB L.size] 37)).alloc (aB #[uA none 0 0,dB 0,dB 0,dB 0,dB 0,.bool gA] 35)).alloc (aB #[dB 0,dB 0,dB 0] 37)):=by
 obtain⟨f,g,c,d,e⟩:=GO (kA.refl _ ((((w.alloc (aB (dkC a b K) 35)).alloc (aB #[dB L.first,dB L.last,dB L.size] 37)).alloc (aB #[uA none 0 0,dB 0,dB 0,dB 0,dB 0,.bool gA] 35)).alloc (aB #[dB 0,dB 0,dB 0] 37)));exact k _ ⟨f,g,c,d,h.z e,e⟩ (by simp)
def ko(a:nC)(m:Nat)(K:eE)(L:aI)(p:vB)(f:Int)(w:jA)(u:kI w)(Y:wB w a K.fs)(l:DG K.fs)(Z:(zH K L p f).2.2=0):
 Calls prog 43 #[.agg (dkC a m K),.agg #[dB L.first,dB L.last,dB L.size],tA p,dB f] w λe w'=>
  ∃a' M,e=zA (aEd (zH K L p f) a' M)/\tN w' w.1.size a' (zH K L p f).1.fs/\zB w w':=by
 obtain⟨r,Q,z,c,n,c,t,T,k,h3,hR⟩:=ja Z;rw[hR];have E:=aZ r;have o:1<=f/\f<=1000000000:=by simpa[dC]using Q
 have G:dC p.size 1 60000=iA/\p.size<=60000/\(pF p).size=8+p.size:=by
  by_cases h:1<=p.size/\p.size<=60000
  .exact ⟨by simp[dC];omega,h.2,JL h⟩
  rw[pF,Ja h]at z;exact absurd rfl (vO.1 z)
 have c:rE K.fs K.c K.k K.cr K.fl=iA:=by
  obtain⟨-,-,h,-⟩|⟨-,rfl,-⟩:=T;exact VE h;exact VE k
 have h9:L.last=999999->kX L (8+p.size) f=gA:=λe=>by
  obtain⟨-,h,-⟩|⟨h,-⟩:=T;omega;rw[G.2.2]at h;simp only[kX,Gg,Xe];omega
 have O:=l.len;have HM:=gB (λW(h:wB W a K.fs)=>AH a m K.fs K.c K.k K.cr K.fl K.dn W h (by omega));have J:=gB (λW P D(U:bY W P D L)=>wl P D L p f W U r o.1 o.2 G.1 h9);have HV:=gB (λW(h:wB W a K.fs)=>@qR _ m _ _ _ _ _ K.dn _ c W h l.H (by unfold maxLen;omega) l.sum);have I:=gB (λW=>QW p W (by unfold maxLen;omega));have H:=gB (λw0 W B P D(U:xO w0 W B P D K L)=>aId (pF p) f U r (by omega) T k h3);have HF:=gB Y;have y:=gB u;have x:=gB c;clear u Y l Z r Q z T k h3 hR E o G c h9 O;generalize pF p=F at *;go_enter func43,ntmps43;go_upto_region 1 with fail;refine aLn (C:=λW=>Code.wp prog _ _ _ W) HF.o ?_;intro o U hs;have A:=gB U;have O:=gB hs;have k:=gB (λW(h:zB o W)=>(⟨(U.z h).D.c6,(U.z h).L.c3⟩:_/\_));clear U hs HF;go_cut [11] (λs W=>∃P D B,s=.pointer (cC P)/\xO o W B P D K L)
 case first=>
  go_region_held3 (λW=>(W.cell? (iB w.1.size 0)=fA (uA a (cB K.fs) m)/\W.cell? (iB w.1.size 1)=fA (dB K.c)/\W.cell? (iB w.1.size 2)=fA (dB K.k)/\W.cell? (iB w.1.size 3)=fA (dB K.cr)/\W.cell? (iB w.1.size 4)=fA (dB K.fl)/\W.cell? (iB w.1.size 5)=fA (.bool K.dn))/\W.cell? (iB (w.1.size+1) 0)=fA (dB L.first)/\W.cell? (iB (w.1.size+1) 1)=fA (dB L.last)/\W.cell? (iB (w.1.size+1) 2)=fA (dB L.size))
   (exact k.o _ (by repeat (first|with_reducible refine kA.setCell ?_ (by exact Ia _) _|with_reducible exact jD|with_reducible refine xB ?_ aC|with_reducible refine kA.drew ?_|exact jD.drew|refine xB ?_ (by assumption))))
   (first
   |(go_at_call 21;refine(HM.o _ (A.o.F.z (by repeat (first|with_reducible exact jD|with_reducible refine xB ?_ aC|with_reducible refine kA.drew ?_|exact jD.drew|refine xB ?_ (by assumption))))).mono ?_;rintro e R ⟨D,v,rfl,N,q⟩;(try (have E:rB R o.1.size _ _:=aJ q;obtain⟨c,c,c,c⟩:=E.four;have b:=E.free))))
  all_goals(go_wp2_with fail;go_meet)
  .have j:=xB jD.drew q;exact⟨R.1.size,D,o.1.size,rfl,y.o.z A.o.B,xB j aC,Ia _,j.size,heap_alloc_new _ _,⟨v,N.z aC⟩,x.o⟩
  have E:rB R o.1.size _ _:=aJ q;have m:=(((E.set 0 (.pointer (cC D))).set 1 (dB L.first)).set 2 (dB L.last)).set 3 (dB L.size);have c:bD R (o.1.size+1) D K.fs K.c K.k K.cr K.fl K.dn v:=by simpa using N
  refine⟨o.1.size,D,o.1.size+1,rfl,y.o.z A.o.B,?_,Gf _,Ia _,by show rB _ _ _ _;simpa using m,⟨v,(((c.set_low (by omega) 0 _).set_low (by omega) 1 _).set_low (by omega) 2 _).set_low (by omega) 3 _⟩,x.o⟩;iterate 4 (refine kA.setCell ?_ (by exact Ia _) _)
  exact xB (xB jD aC).drew q
 obtain⟨P,D,B,rfl,c⟩:=hcut;rename jA=>m;have S:=gB c;clear c k HM x y;obtain⟨Y,Z,k,m,o,G⟩:=(A.o.z S.o.below).D.c6;go_wp2_with(first
  |(go_at_call 118;apply oC (J.o _ _ _ S.o.wr);intro U j;replace S:=gB (S.o.z j);clear j Y Z k m o G;obtain⟨Y,Z,k,m,o,G⟩:=(A.o.z S.o.below).D.c6)
  |(go_at_call 20;apply oC (HV.o _ (A.o.z S.o.below).F);intro R j;replace S:=gB (S.o.z j);clear j Y Z k m o G)
  |(go_at_call 120;apply oC (I.o _);intro k j;replace S:=gB (S.o.z j);clear j)
  |(go_at_call 119;apply oC (H.o _ _ _ _ _ S.o);intro G c;replace S:=gB c;clear c))
 obtain⟨c,c⟩:=S.o.drive;obtain⟨X,m,rfl,o⟩:=pH c.row;have U:=gB (Vc o c);have Y:=gB (λW(h:bD W B D t.fs t.c t.k t.cr t.fl t.dn (uA X (cB t.fs) m))=>dU D _ X _ m _ _ _ _ _ W h.blk);obtain⟨h,h⟩:w.1.size+4<=P/\w.1.size+4<=B:=O.o ▸ ⟨S.o.hP,S.o.hB⟩;replace A:=gB (A.o.z S.o.below);have h:fB (bY G P D ⟨n.first,n.last,n.size+F.size⟩):=gB S.o.wr;clear o c S J HV I H O;go_region_held3 (λW=>W.cell? (iB P 0)=fA (.pointer (cC D))/\W.cell? (iB P 1)=fA (dB n.first)/\W.cell? (iB P 2)=fA (dB n.last)/\W.cell? (iB P 3)=fA (dB (n.size+F.size)))
  (exact bY.cells (L:=⟨n.first,n.last,n.size+F.size⟩) (D:=D) (by repeat (first|with_reducible refine bY.other ?_ (by omega)|exact V.o|exact h.o.z jD.drew)))
  (first
  |(go_at_call 23;apply oC (Y.o _ (U.o.2.z jD.drew));intro k j;replace j:=xB jD.drew j;have V:=gB (h.o.z j);have G:=gB (A.o.z j);have h:=gB (U.o.1.z j);obtain⟨c,m,o,I,J,O⟩:=G.o.RD.c6;obtain⟨U,Y,Z⟩:=G.o.RL.c3;have b:=G.o.RD.free;have d:=G.o.RL.free)
  |(go_at_call 85;apply dR (mc _)))
 go_wp2;refine bodyPost_ret (v:=?_) (by simp[results,results43,go_sem,c,m,o,I,J,O,U,Y,Z];rfl) rfl ?_;have m:∀W,jB (λi=>i=w.1.size+1+1\/i=w.1.size+1+1+1) k W->tN W w.1.size X t.fs/\zB w W:=λW c=>⟨(h.o.turn c (λg h e=>by omega)).mono (by omega),(G.o.ret c).2⟩
 refine⟨_,_,rfl,m _ ?_⟩;repeat (first|with_reducible exact jB.refl _ _|with_reducible refine jB.setCell ?_ (Ca (by simp)) _ _)
section
open Go.Maps
attribute [local go_sem] lG jH uK rB.drewI dL.drewI dL.new dL.alloc dL.alloc2
def xl{lsn now:Int}{a:List kB}(h:(sE a).size<=100000000):(bH lsn now a).size<=200000000:=by
 by_cases b:qX lsn a
 .rw[FN b];simp only[cL,AK,Ka,oB];have:rx.size<=10:=by decide
  omega
 rw[LX b];simp
structure aKs(w:World)(a b:nC)(N:vC):Prop where
 files:wB w a N.d.fs
 fit:DG N.d.fs
 tens:uC w b N.ts
 bulk:cB N.ts+fC N.ts≤1048576
 rng:MI N.ts
 lsn:xV N.lsn
 now:xV N.now
def aJi{L:aI}(h:rL L=iA):1<=L.first/\L.first<=L.last/\L.last<=999999:=by
 simp only[rL,dC,Sa,Ab]at h;omega
def NP.turn{w W b:jA}{c:kC}{cs:Array mA}{X:Nat}(h:NP w W c cs)(a:jB (·=X) W b)(d:w.1.size+1+1<X):NP w b c cs:=
 ⟨a.blk h.C (by omega),a.blk h.N (by omega),a.blk h.R (by omega),h.B.trans (a.below h.B.size λk f e=>by omega)⟩
def NP.grow{w W b:jA}{c:kC}{cs:Array mA}{B:Nat}(h:NP w W c cs)(a:kA B W b)(d:w.1.size+1+1<B):NP w b c cs:=
 ⟨(a.block _ (by omega)).trans h.C,(a.block _ (by omega)).trans h.N,(a.block _ (by omega)).trans h.R,h.B.trans (a.mono (by omega))⟩
def aMg{w:jA}{B n:Nat}{v:mA}{F:List yK}{last:Int}{TX:vB}(h:GB w B v n (F++[⟨1,vP,⟨#[]⟩,⟨#[]⟩,0⟩]++[⟨2,vP,⟨#[]⟩,TX,0⟩]++[⟨3,vP,⟨#[]⟩,⟨#[]⟩,0⟩]++[⟨5,vP,FZ,⟨#[]⟩,0⟩]++[⟨1,tF (last+1),⟨#[]⟩,⟨#[]⟩,0⟩])):GB w B v n (F++sY last TX):=by
 simp only[Nd]at h;exact h
def aMe{c:nC}{n a:Nat}{d e f g:Int}{b:Bool}:∀(j:Nat)(s:vB),(#[mA.slice c n a,dB d,dB e,dB f,dB g,.bool b]:Array mA)[j]?≠fA (mA.string s)
 |0,_|1,_|2,_|3,_|4,_|5,_|j+6,_=>by simp
def aKx{C:jA->Prop}{w:jA}{O:Nat}{g i j l m n a b c d e f:mA}{t:TypeId}(h:rB w O #[g,i,j,l,m,n] t)(k:∀W,rB W O #[a,b,c,d,e,f] t->jB (·=O) w W->C W):C ((((((w.setCell (iB O 0) a).setCell (iB O 1) b).setCell (iB O 2) c).setCell (iB O 3) d).setCell (iB O 4) e).setCell (iB O 5) f):=
 k _ (by have:=(((((h.set 0 a).set 1 b).set 2 c).set 3 d).set 4 e).set 5 f;simpa using this) (((((((jB.refl (·=O) w).setCell (Ca rfl) 0 a).setCell (Ca rfl) 1 b).setCell (Ca rfl) 2 c).setCell (Ca rfl) 3 d).setCell (Ca rfl) 4 e).setCell (Ca rfl) 5 f)
def ue(l:List yK):cB (vN l)=cB l*5:=by
 induction l with
 |nil=>rfl
 |cons o r a=>simp[vN]at a |-;omega
def mo{w:jA}{B n f:Nat}{b:nC}{l:List yK}(h:GB w B (uA b n f) n l)(v:0<n):∃g,b=cC g/\g<w.1.size/\∀j u,(vN l)[j]?=fA u->w.cell? (iB g j)=fA u:=by
 obtain⟨_,o⟩|⟨g,i,a,e,t,c,p,q,r,k⟩:=h.2;omega;simp only[mA.slice.injEq]at e;refine⟨g,e.1,eB c,λj u d=>?_⟩;have m:j<n*5:=by
  have s:=h.1;have:=(Pb.1 d).1;omega
 rw[rB.cell (show rB w g a _ from c) j,<-Yd,<-d,<-k,Jb m]
def aLa{c:kC}{N:vC}(h:(IV c N).2=0):mH c=iA/\ZQ N=iA/\rL N.l=iA/\N.l.last≠999999/\bH N.lsn N.now N.ts≠ByteArray.empty/\∃K,bL N.d (rT N.d N.l (bH N.lsn N.now N.ts))=(K,0)/\IV c N=(⟨K,⟨N.l.last+1,N.l.last+1,0⟩,N.now,N.ts,N.lsn,N.deg,N.up⟩,0):=by
 unfold IV at h |-
 by_cases b:mH c=gA
 .rw[Ma b]at h;cases h
 rw[Ja b]at h |-
 by_cases e:ZQ N=gA
 .rw[Ma e]at h;cases h
 rw[Ja e]at h |-
 by_cases f:rL N.l=gA
 .rw[Ma f]at h;cases h
 rw[Ja f]at h |-
 by_cases g:N.l.last=999999
 .rw[Ma g]at h;cases h
 rw[Ja g]at h |-
 by_cases i:bH N.lsn N.now N.ts=⟨#[]⟩
 .rw[Ma i]at h;cases h
 rw[Ja i]at h |-
 by_cases a:(bL N.d (rT N.d N.l (bH N.lsn N.now N.ts))).2=0
 .rw[Ma a];exact⟨by simpa using b,by simpa using e,by simpa using f,g,i,_,Prod.ext rfl a,rfl⟩
 rw[Ja a]at h;exact absurd (Int.ofNat.inj h) a
def UY{K Z:eE}{b c:List yK}(h:bL K (b++c)=(Z,0)):∃a,bL K b=(a,0)/\bL a c=(Z,0):=by
 rw[KG]at h;split at h;exact ⟨_,Prod.ext rfl ‹_›,h⟩;exact absurd (Kd Prod.snd h) ‹_›
def YP{K Z:eE}{l:List yK}{j:Nat}(b:j<cB l)(h:bL K (l.drop j)=(Z,0)):∃a,fF K l[j]=(a,0)/\bL a (l.drop (j+1))=(Z,0):=by
 rw[Cb b,bL]at h;split at h;exact ⟨_,Prod.ext rfl ‹_›,h⟩;exact absurd (Kd Prod.snd h) ‹_›
def xj(c:kC)(a b:nC)(r t:Nat)(N:vC)(w:jA)(h:aKs w a b N)(l:(IV c N).2=0):
 Calls prog 72 #[oE c,.agg (sC a r b t N)] w λe w'=>oi (IV c N) w e w':=by
 have m:=h.bulk;have o:=h.fit.len;obtain⟨e1,_,_,e4⟩:=WX h.bulk;obtain⟨hc,B,Z,h9,ht,KZ,p,E⟩:=aLa l;rw[E];have O:=gB (λW=>xL c W);have HCP:fB (∀W,zB w W->Calls prog 63 #[.agg (sC a r b t N)] W λe w'=>∃a r b t,e=zA (.agg (sC a r b t N))/\wB w' a N.d.fs/\uC w' b N.ts/\zB W w'):=λW J=>(yS a b r t N W (h.files.z J) o (h.tens.z J) (by omega) (cU (by omega))).mono λe w' ⟨a,r,b,t,d,G,I,U⟩=>⟨a,r,b,t,d,G.files,I.tens,U⟩
 have d:=gB (λW(J:zB w W)=>gq N.lsn N.now b t N.ts W (h.tens.z J) e1 h.rng h.lsn h.now (by omega) e4);have R:=gB (λW=>BI N.l W);have G:=gB (λW(J:zB w W)=>tW a r N.d.fs N.d.c N.d.k N.d.cr N.d.fl N.d.dn vP W (h.files.z J) (by unfold maxLen;omega));have U:=gB (λW(J:zB w W)=>h.files.z J);have S:=gB (λn W=>tQ n W);have I:=gB (SG (K:=N.d) (L:=N.l) (xl (lsn:=N.lsn) (now:=N.now) e4));have HF0:=gB h.fit;obtain⟨J,J,J⟩:=aJi Z;obtain⟨J,Y⟩:N.up=iA/\N.deg=gA:=by simpa[ZQ]using B
 have h8:(N.l.last==999999)=gA:=by simpa using h9
 have hp:=vO.2 ht;have HR:=gB p;rw[hc]at O;rw[Z]at R;clear h m o e1 e4 B Z ht hc p E l;unfold oE at *;generalize bH N.lsn N.now N.ts=TX at *;have h:=cK;have h:=gB (NP.new (w:=w) (c:=c) (cs:=sC a r b t N));go_enter func72,ntmps72;go_wp2_with fail;apply oC (O.o _);intro w1 m;have P:=gB (h.o.z m);clear m O h;have o:=P.o.cells rfl;have rN:=rF a r b t N 42;have fN:=vE a r b t N;rw[J,Y]at rN fN;replace J:=gB J;replace Y:=gB Y;have hwl:IntKind.i64.wrap (N.l.last+1)=N.l.last+1:=by rw[IntKind.wrap_i64];omega
 go_wp2_with fail;apply oC (R.o _);intro h m;replace P:=gB (P.o.z m);clear m o;have o:=P.o.cells rfl;go_wp2_with fail;apply oC (d.o _ P.o.B);intro M m;replace P:=gB (P.o.z m);clear m o;have o:=P.o.cells rfl;have Y:=P.o.lt;go_wp2_with fail;apply oC (G.o _ (xB P.o.B aC));intro w4 m;have p:=gB ((GB.new M).z m);replace m:=xB aC m;replace P:=gB (P.o.z m);have H:=m.size;clear m o;have o:=P.o.cells rfl;clear R d G hp;go_upto_if 52 with fail;go_cut [7] (λv G=>∃n,n<=1/\NP w G c (sC a r b t N)/\GB G M.1.size v n (nN N.d.fs)/\M.1.size<=G.1.size)
 case first=>
  by_cases d:0<=lE vP N.d.fs 0
  .have Q:=gB (show nN N.d.fs=[ex] from Ma d);go_wp2_with(at_builtin;refine IQ rfl _ _ rfl M.1.size _ _ _ _ _ _ _ _ rfl (by assumption) rfl (by omega) (by omega) ?_;intro g cap G p m;have H:=m.size;replace P:=gB (P.o.grow m Y);clear m o;have o:=P.o.cells rfl);go_meet;exact⟨1,by omega,P.o,by rw[Q.o];exact p.o,by omega⟩
  have Q:=gB (show nN N.d.fs=[] from Ja d);go_wp2;go_meet;exact⟨0,by omega,P.o,by rw[Q.o];exact p.o,H⟩
 clear o P p H;obtain⟨J,d,d,p,H⟩:=hcut;rename jA=>w4;replace p:=gB p;have P:=gB d;clear d;have o:=P.o.cells rfl;have EL:fB (rT N.d N.l TX=nN N.d.fs++(sY N.l.last TX++lQ N.l.first (N.l.last+1-N.l.first).toNat)):=rfl;generalize nN N.d.fs=O at *;obtain⟨d,h⟩:∃d:Nat,(d:Int)=N.l.last+1-N.l.first:=⟨(N.l.last+1-N.l.first).toNat,by omega⟩
 rw[show(N.l.last+1-N.l.first).toNat=d by omega,<-Nd]at EL;go_wp2_with(first
  |(at_builtin;refine IQ rfl _ _ rfl M.1.size _ _ _ _ _ _ _ _ rfl (by assumption) rfl (by omega) (by omega) ?_;intro g cap G p m;have H:=m.size;replace P:=gB (P.o.grow m Y);clear m o;have o:=P.o.cells rfl)
  |(go_at_call 135;apply oC (S.o _ _);intro w5 m;have H:=m.size;replace p:=gB (p.o.z m);replace P:=gB (P.o.z m);clear m o;have o:=P.o.cells rfl))
 replace p:=gB (aMg (last:=N.l.last) (TX:=TX) p.o);generalize O++sY N.l.last TX=L0 at *;clear o;go_loopw [7,8] (λZ i h=>∃(k:Nat),k<=d/\i=dB (N.l.first+k)/\fB (GB h M.1.size Z (J+1+1+1+1+1+k) (L0++lQ N.l.first k))/\fB (NP w h c (sC a r b t N))/\M.1.size<=h.1.size) (λ_ i _=>(N.l.last+1-RowKit.intOf i).toNat)
 case atStart=>exact⟨0,Oa _,by simp,by simpa[lQ]using p,P,by omega⟩
 case round=>
  clear P p;obtain⟨k,O,rfl,p,P,H⟩:=hrel;have o:=P.o.cells rfl;by_cases O:k<d
  .have O:N.l.first+(k:Int)<=N.l.last:=by omega
   have hwk:IntKind.i64.wrap (N.l.first+(k:Int)+1)=N.l.first+(k:Int)+1:=by rw[IntKind.wrap_i64];omega
   go_wp2_with(first
    |(go_at_call 135;apply oC (S.o _ _);intro w5 m;have H:=m.size;replace p:=gB (p.o.z m);replace P:=gB (P.o.z m);clear m o;have o:=P.o.cells rfl)
    |(at_builtin;refine IQ rfl _ _ rfl M.1.size _ _ _ _ _ _ _ _ rfl (by assumption) rfl (by omega) (by omega) ?_;intro g cap G p m;have H:=m.size;replace P:=gB (P.o.grow m Y);clear m o;have o:=P.o.cells rfl))
   exact⟨⟨k+1,by omega,by go_num,by rw[NE,<-Nd];exact p,P,by omega⟩,by simp[RowKit.intOf];omega⟩
  obtain rfl:k=d:=by omega
  have O:¬N.l.first+(k:Int)<=N.l.last:=by omega
  obtain⟨Z,d,d⟩:=nK p.o;have Z:fB (cB (L0++lQ N.l.first k)=J+1+1+1+1+1+k):=by have:=p.o.1;rw[ue]at this;show _=_;omega
  have G:J+1+1+1+1+1+k<=2000000:=by omega
  have Y:0<J+1+1+1+1+1+k:=by omega
  generalize J+1+1+1+1+1+k=n at *;subst d;generalize L0++lQ N.l.first k=J at *
  obtain⟨G,rfl,l,s⟩:=mo p.o Y;have d:=gB s;clear s p;go_wp2;refine uI (C:=λW=>Code.wp prog _ _ _ W) ?_;intro wD y Y _;have hDd:=P.o.lt;have PD:=gB (P.o.z y);have FD:=gB (U.o wD PD.o.B);have CD:=gB (λj u(B:(vN J)[j]?=fA u)=>(jA.cell?_of_block (y.block G l)).trans (d.o j u B));have hGD:G<wD.1.size:=Bb l y.size;have hGn:G≠wr.1.size:=by omega
  replace Y:=gB Y;clear o P d l y U S O hwl;generalize wr.1.size=O at *;go_loopw [103] (λi h=>∃(j:Nat)(K:eE)(d:nC)(l:Nat),j<=n/\i=dB j/\fB (DG K.fs/\bL K (J.drop j)=(KZ,0))/\fB (rB h O #[uA d (cB K.fs) l,dB K.c,dB K.k,dB K.cr,dB K.fl,.bool K.dn] 35)/\fB (wB h d K.fs)/\fB (jB (·=O) wD h)) (λi _=>n-(RowKit.intOf i).toNat)
  case atStart=>exact⟨0,N.d,a,r,Oa _,rfl,⟨HF0.o,EL.o ▸ HR.o⟩,Y.o,FD.o,jB.refl _ _⟩
  case round=>
   obtain⟨j,K,d,l,h,rfl,q,A,X,F⟩:=hrel;have P:=gB (PD.o.turn F.o hDd);have o:=P.o.cells rfl;clear Y FD;by_cases h:j<n
   .have D:j<cB J:=by rw[Z.o];exact h
    have h:=F.o.block G hGD hGn;obtain⟨q0,q1,q2,q3,q4⟩:=aLq (λi u B=>(jA.cell?_of_block h).trans (CD.o i u B)) j D;have x:=I.o J[j] (by rw[EL.o];exact Gb D);obtain⟨K1,hs,B⟩:=YP D q.o.2;generalize J[j]=op at *;have T:=gB (nr q.o.1 x.1 x.2.1 x.2.2);have Y:=nQ (op:=op) q.o.1 x.1 x.2.1;rw[hs]at T Y;have HN:=gB (Vc Y B);have J:=Bb hGD F.o.size;have J:¬G=wr.1.size:=by omega
    clear x hs B Y h D q;go_upto_region 28 with fail;refine uI (C:=λW=>Code.wp prog _ _ _ W) ?_;intro w8 U X8 _;obtain⟨h,B,G,J,O,Y⟩:=(A.o.z U).c6;obtain⟨g0,g1,g2,g3,g4⟩:=X8.c5;have B8:=gB U;clear q0 q1 q2 q3 q4 X8 U o;go_wp2_with fail;refine(T.o _ _ _ (X.o.z B8.o)).mono ?_;rintro e w9 ⟨a9,c9,rfl,U,V⟩;have D9:=gB ((A.o.z B8.o).z V);have B9:=gB (xB B8.o V);have F9:=gB U;clear h B G J O Y g0 g1 g2 g3 g4 U V T B8;go_upto_region 29 with fail;refine uI (C:=λW=>Code.wp prog _ _ _ W) ?_;intro wa z Aa _;obtain⟨h,B,G,J,O,Y⟩:=Aa.c6;have U:=gB (D9.o.z z);have f:=U.o.free;obtain⟨e0,e1,e2,e3,e4,e5⟩:=U.o.c6;have Fa:=gB (F9.o.z z);have Ba:=gB (xB B9.o z);clear z Aa D9 F9 B9;go_upto_region 30 with fail;refine aKx (C:=λW=>Code.wp prog _ _ _ W) U.o ?_;intro wb Db Tb;have Fb:=gB (Fa.o.store U.o (aMe) Tb);have Tz:=gB ((F.o.trans' (jB.of Ba.o)).trans' Tb);replace Db:=gB Db;replace P:=gB (PD.o.turn Tz.o hDd);clear h B G J O Y f e0 e1 e2 e3 e4 e5 Tb U Fa Ba;have o:=P.o.cells rfl;go_wp2;exact⟨⟨j+1,K1,a9,c9,by omega,by go_num,HN,Db,Fb,Tz⟩,by simp[RowKit.intOf];omega⟩
   obtain rfl:j=n:=by omega
   have U:=q.o.2;rw[Yb (by rw[Z.o];exact Ia _)]at U;obtain rfl:K=KZ:=(Prod.mk.inj U).1;have U:¬((j:Int)<(j:Int)):=by omega
   go_wp2_with fail;refine(HCP.o _ P.o.B).mono ?_;rintro e w8 ⟨U,U,U,Z,rfl,_,hT,m⟩;replace P:=gB (P.o.z m);have D8:=gB (A.o.z m);have F8:=gB (X.o.z m);clear m A X o HCP I;have o:=P.o.cells rfl;go_upto_region 34 with fail;refine bW (C:=λW=>Code.wp prog _ _ _ W) P.o.N ?_;intro w9 m I;have D9:=I.blk D8.o (by omega);have F9:=gB (F8.o.store P.o.N (dG _ _ _ _ _) I);have H9:=gB (hT.store P.o.N (dG _ _ _ _ _) I);replace P:=gB (P.o.put m I);obtain⟨h,B,G,J,O,Y⟩:=D9.c6;obtain⟨o0,o1,o2,o3,o4,o5,o6,o7,o8,o9,o10,o11,o12,o13⟩:=rF _ _ _ _ _ _ _ _ m;have f:=m.free;clear o hT I D9 D8 F8 rN fN;go_upto_region 36 with fail;refine yx (C:=λW=>Code.wp prog _ _ _ W) m ?_;intro wa W I;change rB wa _ (sC d l U Z ⟨K,⟨N.l.last+1,N.l.last+1,0⟩,N.now,N.ts,N.lsn,N.deg,N.up⟩) _ at W;have Fa:=gB (F9.o.store P.o.N (dG _ _ _ _ _) I);have Ha:=gB (H9.o.store P.o.N (dG _ _ _ _ _) I);replace P:=gB (P.o.put W I);have rM:=rF d l U Z ⟨K,⟨N.l.last+1,N.l.last+1,0⟩,N.now,N.ts,N.lsn,N.deg,N.up⟩ 42;have fM:=vE d l U Z ⟨K,⟨N.l.last+1,N.l.last+1,0⟩,N.now,N.ts,N.lsn,N.deg,N.up⟩;dsimp only at fM rM;clear o0 o1 o2 o3 o4 o5 o6 o7 o8 o9 o10 o11 o12 o13 h B G J O Y f m W I;have o:=P.o.cells rfl;go_wp2;exact YQ rfl rfl rfl rfl P.o rfl Fa.o Ha.o
end
