import Derived.Test.YtflbidbilgndeaaGreatDoorJ30
import Derived.Test.YtflbidbilgndeaaGreatDoorJ07
import Derived.Test.YtflbidbilgndeaaGreatDoorJ38
import Derived.Test.YtflbidbilgndeaaGreatDoorJ28
set_option maxRecDepth 100000
set_option maxHeartbeats 8000000
set_option linter.defProp false
namespace Go.Proofs.YtflbidbilgndeaaGreatDoor
open Go.RowKit Tryz
def gq:∀(a:List fB),(sE a).size<=17*a.length+10*cC a
 |[]=>by simp[sE,cC]
 |t::q=>by
  have c:=gq q;have b:=BP t;show(kR t++sE q).size<=17*(q.length+1)+10*(jF t+cC q);rw[Ka,b];unfold jF;omega
def ZW{a:List fB}(h:a.length+cC a<=1048576):aCx a/\aMb a/\aOt a/\(sE a).size<=100000000:=by
 have g:∀i(b:i<a.length),jF a[i]<=1048576:=λi b=>by
  have c:=oK a i b;have d:=dN a (i+1);omega
 have c:∀i(b:i<a.length),a[i].N.size<=1048576/\a[i].M.length<=1048576/\a[i].Z.length<=1048576/\gE a[i].M<=1048576/\gE a[i].Z<=1048576:=λi b=>by have:=g i b;unfold jF at this;omega
 have d:∀i(b:i<a.length),(∀j(f:j<a[i].M.length),a[i].M[j].s.size<=1000000000)/\(∀j(f:j<a[i].Z.length),a[i].Z[j].s.size<=1000000000):=λi b=>
  ⟨λj e=>by have:=nK _ j e;have:=c i b;omega,λj e=>by have:=nK _ j e;have:=c i b;omega⟩
 refine⟨λi b=>⟨?_,?_,?_,(d i b).1,(d i b).2⟩,λi b=>⟨?_,?_⟩,λi b=>⟨?_,?_⟩,?_⟩;all_goals first|(have:=c i b;unfold maxLen at *;omega)|(have:=c i b;omega)|(have:=gq a;omega)
def rg(w:World):rL 73 #[.nilIface] w (zA 0):=by
 go_enter func73,ntmps73;go_wp2_with(first
  |(go_at_call 72;apply dR (aMy _ _))
  |(go_at_call 133;apply dR (aIs _)))
 go_ret;exact⟨rfl,rfl⟩
def rt(k:Nat)(h:k<10):EP (48+UInt8.ofNat k)=true:=by
 rcases(show k=0\/k=1\/k=2\/k=3\/k=4\/k=5\/k=6\/k=7\/k=8\/k=9 by omega) with rfl|rfl|rfl|rfl|rfl|rfl|rfl|rfl|rfl|rfl<;>decide
def MD(n:Nat):∀i,eL (eZ n i)=true
 |0=>rfl
 |i+1=>by
  have a:=MD n i;simp only[eL,eZ,List.all_cons,Sa]at a |-
  exact⟨rt _ (by omega),a⟩
def OE(n:Int)(a:1<=n)(b:n<=999999):zE n=KH n.toNat:=Ma ⟨a,b⟩
theorem eQ(n:Int)(b:1<=n)(c:n<=999999):qG (zE n)=true:=by
 rw[OE n b c];have e:(KH n.toNat).size=10:=by
  show(119::97::108::45::eZ n.toNat 6).toArray.size=10;simp[AX]
 have d:(KH n.toNat).data.toList=119::97::108::45::eZ n.toNat 6:=rfl;have a:=MD n.toNat 6;unfold qG;rw[e,d];simp only[eL,List.all_cons]at a |-
 rw[a];decide
def bu{k:Int}{n:Int}{d:jB}{z:Int}(c:1<=k/\k<=3)(a:1<=n)(b:n<=999999):US ⟨k,zE n,⟨#[]⟩,d,z⟩=true/\k≠4:=⟨by grind [US,zE,bC,eQ],by omega⟩
structure aO(w0 w:World)(B P D:Nat)(K:yD)(L:iH):Prop where
 pow:sI w0
 below:uB w0 w
 hB:w0.1.size≤B
 hP:w0.1.size≤P
 wr:iX w P D L
 drive:∃v,kD w B D K.fs K.c K.k K.cr K.fl K.dn v
 valid:eF K.fs K.c K.k K.cr K.fl=true
section
variable {w0 w w':World} {B P D:Nat} {K K':yD} {L L':iH}
theorem aO.z(h:aO w0 w B P D K L)(a:uB w w'):aO w0 w' B P D K L:=
 ⟨h.pow,vB h.below a,h.hB,h.hP,h.wr.z a,by obtain⟨v,b⟩:=h.drive;exact⟨v,b.z a⟩,h.valid⟩
theorem aO.tab(h:aO w0 w B P D K L):sI w:=h.pow.z h.below
theorem aO.set(h:aO w0 w B P D K L)(j:Nat)(x:Value)(m:#[Value.pointer (yB D),zA L'.first,zA L'.last,zA L'.size]=(#[Value.pointer (yB D),zA L.first,zA L.last,zA L.size]:Array Value).setIfInBounds j x):aO w0 (w.setCell (dB P j) x) B P D K L':=by
 refine⟨h.pow,h.below.setCell (by show w0.1.size<=P;exact h.hP) _,h.hB,h.hP,?_,?_,h.valid⟩;show nB _ _ _ _;rw[m];exact nB.set h.wr j x;obtain ⟨v,a⟩:=h.drive;refine⟨v,a.from',?_,?_,a.apart⟩;refine (Below.heap_setCell _ _ _ D (λe=>?_)).trans a.blk;have i:D=P:=e;have c:=a.blk;rw[i]at c;have b:=(show w.heap[P]?=_ from c).symm.trans h.wr;simp at b;refine KG (S:=λk=>k=P) a.row ((lE.refl (λk=>k=P) w).setCell (g:=P) rfl j x) (λg l e=>?_);obtain⟨f,d⟩:=SE a.row g l;rw[e]at d;have b:=(show w.heap[P]?=_ from d).symm.trans h.wr;simp at b
theorem na{a:zN}(h:eF K.fs K.c K.k K.cr K.fl=true)(b:US a=true):
 gF K a=(⟨(iL K.fs K.c K.k K.cr K.fl K.dn a).2.1,K.c,(iL K.fs K.c K.k K.cr K.fl K.dn a).2.2.1,K.cr,K.fl,(iL K.fs K.c K.k K.cr K.fl K.dn a).2.2.2⟩,(iL K.fs K.c K.k K.cr K.fl K.dn a).1):=by
 unfold gF cZ;rw[Ma (by simp[h,b])]
theorem SW(l:zN)(h:aO w0 w B P D K L)(m:US l=true/\l.K≠4)(E:gF K l=(K',0)):
 Calls prog 123 #[.pointer (yB D),.agg #[zA l.K,.string l.N,.string l.tq,.string l.data,zA l.size]] w λe w'=>e=.returned .nilIface/\aO w0 w' B P D K' L/\vJ w w':=by
 obtain⟨v,t⟩:=h.drive;obtain⟨m,r⟩:=m;obtain⟨a,b,j,d,f,g,i,_⟩:=rG h.valid;have p:bC l.K 1 6=true:=by simp only[US,Sa]at m;exact m.1.1
 rw[na h.valid m]at E;obtain⟨rfl,q⟩:=Prod.mk.inj E;apply lC (aLb w B D K.fs K.c K.k K.cr K.fl K.dn v l ⟨t,gT a,b,f,d,g,i⟩ p r q);rintro w' ⟨s,n,u,o⟩;exact⟨rfl,⟨h.pow,h.below.trans (s.mono h.hB),h.hB,h.hP,n.blk h.wr (by decide) (by decide),⟨u,o⟩,PR h.valid m⟩,n⟩
end
def AH{L:iH}(h:bM L=true):0<=L.size/\L.size<=1000000000/\1<=L.first/\L.first<=L.last/\1<=L.last/\L.last<=999999:=by
 simp only[bM,bC,Sa,Ab]at h;omega
def aBz(P D:Nat)(L:iH)(p:jB)(a:Int)(w:World)(h:iX w P D L)(i:bM L=true)(u:1<=a)(v:a<=1000000000)(j:bC p.size 1 60000=true)(g:L.last=999999->rY L (8+p.size) a=false):
 dF 303 #[.pointer (yB P),.string p,zA a] w .nilIface:=by
 have q:=h.cells;have k:=AH i;have x:1<=p.size/\p.size<=60000:=by simp only[bC,Sa,Ab]at j;omega
 have n:=bB (λW=>WZ L W);have m:=bB (λW=>QO (p.size:Int) W);have d:=bB (λW(t:iX W P D L)=>WT P D L (8+(p.size:Int)) a W t ⟨k.1,k.2.1⟩ (by omega));have f:=bB h;rw[i]at n;rw[j]at m;go_enter func303,ntmps303;go_wp2_with fail;apply lC (n.o _);intro y c;replace f:=bB (f.o.z c);have l:=bB c;obtain⟨-,-,o,-⟩:=f.o.cells;go_wp2_with fail;apply dR (m.o _);by_cases b:L.last=999999
 .have c:(L.last==999999)=true:=by simpa using b
  have d:=bB (d.o _ f.o);rw[g b]at d;go_wp2_with fail;apply dR d.o;go_wp2;go_ret;exact⟨rfl,l.o⟩
 have c:(L.last==999999)=false:=by simpa using b
 go_wp2;go_ret;exact⟨rfl,l.o⟩
def aOv(K:yD)(L:iH)(z a:Int)(b:yD)(c:iH):Prop:=
 ((L.size≠0/\a<L.size+z)/\L.last<999999/\gF K (aH (L.last+1))=(b,0)/\c=⟨L.first,L.last+1,0⟩)\/¬(L.size≠0/\a<L.size+z)/\b=K/\c=L
def aMg{w0 w:World}{B P D:Nat}{K k v x:yD}{L b:iH}(f:jB)(c:Int)(h:aO w0 w B P D K L)(J:bM L=true)(V:f.size<=60008)(z:aOv K L f.size c k b)(G:gF k (yJ b.last f)=(v,0))(I:gF v (zR b.last)=(x,0)):
 Calls prog 304 #[.pointer (yB P),.string f,zA c] w λe w'=>e=.returned .nilIface/\aO w0 w' B P D x ⟨b.first,b.last,b.size+f.size⟩:=by
 have s:=AH J;have H:1<=b.last/\b.last<=999999/\0<=b.size/\b.size<=1000000000:=by
  obtain⟨-,h,-,rfl⟩|⟨-,-,rfl⟩:=z;dsimp only;omega;omega
 have t:=bB (WT P D L (f.size:Int) c w h.wr ⟨s.1,s.2.1⟩ (by omega));have C:=bB (λW(m:aO w0 W B P D k b)=>SW _ m (bu (by omega) H.1 H.2.1) G);have F:=bB (λW(m:aO w0 W B P D v b)=>SW _ m (bu (by omega) H.1 H.2.1) I);have a:=bB h;have q:=bB z;have A:IntKind.i64.wrap (b.size+(f.size:Int))=b.size+(f.size:Int):=by rw[IntKind.wrap_i64];omega
 go_enter func304,ntmps304;go_wp2_with fail;apply dR t.o;go_upto_if 15 with fail;go_cut [7] (λ_ T=>aO w0 T B P D k b)
 case first=>
  obtain⟨j,U,M,rfl⟩|⟨j,rfl,rfl⟩:=q.o
  .have E:=bB (λW(m:aO w0 W B P D K L)=>SW _ m (bu (by omega) (by omega) (by omega)) M);have o:rY L (f.size:Int) c=true:=by simp[rY,j]
   have Q:IntKind.i64.wrap (L.last+1)=L.last+1:=by rw[IntKind.wrap_i64];omega
   rw[o];have i:=a.o.wr.cells;go_wp2_with fail;go_region_held3 (λW=>W.cell? (dB P 0)=some (.pointer (yB D))/\W.cell? (dB P 2)=some (zA L.last))
    (first|exact⟨d.o.wr.cells.1,d.o.wr.cells.2.2.1⟩|exact⟨g.o.wr.cells.1,g.o.wr.cells.2.2.1⟩|exact⟨(a.o.z iD.drew).wr.cells.1,(a.o.z iD.drew).wr.cells.2.2.1⟩)
    (first
    |(go_at_call 126;apply lC (wL (L.last+1) _ (a.o.z iD.drew).tab);intro h n;have g:=bB ((a.o.z iD.drew).z n))
    |(go_at_call 123;refine(E.o _ g.o).mono ?_;rintro e N ⟨rfl,p,-⟩;have d:=bB p))
   have r:=d.o.wr.cells;have X:=nB.free d.o.wr 2;have l:cB (aO w0 (N.setCell (dB P 2) (zA (L.last+1))) B P D k ⟨L.first,L.last+1,L.size⟩):=d.o.set 2 _ (by simp);have R:=nB.free l.o.wr 3;have u:cB (aO w0 ((N.setCell (dB P 2) (zA (L.last+1))).setCell (dB P 3) (zA 0)) B P D k ⟨L.first,L.last+1,0⟩):=l.o.set 3 _ (by simp);go_wp2_with fail;go_meet;exact u.o
  have o:rY b (f.size:Int) c=false:=by simp only[rY,Gg,Xe];omega
  rw[o];go_wp2_with fail;go_meet;exact a.o
 rename World=>Y;replace a:=bB hcut;have i:=a.o.wr.cells;go_wp2_with fail;apply lC (wL b.last _ a.o.tab);intro Z j;replace a:=bB (a.o.z j);obtain⟨i,-,-,-⟩:=a.o.wr.cells;go_wp2_with fail;refine(C.o _ a.o).mono ?_;rintro e w4 ⟨rfl,h,-⟩;replace a:=bB h;obtain⟨i,-,-,-⟩:=a.o.wr.cells;go_wp2_with fail;refine(F.o _ a.o).mono ?_;rintro e S ⟨rfl,h,-⟩;replace a:=bB h;obtain⟨-,-,-,y⟩:=a.o.wr.cells;have R:=nB.free a.o.wr 3;replace a:cB (aO w0 (S.setCell (dB P 3) (zA (b.size+(f.size:Int)))) B P D x ⟨b.first,b.last,b.size+f.size⟩):=a.o.set 3 _ (by simp);go_wp2;go_ret;exact⟨rfl,a.o⟩
def YN{K K':yD}{a:zN}(h:gF K a=(K',0)):eF K.fs K.c K.k K.cr K.fl=true:=by
 cases hd:eF K.fs K.c K.k K.cr K.fl with
 |true=>rfl
 |false=>
  unfold gF cZ at h;rw[Ja (by simp[hd])]at h;cases (Prod.mk.inj h).2
def jO.turn{S:Nat->Prop}{w w':World}{B:Nat}{a:mC}{c:List iB}(h:jO w B a c)(p:eB S w w')(k:∀g,B<=g->¬S g):jO w' B a c:=by
 obtain h|⟨g,o,b,t,rfl,d,f,l⟩:=h;exact Ca h;have e:=p.block g (aB f) (k g d);have n:∀j,w'.cell? (dB g j)=w.cell? (dB g j):=λj=>World.cell?_of_block e;exact La ⟨g,o,b,t,rfl,d,e.trans f,λi m=>by simp only[n];exact l i m⟩
def nB.four{w:World}{b:Nat}{a c d e:Value}{t:TypeId}(h:nB w b #[a,c,d,e] t):w.cell? (dB b 0)=some a/\w.cell? (dB b 1)=some c/\w.cell? (dB b 2)=some d/\w.cell? (dB b 3)=some e:=by
 simp[h.cell]
def yb{w:World}{b g j:Nat}{a:Array Value}{t:TypeId}{x:Value}(h:nB w b a t)(c:b≠g):nB (w.setCell (dB g j) x) b a t:=(Below.heap_setCell _ _ _ b (λe=>c e)).trans h
def iX.other{w:World}{P D g j:Nat}{L:iH}{x:Value}(h:iX w P D L)(a:P≠g):iX (w.setCell (dB g j) x) P D L:=yb h a
def kD.set_low{w:World}{B D:Nat}{f:List iB}{c k a d:Int}{b:Bool}{v:Value}(h:kD w B D f c k a d b v){P:Nat}(n:P<B)(j:Nat)(x:Value):kD (w.setCell (dB P j) x) B D f c k a d b v:=by
 have i:=(lE.refl (λk=>k=P) w).setCell (g:=P) rfl j x;have m:=h.from';refine⟨h.from',h.blk.keeps i (by omega),KG h.row i (λg l e=>?_),h.apart⟩;have:=zH h.row g l;omega
def aPs{C:World->Prop}{w:World}{a:mC}{b:Nat}{K:yD}{L:iH}(h:tB w a K.fs)(k:∀W,LA w W w.1.size a b K L->W.1.size=w.1.size+4->C W):
 C ((((w.alloc (.cells (dkC a b K) 35)).alloc (.cells #[zA L.first,zA L.last,zA L.size] 37)).alloc (.cells #[.slice none 0 0,zA 0,zA 0,zA 0,zA 0,.bool false] 35)).alloc (.cells #[zA 0,zA 0,zA 0] 37)):=by
 obtain⟨f,g,c,d,e⟩:=JV (Below.refl _ ((((w.alloc (.cells (dkC a b K) 35)).alloc (.cells #[zA L.first,zA L.last,zA L.size] 37)).alloc (.cells #[.slice none 0 0,zA 0,zA 0,zA 0,zA 0,.bool false] 35)).alloc (.cells #[zA 0,zA 0,zA 0] 37)));exact k _ ⟨f,g,c,d,h.z e,e⟩ (by simp)
def qf(a:mC)(m:Nat)(K:yD)(L:iH)(p:jB)(f:Int)(w:World)(u:sI w)(hf:tB w a K.fs)(l:JH K.fs)(hG:(dI K L p f).2.2=0):
 Calls prog 273 #[.agg (dkC a m K),.agg #[.int .i64 L.first,.int .i64 L.last,.int .i64 L.size],.string p,.int .i64 f] w λe w'=>
  ∃a' M,e=.returned (aId (dI K L p f) a' M)/\jO w' w.1.size a' (dI K L p f).1.fs/\uB w w':=by
 obtain⟨r,Q,z,K1,n,K2,t,T,h2,h3,hR⟩:=aDk hG;rw[hR];have E:=AH r;have hm:1<=f/\f<=1000000000:=by simpa[bC]using Q
 have hy:bC p.size 1 60000=true/\p.size<=60000/\(uD p).size=8+p.size:=by
  by_cases h:1<=p.size/\p.size<=60000
  .exact ⟨by simp[bC];omega,h.2,mO h⟩
  rw[uD,Ja h]at z;exact absurd rfl (nP.1 z)
 have hdv:eF K.fs K.c K.k K.cr K.fl=true:=by
  obtain⟨-,-,h,-⟩|⟨-,rfl,-⟩:=T;exact YN h;exact YN h2
 have h9:L.last=999999->rY L (8+p.size) f=false:=λe=>by
  obtain⟨-,h,-⟩|⟨h,-⟩:=T;omega;rw[hy.2.2]at h;simp only[rY,Gg,Xe];omega
 have O:=l.len;have HM:=bB (λW(h:tB W a K.fs)=>BZ a m K.fs K.c K.k K.cr K.fl K.dn W h (by omega));have J:=bB (λW P D(hW:iX W P D L)=>aBz P D L p f W hW r hm.1 hm.2 hy.1 h9);have HV:=bB (λW(h:tB W a K.fs)=>@oS a m _ _ _ _ _ K.dn _ hdv W h l.H (by unfold maxLen;omega) l.sum);have I:=bB (λW=>UM p W (by unfold maxLen;omega));have H:=bB (λw0 W B P D(hW:aO w0 W B P D K L)=>aMg (uD p) f hW r (by omega) T h2 h3);have HF:=bB hf;have y:=bB u;have x:=bB hdv;clear u hf l hG r Q z T h2 h3 hR E hm hy hdv h9 O;generalize uD p=F at *;go_enter func273,ntmps273;go_upto_region 1 with fail;refine aPs (C:=λW=>Code.wp prog _ _ _ W) HF.o ?_;intro o U hs;have A:=bB U;have HS:=bB hs;have HK:=bB (λW(h:uB o W)=>(⟨(U.z h).D.c6,(U.z h).L.c3⟩:_/\_));clear U hs HF;go_cut [11] (λs W=>∃P D B,s=.pointer (some ⟨P,0,none⟩)/\aO o W B P D K L)
 case first=>
  go_region_held3 (λW=>(W.cell? ⟨w.1.size,0,none⟩=some (.slice a K.fs.length m)/\W.cell? ⟨w.1.size,1,none⟩=some (.int .i64 K.c)/\W.cell? ⟨w.1.size,2,none⟩=some (.int .i64 K.k)/\W.cell? ⟨w.1.size,3,none⟩=some (.int .i64 K.cr)/\W.cell? ⟨w.1.size,4,none⟩=some (.int .i64 K.fl)/\W.cell? ⟨w.1.size,5,none⟩=some (.bool K.dn))/\W.cell? ⟨w.1.size+1,0,none⟩=some (.int .i64 L.first)/\W.cell? ⟨w.1.size+1,1,none⟩=some (.int .i64 L.last)/\W.cell? ⟨w.1.size+1,2,none⟩=some (.int .i64 L.size))
   (exact HK.o _ (by repeat (first|with_reducible refine Below.setCell ?_ (by exact Ia _) _|with_reducible exact iD|with_reducible refine vB ?_ zB|with_reducible refine Below.drew ?_|exact iD.drew|refine vB ?_ (by assumption))))
   (first
   |(go_at_call 19;refine(HM.o _ (A.o.F.z (by repeat (first|with_reducible exact iD|with_reducible refine vB ?_ zB|with_reducible refine Below.drew ?_|exact iD.drew|refine vB ?_ (by assumption))))).mono ?_;rintro e R ⟨D,v,rfl,N,q⟩;(try (have E:nB R o.1.size _ _:=uK q;have q0:=E.four;have b:=E.free))))
  all_goals(go_wp2_with fail;go_meet)
  .have j:=vB iD.drew q;exact⟨R.1.size,D,o.1.size,rfl,y.o.z A.o.B,vB j zB,Ia _,j.size,heap_alloc_new _ _,⟨v,N.z zB⟩,x.o⟩
  have E:nB R o.1.size _ _:=uK q;have h4:=(((E.set 0 (.pointer (some ⟨D,0,none⟩))).set 1 (.int .i64 L.first)).set 2 (.int .i64 L.last)).set 3 (.int .i64 L.size);have hd8:kD R (o.1.size+1) D K.fs K.c K.k K.cr K.fl K.dn v:=by simpa using N
  refine⟨o.1.size,D,o.1.size+1,rfl,y.o.z A.o.B,?_,Gf _,Ia _,by show nB _ _ _ _;simpa using h4,⟨v,(((hd8.set_low (by omega) 0 _).set_low (by omega) 1 _).set_low (by omega) 2 _).set_low (by omega) 3 _⟩,x.o⟩;iterate 4 (refine Below.setCell ?_ (by exact Ia _) _)
  exact vB (vB iD zB).drew q
 obtain⟨P,D,B,rfl,hw⟩:=hcut;rename World=>W5;have S:=bB hw;have Y:=(A.o.z S.o.below).D.c6;go_wp2_with(first
  |(go_at_call 303;apply lC (J.o _ _ _ S.o.wr);intro w6 j;replace S:=bB (S.o.z j);have Y:=(A.o.z S.o.below).D.c6)
  |(go_at_call 18;apply lC (HV.o _ (A.o.z S.o.below).F);intro R j;replace S:=bB (S.o.z j))
  |(go_at_call 305;apply lC (I.o _);intro w8 j;replace S:=bB (S.o.z j))
  |(go_at_call 304;apply lC (H.o _ _ _ _ _ S.o);intro w9 hw;replace S:=bB hw))
 obtain⟨v9,hv⟩:=S.o.drive;obtain⟨X,c9,rfl,ho⟩:=mH hv.row;have HO:=bB (Vc ho hv);have HU:=bB (λW(h:kD W B D t.fs t.c t.k t.cr t.fl t.dn (.slice X t.fs.length c9))=>nV D _ X _ c9 _ _ _ _ _ W h.blk);obtain⟨hP,hB⟩:w.1.size+4<=P/\w.1.size+4<=B:=HS.o ▸ ⟨S.o.hP,S.o.hB⟩;replace A:=bB (A.o.z S.o.below);have HP:cB (iX w9 P D ⟨n.first,n.last,n.size+F.size⟩):=bB S.o.wr;go_region_held3 (λW=>W.cell? ⟨P,0,none⟩=some (.pointer (some ⟨D,0,none⟩))/\W.cell? ⟨P,1,none⟩=some (.int .i64 n.first)/\W.cell? ⟨P,2,none⟩=some (.int .i64 n.last)/\W.cell? ⟨P,3,none⟩=some (.int .i64 (n.size+F.size)))
  (exact iX.cells (L:=⟨n.first,n.last,n.size+F.size⟩) (D:=D) (by repeat (first|with_reducible refine iX.other ?_ (by omega)|exact V.o|exact HP.o.z iD.drew)))
  (first
  |(go_at_call 21;apply lC (HU.o _ (HO.o.2.z iD.drew));intro w8 j;replace j:=vB iD.drew j;have V:=bB (HP.o.z j);have G:=bB (A.o.z j);have O8:=bB (HO.o.1.z j);obtain⟨r0,r1,r2,r3,r4,r5⟩:=G.o.RD.c6;obtain⟨s0,s1,s2⟩:=G.o.RL.c3;have b:=G.o.RD.free;have d:=G.o.RL.free)
  |(go_at_call 73;apply dR (rg _)))
 go_wp2;refine bodyPost_ret (v:=?_) (by simp[results,results273,go_sem,r0,r1,r2,r3,r4,r5,s0,s1,s2];rfl) rfl ?_;have hE:∀W,eB (λi=>i=w.1.size+1+1\/i=w.1.size+1+1+1) w8 W->jO W w.1.size X t.fs/\uB w W:=λW hT=>⟨(O8.o.turn hT (λg hg e=>by omega)).mono (by omega),(G.o.ret hT).2⟩
 refine⟨_,_,rfl,hE _ ?_⟩;repeat (first|with_reducible exact eB.refl _ _|with_reducible refine eB.setCell ?_ (Ca (by simp)) _ _)
section
open Go.Maps
attribute [local go_sem] jH xH xN nB.drewI qN.drewI qN.new qN.alloc qN.alloc2
def aCm{lsn now:Int}{a:List fB}(h:(sE a).size<=100000000):(rI lsn now a).size<=200000000:=by
 by_cases b:BD lsn a
 .rw[IW b];simp only[qL,CF,Ka,gB];have:yk.size<=10:=by decide
  omega
 rw[OH b];simp
structure aOw(w:World)(a b:mC)(N:wC):Prop where
 files:tB w a N.d.fs
 fit:JH N.d.fs
 tens:xC w b N.ts
 bulk:N.ts.length+cC N.ts≤1048576
 rng:TW N.ts
 lsn:wU N.lsn
 now:wU N.now
def aNh{L:iH}(h:bM L=true):1<=L.first/\L.first<=L.last/\L.last<=999999:=by
 simp only[bM,bC,Sa,Ab]at h;omega
def NP.turn{w W b:World}{c:iC}{cs:Array Value}{X:Nat}(h:NP w W c cs)(a:eB (·=X) W b)(d:w.1.size+1+1<X):NP w b c cs:=
 ⟨a.blk h.C (by omega),a.blk h.N (by omega),a.blk h.R (by omega),h.B.trans (a.below h.B.size λk f e=>by omega)⟩
def NP.grow{w W b:World}{c:iC}{cs:Array Value}{B:Nat}(h:NP w W c cs)(a:Below B W b)(d:w.1.size+1+1<B):NP w b c cs:=
 ⟨(a.block _ (by omega)).trans h.C,(a.block _ (by omega)).trans h.N,(a.block _ (by omega)).trans h.R,h.B.trans (a.mono (by omega))⟩
def aQi{w:World}{B n:Nat}{v:Value}{F:List zN}{last:Int}{TX:jB}(h:JI w B v n (F++[⟨1,sR,⟨#[]⟩,⟨#[]⟩,0⟩]++[⟨2,sR,⟨#[]⟩,TX,0⟩]++[⟨3,sR,⟨#[]⟩,⟨#[]⟩,0⟩]++[⟨5,sR,FI,⟨#[]⟩,0⟩]++[⟨1,zE (last+1),⟨#[]⟩,⟨#[]⟩,0⟩])):JI w B v n (F++yZ last TX):=by
 simp only[Nd]at h;exact h
def aQg{c:mC}{n a:Nat}{d e f g:Int}{b:Bool}:∀(j:Nat)(s:jB),(#[Value.slice c n a,zA d,zA e,zA f,zA g,.bool b]:Array Value)[j]?≠some (Value.string s)
 |0,_|1,_|2,_|3,_|4,_|5,_|j+6,_=>by simp
def aPc{C:World->Prop}{w:World}{O:Nat}{g i j l m n a b c d e f:Value}{t:TypeId}(h:nB w O #[g,i,j,l,m,n] t)(k:∀W,nB W O #[a,b,c,d,e,f] t->eB (·=O) w W->C W):C ((((((w.setCell (dB O 0) a).setCell (dB O 1) b).setCell (dB O 2) c).setCell (dB O 3) d).setCell (dB O 4) e).setCell (dB O 5) f):=
 k _ (by have:=(((((h.set 0 a).set 1 b).set 2 c).set 3 d).set 4 e).set 5 f;simpa using this) (((((((eB.refl (·=O) w).setCell (Ca rfl) 0 a).setCell (Ca rfl) 1 b).setCell (Ca rfl) 2 c).setCell (Ca rfl) 3 d).setCell (Ca rfl) 4 e).setCell (Ca rfl) 5 f)
def zz(l:List zN):(lO l).length=l.length*5:=by
 induction l with
 |nil=>rfl
 |cons o r a=>simp[lO]at a |-;omega
def ru{w:World}{B n f:Nat}{b:mC}{l:List zN}(h:JI w B (.slice b n f) n l)(v:0<n):∃g,b=yB g/\g<w.1.size/\∀j u,(lO l)[j]?=some u->w.cell? (dB g j)=some u:=by
 obtain⟨_,o⟩|⟨g,i,a,e,t,c,p,q,r,k⟩:=h.2;omega;simp only[Value.slice.injEq]at e;refine⟨g,e.1,aB c,λj u d=>?_⟩;have m:j<n*5:=by
  have s:=h.1;have:=(Pb.1 d).1;omega
 rw[nB.cell (show nB w g a _ from c) j,<-Yd,<-d,<-k,Jb m]
def aPg{c:iC}{N:wC}(h:(NA c N).2=0):lH c=true/\ee N=true/\bM N.l=true/\N.l.last≠999999/\rI N.lsn N.now N.ts≠ByteArray.empty/\∃K,pL N.d (zU N.d N.l (rI N.lsn N.now N.ts))=(K,0)/\NA c N=(⟨K,⟨N.l.last+1,N.l.last+1,0⟩,N.now,N.ts,N.lsn,N.deg,N.up⟩,0):=by
 unfold NA at h |-
 by_cases b:lH c=false
 .rw[Ma b]at h;cases h
 rw[Ja b]at h |-
 by_cases e:ee N=false
 .rw[Ma e]at h;cases h
 rw[Ja e]at h |-
 by_cases f:bM N.l=false
 .rw[Ma f]at h;cases h
 rw[Ja f]at h |-
 by_cases g:N.l.last=999999
 .rw[Ma g]at h;cases h
 rw[Ja g]at h |-
 by_cases i:rI N.lsn N.now N.ts=⟨#[]⟩
 .rw[Ma i]at h;cases h
 rw[Ja i]at h |-
 by_cases a:(pL N.d (zU N.d N.l (rI N.lsn N.now N.ts))).2=0
 .rw[Ma a];exact⟨by simpa using b,by simpa using e,by simpa using f,g,i,_,Prod.ext rfl a,rfl⟩
 rw[Ja a]at h;exact absurd (Int.ofNat.inj h) a
def YF{K Z:yD}{b c:List zN}(h:pL K (b++c)=(Z,0)):∃a,pL K b=(a,0)/\pL a c=(Z,0):=by
 rw[ML]at h;split at h;exact ⟨_,Prod.ext rfl ‹_›,h⟩;exact absurd (Kd Prod.snd h) ‹_›
def cy{K Z:yD}{l:List zN}{j:Nat}(b:j<l.length)(h:pL K (l.drop j)=(Z,0)):∃a,gF K l[j]=(a,0)/\pL a (l.drop (j+1))=(Z,0):=by
 rw[Cb b,pL]at h;split at h;exact ⟨_,Prod.ext rfl ‹_›,h⟩;exact absurd (Kd Prod.snd h) ‹_›
def aCl(c:iC)(a b:mC)(s x:Nat)(N:wC)(w:World)(h:aOw w a b N)(hG:(NA c N).2=0):
 Calls prog 59 #[rE c,.agg (sC a s b x N)] w λe w'=>ui (NA c N) w e w':=by
 have m:=h.bulk;have hl:=h.fit.len;obtain⟨e1,_,_,e4⟩:=ZW h.bulk;obtain⟨hc,hu,Z,h9,ht,KZ,p,E⟩:=aPg hG;rw[E];have O:=bB (λW=>qR c W);have HCP:cB (∀W,uB w W->Calls prog 48 #[.agg (sC a s b x N)] W λe w'=>∃a s b x,e=.returned (.agg (sC a s b x N))/\tB w' a N.d.fs/\xC w' b N.ts/\uB W w'):=λW J=>(EK a b s x N W (h.files.z J) hl (h.tens.z J) (by omega) (CH (by omega))).mono λe w' ⟨a,s,b,x,he,h1,h2,h3⟩=>⟨a,s,b,x,he,h1.files,h2.tens,h3⟩
 have HES:=bB (λW(J:uB w W)=>mr N.lsn N.now b x N.ts W (h.tens.z J) e1 h.rng h.lsn h.now (by omega) e4);have R:=bB (λW=>DI N.l W);have HFD:=bB (λW(J:uB w W)=>aY a s N.d.fs N.d.c N.d.k N.d.cr N.d.fl N.d.dn sR W (h.files.z J) (by unfold maxLen;omega));have HFI:=bB (λW(J:uB w W)=>h.files.z J);have S:=bB (λn W=>rR n W);have I:=bB (VO (K:=N.d) (L:=N.l) (aCm (lsn:=N.lsn) (now:=N.now) e4));have HF0:=bB h.fit;have hl1:=aNh Z;obtain⟨k1,k2⟩:N.up=true/\N.deg=false:=by simpa[ee]using hu
 have h8:(N.l.last==999999)=false:=by simpa using h9
 have hp:=nP.2 ht;have HR:=bB p;rw[hc]at O;rw[Z]at R;unfold rE at *;generalize rI N.lsn N.now N.ts=TX at *;have fz:=vN;have HB0:=bB (NP.new (w:=w) (c:=c) (cs:=sC a s b x N));go_enter func59,ntmps59;go_wp2_with fail;apply lC (O.o _);intro w1 m;have P:=bB (HB0.o.z m);have o:=P.o.cells rfl;have rN:=yG a s b x N 42;have fN:=qF a s b x N;rw[k1,k2]at rN fN;replace k1:=bB k1;replace k2:=bB k2;have hwl:IntKind.i64.wrap (N.l.last+1)=N.l.last+1:=by rw[IntKind.wrap_i64];omega
 go_wp2_with fail;apply lC (R.o _);intro w6 m;replace P:=bB (P.o.z m);have o:=P.o.cells rfl;go_wp2_with fail;apply lC (HES.o _ P.o.B);intro M m;replace P:=bB (P.o.z m);have o:=P.o.cells rfl;have a0:=P.o.lt;go_wp2_with fail;apply lC (HFD.o _ (vB P.o.B zB));intro w4 m;have p:=bB ((JI.new M).z m);replace m:=vB zB m;replace P:=bB (P.o.z m);have H:=m.size;have o:=P.o.cells rfl;go_upto_if 52 with fail;go_cut [7] (λv wx=>∃n,n<=1/\NP w wx c (sC a s b x N)/\JI wx M.1.size v n (dO N.d.fs)/\M.1.size<=wx.1.size)
 case first=>
  by_cases hfd:0<=nE sR N.d.fs 0
  .have Q:=bB (show dO N.d.fs=[ko] from Ma hfd);go_wp2_with(at_builtin;refine KP rfl _ _ rfl M.1.size _ _ _ _ _ _ _ _ rfl (by assumption) rfl (by omega) (by omega) ?_;intro g cap wx p m;have H:=m.size;replace P:=bB (P.o.grow m a0);have o:=P.o.cells rfl);go_meet;exact⟨1,by omega,P.o,by rw[Q.o];exact p.o,by omega⟩
  have Q:=bB (show dO N.d.fs=[] from Ja hfd);go_wp2;go_meet;exact⟨0,by omega,P.o,by rw[Q.o];exact p.o,H⟩
 obtain⟨n0,hn0,hP,p,H⟩:=hcut;rename World=>w4;replace p:=bB p;have P:=bB hP;have o:=P.o.cells rfl;have EL:cB (zU N.d N.l TX=dO N.d.fs++(yZ N.l.last TX++iR N.l.first (N.l.last+1-N.l.first).toNat)):=rfl;generalize dO N.d.fs=F0 at *;obtain⟨cnt,hcnt⟩:∃cnt:Nat,(cnt:Int)=N.l.last+1-N.l.first:=⟨(N.l.last+1-N.l.first).toNat,by omega⟩
 rw[show(N.l.last+1-N.l.first).toNat=cnt by omega,<-Nd]at EL;go_wp2_with(first
  |(at_builtin;refine KP rfl _ _ rfl M.1.size _ _ _ _ _ _ _ _ rfl (by assumption) rfl (by omega) (by omega) ?_;intro g cap wx p m;have H:=m.size;replace P:=bB (P.o.grow m a0);have o:=P.o.cells rfl)
  |(go_at_call 104;apply lC (S.o _ _);intro w5 m;have H:=m.size;replace p:=bB (p.o.z m);replace P:=bB (P.o.z m);have o:=P.o.cells rfl))
 replace p:=bB (aQi (last:=N.l.last) (TX:=TX) p.o);generalize F0++yZ N.l.last TX=L0 at *;go_loopw [7,8] (λal i wz=>∃(k:Nat),k<=cnt/\i=.int .i64 (N.l.first+k)/\cB (JI wz M.1.size al (n0+1+1+1+1+1+k) (L0++iR N.l.first k))/\cB (NP w wz c (sC a s b x N))/\M.1.size<=wz.1.size) (λ_ i _=>(N.l.last+1-RowKit.intOf i).toNat)
 case atStart=>exact⟨0,Oa _,by simp,by simpa[iR]using p,P,by omega⟩
 case round=>
  obtain⟨k,hk,rfl,p,P,H⟩:=hrel;have o:=P.o.cells rfl;by_cases hlt:k<cnt
  .have hle:N.l.first+(k:Int)<=N.l.last:=by omega
   have hwk:IntKind.i64.wrap (N.l.first+(k:Int)+1)=N.l.first+(k:Int)+1:=by rw[IntKind.wrap_i64];omega
   go_wp2_with(first
    |(go_at_call 104;apply lC (S.o _ _);intro w5 m;have H:=m.size;replace p:=bB (p.o.z m);replace P:=bB (P.o.z m);have o:=P.o.cells rfl)
    |(at_builtin;refine KP rfl _ _ rfl M.1.size _ _ _ _ _ _ _ _ rfl (by assumption) rfl (by omega) (by omega) ?_;intro g cap wx p m;have H:=m.size;replace P:=bB (P.o.grow m a0);have o:=P.o.cells rfl))
   exact⟨⟨k+1,by omega,by go_num,by rw[PO,<-Nd];exact p,P,by omega⟩,by simp[RowKit.intOf];omega⟩
  obtain rfl:k=cnt:=by omega
  have hle:¬N.l.first+(k:Int)<=N.l.last:=by omega
  obtain⟨al,ac,hal⟩:=tF p.o;have HLL:cB ((L0++iR N.l.first k).length=n0+1+1+1+1+1+k):=by have:=p.o.1;rw[zz]at this;show _=_;omega
  have hnn:n0+1+1+1+1+1+k<=2000000:=by omega
  have hn1:0<n0+1+1+1+1+1+k:=by omega
  generalize n0+1+1+1+1+1+k=n at *;subst hal;generalize L0++iR N.l.first k=LL at *
  obtain⟨G,rfl,hG,t⟩:=ru p.o hn1;have HCL:=bB t;go_wp2;refine eI (C:=λW=>Code.wp prog _ _ _ W) ?_;intro wD y GD _;have hDd:=P.o.lt;have PD:=bB (P.o.z y);have FD:=bB (HFI.o wD PD.o.B);have CD:=bB (λj u(hu:(lO LL)[j]?=some u)=>(World.cell?_of_block (y.block G hG)).trans (HCL.o j u hu));have hGD:G<wD.1.size:=Bb hG y.size;have hGn:G≠wr.1.size:=by omega
  replace GD:=bB GD;generalize wr.1.size=Dd at *;go_loopw [103] (λi wz=>∃(j:Nat)(K:yD)(aj:mC)(cj:Nat),j<=n/\i=.int .i64 j/\cB (JH K.fs/\pL K (LL.drop j)=(KZ,0))/\cB (nB wz Dd #[.slice aj K.fs.length cj,.int .i64 K.c,.int .i64 K.k,.int .i64 K.cr,.int .i64 K.fl,.bool K.dn] 35)/\cB (tB wz aj K.fs)/\cB (eB (·=Dd) wD wz)) (λi _=>n-(RowKit.intOf i).toNat)
  case atStart=>exact⟨0,N.d,a,s,Oa _,rfl,⟨HF0.o,EL.o ▸ HR.o⟩,GD.o,FD.o,eB.refl _ _⟩
  case round=>
   obtain⟨j,K,aj,cj,hj,rfl,q,A,X,F⟩:=hrel;have P:=bB (PD.o.turn F.o hDd);have o:=P.o.cells rfl;by_cases hlt2:j<n
   .have D:j<LL.length:=by rw[HLL.o];exact hlt2
    have hgk:=F.o.block G hGD hGn;have q0:=aPv (λi u hu=>(World.cell?_of_block hgk).trans (CD.o i u hu)) j D;have r:=I.o LL[j] (by rw[EL.o];exact Gb D);obtain⟨K1,hs,hn⟩:=cy D q.o.2;generalize LL[j]=op at *;have T:=bB (tt q.o.1 r.1 r.2.1 r.2.2.1 r.2.2.2 (by rw[hs]));have Y:=oT (op:=op) q.o.1 r.1 r.2.1;rw[hs]at T Y;have HN:=bB (Vc Y hn);have hGw:=Bb hGD F.o.size;have hGn2:¬G=wr.1.size:=by omega
    go_upto_region 28 with fail;refine eI (C:=λW=>Code.wp prog _ _ _ W) ?_;intro w8 U X8 _;have d0:=(A.o.z U).c6;have g0:=X8.c5;have B8:=bB U;go_wp2_with fail;refine(T.o _ _ _ (X.o.z B8.o)).mono ?_;rintro e w9 ⟨a9,c9,rfl,hf9,V⟩;have D9:=bB ((A.o.z B8.o).z V);have B9:=bB (vB B8.o V);have F9:=bB hf9;go_upto_region 29 with fail;refine eI (C:=λW=>Code.wp prog _ _ _ W) ?_;intro wa z Aa _;have d0:=Aa.c6;have Da:=bB (D9.o.z z);have f:=Da.o.free;have e0:=Da.o.c6;have Fa:=bB (F9.o.z z);have Ba:=bB (vB B9.o z);go_upto_region 30 with fail;refine aPc (C:=λW=>Code.wp prog _ _ _ W) Da.o ?_;intro wb Db Tb;have Fb:=bB (Fa.o.store Da.o (aQg) Tb);have Tz:=bB ((F.o.trans' (eB.of Ba.o)).trans' Tb);replace Db:=bB Db;replace P:=bB (PD.o.turn Tz.o hDd);have o:=P.o.cells rfl;go_wp2;exact⟨⟨j+1,K1,a9,c9,by omega,by go_num,HN,Db,Fb,Tz⟩,by simp[RowKit.intOf];omega⟩
   obtain rfl:j=n:=by omega
   have hrn:=q.o.2;rw[Yb (by rw[HLL.o];exact Ia _)]at hrn;obtain rfl:K=KZ:=(Prod.mk.inj hrn).1;have hlt3:¬((j:Int)<(j:Int)):=by omega
   go_wp2_with fail;refine(HCP.o _ P.o.B).mono ?_;rintro e w8 ⟨a8,c8,b8,d8,rfl,_,hT,m⟩;replace P:=bB (P.o.z m);have D8:=bB (A.o.z m);have F8:=bB (X.o.z m);have o:=P.o.cells rfl;go_upto_region 34 with fail;refine DP (C:=λW=>Code.wp prog _ _ _ W) P.o.N ?_;intro w9 N9 T9;have D9:=T9.blk D8.o (by omega);have F9:=bB (F8.o.store P.o.N (zG _ _ _ _ _) T9);have H9:=bB (hT.store P.o.N (zG _ _ _ _ _) T9);replace P:=bB (P.o.put N9 T9);have d0:=D9.c6;have o0:=yG _ _ _ _ _ _ _ _ N9;have f:=N9.free;go_upto_region 36 with fail;refine fg (C:=λW=>Code.wp prog _ _ _ W) N9 ?_;intro wa Na Ta;change nB wa _ (sC aj cj b8 d8 ⟨K,⟨N.l.last+1,N.l.last+1,0⟩,N.now,N.ts,N.lsn,N.deg,N.up⟩) _ at Na;have Fa:=bB (F9.o.store P.o.N (zG _ _ _ _ _) Ta);have Ha:=bB (H9.o.store P.o.N (zG _ _ _ _ _) Ta);replace P:=bB (P.o.put Na Ta);have rM:=yG aj cj b8 d8 ⟨K,⟨N.l.last+1,N.l.last+1,0⟩,N.now,N.ts,N.lsn,N.deg,N.up⟩ 42;have fM:=qF aj cj b8 d8 ⟨K,⟨N.l.last+1,N.l.last+1,0⟩,N.now,N.ts,N.lsn,N.deg,N.up⟩;dsimp only at fM rM;have o:=P.o.cells rfl;go_wp2;exact cz rfl rfl rfl rfl P.o rfl Fa.o Ha.o
end
